import PyProof.Rows.All
import HandS.ForMost
import HandS.Deep
import HandS.IsInst
import HandS.Flow
import HandS.Star
import HandS.Style
import HandS.Codes
import HandS.TupAny
import HandS.TupMul
import HandS.WrittenGet
import HandS.Wide
import PyProof.ReprRoads
import PyProof.StrLawsRepr
import HandS.TupLe
import PyProof.Rows.IntBool
import PyProof.StrBlock2
import HandS.EndBits
import HandS.TupSets
import HandS.Zip
import KE.KTupSum
import HandS.NoneIn
import HandS.SortOrd
import HandS.FStr
import HandS.Text
import HandS.Conv
import PyProof.TupleOfStr
import PyProof.EnumMake
import PyProof.Draws
import KE.GoesMore
import PyProof.StrLaws
import PyProof.Rows.ReprOcc
import PySem.Challenge.RW_ownrights_k09_texts_written
set_option Elab.async false
set_option linter.all false
set_option autoImplicit false
section
set_option maxRecDepth 100000
set_option maxHeartbeats 4000000
namespace Dl
open PySem PySem.Spec PyProof.Rows L2

/-! ### data in a heap: a list is one that stands in it, a tuple may be a written one -/
mutual
inductive De (K : PySem.W.Frag) (H : Hp) : V → PyData → Prop
  | non : De K H .non .none
  | bl (b : Bool) : De K H (.bl b) (.bool b)
  | int (i : Int) : De K H (.int i) (.int i)
  | str (x : Str) : De K H (.str x) (.str x)
  | lst {a : Addr} {vs : List V} {ds : List PyData} : H a = some (.lst vs) → DeAll K H vs ds → De K H (.ref a) (.list ds)
  | tup {a : Addr} {vs : List V} {ds : List PyData} : SqT K H a vs → DeAll K H vs ds → De K H (.ref a) (.tuple ds)
inductive DeAll (K : PySem.W.Frag) (H : Hp) : List V → List PyData → Prop
  | nil : DeAll K H [] []
  | cons {v : V} {vs : List V} {d : PyData} {ds : List PyData} : De K H v d → DeAll K H vs ds → DeAll K H (v :: vs) (d :: ds)
end
mutual
theorem De.dp {K : PySem.W.Frag} {G : Hp} : ∀ (d : PyData) (v : V), De K G v d → Dp K G v d
  | .none, _, h => by cases h; exact .non
  | .bool b, _, h => by cases h; exact .bl b
  | .int i, _, h => by cases h; exact .int i
  | .str x, _, h => by cases h; exact .str x
  | .list ds, _, h => by
    cases h with
    | lst hs ha => exact .lst (.inl (.inl hs)) (DeAll.dp ds _ ha)
  | .tuple ds, _, h => by
    cases h with
    | tup hs ha => exact .tup hs (DeAll.dp ds _ ha)
  | .dict _, _, h => by cases h
theorem DeAll.dp {K : PySem.W.Frag} {G : Hp} : ∀ (ds : List PyData) (vs : List V), DeAll K G vs ds → DpAll K G vs ds
  | [], _, h => by cases h; exact .nil
  | d :: ds, _, h => by
    cases h with
    | cons h1 h2 => exact .cons (De.dp d _ h1) (DeAll.dp ds _ h2)
end
mutual
theorem De.up {K : PySem.W.Frag} {G G' : Hp} (e : Same G G') : ∀ (d : PyData) (v : V), De K G v d → De K G' v d
  | .none, _, h => by cases h; exact .non
  | .bool b, _, h => by cases h; exact .bl b
  | .int i, _, h => by cases h; exact .int i
  | .str x, _, h => by cases h; exact .str x
  | .list ds, _, h => by
    cases h with
    | lst hs ha => exact .lst (e _ _ hs) (DeAll.up e ds _ ha)
  | .tuple ds, _, h => by
    cases h with
    | tup hs ha =>
      refine .tup ?_ (DeAll.up e ds _ ha)
      rcases hs with (q | ⟨o, q⟩) | q
      · exact .inl (.inl (e _ _ q))
      · exact .inl (.inr ⟨o, e _ _ q⟩)
      · exact .inr q
  | .dict _, _, h => by cases h
theorem DeAll.up {K : PySem.W.Frag} {G G' : Hp} (e : Same G G') : ∀ (ds : List PyData) (vs : List V), DeAll K G vs ds → DeAll K G' vs ds
  | [], _, h => by cases h; exact .nil
  | d :: ds, _, h => by
    cases h with
    | cons h1 h2 => exact .cons (De.up e d _ h1) (DeAll.up e ds _ h2)
end
section
variable {K : PySem.W.Frag} {G : Hp}
theorem DeAll.length : ∀ {vs : List V} {ds : List PyData}, DeAll K G vs ds → vs.length = ds.length
  | _, _, .nil => rfl
  | _, _, .cons _ h => by rw [List.length_cons, List.length_cons, DeAll.length h]
theorem DeAll.at_ : ∀ {vs : List V} {ds : List PyData} {i : Nat} {d : PyData}, DeAll K G vs ds → ds[i]? = some d → ∃ v, vs[i]? = some v ∧ De K G v d
  | _, _, _, _, .nil, h => by simp at h
  | _, _, 0, _, .cons h _, e => by
    have e' := Option.some.inj e
    subst e'
    exact ⟨_, rfl, h⟩
  | _, _, i + 1, _, .cons _ h, e => DeAll.at_ (i := i) h e
theorem DeAll.ofV : ∀ {vs : List V} {ds : List PyData} {i : Nat} {v : V}, DeAll K G vs ds → vs[i]? = some v → ∃ d, ds[i]? = some d ∧ De K G v d
  | _, _, _, _, .nil, h => by simp at h
  | _, _, 0, _, .cons h _, e => by
    have e' := Option.some.inj e
    subst e'
    exact ⟨_, rfl, h⟩
  | _, _, i + 1, _, .cons _ h, e => DeAll.ofV (i := i) h e
theorem DeAll.app : ∀ {vs ws : List V} {ds es : List PyData}, DeAll K G vs ds → DeAll K G ws es → DeAll K G (vs ++ ws) (ds ++ es)
  | _, _, _, _, .nil, h => h
  | _, _, _, _, .cons a b, h => .cons a (DeAll.app b h)
theorem DeAll.drop : ∀ (n : Nat) {vs : List V} {ds : List PyData}, DeAll K G vs ds → DeAll K G (vs.drop n) (ds.drop n)
  | 0, _, _, h => h
  | _ + 1, _, _, .nil => .nil
  | n + 1, _, _, .cons _ h => DeAll.drop n h
theorem DeAll.take : ∀ (n : Nat) {vs : List V} {ds : List PyData}, DeAll K G vs ds → DeAll K G (vs.take n) (ds.take n)
  | 0, _, _, _ => .nil
  | _ + 1, _, _, .nil => .nil
  | n + 1, _, _, .cons a h => .cons a (DeAll.take n h)
theorem DeAll.set {d : PyData} {v : V} (hv : De K G v d) : ∀ (n : Nat) {vs : List V} {ds : List PyData}, DeAll K G vs ds → DeAll K G (vs.set n v) (ds.set n d)
  | _, _, _, .nil => .nil
  | 0, _, _, .cons _ h => .cons hv h
  | n + 1, _, _, .cons a h => .cons a (DeAll.set hv n h)
theorem DeAll.rev : ∀ {vs : List V} {ds : List PyData}, DeAll K G vs ds → DeAll K G vs.reverse ds.reverse
  | _, _, .nil => .nil
  | _, _, .cons a h => by
    rw [List.reverse_cons, List.reverse_cons]
    exact DeAll.app (DeAll.rev h) (.cons a .nil)
theorem DeAll.tup : ∀ {vs : List V} {ds : List PyData}, DeAll K G vs ds → ∀ {a : Addr}, SqT K G a vs → De K G (.ref a) (.tuple ds) := fun h _ e => .tup e h
theorem De.tupE {v : V} {ds : List PyData} (h : De K G v (.tuple ds)) : ∃ a vs, v = .ref a ∧ SqT K G a vs ∧ DeAll K G vs ds := by
  cases h with
  | tup a b => exact ⟨_, _, rfl, a, b⟩
theorem De.lstE {v : V} {ds : List PyData} (h : De K G v (.list ds)) : ∃ a vs, v = .ref a ∧ G a = some (.lst vs) ∧ DeAll K G vs ds := by
  cases h with
  | lst a b => exact ⟨_, _, rfl, a, b⟩
theorem De.intE {v : V} {i : Int} (h : De K G v (.int i)) : v = .int i := by cases h; rfl
theorem De.blE {v : V} {i : Bool} (h : De K G v (.bool i)) : v = .bl i := by cases h; rfl
theorem De.strE {v : V} {i : Str} (h : De K G v (.str i)) : v = .str i := by cases h; rfl
theorem De.nonE {v : V} (h : De K G v .none) : v = .non := by cases h; rfl
theorem DeAll.ints : ∀ {vs : List V} {ns : List Int}, DeAll K G vs (ns.map PyData.int) → vs = ns.map V.int
  | _, [], .nil => rfl
  | _, n :: ns, .cons a h => by rw [De.intE a, DeAll.ints h]; rfl
theorem DeAll.ofInts : ∀ (ns : List Int), DeAll K G (ns.map V.int) (ns.map PyData.int)
  | [] => .nil
  | n :: ns => .cons (.int n) (DeAll.ofInts ns)
theorem DeAll.bls : ∀ {vs : List V} {ns : List Bool}, DeAll K G vs (ns.map PyData.bool) → vs = ns.map V.bl
  | _, [], .nil => rfl
  | _, n :: ns, .cons a h => by rw [De.blE a, DeAll.bls h]; rfl
theorem DeAll.strs : ∀ {vs : List V} {ns : List Str}, DeAll K G vs (ns.map PyData.str) → vs = ns.map V.str
  | _, [], .nil => rfl
  | _, n :: ns, .cons a h => by rw [De.strE a, DeAll.strs h]; rfl
end

/-! ### the reader, the base, the slots -/
/-- what a reader of the script holds: its cells, the next one, the rest of a great one, how often it was asked -/
structure Rs where
  ns : List Int
  nxt : Int
  rest : Int
  draws : Int
abbrev WO := Rs → Hp → HO → Prop
/-- r: an object that defs may turn; Wo tells what it holds -/
structure Md (K : PySem.W.Frag) (Wo : WO) where
  r : Addr
  up : ∀ {t : Rs} {G G' : Hp} {o : HO}, Same G G' → Wo t G o → Wo t G' o
  G0 : Hp
  H0 : Hp
abbrev Md.at_ {K : PySem.W.Frag} {Wo : WO} (M : Md K Wo) (G H : Hp) : Md K Wo := { M with G0 := G, H0 := H }
/-- what is known of an object that stands as it is: R a G o, the object o at a, over the data heap G -/
structure Im where
  R : Addr → Hp → HO → Prop
  up : ∀ {a : Addr} {G G' : Hp} {o : HO}, Same G G' → R a G o → R a G' o
inductive B where
  | un
  | rd
  | d (x : PyData)
  | own (xs : List PyData)
  | im (i : Im)
section
variable {K : PySem.W.Frag} {Wo : WO} {M : Md K Wo} {t t1 t' : Rs} {G H G1 H1 G2 H2 G' H' : Hp}
structure Stp {Wo : WO} (M : Md K Wo) (t : Rs) (G H G' H' : Hp) : Prop where
  gg : Same G G'
  hh : ∀ a o, a ≠ M.r → H a = some o → H' a = some o
  fr : ∀ a, H a ≠ none → G a = none → G' a = none
  sub : Same G' H'
  rd : ∃ o, H' M.r = some o ∧ Wo t G' o
theorem Stp.trans (a : Stp M t G H G1 H1) (b : Stp M t1 G1 H1 G2 H2) : Stp M t1 G H G2 H2 where
  gg := a.gg.trans b.gg
  hh := fun x o n e => b.hh x o n (a.hh x o n e)
  fr := fun x e g => b.fr x (fun z => by
    by_cases hx : x = M.r
    · obtain ⟨o, q, _⟩ := a.rd
      rw [hx, q] at z
      cases z
    · cases q : H x with
      | none => exact e q
      | some o =>
        rw [a.hh x o hx q] at z
        cases z) (a.fr x e g)
  sub := b.sub
  rd := b.rd
theorem Stp.alive (a : Stp M t G H G1 H1) {x : Addr} (e : H x ≠ none) : H1 x ≠ none := fun z => by
  by_cases hx : x = M.r
  · obtain ⟨o, q, _⟩ := a.rd
    rw [hx, q] at z
    cases z
  · cases q : H x with
    | none => exact e q
    | some o =>
      rw [a.hh x o hx q] at z
      cases z
structure Ok {Wo : WO} (M : Md K Wo) (t : Rs) (G H : Hp) : Prop where
  sub : Same G H
  gr : G M.r = none
  rd : ∃ o, H M.r = some o ∧ Wo t G o
theorem Ok.refl (k : Ok M t G H) : Stp M t G H G H := ⟨Same.refl G, fun _ _ _ e => e, fun _ _ e => e, k.sub, k.rd⟩
theorem Ok.step (k : Ok M t G H) (a : Stp M t1 G H G1 H1) : Ok M t1 G1 H1 := ⟨a.sub, a.fr _ (fun z => by
  obtain ⟨o, q, _⟩ := k.rd
  rw [q] at z
  cases z) k.gr, a.rd⟩
/-- a new object of data -/
theorem Ok.lay {p : Addr} {o : HO} (k : Ok M t G H) (hp : H p = none) : Stp M t G H (upd G p o) (upd H p o) where
  gg := fun a u e => by
    rw [upd_ne (ne_of_none (k.sub a u e) hp)]
    exact e
  hh := fun a u _ e => by
    rw [upd_ne (ne_of_none e hp)]
    exact e
  fr := fun a e g => by
    by_cases ha : a = p
    · rw [ha] at e
      exact absurd hp e
    · rw [upd_ne ha]
      exact g
  sub := fun a u e => by
    by_cases ha : a = p
    · subst ha
      rw [upd_same] at e ⊢
      exact e
    · rw [upd_ne ha] at e ⊢
      exact k.sub a u e
  rd := by
    obtain ⟨o', q, w⟩ := k.rd
    refine ⟨o', ?_, M.up (fun a u e => ?_) w⟩
    · rw [upd_ne (ne_of_none q hp)]
      exact q
    · rw [upd_ne (ne_of_none (k.sub a u e) hp)]
      exact e
/-- a new object that is nobody's yet -/
theorem Ok.layO {p : Addr} {o : HO} (k : Ok M t G H) (hp : H p = none) : Stp M t G H G (upd H p o) where
  gg := Same.refl G
  hh := fun a u _ e => by
    rw [upd_ne (ne_of_none e hp)]
    exact e
  fr := fun a e g => g
  sub := fun a u e => by
    rw [upd_ne (ne_of_none (k.sub a u e) hp)]
    exact k.sub a u e
  rd := by
    obtain ⟨o', q, w⟩ := k.rd
    refine ⟨o', ?_, w⟩
    rw [upd_ne (ne_of_none q hp)]
    exact q
/-- an own new list becomes data -/
theorem Stp.freeze {l : Addr} {o : HO} (a : Stp M t G H G1 H1) (n : H l = none) (g : G1 l = none) (e : H1 l = some o) : Stp M t G H (upd G1 l o) H1 where
  gg := fun b u q => by
    have q1 := a.gg b u q
    rw [upd_ne (ne_of_none q1 g)]
    exact q1
  hh := a.hh
  fr := fun b q z => by
    by_cases hb : b = l
    · rw [hb] at q
      exact absurd n q
    · rw [upd_ne hb]
      exact a.fr b q z
  sub := fun b u q => by
    by_cases hb : b = l
    · subst hb
      rw [upd_same] at q
      rw [e]
      exact q
    · rw [upd_ne hb] at q
      exact a.sub b u q
  rd := by
    obtain ⟨o', q, w⟩ := a.rd
    refine ⟨o', q, M.up (fun b u z => ?_) w⟩
    rw [upd_ne (ne_of_none z g)]
    exact z

def Slot {Wo : WO} (M : Md K Wo) (G H : Hp) (u : Option (Option V)) : B → Prop
  | .un => True
  | .rd => u = some (some (.ref M.r))
  | .d x => ∃ v, u = some (some v) ∧ De K G v x
  | .own xs => ∃ l vs, u = some (some (.ref l)) ∧ l ≠ M.r ∧ G l = none ∧ H l = some (.lst vs) ∧ M.H0 l = none ∧ DeAll K G vs xs
  | .im i => ∃ l o, u = some (some (.ref l)) ∧ G l = some o ∧ i.R l G o
structure Sat {Wo : WO} (M : Md K Wo) (t : Rs) (G H : Hp) (σ : L2.St) (ρ : List B) : Prop where
  st : Stp M t M.G0 M.H0 G H
  ok : Ok M t G H
  len : σ.length = ρ.length
  at_ : ∀ (i : Nat) (b : B), ρ[i]? = some b → Slot M G H σ[i]? b
  dis : ∀ (i j : Nat) (xs ys : List PyData) (l : Addr), i ≠ j → ρ[i]? = some (.own xs) → ρ[j]? = some (.own ys) → σ[i]? = some (some (.ref l)) → σ[j]? = some (some (.ref l)) → False
theorem Slot.step {u : Option (Option V)} {b : B} (s : Slot M G H u b) (a : Stp M t G H G1 H1) : Slot M G1 H1 u b := by
  cases b with
  | un => trivial
  | rd => exact s
  | d x =>
    obtain ⟨v, e, h⟩ := s
    exact ⟨v, e, De.up a.gg x v h⟩
  | own xs =>
    obtain ⟨l, vs, e, n, g, h, z, q⟩ := s
    exact ⟨l, vs, e, n, a.fr l (by rw [h]; simp) g, a.hh l _ n h, z, DeAll.up a.gg xs vs q⟩
  | im i =>
    obtain ⟨l, o, e, h, r⟩ := s
    exact ⟨l, o, e, a.gg l _ h, i.up a.gg r⟩
theorem Sat.step {σ : L2.St} {ρ : List B} (s : Sat M t G H σ ρ) (a : Stp M t1 G H G1 H1) : Sat M t1 G1 H1 σ ρ :=
  ⟨s.st.trans a, s.ok.step a, s.len, fun i b e => (s.at_ i b e).step a, s.dis⟩
end
end Dl
end
section
set_option maxRecDepth 100000
set_option maxHeartbeats 4000000
namespace Dl
open PySem PySem.Spec PyProof.Rows L2

/-! ### the readings that a piece of text has by itself -/
@[irreducible] def TeOf (X : Cx) (e : Expr) : TE := fun σ H Q => ∀ (pins : List (Addr × Obj)) (s : Shared), Inv X pins σ H s → wpAny (model X.prog X.w) X.A (eval e X.env) (EP X pins σ Q) X.xe s
@[irreducible] def TtOf (X : Cx) (e : Expr) : TT := fun σ H Q => ∀ (pins : List (Addr × Obj)) (s : Shared), Inv X pins σ H s → wpAny (model X.prog X.w) X.A (isTrue e X.env (eval e X.env)) (TP X pins σ Q) X.xe s
@[irreducible] def TwOf (X : Cx) (e : Expr) : TT := fun σ H Q => ∀ (whole : Sem Value) (pins : List (Addr × Obj)) (s : Shared), Inv X pins σ H s → wpAny (model X.prog X.w) X.A (isTrue e X.env whole) (TP X pins σ Q) X.xe s
@[irreducible] def TaOf (X : Cx) (es : List Expr) : TA := fun σ H Q => ∀ (pos : Pos) (pins : List (Addr × Obj)) (s : Shared), Inv X pins σ H s → wpAny (model X.prog X.w) X.A (spliced (backTo pos (starEach es X.env))) (AP X pins σ Q) X.xe s
@[irreducible] def TsOf (X : Cx) (st : Stmt) : TS := fun D σ H => ∀ (pins : List (Addr × Obj)) (s : Shared), Inv X pins σ H s → wpAny (model X.prog X.w) X.A (exec st X.env) (SP X pins D) X.xe s
@[irreducible] def TssOf (X : Cx) (st : List Stmt) : TS := fun D σ H => ∀ (pins : List (Addr × Obj)) (s : Shared), Inv X pins σ H s → wpAny (model X.prog X.w) X.A (execs st X.env) (SP X pins D) X.xe s
section
variable {X : Cx} {σ : L2.St} {H : Hp}
theorem peT {e : Expr} : PE X e (TeOf X e) := by unfold TeOf; exact ⟨fun pins s σ H Q I h => h pins s I⟩
theorem ptT {e : Expr} : PT X e (TtOf X e) := by unfold TtOf; exact ⟨fun pins s σ H Q I h => h pins s I⟩
theorem pwT {e : Expr} : PW X e (TwOf X e) := by unfold TwOf; exact ⟨fun w pins s σ H Q I h => h w pins s I⟩
theorem paT {e : List Expr} : PA X e (TaOf X e) := by unfold TaOf; exact ⟨fun pos pins s σ H Q I h => h pos pins s I⟩
theorem psT {e : Stmt} : PS X e (TsOf X e) := by unfold TsOf; exact ⟨fun pins s σ H D I h => h pins s I⟩
theorem pssT {e : List Stmt} : PSs X e (TssOf X e) := by unfold TssOf; exact ⟨fun pins s σ H D I h => h pins s I⟩
theorem TeOf.of {e : Expr} {te : TE} (h : PE X e te) {Q : VK} (q : te σ H Q) : TeOf X e σ H Q := by unfold TeOf; exact fun pins s I => h.run pins s σ H Q I q
theorem TtOf.of {e : Expr} {te : TT} (h : PT X e te) {Q : Bool → Hp → Prop} (q : te σ H Q) : TtOf X e σ H Q := by unfold TtOf; exact fun pins s I => h.run pins s σ H Q I q
theorem TwOf.of {e : Expr} {te : TT} (h : PW X e te) {Q : Bool → Hp → Prop} (q : te σ H Q) : TwOf X e σ H Q := by unfold TwOf; exact fun w pins s I => h.run w pins s σ H Q I q
theorem TaOf.of {e : List Expr} {te : TA} (h : PA X e te) {Q : List V → Hp → Prop} (q : te σ H Q) : TaOf X e σ H Q := by unfold TaOf; exact fun pos pins s I => h.run pos pins s σ H Q I q
theorem TsOf.of {e : Stmt} {te : TS} (h : PS X e te) {D : Ends} (q : te D σ H) : TsOf X e D σ H := by unfold TsOf; exact fun pins s I => h.run pins s σ H D I q
theorem TssOf.of {e : List Stmt} {te : TS} (h : PSs X e te) {D : Ends} (q : te D σ H) : TssOf X e D σ H := by unfold TssOf; exact fun pins s I => h.run pins s σ H D I q
end

/-! ### the judgements: data, a new list, a test, arguments -/
section
variable {K : PySem.W.Frag} {Wo : WO} (M : Md K Wo)
def DD (te : TE) (ρ : List B) (t : Rs) (P : PyData → Rs → Prop) : Prop := ∀ (σ : L2.St) (G H : Hp), Sat M t G H σ ρ → ∀ Q : VK,
  (∀ (G' H' : Hp) (v : V) (x : PyData) (t' : Rs), Stp M t' G H G' H' → De K G' v x → P x t' → Q v H') → te σ H Q
def DL (te : TE) (ρ : List B) (t : Rs) (P : List PyData → Rs → Prop) : Prop := ∀ (σ : L2.St) (G H : Hp), Sat M t G H σ ρ → ∀ Q : VK,
  (∀ (G' H' : Hp) (l : Addr) (vs : List V) (xs : List PyData) (t' : Rs), Stp M t' G H G' H' → H l = none → G' l = none → H' l = some (.lst vs) → DeAll K G' vs xs → P xs t' → Q (.ref l) H') → te σ H Q
def DT (tt : TT) (ρ : List B) (t : Rs) (P : Bool → Rs → Prop) : Prop := ∀ (σ : L2.St) (G H : Hp), Sat M t G H σ ρ → ∀ Q : Bool → Hp → Prop,
  (∀ (G' H' : Hp) (b : Bool) (t' : Rs), Stp M t' G H G' H' → P b t' → Q b H') → tt σ H Q
/-- what an argument is -/
inductive Arg (G : Hp) : V → B → Prop
  | d {v : V} {x : PyData} : De K G v x → Arg G v (.d x)
  | rd : Arg G (.ref M.r) .rd
inductive ArgAll (G : Hp) : List V → List B → Prop
  | nil : ArgAll G [] []
  | cons {v : V} {vs : List V} {b : B} {bs : List B} : Arg M G v b → ArgAll G vs bs → ArgAll G (v :: vs) (b :: bs)
def DA (ta : TA) (ρ : List B) (t : Rs) (P : List B → Rs → Prop) : Prop := ∀ (σ : L2.St) (G H : Hp), Sat M t G H σ ρ → ∀ Q : List V → Hp → Prop,
  (∀ (G' H' : Hp) (vs : List V) (bs : List B) (t' : Rs), Stp M t' G H G' H' → ArgAll M G' vs bs → P bs t' → Q vs H') → ta σ H Q
end
section
variable {K : PySem.W.Frag} {Wo : WO} {M : Md K Wo} {G G' : Hp}
theorem Arg.up (e : Same G G') {v : V} {b : B} (h : Arg M G v b) : Arg M G' v b := by
  cases h with
  | d h => exact .d (De.up e _ _ h)
  | rd => exact .rd
theorem ArgAll.up (e : Same G G') : ∀ {vs : List V} {bs : List B}, ArgAll M G vs bs → ArgAll M G' vs bs
  | _, _, .nil => .nil
  | _, _, .cons a h => .cons (a.up e) (ArgAll.up e h)
/-- arguments that are data -/
theorem ArgAll.data : ∀ {vs : List V} {ds : List PyData}, ArgAll M G vs (ds.map B.d) → DeAll K G vs ds
  | _, [], .nil => .nil
  | _, _ :: _, .cons (.d a) h => .cons a (ArgAll.data h)
end
section
variable {X : Cx} {Wo : WO} (M : Md X.K Wo)
abbrev JD (e : Expr) (ρ : List B) (t : Rs) (P : PyData → Rs → Prop) : Prop := DD M (TeOf X e) ρ t P
abbrev JL (e : Expr) (ρ : List B) (t : Rs) (P : List PyData → Rs → Prop) : Prop := DL M (TeOf X e) ρ t P
abbrev JT (e : Expr) (ρ : List B) (t : Rs) (P : Bool → Rs → Prop) : Prop := DT M (TtOf X e) ρ t P
abbrev JW (e : Expr) (ρ : List B) (t : Rs) (P : Bool → Rs → Prop) : Prop := DT M (TwOf X e) ρ t P
abbrev JA (es : List Expr) (ρ : List B) (t : Rs) (P : List B → Rs → Prop) : Prop := DA M (TaOf X es) ρ t P
end
section
variable {K : PySem.W.Frag} {Wo : WO} {M : Md K Wo} {te ta tb : TE} {ρ : List B} {t : Rs} {P : PyData → Rs → Prop}
theorem DL.toD (h : DL M te ρ t fun xs t' => P (.list xs) t') : DD M te ρ t P := fun σ G H S Q q =>
  h σ G H S Q fun G' H' l vs xs t' s n g e a p => q (upd G' l (.lst vs)) H' (.ref l) (.list xs) t' (s.freeze n g e) (.lst upd_same (DeAll.up (fun b u z => by
    rw [upd_ne (ne_of_none z g)]
    exact z) xs vs a)) p
theorem DD.imp {P' : PyData → Rs → Prop} (h : DD M te ρ t P) (i : ∀ x t', P x t' → P' x t') : DD M te ρ t P' := fun σ G H S Q q => h σ G H S Q fun G' H' v x t' s d p => q G' H' v x t' s d (i x t' p)
theorem DL.imp {P P' : List PyData → Rs → Prop} (h : DL M te ρ t P) (i : ∀ x t', P x t' → P' x t') : DL M te ρ t P' := fun σ G H S Q q => h σ G H S Q fun G' H' l vs xs t' s n g e a p => q G' H' l vs xs t' s n g e a (i _ _ p)
theorem DT.imp {tt : TT} {P P' : Bool → Rs → Prop} (h : DT M tt ρ t P) (i : ∀ x t', P x t' → P' x t') : DT M tt ρ t P' := fun σ G H S Q q => h σ G H S Q fun G' H' b t' s p => q G' H' b t' s (i _ _ p)
/-- what an operation on values makes of two data, of one -/
def Bn {Wo : WO} (M : Md K Wo) (r : V → V → Hp → VK → Prop) (x y : PyData) (t : Rs) (P : PyData → Rs → Prop) : Prop := ∀ (G H : Hp) (v w : V), Ok M t G H → De K G v x → De K G w y → ∀ Q : VK,
  (∀ (G' H' : Hp) (u : V) (z : PyData) (t' : Rs), Stp M t' G H G' H' → De K G' u z → P z t' → Q u H') → r v w H Q
def BnL {Wo : WO} (M : Md K Wo) (r : V → V → Hp → VK → Prop) (x y : PyData) (t : Rs) (P : List PyData → Rs → Prop) : Prop := ∀ (G H : Hp) (v w : V), Ok M t G H → De K G v x → De K G w y → ∀ Q : VK,
  (∀ (G' H' : Hp) (l : Addr) (vs : List V) (xs : List PyData) (t' : Rs), Stp M t' G H G' H' → H l = none → G' l = none → H' l = some (.lst vs) → DeAll K G' vs xs → P xs t' → Q (.ref l) H') → r v w H Q
def Un1 {Wo : WO} (M : Md K Wo) (r : V → Hp → VK → Prop) (x : PyData) (t : Rs) (P : PyData → Rs → Prop) : Prop := ∀ (G H : Hp) (v : V), Ok M t G H → De K G v x → ∀ Q : VK,
  (∀ (G' H' : Hp) (u : V) (z : PyData) (t' : Rs), Stp M t' G H G' H' → De K G' u z → P z t' → Q u H') → r v H Q
/-- a call on values -/
def Cn {Wo : WO} (M : Md K Wo) (r : List V → Hp → VK → Prop) (bs : List B) (t : Rs) (P : PyData → Rs → Prop) : Prop := ∀ (G H : Hp) (vs : List V), Ok M t G H → ArgAll M G vs bs → ∀ Q : VK,
  (∀ (G' H' : Hp) (u : V) (z : PyData) (t' : Rs), Stp M t' G H G' H' → De K G' u z → P z t' → Q u H') → r vs H Q
def CnL {Wo : WO} (M : Md K Wo) (r : List V → Hp → VK → Prop) (bs : List B) (t : Rs) (P : List PyData → Rs → Prop) : Prop := ∀ (G H : Hp) (vs : List V), Ok M t G H → ArgAll M G vs bs → ∀ Q : VK,
  (∀ (G' H' : Hp) (l : Addr) (ws : List V) (xs : List PyData) (t' : Rs), Stp M t' G H G' H' → H l = none → G' l = none → H' l = some (.lst ws) → DeAll K G' ws xs → P xs t' → Q (.ref l) H') → r vs H Q
/-- a value comes, nothing changes -/
theorem keep {G H : Hp} (k : Ok M t G H) {Q : VK} (q : ∀ (G' H' : Hp) (u : V) (z : PyData) (t' : Rs), Stp M t' G H G' H' → De K G' u z → P z t' → Q u H') {u : V} {z : PyData} (d : De K G u z) (p : P z t) : Q u H := q G H u z t k.refl d p
theorem dd_op {r : R2} (h : DD M ta ρ t fun x t1 => DD M tb ρ t1 fun y t2 => Bn M r x y t2 P) : DD M (tOp r ta tb) ρ t P := fun σ G H S Q q =>
  h σ G H S _ fun G1 H1 v x t1 s1 d1 h1 => h1 σ G1 H1 (S.step s1) _ fun G2 H2 w y t2 s2 d2 b =>
    b G2 H2 v w ((S.step s1).step s2).ok (De.up s2.gg _ _ d1) d2 Q fun G3 H3 u z t3 s3 d3 p => q G3 H3 u z t3 ((s1.trans s2).trans s3) d3 p
theorem fresh_of {G H G1 H1 : Hp} {t1 : Rs} (s : Stp M t1 G H G1 H1) {l : Addr} (n : H1 l = none) : H l = none := by
  cases q : H l with
  | none => rfl
  | some o => exact absurd n (s.alive (by rw [q]; simp))
theorem dl_op {r : R2} {P : List PyData → Rs → Prop} (h : DD M ta ρ t fun x t1 => DD M tb ρ t1 fun y t2 => BnL M r x y t2 P) : DL M (tOp r ta tb) ρ t P := fun σ G H S Q q =>
  h σ G H S _ fun G1 H1 v x t1 s1 d1 h1 => h1 σ G1 H1 (S.step s1) _ fun G2 H2 w y t2 s2 d2 b =>
    b G2 H2 v w ((S.step s1).step s2).ok (De.up s2.gg _ _ d1) d2 Q fun G3 H3 l vs xs t3 s3 n g e a p => q G3 H3 l vs xs t3 ((s1.trans s2).trans s3) (fresh_of (s1.trans s2) n) g e a p
end

/-! ### expressions -/
section
variable {X : Cx} {Wo : WO} {M : Md X.K Wo} {ρ : List B} {t : Rs} {P : PyData → Rs → Prop} {a b c e : Expr} {pos : Pos}
theorem jd_of {te : TE} (h : PE X e te) (d : DD M te ρ t P) : JD M e ρ t P := fun σ G H S Q q => TeOf.of h (d σ G H S Q q)
theorem jl_of {te : TE} {P : List PyData → Rs → Prop} (h : PE X e te) (d : DL M te ρ t P) : JL M e ρ t P := fun σ G H S Q q => TeOf.of h (d σ G H S Q q)
theorem jt_of {te : TT} {P : Bool → Rs → Prop} (h : PT X e te) (d : DT M te ρ t P) : JT M e ρ t P := fun σ G H S Q q => TtOf.of h (d σ G H S Q q)
theorem jw_of {te : TT} {P : Bool → Rs → Prop} (h : PW X e te) (d : DT M te ρ t P) : JW M e ρ t P := fun σ G H S Q q => TwOf.of h (d σ G H S Q q)
theorem ja_of {te : TA} {es : List Expr} {P : List B → Rs → Prop} (h : PA X es te) (d : DA M te ρ t P) : JA M es ρ t P := fun σ G H S Q q => TaOf.of h (d σ G H S Q q)
theorem jd_name (i : Nat) {x : Str} {y : PyData} (hr : ρ[i]? = some (.d y)) (p : P y t) (hN : X.N[i]? = some x := by rfl) (hv : Vis X.env.scope x := by first | exact Or.inl rfl | exact Or.inr (Or.inl rfl) | exact Or.inr (Or.inr rfl))
    (hd : (x == ("__debug__" : Str)) = false := by decide) (hcd : (x == ("__classdict__" : Str)) = false := by decide) : JD M (.Name x pos) ρ t P := jd_of (pv i hN hv hd hcd) fun σ G H S Q q => by
  obtain ⟨v, hs, d⟩ := S.at_ i _ hr
  exact ⟨v, hs, q G H v y t S.ok.refl d p⟩
theorem jd_int {i : Int} {j : Nat} (p : P (.int i) t) : JD M (.Constant (.int i) j pos) ρ t P := jd_of pe_int fun σ G H S Q q => q G H _ _ t S.ok.refl (.int i) p
theorem jd_str {i : Str} {j : Nat} (p : P (.str i) t) : JD M (.Constant (.str i) j pos) ρ t P := jd_of pe_str fun σ G H S Q q => q G H _ _ t S.ok.refl (.str i) p
theorem jd_bl {i : Bool} {j : Nat} (p : P (.bool i) t) : JD M (.Constant (.bool i) j pos) ρ t P := jd_of pe_bl fun σ G H S Q q => q G H _ _ t S.ok.refl (.bl i) p
theorem jd_non {j : Nat} (p : P .none t) : JD M (.Constant .none j pos) ρ t P := jd_of pe_non fun σ G H S Q q => q G H _ _ t S.ok.refl .non p
theorem jd_bin {op : Operator} {r : R2} (ho : OpR X (binaryOp op) r) (h : JD M a ρ t fun x t1 => JD M b ρ t1 fun y t2 => Bn M r x y t2 P) : JD M (.BinOp a op b pos) ρ t P := jd_of (pe_op ho peT peT) (dd_op h)
theorem jl_bin {op : Operator} {r : R2} {P : List PyData → Rs → Prop} (ho : OpR X (binaryOp op) r) (h : JD M a ρ t fun x t1 => JD M b ρ t1 fun y t2 => BnL M r x y t2 P) : JL M (.BinOp a op b pos) ρ t P := jl_of (pe_op ho peT peT) (dl_op h)
theorem jd_cmp {op : CmpOp} {r : R2} (ho : OpR X (compareOp op) r) (hm : behindInMarks op b = false) (h : JD M a ρ t fun x t1 => JD M b ρ t1 fun y t2 => Bn M r x y t2 P) : JD M (.Compare a [op] [b] pos) ρ t P :=
  jd_of (pe_cmpR ho peT peT hm) (dd_op h)
theorem bn_I0 {K : PySem.W.Frag} {Wo : WO} {M : Md K Wo} {P : PyData → Rs → Prop} {g : Int → Int → Int} {i j : Int} (p : P (.int (g i j)) t) : Bn M (rI0 fun i j => .int (g i j)) (.int i) (.int j) t P := fun G H v w k hv hw Q q =>
  ⟨i, j, hv.intE, hw.intE, keep k q (.int _) p⟩
theorem bn_I {K : PySem.W.Frag} {Wo : WO} {M : Md K Wo} {P : PyData → Rs → Prop} {C : Int → Int → Prop} {g : Int → Int → Int} {i j : Int} (c : C i j) (p : P (.int (g i j)) t) : Bn M (rI C fun i j => .int (g i j)) (.int i) (.int j) t P := fun G H v w k hv hw Q q =>
  ⟨i, j, hv.intE, hw.intE, c, keep k q (.int _) p⟩
theorem bn_B0 {K : PySem.W.Frag} {Wo : WO} {M : Md K Wo} {P : PyData → Rs → Prop} {g : Int → Int → Bool} {i j : Int} (p : P (.bool (g i j)) t) : Bn M (rI0 fun i j => .bl (g i j)) (.int i) (.int j) t P := fun G H v w k hv hw Q q =>
  ⟨i, j, hv.intE, hw.intE, keep k q (.bl _) p⟩
end
end Dl
end
section
set_option maxRecDepth 100000
set_option maxHeartbeats 4000000
namespace Dl
open PySem PySem.Spec PyProof.Rows L2

theorem line_of {n : Nat} (h : n ≤ 16777216) : n ≤ sizeLine := by
  rw [sizeLine_eq]
  exact h
theorem line_lt {n : Nat} (h : n < 16777216) : n < sizeLine := by
  rw [sizeLine_eq]
  exact h
/-! ### arguments, displays -/
section
variable {K : PySem.W.Frag} {Wo : WO} {M : Md K Wo} {ρ : List B} {t : Rs} {te ta tb : TE} {tr : TA}
theorem ArgAll.length {G : Hp} : ∀ {vs : List V} {bs : List B}, ArgAll M G vs bs → vs.length = bs.length
  | _, _, .nil => rfl
  | _, _, .cons _ h => by rw [List.length_cons, List.length_cons, ArgAll.length h]
theorem da_nil {P : List B → Rs → Prop} (p : P [] t) : DA M tNil ρ t P := fun σ G H S Q q => q G H [] [] t S.ok.refl .nil p
theorem da_cons {P : List B → Rs → Prop} (h : DD M te ρ t fun x t1 => DA M tr ρ t1 fun bs t2 => P (.d x :: bs) t2) : DA M (tCons te tr) ρ t P := fun σ G H S Q q =>
  h σ G H S _ fun G1 H1 v x t1 s1 d1 h1 => h1 σ G1 H1 (S.step s1) _ fun G2 H2 vs bs t2 s2 a p => q G2 H2 (v :: vs) (.d x :: bs) t2 (s1.trans s2) (.cons (.d (De.up s2.gg _ _ d1)) a) p
end
section
variable {X : Cx} {Wo : WO} {M : Md X.K Wo} {ρ : List B} {t : Rs} {e : Expr} {es : List Expr} {pos : Pos}
theorem ja_nil {P : List B → Rs → Prop} (p : P [] t) : JA M [] ρ t P := ja_of pa_nil (da_nil p)
theorem ja_cons {P : List B → Rs → Prop} (h : JD M e ρ t fun x t1 => JA M es ρ t1 fun bs t2 => P (.d x :: bs) t2) (hs : starEach (e :: es) X.env = (false, eval e X.env) :: starEach es X.env := by rfl) : JA M (e :: es) ρ t P :=
  ja_of (pa_cons peT paT hs) (da_cons h)
/-- the reader handed on -/
theorem ja_rd (i : Nat) {x : Str} {p : Pos} {P : List B → Rs → Prop} (hr : ρ[i]? = some .rd) (h : JA M es ρ t fun bs t2 => P (.rd :: bs) t2) (hN : X.N[i]? = some x := by rfl)
    (hv : Vis X.env.scope x := by first | exact Or.inl rfl | exact Or.inr (Or.inl rfl) | exact Or.inr (Or.inr rfl)) (hd : (x == ("__debug__" : Str)) = false := by decide) (hcd : (x == ("__classdict__" : Str)) = false := by decide)
    (hs : starEach (.Name x p :: es) X.env = (false, eval (.Name x p) X.env) :: starEach es X.env := by rfl) : JA M (.Name x p :: es) ρ t P :=
  ja_of (pa_cons (pv i hN hv hd hcd) paT hs) fun σ G H S Q q => ⟨.ref M.r, S.at_ i _ hr, h σ G H S _ fun G2 H2 vs bs t2 s2 a p => q G2 H2 _ _ t2 s2 (.cons .rd a) p⟩
theorem jd_tup {j : Nat} {P : PyData → Rs → Prop} (h : JA M es ρ t fun bs t1 => ∃ ds, bs = ds.map B.d ∧ ds.length ≤ 16777216 ∧ P (.tuple ds) t1) : JD M (.Tuple es j pos) ρ t P := jd_of (pe_tup paT) fun σ G H S Q q =>
  h σ G H S _ fun G1 H1 vs bs t1 s1 a ⟨ds, e, l, p⟩ => by
    subst e
    have dl := (ArgAll.data a).length
    refine ⟨line_of (by omega), fun a1 n1 => ?_⟩
    have s2 := (S.step s1).ok.lay (o := .tup vs) n1
    exact q _ _ (.ref a1) _ t1 (s1.trans s2) (.tup (.inl (.inl upd_same)) (DeAll.up s2.gg _ _ (ArgAll.data a))) p
theorem jl_lst {P : List PyData → Rs → Prop} (h : JA M es ρ t fun bs t1 => ∃ ds, bs = ds.map B.d ∧ ds.length ≤ 16777216 ∧ P ds t1) : JL M (.List es pos) ρ t P := jl_of (pe_lst paT) fun σ G H S Q q =>
  h σ G H S _ fun G1 H1 vs bs t1 s1 a ⟨ds, e, l, p⟩ => by
    subst e
    have dl := (ArgAll.data a).length
    refine ⟨line_of (by omega), fun a1 n1 => ?_⟩
    have s2 := (S.step s1).ok.layO (o := .lst vs) n1
    refine q _ _ a1 vs ds t1 (s1.trans s2) (fresh_of s1 n1) ?_ upd_same (ArgAll.data a) p
    cases z : G1 a1 with
    | none => rfl
    | some o =>
      rw [s1.sub _ _ z] at n1
      cases n1
end

/-! ### operators by name -/
section
variable {X : Cx} {Wo : WO} {M : Md X.K Wo} {ρ : List B} {t : Rs} {P : PyData → Rs → Prop} {a b c e : Expr} {pos : Pos}
theorem jd_add (h : JD M a ρ t fun x t1 => ∃ i, x = .int i ∧ JD M b ρ t1 fun y t2 => ∃ j, y = .int j ∧ P (.int (i + j)) t2) : JD M (.BinOp a .Add b pos) ρ t P := jd_bin op_add (h.imp fun _ _ ⟨i, e, h1⟩ => h1.imp fun _ _ ⟨j, f, p⟩ => by
  subst e f
  exact bn_I0 (g := fun i j => i + j) p)
theorem jd_sub (h : JD M a ρ t fun x t1 => ∃ i, x = .int i ∧ JD M b ρ t1 fun y t2 => ∃ j, y = .int j ∧ P (.int (i - j)) t2) : JD M (.BinOp a .Sub b pos) ρ t P := jd_bin op_sub (h.imp fun _ _ ⟨i, e, h1⟩ => h1.imp fun _ _ ⟨j, f, p⟩ => by
  subst e f
  exact bn_I0 (g := fun i j => i - j) p)
theorem jd_mul (h : JD M a ρ t fun x t1 => ∃ i, x = .int i ∧ JD M b ρ t1 fun y t2 => ∃ j, y = .int j ∧ CMul i j ∧ P (.int (i * j)) t2) : JD M (.BinOp a .Mult b pos) ρ t P := jd_bin op_mul (h.imp fun _ _ ⟨i, e, h1⟩ => h1.imp fun _ _ ⟨j, f, c, p⟩ => by
  subst e f
  exact bn_I (g := fun i j => i * j) c p)
theorem jd_fdiv (h : JD M a ρ t fun x t1 => ∃ i, x = .int i ∧ JD M b ρ t1 fun y t2 => ∃ j, y = .int j ∧ CDivN i j ∧ P (.int (i.fdiv j)) t2) : JD M (.BinOp a .FloorDiv b pos) ρ t P := jd_bin op_fdivN (h.imp fun _ _ ⟨i, e, h1⟩ => h1.imp fun _ _ ⟨j, f, c, p⟩ => by
  subst e f
  exact bn_I (g := fun i j => i.fdiv j) c p)
theorem jd_mod (h : JD M a ρ t fun x t1 => ∃ i, x = .int i ∧ JD M b ρ t1 fun y t2 => ∃ j, y = .int j ∧ j ≠ 0 ∧ P (.int (i.fmod j)) t2) : JD M (.BinOp a .Mod b pos) ρ t P := jd_bin op_modN (h.imp fun _ _ ⟨i, e, h1⟩ => h1.imp fun _ _ ⟨j, f, c, p⟩ => by
  subst e f
  exact bn_I (C := fun x j => j ≠ 0) (g := fun i j => i.fmod j) c p)
theorem jd_pow (h : JD M a ρ t fun x t1 => ∃ i, x = .int i ∧ JD M b ρ t1 fun y t2 => ∃ j, y = .int j ∧ CPow i j ∧ P (.int (i ^ j.toNat)) t2) : JD M (.BinOp a .Pow b pos) ρ t P := jd_bin op_pow (h.imp fun _ _ ⟨i, e, h1⟩ => h1.imp fun _ _ ⟨j, f, c, p⟩ => by
  subst e f
  exact bn_I (g := fun i j => i ^ j.toNat) c p)
theorem jd_lt (h : JD M a ρ t fun x t1 => ∃ i, x = .int i ∧ JD M b ρ t1 fun y t2 => ∃ j, y = .int j ∧ P (.bool (decide (i < j))) t2) : JD M (.Compare a [.Lt] [b] pos) ρ t P := jd_cmp op_lt (nomark _) (h.imp fun _ _ ⟨i, e, h1⟩ => h1.imp fun _ _ ⟨j, f, p⟩ => by
  subst e f
  exact bn_B0 (g := fun i j => decide (i < j)) p)
theorem jd_le (h : JD M a ρ t fun x t1 => ∃ i, x = .int i ∧ JD M b ρ t1 fun y t2 => ∃ j, y = .int j ∧ P (.bool (decide (i ≤ j))) t2) : JD M (.Compare a [.LtE] [b] pos) ρ t P := jd_cmp op_le (nomark _) (h.imp fun _ _ ⟨i, e, h1⟩ => h1.imp fun _ _ ⟨j, f, p⟩ => by
  subst e f
  exact bn_B0 (g := fun i j => decide (i ≤ j)) p)
theorem jd_gt (h : JD M a ρ t fun x t1 => ∃ i, x = .int i ∧ JD M b ρ t1 fun y t2 => ∃ j, y = .int j ∧ P (.bool (decide (i > j))) t2) : JD M (.Compare a [.Gt] [b] pos) ρ t P := jd_cmp op_gt (nomark _) (h.imp fun _ _ ⟨i, e, h1⟩ => h1.imp fun _ _ ⟨j, f, p⟩ => by
  subst e f
  exact bn_B0 (g := fun i j => decide (i > j)) p)
theorem jd_ge (h : JD M a ρ t fun x t1 => ∃ i, x = .int i ∧ JD M b ρ t1 fun y t2 => ∃ j, y = .int j ∧ P (.bool (decide (i ≥ j))) t2) : JD M (.Compare a [.GtE] [b] pos) ρ t P := jd_cmp op_ge (nomark _) (h.imp fun _ _ ⟨i, e, h1⟩ => h1.imp fun _ _ ⟨j, f, p⟩ => by
  subst e f
  exact bn_B0 (g := fun i j => decide (i ≥ j)) p)
theorem jd_eq {k : Nat} (hr : Room k X.A) (h : JD M a ρ t fun x t1 => JD M b ρ t1 fun y t2 => SeqAt.shaped x = true ∧ SeqAt.shaped y = true ∧ P (.bool (PyData.eqv x y)) t2) : JD M (.Compare a [.Eq] [b] pos) ρ t P :=
  jd_cmp (op_eqD hr.units) (nomark _) (h.imp fun x _ h1 => h1.imp fun y _ ⟨c, d, p⟩ => fun G H v w k hv hw Q q =>
    ⟨x, y, De.dp _ _ (De.up k.sub _ _ hv), De.dp _ _ (De.up k.sub _ _ hw), c, d, keep k q (.bl _) p⟩)
theorem jd_ne {k : Nat} (hr : Room k X.A) (h : JD M a ρ t fun x t1 => JD M b ρ t1 fun y t2 => SeqAt.shaped x = true ∧ SeqAt.shaped y = true ∧ P (.bool (!PyData.eqv x y)) t2) : JD M (.Compare a [.NotEq] [b] pos) ρ t P :=
  jd_cmp (op_neD hr.units) (nomark _) (h.imp fun x _ h1 => h1.imp fun y _ ⟨c, d, p⟩ => fun G H v w k hv hw Q q =>
    ⟨x, y, De.dp _ _ (De.up k.sub _ _ hv), De.dp _ _ (De.up k.sub _ _ hw), c, d, keep k q (.bl _) p⟩)
def PyData.isN : PyData → Bool
  | .none => true
  | _ => false
theorem isN_of {K : PySem.W.Frag} {G : Hp} {v : V} {x : PyData} (h : De K G v x) : decide (v = V.non) = PyData.isN x := by
  cases h <;> simp [PyData.isN]
theorem jd_isN {j : Nat} {p1 : Pos} (h : JD M a ρ t fun x t1 => P (.bool (PyData.isN x)) t1) : JD M (.Compare a [.Is] [.Constant .none j p1] pos) ρ t P := jd_cmp op_isN (nomark _) (h.imp fun x _ p => jd_non (fun G H v w k hv hw Q q => ⟨hw.nonE, by
  rw [isN_of hv]
  exact keep k q (.bl _) p⟩))
theorem jd_notN {j : Nat} {p1 : Pos} (h : JD M a ρ t fun x t1 => P (.bool (!PyData.isN x)) t1) : JD M (.Compare a [.IsNot] [.Constant .none j p1] pos) ρ t P := jd_cmp op_notN (nomark _) (h.imp fun x _ p => jd_non (fun G H v w k hv hw Q q => ⟨hw.nonE, by
  rw [isN_of hv]
  exact keep k q (.bl _) p⟩))
theorem jd_ltS (h : JD M a ρ t fun x t1 => ∃ i, x = .str i ∧ JD M b ρ t1 fun y t2 => ∃ j, y = .str j ∧ P (.bool (decide (i.cps.toList < j.cps.toList))) t2) : JD M (.Compare a [.Lt] [b] pos) ρ t P := jd_cmp op_lt_str (nomark _) (h.imp fun _ _ ⟨i, e, h1⟩ => h1.imp fun _ _ ⟨j, f, p⟩ => by
  subst e f
  exact fun G H v w k hv hw Q q => ⟨i, j, hv.strE, hw.strE, keep k q (.bl _) p⟩)
theorem jd_catS (h : JD M a ρ t fun x t1 => ∃ i, x = .str i ∧ JD M b ρ t1 fun y t2 => ∃ j, y = .str j ∧ i.length + j.length ≤ 16777216 ∧ P (.str (i ++ j)) t2) : JD M (.BinOp a .Add b pos) ρ t P := jd_bin op_add_str (h.imp fun _ _ ⟨i, e, h1⟩ => h1.imp fun _ _ ⟨j, f, l, p⟩ => by
  subst e f
  exact fun G H v w k hv hw Q q => ⟨i, j, hv.strE, hw.strE, line_of l, keep k q (.str _) p⟩)
/-- t + u -/
theorem jd_catT (h : JD M a ρ t fun x t1 => ∃ xs, x = .tuple xs ∧ JD M b ρ t1 fun y t2 => ∃ ys, y = .tuple ys ∧ xs.length + ys.length ≤ 16777216 ∧ P (.tuple (xs ++ ys)) t2) : JD M (.BinOp a .Add b pos) ρ t P := jd_bin op_catA (h.imp fun _ _ ⟨xs, e, h1⟩ => h1.imp fun _ _ ⟨ys, f, l, p⟩ => by
  subst e f
  intro G H v w k hv hw Q q
  obtain ⟨a1, vs, rfl, st, da⟩ := hv.tupE
  obtain ⟨a2, ws, rfl, st2, da2⟩ := hw.tupE
  have up : ∀ {c : Addr} {us : List V}, SqT X.K G c us → SqT X.K H c us := fun {c us} z => by
    rcases z with (z | ⟨o, z⟩) | z
    · exact .inl (.inl (k.sub _ _ z))
    · exact .inl (.inr ⟨o, k.sub _ _ z⟩)
    · exact .inr z
  refine ⟨a1, a2, vs, ws, rfl, rfl, up st, up st2, line_of (by rw [da.length, da2.length]; exact l), fun z => ?_, fun _ z => ?_, fun _ _ a3 n3 => ?_⟩
  · have z' : xs = [] := List.eq_nil_of_length_eq_zero (by rw [← da.length, z]; rfl)
    rw [z', List.nil_append] at p
    exact keep k q hw p
  · have z' : ys = [] := List.eq_nil_of_length_eq_zero (by rw [← da2.length, z]; rfl)
    rw [z', List.append_nil] at p
    exact keep k q hv p
  · have s := k.lay (o := .tup (vs ++ ws)) n3
    exact q _ _ _ _ _ s (.tup (.inl (.inl upd_same)) (DeAll.up s.gg _ _ (da.app da2))) p)
theorem none_of {K : PySem.W.Frag} {Wo : WO} {M : Md K Wo} {t : Rs} {G H : Hp} (k : Ok M t G H) {p : Addr} (n : H p = none) : G p = none := by
  cases z : G p with
  | none => rfl
  | some o =>
    rw [k.sub _ _ z] at n
    cases n
/-- xs + ys, a new list -/
theorem jl_cat {P : List PyData → Rs → Prop} (h : JD M a ρ t fun x t1 => ∃ xs, x = .list xs ∧ JD M b ρ t1 fun y t2 => ∃ ys, y = .list ys ∧ xs.length + ys.length ≤ 16777216 ∧ P (xs ++ ys) t2) : JL M (.BinOp a .Add b pos) ρ t P := jl_bin op_cat (h.imp fun _ _ ⟨xs, e, h1⟩ => h1.imp fun _ _ ⟨ys, f, l, p⟩ => by
  subst e f
  intro G H v w k hv hw Q q
  obtain ⟨a1, vs, rfl, st, da⟩ := hv.lstE
  obtain ⟨a2, ws, rfl, st2, da2⟩ := hw.lstE
  refine ⟨a1, a2, vs, ws, rfl, rfl, k.sub _ _ st, k.sub _ _ st2, line_of (by rw [da.length, da2.length]; exact l), fun a3 n3 => ?_⟩
  exact q _ _ a3 _ _ _ (k.layO (o := .lst (vs ++ ws)) n3) n3 (none_of k n3) upd_same (da.app da2) p)
/-- x in xs, x not in xs, xs a list of data -/
theorem jd_inL {k : Nat} (hr : Room k X.A) (h : JD M a ρ t fun x t1 => JD M b ρ t1 fun y t2 => ∃ ys, y = .list ys ∧ SeqAt.shaped x = true ∧ SeqAt.shaped y = true ∧ P (.bool (ys.any fun z => PyData.eqv z x)) t2) (hm : behindInMarks .In b = false := by rfl) : JD M (.Compare a [.In] [b] pos) ρ t P :=
  jd_cmp (op_inD (by have := hr.un; omega)) hm (h.imp fun x _ h1 => h1.imp fun y _ ⟨ys, e, c, d, p⟩ => by
    subst e
    exact fun G H v w k hv hw Q q => ⟨x, ys, De.dp _ _ (De.up k.sub _ _ hv), De.dp _ _ (De.up k.sub _ _ hw), c, d, keep k q (.bl _) p⟩)
theorem jd_niL {k : Nat} (hr : Room k X.A) (h : JD M a ρ t fun x t1 => JD M b ρ t1 fun y t2 => ∃ ys, y = .list ys ∧ SeqAt.shaped x = true ∧ SeqAt.shaped y = true ∧ P (.bool (!ys.any fun z => PyData.eqv z x)) t2) (hm : behindInMarks .NotIn b = false := by rfl) : JD M (.Compare a [.NotIn] [b] pos) ρ t P :=
  jd_cmp (op_notInD (by have := hr.un; omega)) hm (h.imp fun x _ h1 => h1.imp fun y _ ⟨ys, e, c, d, p⟩ => by
    subst e
    exact fun G H v w k hv hw Q q => ⟨x, ys, De.dp _ _ (De.up k.sub _ _ hv), De.dp _ _ (De.up k.sub _ _ hw), c, d, keep k q (.bl _) p⟩)
end
section
variable {X : Cx} {pins : List (Addr × Obj)} {σ : L2.St} {H : Hp} {s : Shared}
/-- x in t, t a tuple of data of any depth -/
def rInU (K : PySem.W.Frag) (neg : Bool) : R2 := fun x y H Q => ∃ d ds, Dp K H x d ∧ Dp K H y (.tuple ds) ∧ SeqAt.shaped d = true ∧ SeqAt.shaped (.tuple ds) = true ∧ Q (.bl (if neg then !ds.any fun z => PyData.eqv z d else ds.any fun z => PyData.eqv z d)) H
end
end Dl
end
section
set_option maxRecDepth 100000
set_option maxHeartbeats 4000000
namespace Dl
open PySem PySem.Spec PyProof.Rows L2

section
variable {K : PySem.W.Frag} {Wo : WO} {M : Md K Wo} {t : Rs} {G H : Hp}
theorem sqt_up {G H : Hp} (e : Same G H) {c : Addr} {us : List V} (z : SqT K G c us) : SqT K H c us := by
  rcases z with (z | ⟨o, z⟩) | z
  · exact .inl (.inl (e _ _ z))
  · exact .inl (.inr ⟨o, e _ _ z⟩)
  · exact .inr z
theorem atI_of {α : Type} {xs : List α} {i : Int} {z : α} (h : atI xs i = some z) : ∃ j, ixN xs.length i = some j ∧ xs[j]? = some z := by
  unfold atI at h
  cases e : ixN xs.length i with
  | none => rw [e] at h; cases h
  | some j => rw [e] at h; exact ⟨j, rfl, h⟩
theorem DeAll.atI {vs : List V} {ds : List PyData} (h : DeAll K G vs ds) {i : Int} {z : PyData} (e : atI ds i = some z) : ∃ v, L2.atI vs i = some v ∧ De K G v z := by
  obtain ⟨j, e1, e2⟩ := atI_of e
  obtain ⟨v, e3, d⟩ := h.at_ e2
  refine ⟨v, ?_, d⟩
  unfold L2.atI
  rw [h.length, e1]
  exact e3
def cutD {α : Type} (xs : List α) (lo hi : Option Int) : List α := (xs.drop (HT.sIx xs.length 0 lo)).take (HT.sIx xs.length xs.length hi - HT.sIx xs.length 0 lo)
theorem DeAll.cut {vs : List V} {ds : List PyData} (h : DeAll K G vs ds) (lo hi : Option Int) : DeAll K G (cutV vs lo hi) (cutD ds lo hi) := by
  unfold cutV cutD
  rw [h.length]
  exact (h.drop _).take _
end
/-! ### optional parts of a slice -/
section
variable {K : PySem.W.Frag} {Wo : WO} (M : Md K Wo)
def DO (te : TO) (ρ : List B) (t : Rs) (P : Option Int → Rs → Prop) : Prop := ∀ (σ : L2.St) (G H : Hp), Sat M t G H σ ρ → ∀ Q : Option Int → Hp → Prop,
  (∀ (G' H' : Hp) (o : Option Int) (t' : Rs), Stp M t' G H G' H' → P o t' → Q o H') → te σ H Q
end
section
variable {X : Cx} {Wo : WO} {M : Md X.K Wo} {ρ : List B} {t : Rs} {P : PyData → Rs → Prop} {a b c e : Expr} {es : List Expr} {pos : Pos}
theorem jd_ixT (h : JD M a ρ t fun x t1 => ∃ xs, x = .tuple xs ∧ JD M b ρ t1 fun y t2 => ∃ i z, y = .int i ∧ atI xs i = some z ∧ P z t2) (hp : PlainIx b := by intro _ _; rfl) : JD M (.Subscript a b pos) ρ t P :=
  jd_of (pe_ix ix_tup peT peT hp) (dd_op (h.imp fun _ _ ⟨xs, e, h1⟩ => h1.imp fun _ _ ⟨i, z, f, g, p⟩ => by
    subst e f
    intro G H v w k hv hw Q q
    obtain ⟨a1, vs, rfl, st, da⟩ := hv.tupE
    obtain ⟨u, eu, du⟩ := da.atI g
    exact ⟨a1, vs, i, u, rfl, hw.intE, sqt_up k.sub st, eu, keep k q du p⟩))
theorem jd_ixL (h : JD M a ρ t fun x t1 => ∃ xs, x = .list xs ∧ JD M b ρ t1 fun y t2 => ∃ i z, y = .int i ∧ atI xs i = some z ∧ P z t2) (hp : PlainIx b := by intro _ _; rfl) : JD M (.Subscript a b pos) ρ t P :=
  jd_of (pe_ix ix_list peT peT hp) (dd_op (h.imp fun _ _ ⟨xs, e, h1⟩ => h1.imp fun _ _ ⟨i, z, f, g, p⟩ => by
    subst e f
    intro G H v w k hv hw Q q
    obtain ⟨a1, vs, rfl, st, da⟩ := hv.lstE
    obtain ⟨u, eu, du⟩ := da.atI g
    exact ⟨a1, vs, i, u, rfl, hw.intE, .inl (.inl (k.sub _ _ st)), eu, keep k q du p⟩))
theorem jd_ixS (h : JD M a ρ t fun x t1 => ∃ xs, x = .str xs ∧ JD M b ρ t1 fun y t2 => ∃ i z, y = .int i ∧ xs.length ≤ 16777216 ∧ atI xs.cps.toList i = some z ∧ P (.str ⟨#[z]⟩) t2) (hp : PlainIx b := by intro _ _; rfl) : JD M (.Subscript a b pos) ρ t P :=
  jd_of (pe_ix ix_str peT peT hp) (dd_op (h.imp fun _ _ ⟨xs, e, h1⟩ => h1.imp fun _ _ ⟨i, z, f, l, g, p⟩ => by
    subst e f
    intro G H v w k hv hw Q q
    exact ⟨xs, i, z, hv.strE, hw.intE, line_of l, g, keep k q (.str _) p⟩))
end
@[irreducible] def ToOf (X : Cx) (e : Option Expr) : TO := fun σ H Q => ∀ (pins : List (Addr × Obj)) (s : Shared), Inv X pins σ H s → wpAny (model X.prog X.w) X.A (evalPart e X.env) (fun u s' => ∃ o H', Inv X pins σ H' s' ∧ IsPart u o ∧ Q o H') X.xe s
theorem poT {X : Cx} {e : Option Expr} : PO X e (ToOf X e) := by unfold ToOf; exact ⟨fun pins s σ H Q I h => h pins s I⟩
theorem ToOf.of {X : Cx} {e : Option Expr} {te : TO} {σ : L2.St} {H : Hp} (h : PO X e te) {Q : Option Int → Hp → Prop} (q : te σ H Q) : ToOf X e σ H Q := by unfold ToOf; exact fun pins s I => h.run pins s σ H Q I q
section
variable {X : Cx} {Wo : WO} (M : Md X.K Wo)
abbrev JO (e : Option Expr) (ρ : List B) (t : Rs) (P : Option Int → Rs → Prop) : Prop := DO M (ToOf X e) ρ t P
end
section
variable {X : Cx} {Wo : WO} {M : Md X.K Wo} {ρ : List B} {t : Rs} {P : PyData → Rs → Prop} {a b c e : Expr} {es : List Expr} {pos p2 : Pos} {lo hi : Option Expr}
theorem jo_none {P : Option Int → Rs → Prop} (p : P none t) : JO M none ρ t P := fun σ G H S Q q => ToOf.of po_none (q G H _ t S.ok.refl p)
theorem jo_some {P : Option Int → Rs → Prop} (h : JD M e ρ t fun x t1 => ∃ i, x = .int i ∧ P (some i) t1) : JO M (some e) ρ t P := fun σ G H S Q q => ToOf.of (po_some peT) (h σ G H S _ fun G1 H1 v x t1 s1 d1 ⟨i, e, p⟩ => by
  subst e
  exact ⟨i, d1.intE, q G1 H1 _ t1 s1 p⟩)
theorem jd_slT (h : JD M a ρ t fun x t1 => ∃ xs, x = .tuple xs ∧ JO M lo ρ t1 fun l t2 => JO M hi ρ t2 fun u t3 => P (.tuple (cutD xs l u)) t3) : JD M (.Subscript a (.Slice lo hi none p2) pos) ρ t P :=
  jd_of (pe_slice sl_tupA peT poT poT) fun σ G H S Q q => h σ G H S _ fun G1 H1 v x t1 s1 d1 ⟨xs, e, h1⟩ => h1 σ G1 H1 (S.step s1) _ fun G2 H2 l t2 s2 h2 => h2 σ G2 H2 ((S.step s1).step s2) _ fun G3 H3 u t3 s3 p => by
    subst e
    have k := (((S.step s1).step s2).step s3).ok
    obtain ⟨a1, vs, rfl, st, da⟩ := (De.up (s2.trans s3).gg _ _ d1).tupE
    refine ⟨a1, vs, rfl, sqt_up k.sub st, fun w => ?_, fun w n1 hn => ?_⟩
    · refine q G3 H3 _ (.tuple (cutD xs l u)) t3 ((s1.trans s2).trans s3) ?_ p
      rw [da.length] at w
      have e1 : cutD xs l u = xs := by
        unfold cutD
        rw [w.1, w.2, List.drop_zero, Nat.sub_zero, List.take_length]
      rw [e1]
      exact .tup st da
    · have s4 := k.lay (o := .tup (cutV vs l u)) hn
      exact q _ _ _ _ t3 (((s1.trans s2).trans s3).trans s4) (.tup (.inl (.inl upd_same)) (DeAll.up s4.gg _ _ (da.cut l u))) p
theorem jl_slL {P : List PyData → Rs → Prop} (h : JD M a ρ t fun x t1 => ∃ xs, x = .list xs ∧ JO M lo ρ t1 fun l t2 => JO M hi ρ t2 fun u t3 => P (cutD xs l u) t3) : JL M (.Subscript a (.Slice lo hi none p2) pos) ρ t P :=
  jl_of (pe_slice sl_list peT poT poT) fun σ G H S Q q => h σ G H S _ fun G1 H1 v x t1 s1 d1 ⟨xs, e, h1⟩ => h1 σ G1 H1 (S.step s1) _ fun G2 H2 l t2 s2 h2 => h2 σ G2 H2 ((S.step s1).step s2) _ fun G3 H3 u t3 s3 p => by
    subst e
    have k := (((S.step s1).step s2).step s3).ok
    obtain ⟨a1, vs, rfl, st, da⟩ := (De.up (s2.trans s3).gg _ _ d1).lstE
    refine ⟨a1, vs, rfl, .inl (.inl (k.sub _ _ st)), fun n1 hn => ?_⟩
    have s4 := k.layO (o := .lst (cutV vs l u)) hn
    exact q _ _ n1 _ _ t3 (((s1.trans s2).trans s3).trans s4) (fresh_of ((s1.trans s2).trans s3) hn) (none_of k hn) upd_same (da.cut l u) p
theorem jd_slS (h : JD M a ρ t fun x t1 => ∃ z, x = .str z ∧ JO M lo ρ t1 fun l t2 => JO M hi ρ t2 fun u t3 => z.length ≤ 16777216 ∧ P (.str (cutS z l u)) t3) : JD M (.Subscript a (.Slice lo hi none p2) pos) ρ t P :=
  jd_of (pe_slice sl_str peT poT poT) fun σ G H S Q q => h σ G H S _ fun G1 H1 v x t1 s1 d1 ⟨z, e, h1⟩ => h1 σ G1 H1 (S.step s1) _ fun G2 H2 l t2 s2 h2 => h2 σ G2 H2 ((S.step s1).step s2) _ fun G3 H3 u t3 s3 ⟨g, p⟩ => by
    subst e
    exact ⟨z, d1.strE, line_of g, q G3 H3 _ _ t3 ((s1.trans s2).trans s3) (.str _) p⟩
/-- xs[::-1] of a list -/
theorem jl_rev {P : List PyData → Rs → Prop} {k : Nat} {p1 p3 p4 : Pos} (h : JD M a ρ t fun x t1 => ∃ xs, x = .list xs ∧ P xs.reverse t1) : JL M (.Subscript a (.Slice none none (some (.UnaryOp .USub (.Constant (.int 1) k p1) p3)) p4) pos) ρ t P :=
  jl_of (pe_revL peT) fun σ G H S Q q => h σ G H S _ fun G1 H1 v x t1 s1 d1 ⟨xs, e, p⟩ => by
    subst e
    have k := (S.step s1).ok
    obtain ⟨a1, vs, rfl, st, da⟩ := d1.lstE
    refine ⟨a1, vs, rfl, .inl (.inl (k.sub _ _ st)), fun n1 hn => ?_⟩
    have s4 := k.layO (o := .lst vs.reverse) hn
    exact q _ _ n1 _ _ t1 (s1.trans s4) (fresh_of s1 hn) (none_of k hn) upd_same da.rev p

/-! ### calls of built-ins -/
theorem jd_callB {x : Str} {id : String} {r : List V → Hp → VK → Prop} {p : Pos} (hc : CallR X (.builtin id) r) (hg : Gl X x) (hm : X.mg x = none) (hb : bootBuiltins x = some (.builtin id)) (h : JA M (e :: es) ρ t fun bs t1 => Cn M r bs t1 P)
    (h1 : x ≠ Str.ofString "__name__" := by decide) (h2 : (x == Str.ofString "__debug__") = false := by decide) (h3 : starEach (e :: es) X.env = (false, eval e X.env) :: starEach es X.env := by rfl)
    (h4 : ((backTo pos (starEach es X.env)).any fun x => x.fst) = false := by rfl) : JD M (.Call (.Name x p) (e :: es) [] pos) ρ t P :=
  jd_of (pe_callB hc hg hm hb paT h1 h2 h3 h4) fun σ G H S Q q => h σ G H S _ fun G1 H1 vs bs t1 s1 a1 c => c G1 H1 vs (S.step s1).ok a1 Q fun G2 H2 u z t2 s2 d2 p => q G2 H2 u z t2 (s1.trans s2) d2 p
theorem jd_callTy {x : Str} {T : String} {r : List V → Hp → VK → Prop} {p : Pos} (hc : CallR X (.type T) r) (hg : Gl X x) (hm : X.mg x = none) (hb : bootBuiltins x = some (.type T)) (h : JA M (e :: es) ρ t fun bs t1 => Cn M r bs t1 P)
    (h1 : x ≠ Str.ofString "__name__" := by decide) (h2 : (x == Str.ofString "__debug__") = false := by decide) (h3 : starEach (e :: es) X.env = (false, eval e X.env) :: starEach es X.env := by rfl)
    (h4 : ((backTo pos (starEach es X.env)).any fun x => x.fst) = false := by rfl) : JD M (.Call (.Name x p) (e :: es) [] pos) ρ t P :=
  jd_of (pe_callTy hc hg hm hb paT h1 h2 h3 h4) fun σ G H S Q q => h σ G H S _ fun G1 H1 vs bs t1 s1 a1 c => c G1 H1 vs (S.step s1).ok a1 Q fun G2 H2 u z t2 s2 d2 p => q G2 H2 u z t2 (s1.trans s2) d2 p
theorem jl_callTy {x : Str} {T : String} {r : List V → Hp → VK → Prop} {p : Pos} {P : List PyData → Rs → Prop} (hc : CallR X (.type T) r) (hg : Gl X x) (hm : X.mg x = none) (hb : bootBuiltins x = some (.type T)) (h : JA M (e :: es) ρ t fun bs t1 => CnL M r bs t1 P)
    (h1 : x ≠ Str.ofString "__name__" := by decide) (h2 : (x == Str.ofString "__debug__") = false := by decide) (h3 : starEach (e :: es) X.env = (false, eval e X.env) :: starEach es X.env := by rfl)
    (h4 : ((backTo pos (starEach es X.env)).any fun x => x.fst) = false := by rfl) : JL M (.Call (.Name x p) (e :: es) [] pos) ρ t P :=
  jl_of (pe_callTy hc hg hm hb paT h1 h2 h3 h4) fun σ G H S Q q => h σ G H S _ fun G1 H1 vs bs t1 s1 a1 c => c G1 H1 vs (S.step s1).ok a1 Q fun G2 H2 l ws xs t2 s2 n g e a p => q G2 H2 l ws xs t2 (s1.trans s2) (fresh_of s1 n) g e a p
theorem jl_callB {x : Str} {id : String} {r : List V → Hp → VK → Prop} {p : Pos} {P : List PyData → Rs → Prop} (hc : CallR X (.builtin id) r) (hg : Gl X x) (hm : X.mg x = none) (hb : bootBuiltins x = some (.builtin id)) (h : JA M (e :: es) ρ t fun bs t1 => CnL M r bs t1 P)
    (h1 : x ≠ Str.ofString "__name__" := by decide) (h2 : (x == Str.ofString "__debug__") = false := by decide) (h3 : starEach (e :: es) X.env = (false, eval e X.env) :: starEach es X.env := by rfl)
    (h4 : ((backTo pos (starEach es X.env)).any fun x => x.fst) = false := by rfl) : JL M (.Call (.Name x p) (e :: es) [] pos) ρ t P :=
  jl_of (pe_callB hc hg hm hb paT h1 h2 h3 h4) fun σ G H S Q q => h σ G H S _ fun G1 H1 vs bs t1 s1 a1 c => c G1 H1 vs (S.step s1).ok a1 Q fun G2 H2 l ws xs t2 s2 n g e a p => q G2 H2 l ws xs t2 (s1.trans s2) (fresh_of s1 n) g e a p
end
section
variable {X : Cx} {Wo : WO} {M : Md X.K Wo} {t : Rs} {P : PyData → Rs → Prop}
theorem arg1 {K : PySem.W.Frag} {Wo : WO} {M : Md K Wo} {G : Hp} {vs : List V} {x : PyData} (a : ArgAll M G vs [.d x]) : ∃ v, vs = [v] ∧ De K G v x := by
  cases a with
  | cons h r =>
    cases r
    cases h with
    | d h => exact ⟨_, rfl, h⟩
/-- how long: a text, a list, a tuple -/
def lenD : PyData → Option Nat
  | .str y => some y.length
  | .list xs => some xs.length
  | .tuple xs => some xs.length
  | _ => none
theorem cn_len {x : PyData} {n : Nat} (e : lenD x = some n) (hn : n ≤ 16777216) (p : P (.int n) t) : Cn M (fun xs H Q => ∃ x n, xs = [x] ∧ LenV X.K x H n ∧ Q (.int n) H) [.d x] t P := fun G H vs k a Q q => by
  obtain ⟨v, rfl, d⟩ := arg1 a
  refine ⟨v, n, rfl, ?_, keep k q (.int _) p⟩
  cases d with
  | str y =>
    cases e
    exact ⟨line_of hn, rfl⟩
  | lst h1 h2 =>
    cases e
    exact .inl ⟨_, .inl (.inl (k.sub _ _ h1)), h2.length.symm⟩
  | tup h1 h2 =>
    cases e
    exact .inr ⟨_, sqt_up k.sub h1, h2.length.symm⟩
  | non => cases e
  | bl => cases e
  | int => cases e
theorem cn_tuple {xs : List PyData} {x : PyData} (e : x = .list xs ∨ x = .tuple xs) (p : P (.tuple xs) t) : Cn M (fun xs H Q => ∃ p ys, xs = [.ref p] ∧ ((SqL X.K H p ys ∧ ∀ l, H l = none → Q (.ref l) (upd H l (.tup ys))) ∨ (SqT X.K H p ys ∧ Q (.ref p) H))) [.d x] t P := fun G H vs k a Q q => by
  obtain ⟨v, rfl, d⟩ := arg1 a
  rcases e with e | e
  · subst e
    obtain ⟨a1, ws, rfl, st, da⟩ := d.lstE
    refine ⟨a1, ws, rfl, .inl ⟨.inl (.inl (k.sub _ _ st)), fun l hl => ?_⟩⟩
    have s := k.lay (o := .tup ws) hl
    exact q _ _ _ _ _ s (.tup (.inl (.inl upd_same)) (DeAll.up s.gg _ _ da)) p
  · subst e
    obtain ⟨a1, ws, rfl, st, da⟩ := d.tupE
    exact ⟨a1, ws, rfl, .inr ⟨sqt_up k.sub st, keep k q d p⟩⟩
theorem cn_list {xs : List PyData} {x : PyData} {P : List PyData → Rs → Prop} (e : x = .list xs ∨ x = .tuple xs) (p : P xs t) : CnL M (fun xs H Q => ∃ p ys, xs = [.ref p] ∧ (SqL X.K H p ys ∨ SqT X.K H p ys) ∧ ∀ l, H l = none → Q (.ref l) (upd H l (.lst ys))) [.d x] t P := fun G H vs k a Q q => by
  obtain ⟨v, rfl, d⟩ := arg1 a
  rcases e with e | e
  · subst e
    obtain ⟨a1, ws, rfl, st, da⟩ := d.lstE
    exact ⟨a1, ws, rfl, .inl (.inl (.inl (k.sub _ _ st))), fun l hl => q _ _ _ _ _ _ (k.layO (o := .lst ws) hl) hl (none_of k hl) upd_same da p⟩
  · subst e
    obtain ⟨a1, ws, rfl, st, da⟩ := d.tupE
    exact ⟨a1, ws, rfl, .inr (sqt_up k.sub st), fun l hl => q _ _ _ _ _ _ (k.layO (o := .lst ws) hl) hl (none_of k hl) upd_same da p⟩
theorem cn_int {i : Int} (p : P (.int i) t) : Cn M (fun xs H Q => (∃ i, xs = [.int i] ∧ Q (.int i) H) ∨ ∃ k, xs = [.bl k] ∧ Q (.int (if k = true then 1 else 0)) H) [.d (.int i)] t P := fun G H vs k a Q q => by
  obtain ⟨v, rfl, d⟩ := arg1 a
  exact .inl ⟨i, by rw [d.intE], keep k q (.int _) p⟩
theorem cn_all {bs : List Bool} (p : P (.bool (bs.all id)) t) : Cn M (rAll X.K) [.d (.list (bs.map PyData.bool))] t P := fun G H vs k a Q q => by
  obtain ⟨v, rfl, d⟩ := arg1 a
  obtain ⟨a1, ws, rfl, st, da⟩ := d.lstE
  exact ⟨a1, bs, rfl, .inl (.inl (by rw [k.sub _ _ st, da.bls])), keep k q (.bl _) p⟩
theorem cn_any {bs : List Bool} (p : P (.bool (bs.any id)) t) : Cn M (rAny X.K) [.d (.list (bs.map PyData.bool))] t P := fun G H vs k a Q q => by
  obtain ⟨v, rfl, d⟩ := arg1 a
  obtain ⟨a1, ws, rfl, st, da⟩ := d.lstE
  exact ⟨a1, bs, rfl, .inl (.inl (by rw [k.sub _ _ st, da.bls])), keep k q (.bl _) p⟩
theorem cn_str {i : Int} (l : i.natAbs.log2 < 1920) (p : P (.str (Str.ofString (toString i))) t) : Cn M (fun xs H Q => ∃ i, xs = [.int i] ∧ i.natAbs.log2 < 1920 ∧ Q (.str (Str.ofString (toString i))) H) [.d (.int i)] t P := fun G H vs k a Q q => by
  obtain ⟨v, rfl, d⟩ := arg1 a
  exact ⟨i, by rw [d.intE], l, keep k q (.str _) p⟩
/-! isinstance -/
def tyD : PyData → String
  | .none => "NoneType"
  | .bool _ => "bool"
  | .int _ => "int"
  | .str _ => "str"
  | .list _ => "list"
  | .tuple _ => "tuple"
  | .dict _ => "dict"
theorem tyx_of {K : PySem.W.Frag} {G : Hp} {v : V} {x : PyData} (h : De K G v x) : TyX K G v (.type (tyD x)) := by
  cases h with
  | non => exact .base .non
  | bl b => exact .base (.bl b)
  | int b => exact .base (.int b)
  | str b => exact .base (.str b)
  | lst e _ => exact .base (.lst e)
  | tup e _ =>
    rcases e with (e | ⟨o, e⟩) | ⟨o, its, n, e, c, _⟩
    · exact .base (.tup e)
    · exact .fTuple e
    · exact .kTuple e c
/-- the answer of isinstance for the built-in classes that laws name -/
def isiD (T : String) (x : PyData) : Bool := tyD x == T || (T == "int" && tyD x == "bool")
theorem isi_kit {K : PySem.W.Frag} {T : String} (hT : T ∈ ["int", "bool", "str", "tuple", "list"]) (x : PyData) : PySem.W.kitOne K (.type (tyD x)) (.type T) = some (isiD T x) := by
  refine kit_ty ?_
  simp only [List.mem_cons, List.not_mem_nil, or_false] at hT
  rcases hT with rfl | rfl | rfl | rfl | rfl <;> cases x <;> (simp only [tyD, isiD]; decide +kernel)
theorem jd_isi {ρ : List B} {e : Expr} {x T : Str} {Ts : String} {pos p1 p2 : Pos} (hx : x = Str.ofString "isinstance") (hg : Gl X x) (hm : X.mg x = none) (hg2 : Gl X T) (hm2 : X.mg T = none) (hb2 : bootBuiltins T = some (.type Ts)) (hT : Ts ∈ ["int", "bool", "str", "tuple", "list"])
    (h : JD M e ρ t fun z t1 => P (.bool (isiD Ts z)) t1) (n2 : T ≠ Str.ofString "__name__" := by decide) (n3 : (T == Str.ofString "__debug__") = false := by decide)
    (h3 : starEach [e, .Name T p2] X.env = (false, eval e X.env) :: starEach [.Name T p2] X.env := by rfl)
    (h4 : ((backTo pos (starEach [.Name T p2] X.env)).any fun x => x.fst) = false := by rfl) (h5 : starEach [.Name T p2] X.env = (false, eval (.Name T p2) X.env) :: starEach [] X.env := by rfl) : JD M (.Call (.Name x p1) [e, .Name T p2] [] pos) ρ t P :=
  jd_of (pe_callB call_isi hg hm (by rw [hx]; exact boot_isinstance) (pa_cons peT (pa_cons (pe_bltn (v := .ty Ts) hg2 hm2 hb2 rfl n2 n3) pa_nil h5) h3) (by rw [hx]; decide) (by rw [hx]; decide) h3 h4) fun σ G H S Q q =>
    h σ G H S _ fun G1 H1 v z t1 s1 d1 p => ⟨v, .ty Ts, _, _, _, rfl, .ty Ts, tyx_of (De.up (S.step s1).ok.sub _ _ d1), isi_kit hT z, q G1 H1 _ _ t1 s1 (.bl _) p⟩
/-- isinstance(x, (S, T)) -/
theorem jd_isi2 {ρ : List B} {e : Expr} {x S T : Str} {Ss Ts : String} {pos p1 p2 p3 p4 : Pos} {k : Nat} (hx : x = Str.ofString "isinstance") (hg : Gl X x) (hm : X.mg x = none) (hg1 : Gl X S) (hm1 : X.mg S = none) (hb1 : bootBuiltins S = some (.type Ss)) (hS : Ss ∈ ["int", "bool", "str", "tuple", "list"])
    (hg2 : Gl X T) (hm2 : X.mg T = none) (hb2 : bootBuiltins T = some (.type Ts)) (hT : Ts ∈ ["int", "bool", "str", "tuple", "list"])
    (h : JD M e ρ t fun z t1 => P (.bool (isiD Ss z || isiD Ts z)) t1) (n1 : S ≠ Str.ofString "__name__" := by decide) (n4 : (S == Str.ofString "__debug__") = false := by decide) (n2 : T ≠ Str.ofString "__name__" := by decide) (n3 : (T == Str.ofString "__debug__") = false := by decide)
    (h3 : starEach [e, .Tuple [.Name S p2, .Name T p3] k p4] X.env = (false, eval e X.env) :: starEach [.Tuple [.Name S p2, .Name T p3] k p4] X.env := by rfl)
    (h4 : ((backTo pos (starEach [.Tuple [.Name S p2, .Name T p3] k p4] X.env)).any fun x => x.fst) = false := by rfl) (h5 : starEach [.Tuple [.Name S p2, .Name T p3] k p4] X.env = (false, eval (.Tuple [.Name S p2, .Name T p3] k p4) X.env) :: starEach [] X.env := by rfl)
    (h6 : starEach [.Name S p2, .Name T p3] X.env = (false, eval (.Name S p2) X.env) :: starEach [.Name T p3] X.env := by rfl) (h7 : starEach [.Name T p3] X.env = (false, eval (.Name T p3) X.env) :: starEach [] X.env := by rfl) :
    JD M (.Call (.Name x p1) [e, .Tuple [.Name S p2, .Name T p3] k p4] [] pos) ρ t P :=
  jd_of (pe_callB call_isiT hg hm (by rw [hx]; exact boot_isinstance) (pa_cons peT (pa_cons (pe_tup (pa_cons (pe_bltn (v := .ty Ss) hg1 hm1 hb1 rfl n1 n4) (pa_cons (pe_bltn (v := .ty Ts) hg2 hm2 hb2 rfl n2 n3) pa_nil h7) h6)) pa_nil h5) h3) (by rw [hx]; decide) (by rw [hx]; decide) h3 h4) fun σ G H S0 Q q =>
    h σ G H S0 _ fun G1 H1 v z t1 s1 d1 p => ⟨by rw [sizeLine_eq]; exact (by decide : 2 ≤ 16777216), fun tp htp => by
      have k1 := (S0.step s1).ok
      have s2 := k1.layO (o := .tup [.ty Ss, .ty Ts]) htp
      refine ⟨v, tp, [.ty Ss, .ty Ts], _, _, _, rfl, upd_same, .cons (.ty Ss) (.cons (.ty Ts) .nil), tyx_of (De.up s2.sub _ _ d1), ?_, q G1 _ _ _ t1 (s1.trans s2) (.bl (isiD Ss z || isiD Ts z)) p⟩
      unfold PySem.W.kitAny
      rw [isi_kit hS z]
      cases isiD Ss z with
      | true => rfl
      | false =>
        unfold PySem.W.kitAny
        rw [isi_kit hT z]
        cases isiD Ts z <;> rfl⟩
end
end Dl
end
section
set_option maxRecDepth 100000
set_option maxHeartbeats 4000000
namespace Dl
open PySem PySem.Spec PyProof.Rows L2

/-! ### tests and truth values -/
section
variable {X : Cx} {Wo : WO} {M : Md X.K Wo} {ρ : List B} {t : Rs} {P : PyData → Rs → Prop} {a b c e : Expr} {es rest : List Expr} {pos : Pos}
/-- an expression that gives True or False as a test -/
theorem jt_val {P : Bool → Rs → Prop} (h : JD M e ρ t fun x t1 => ∃ k, x = .bool k ∧ P k t1) (hw : ∀ (whole : Sem Value), PySem.isTrue e X.env whole = (do let v ← whole; standAt e.pos; holding [v] (truthy v)) := by intro _; rfl) : JT M e ρ t P :=
  jt_of (pt_val peT hw) fun σ G H S Q q => h σ G H S _ fun G1 H1 v x t1 s1 d1 ⟨k, e, p⟩ => by
    subst e
    exact ⟨k, d1.blE, q G1 H1 k t1 s1 p⟩
theorem jt_cmp {op : CmpOp} {r : R2} {P : Bool → Rs → Prop} (ho : OpR X (compareOp op) r) (hm : behindInMarks op b = false) (h : JD M a ρ t fun x t1 => JD M b ρ t1 fun y t2 => Bn M r x y t2 fun z t3 => ∃ k, z = .bool k ∧ P k t3) : JT M (.Compare a [op] [b] pos) ρ t P :=
  jt_of (pt_cmpR ho peT peT hm) fun σ G H S Q q => (dd_op h) σ G H S _ fun G1 H1 v x t1 s1 d1 ⟨k, e, p⟩ => by
    subst e
    exact ⟨k, d1.blE, q G1 H1 k t1 s1 p⟩
/-! comparisons as tests -/
theorem jt_lt {P : Bool → Rs → Prop} (h : JD M a ρ t fun x t1 => ∃ i, x = .int i ∧ JD M b ρ t1 fun y t2 => ∃ j, y = .int j ∧ P ((decide (i < j))) t2) : JT M (.Compare a [.Lt] [b] pos) ρ t P := jt_cmp op_lt (nomark _) (h.imp fun _ _ ⟨i, e, h1⟩ => h1.imp fun _ _ ⟨j, f, p⟩ => by
  subst e f
  exact bn_B0 (g := fun i j => decide (i < j)) ⟨_, rfl, p⟩)
theorem jt_le {P : Bool → Rs → Prop} (h : JD M a ρ t fun x t1 => ∃ i, x = .int i ∧ JD M b ρ t1 fun y t2 => ∃ j, y = .int j ∧ P ((decide (i ≤ j))) t2) : JT M (.Compare a [.LtE] [b] pos) ρ t P := jt_cmp op_le (nomark _) (h.imp fun _ _ ⟨i, e, h1⟩ => h1.imp fun _ _ ⟨j, f, p⟩ => by
  subst e f
  exact bn_B0 (g := fun i j => decide (i ≤ j)) ⟨_, rfl, p⟩)
theorem jt_gt {P : Bool → Rs → Prop} (h : JD M a ρ t fun x t1 => ∃ i, x = .int i ∧ JD M b ρ t1 fun y t2 => ∃ j, y = .int j ∧ P ((decide (i > j))) t2) : JT M (.Compare a [.Gt] [b] pos) ρ t P := jt_cmp op_gt (nomark _) (h.imp fun _ _ ⟨i, e, h1⟩ => h1.imp fun _ _ ⟨j, f, p⟩ => by
  subst e f
  exact bn_B0 (g := fun i j => decide (i > j)) ⟨_, rfl, p⟩)
theorem jt_ge {P : Bool → Rs → Prop} (h : JD M a ρ t fun x t1 => ∃ i, x = .int i ∧ JD M b ρ t1 fun y t2 => ∃ j, y = .int j ∧ P ((decide (i ≥ j))) t2) : JT M (.Compare a [.GtE] [b] pos) ρ t P := jt_cmp op_ge (nomark _) (h.imp fun _ _ ⟨i, e, h1⟩ => h1.imp fun _ _ ⟨j, f, p⟩ => by
  subst e f
  exact bn_B0 (g := fun i j => decide (i ≥ j)) ⟨_, rfl, p⟩)
theorem jt_eq {P : Bool → Rs → Prop} {k : Nat} (hr : Room k X.A) (h : JD M a ρ t fun x t1 => JD M b ρ t1 fun y t2 => SeqAt.shaped x = true ∧ SeqAt.shaped y = true ∧ P ((PyData.eqv x y)) t2) : JT M (.Compare a [.Eq] [b] pos) ρ t P :=
  jt_cmp (op_eqD hr.units) (nomark _) (h.imp fun x _ h1 => h1.imp fun y _ ⟨c, d, p⟩ => fun G H v w k hv hw Q q =>
    ⟨x, y, De.dp _ _ (De.up k.sub _ _ hv), De.dp _ _ (De.up k.sub _ _ hw), c, d, keep k q (.bl _) ⟨_, rfl, p⟩⟩)
theorem jt_ne {P : Bool → Rs → Prop} {k : Nat} (hr : Room k X.A) (h : JD M a ρ t fun x t1 => JD M b ρ t1 fun y t2 => SeqAt.shaped x = true ∧ SeqAt.shaped y = true ∧ P ((!PyData.eqv x y)) t2) : JT M (.Compare a [.NotEq] [b] pos) ρ t P :=
  jt_cmp (op_neD hr.units) (nomark _) (h.imp fun x _ h1 => h1.imp fun y _ ⟨c, d, p⟩ => fun G H v w k hv hw Q q =>
    ⟨x, y, De.dp _ _ (De.up k.sub _ _ hv), De.dp _ _ (De.up k.sub _ _ hw), c, d, keep k q (.bl _) ⟨_, rfl, p⟩⟩)
theorem jt_isN {P : Bool → Rs → Prop} {j : Nat} {p1 : Pos} (h : JD M a ρ t fun x t1 => P ((PyData.isN x)) t1) : JT M (.Compare a [.Is] [.Constant .none j p1] pos) ρ t P := jt_cmp op_isN (nomark _) (h.imp fun x _ p => jd_non (fun G H v w k hv hw Q q => ⟨hw.nonE, by
  rw [isN_of hv]
  exact keep k q (.bl _) ⟨_, rfl, p⟩⟩))
theorem jt_notN {P : Bool → Rs → Prop} {j : Nat} {p1 : Pos} (h : JD M a ρ t fun x t1 => P ((!PyData.isN x)) t1) : JT M (.Compare a [.IsNot] [.Constant .none j p1] pos) ρ t P := jt_cmp op_notN (nomark _) (h.imp fun x _ p => jd_non (fun G H v w k hv hw Q q => ⟨hw.nonE, by
  rw [isN_of hv]
  exact keep k q (.bl _) ⟨_, rfl, p⟩⟩))
theorem jt_ltS {P : Bool → Rs → Prop} (h : JD M a ρ t fun x t1 => ∃ i, x = .str i ∧ JD M b ρ t1 fun y t2 => ∃ j, y = .str j ∧ P ((decide (i.cps.toList < j.cps.toList))) t2) : JT M (.Compare a [.Lt] [b] pos) ρ t P := jt_cmp op_lt_str (nomark _) (h.imp fun _ _ ⟨i, e, h1⟩ => h1.imp fun _ _ ⟨j, f, p⟩ => by
  subst e f
  exact fun G H v w k hv hw Q q => ⟨i, j, hv.strE, hw.strE, keep k q (.bl _) ⟨_, rfl, p⟩⟩)
theorem jt_inL {P : Bool → Rs → Prop} {k : Nat} (hr : Room k X.A) (h : JD M a ρ t fun x t1 => JD M b ρ t1 fun y t2 => ∃ ys, y = .list ys ∧ SeqAt.shaped x = true ∧ SeqAt.shaped y = true ∧ P ((ys.any fun z => PyData.eqv z x)) t2) (hm : behindInMarks .In b = false := by rfl) : JT M (.Compare a [.In] [b] pos) ρ t P :=
  jt_cmp (op_inD (by have := hr.un; omega)) hm (h.imp fun x _ h1 => h1.imp fun y _ ⟨ys, e, c, d, p⟩ => by
    subst e
    exact fun G H v w k hv hw Q q => ⟨x, ys, De.dp _ _ (De.up k.sub _ _ hv), De.dp _ _ (De.up k.sub _ _ hw), c, d, keep k q (.bl _) ⟨_, rfl, p⟩⟩)
theorem jt_niL {P : Bool → Rs → Prop} {k : Nat} (hr : Room k X.A) (h : JD M a ρ t fun x t1 => JD M b ρ t1 fun y t2 => ∃ ys, y = .list ys ∧ SeqAt.shaped x = true ∧ SeqAt.shaped y = true ∧ P ((!ys.any fun z => PyData.eqv z x)) t2) (hm : behindInMarks .NotIn b = false := by rfl) : JT M (.Compare a [.NotIn] [b] pos) ρ t P :=
  jt_cmp (op_notInD (by have := hr.un; omega)) hm (h.imp fun x _ h1 => h1.imp fun y _ ⟨ys, e, c, d, p⟩ => by
    subst e
    exact fun G H v w k hv hw Q q => ⟨x, ys, De.dp _ _ (De.up k.sub _ _ hv), De.dp _ _ (De.up k.sub _ _ hw), c, d, keep k q (.bl _) ⟨_, rfl, p⟩⟩)
/-- truth of data -/
def truD : PyData → Bool
  | .none => false
  | .bool b => b
  | .int i => i != 0
  | .str y => (y.length : Int) != 0
  | .list xs => !xs.isEmpty
  | .tuple xs => !xs.isEmpty
  | .dict _ => false
theorem empty_eq {K : PySem.W.Frag} {G : Hp} {vs : List V} {ds : List PyData} (h : DeAll K G vs ds) : (!ds.isEmpty) = !vs.isEmpty := by
  cases h <;> rfl
theorem tru_of {K : PySem.W.Frag} {G H : Hp} (e : Same G H) {v : V} {x : PyData} (h : De K G v x) (hs : ∀ y, x = .str y → y.length ≤ 16777216) : TruV K v H (truD x) := by
  cases h with
  | non => rfl
  | bl b => rfl
  | int i => rfl
  | str y => exact ⟨line_of (hs y rfl), rfl⟩
  | lst g d => exact .inl ⟨_, .inl (.inl (e _ _ g)), empty_eq d⟩
  | tup g d => exact .inr (.inl ⟨_, sqt_up e g, empty_eq d⟩)
theorem jt_tru {P : Bool → Rs → Prop} (h : JD M e ρ t fun x t1 => (∀ y, x = .str y → y.length ≤ 16777216) ∧ P (truD x) t1) (hw : ∀ (whole : Sem Value), PySem.isTrue e X.env whole = (do let v ← whole; standAt e.pos; holding [v] (truthy v)) := by intro _; rfl) : JT M e ρ t P :=
  jt_of (pt_truth peT hw) fun σ G H S Q q => h σ G H S _ fun G1 H1 v x t1 s1 d1 ⟨hy, p⟩ => ⟨truD x, tru_of (S.step s1).ok.sub d1 hy, q G1 H1 _ t1 s1 p⟩
theorem jt_not {P : Bool → Rs → Prop} (h : JT M e ρ t fun k t1 => P (!k) t1) : JT M (.UnaryOp .Not e pos) ρ t P := jt_of (pt_not ptT) fun σ G H S Q q => h σ G H S _ fun G1 H1 k t1 s1 p => q G1 H1 _ t1 s1 p
theorem jt_w {P : Bool → Rs → Prop} (h : JW M e ρ t P) : JT M e ρ t P := jt_of (PW.pt pwT) h
theorem jw_and {P : Bool → Rs → Prop} (h : JT M a ρ t fun k t1 => (k = true → JW M (.BoolOp .And (b :: rest) pos) ρ t1 P) ∧ (k = false → P false t1)) : JW M (.BoolOp .And (a :: b :: rest) pos) ρ t P := jw_of (pw_and ptT pwT) fun σ G H S Q q =>
  h σ G H S _ fun G1 H1 k t1 s1 ⟨h1, h2⟩ => by
    cases k with
    | true => exact iteT (h1 rfl σ G1 H1 (S.step s1) _ fun G2 H2 k2 t2 s2 p => q G2 H2 k2 t2 (s1.trans s2) p)
    | false => exact iteF (q G1 H1 false t1 s1 (h2 rfl))
theorem jw_and1 {P : Bool → Rs → Prop} (h : JT M a ρ t P) : JW M (.BoolOp .And [a] pos) ρ t P := jw_of (pw_and1 ptT) h
theorem jw_or {P : Bool → Rs → Prop} (h : JT M a ρ t fun k t1 => (k = false → JW M (.BoolOp .Or (b :: rest) pos) ρ t1 P) ∧ (k = true → P true t1)) : JW M (.BoolOp .Or (a :: b :: rest) pos) ρ t P := jw_of (pw_or ptT pwT) fun σ G H S Q q =>
  h σ G H S _ fun G1 H1 k t1 s1 ⟨h1, h2⟩ => by
    cases k with
    | false => exact iteF (h1 rfl σ G1 H1 (S.step s1) _ fun G2 H2 k2 t2 s2 p => q G2 H2 k2 t2 (s1.trans s2) p)
    | true => exact iteT (q G1 H1 true t1 s1 (h2 rfl))
theorem jw_or1 {P : Bool → Rs → Prop} (h : JT M a ρ t P) : JW M (.BoolOp .Or [a] pos) ρ t P := jw_of (pw_or1 ptT) h
/-- a and b as a value, a True or False -/
theorem jd_and (h : JD M a ρ t fun x t1 => ∃ k, x = .bool k ∧ (k = true → JD M (.BoolOp .And (b :: rest) pos) ρ t1 P) ∧ (k = false → P (.bool false) t1)) : JD M (.BoolOp .And (a :: b :: rest) pos) ρ t P := jd_of (pe_and peT peT) fun σ G H S Q q =>
  h σ G H S _ fun G1 H1 v x t1 s1 d1 ⟨k, e, h1, h2⟩ => by
    subst e
    refine ⟨k, d1.blE, ?_⟩
    cases k with
    | true => exact iteT (h1 rfl σ G1 H1 (S.step s1) _ fun G2 H2 u z t2 s2 d2 p => q G2 H2 u z t2 (s1.trans s2) d2 p)
    | false => exact iteF (q G1 H1 _ _ t1 s1 (.bl false) (h2 rfl))
theorem jd_or (h : JD M a ρ t fun x t1 => ∃ k, x = .bool k ∧ (k = false → JD M (.BoolOp .Or (b :: rest) pos) ρ t1 P) ∧ (k = true → P (.bool true) t1)) : JD M (.BoolOp .Or (a :: b :: rest) pos) ρ t P := jd_of (pe_or peT peT) fun σ G H S Q q =>
  h σ G H S _ fun G1 H1 v x t1 s1 d1 ⟨k, e, h1, h2⟩ => by
    subst e
    refine ⟨k, d1.blE, ?_⟩
    cases k with
    | false => exact iteF (h1 rfl σ G1 H1 (S.step s1) _ fun G2 H2 u z t2 s2 d2 p => q G2 H2 u z t2 (s1.trans s2) d2 p)
    | true => exact iteT (q G1 H1 _ _ t1 s1 (.bl true) (h2 rfl))
theorem jd_one {op : BoolOp} (h : JD M a ρ t P) : JD M (.BoolOp op [a] pos) ρ t P := jd_of (pe_one peT) h
theorem jd_not (h : JD M a ρ t fun x t1 => ∃ k, x = .bool k ∧ P (.bool (!k)) t1) : JD M (.UnaryOp .Not a pos) ρ t P := jd_of (pe_not peT) fun σ G H S Q q =>
  h σ G H S _ fun G1 H1 v x t1 s1 d1 ⟨k, e, p⟩ => by
    subst e
    exact ⟨k, d1.blE, q G1 H1 _ _ t1 s1 (.bl _) p⟩
theorem jd_if (h : JT M c ρ t fun k t1 => (k = true → JD M a ρ t1 P) ∧ (k = false → JD M b ρ t1 P)) : JD M (.IfExp c a b pos) ρ t P := jd_of (pe_ifExp ptT peT peT) fun σ G H S Q q =>
  h σ G H S _ fun G1 H1 k t1 s1 ⟨h1, h2⟩ => by
    cases k with
    | true => exact iteT (h1 rfl σ G1 H1 (S.step s1) _ fun G2 H2 u z t2 s2 d2 p => q G2 H2 u z t2 (s1.trans s2) d2 p)
    | false => exact iteF (h2 rfl σ G1 H1 (S.step s1) _ fun G2 H2 u z t2 s2 d2 p => q G2 H2 u z t2 (s1.trans s2) d2 p)
theorem jd_neg (h : JD M a ρ t fun x t1 => ∃ i, x = .int i ∧ P (.int (-i)) t1) : JD M (.UnaryOp .USub a pos) ρ t P := jd_of (pe_un un_neg peT) fun σ G H S Q q =>
  h σ G H S _ fun G1 H1 v x t1 s1 d1 ⟨k, e, p⟩ => by
    subst e
    exact ⟨k, d1.intE, q G1 H1 _ _ t1 s1 (.int _) p⟩
/-- a <= b <= c over ints -/
theorem jd_chain {op op' : CmpOp} {g g' : Int → Int → Bool} (ho : OpR X (compareOp op) (rI0 fun i j => .bl (g i j))) (ho' : OpR X (compareOp op') (rI0 fun i j => .bl (g' i j)))
    (h : JD M a ρ t fun x t1 => ∃ i, x = .int i ∧ JD M b ρ t1 fun y t2 => ∃ j, y = .int j ∧ (g i j = false → P (.bool false) t2) ∧ (g i j = true → JD M c ρ t2 fun z t3 => ∃ k, z = .int k ∧ P (.bool (g' j k)) t3)) (hm : lastMarks [op, op'] [b, c] = false := by rfl) : JD M (.Compare a [op, op'] [b, c] pos) ρ t P :=
  jd_of (pe_chain ho ho' peT peT peT hm) fun σ G H S Q q => h σ G H S _ fun G1 H1 v x t1 s1 d1 ⟨i, e1, h1⟩ => h1 σ G1 H1 (S.step s1) _ fun G2 H2 w y t2 s2 d2 ⟨j, e2, hf, ht⟩ => by
    subst e1 e2
    refine ⟨i, j, d1.intE, d2.intE, g i j, rfl, ?_⟩
    cases hg : g i j with
    | true =>
      refine iteT (ht hg σ G2 H2 ((S.step s1).step s2) _ fun G3 H3 u z t3 s3 d3 ⟨k, e3, p⟩ => ?_)
      subst e3
      exact ⟨j, k, d2.intE, d3.intE, q G3 H3 _ _ t3 ((s1.trans s2).trans s3) (.bl _) p⟩
    | false => exact iteF (q G2 H2 _ _ t2 (s1.trans s2) (.bl _) (hf hg))
theorem jt_chain {P : Bool → Rs → Prop} {op op' : CmpOp} {g g' : Int → Int → Bool} (ho : OpR X (compareOp op) (rI0 fun i j => .bl (g i j))) (ho' : OpR X (compareOp op') (rI0 fun i j => .bl (g' i j)))
    (h : JD M a ρ t fun x t1 => ∃ i, x = .int i ∧ JD M b ρ t1 fun y t2 => ∃ j, y = .int j ∧ (g i j = false → P false t2) ∧ (g i j = true → JD M c ρ t2 fun z t3 => ∃ k, z = .int k ∧ P (g' j k) t3)) (hm : lastMarks [op, op'] [b, c] = false := by rfl) : JT M (.Compare a [op, op'] [b, c] pos) ρ t P :=
  jt_of (pt_chain ho ho' peT peT peT hm) fun σ G H S Q q => h σ G H S _ fun G1 H1 v x t1 s1 d1 ⟨i, e1, h1⟩ => h1 σ G1 H1 (S.step s1) _ fun G2 H2 w y t2 s2 d2 ⟨j, e2, hf, ht⟩ => by
    subst e1 e2
    refine ⟨i, j, d1.intE, d2.intE, g i j, rfl, ?_⟩
    cases hg : g i j with
    | true =>
      refine iteT (ht hg σ G2 H2 ((S.step s1).step s2) _ fun G3 H3 u z t3 s3 d3 ⟨k, e3, p⟩ => ?_)
      subst e3
      exact ⟨j, k, d2.intE, d3.intE, _, rfl, q G3 H3 _ t3 ((s1.trans s2).trans s3) p⟩
    | false => exact iteF ⟨_, rfl, q G2 H2 _ t2 (s1.trans s2) (hf hg)⟩
/-- over texts -/
theorem jd_chainS {op op' : CmpOp} {g g' : Str → Str → Bool} {r r' : R2} (ho : OpR X (compareOp op) r) (ho' : OpR X (compareOp op') r') (hr : ∀ i j H (Q : VK), Q (.bl (g i j)) H → r (.str i) (.str j) H Q) (hr' : ∀ i j H (Q : VK), Q (.bl (g' i j)) H → r' (.str i) (.str j) H Q)
    (h : JD M a ρ t fun x t1 => ∃ i, x = .str i ∧ JD M b ρ t1 fun y t2 => ∃ j, y = .str j ∧ (g i j = false → P (.bool false) t2) ∧ (g i j = true → JD M c ρ t2 fun z t3 => ∃ k, z = .str k ∧ P (.bool (g' j k)) t3))
    (hm : lastMarks [op, op'] [b, c] = false := by rfl) : JD M (.Compare a [op, op'] [b, c] pos) ρ t P :=
  jd_of (pe_chain ho ho' peT peT peT hm) fun σ G H S Q q => h σ G H S _ fun G1 H1 v x t1 s1 d1 ⟨i, e1, h1⟩ => h1 σ G1 H1 (S.step s1) _ fun G2 H2 w y t2 s2 d2 ⟨j, e2, hf, ht⟩ => by
    subst e1 e2
    rw [d1.strE, d2.strE]
    refine hr i j _ _ ⟨g i j, rfl, ?_⟩
    cases hg : g i j with
    | true =>
      refine iteT (ht hg σ G2 H2 ((S.step s1).step s2) _ fun G3 H3 u z t3 s3 d3 ⟨k, e3, p⟩ => ?_)
      subst e3
      rw [d3.strE]
      exact hr' j k _ _ (q G3 H3 _ _ t3 ((s1.trans s2).trans s3) (.bl _) p)
    | false => exact iteF (q G2 H2 _ _ t2 (s1.trans s2) (.bl _) (hf hg))
end

/-! ### defs -/
/-- what a def promises: of n arguments -/
def spD (K : PySem.W.Frag) (Wo : WO) (n : Nat) (S : List B → Rs → (B → Rs → Prop) → Prop) : Sp := fun vs H Q _ => ∃ (M : Md K Wo) (G : Hp) (bs : List B) (t : Rs) (P : B → Rs → Prop), Ok M t G H ∧ ArgAll M G vs bs ∧ bs.length = n ∧ S bs t P ∧
  (∀ (G' H' : Hp) (v : V) (x : PyData) (t' : Rs), Stp M t' G H G' H' → De K G' v x → P (.d x) t' → Q v H') ∧
  (∀ (G' H' : Hp) (l : Addr) (ws : List V) (xs : List PyData) (t' : Rs), Stp M t' G H G' H' → H l = none → G' l = none → H' l = some (.lst ws) → DeAll K G' ws xs → P (.own xs) t' → Q (.ref l) H')
/-- the def that stands at the name x, its promise, by at most level k -/
structure Def (P : Program) (w : World) (K : PySem.W.Frag) (Wo : WO) (mg : Str → Option Value) (base : Heap) (k : Nat) (x : Str) (n : Nat) (S : List B → Rs → (B → Rs → Prop) → Prop) : Prop where
  ex : ∃ (f : Addr) (fd : FuncData) (ps : List Str), FnOk P w K mg base CX0 k f fd ps (spD K Wo n S) ∧ mg x = some (.ref f) ∧ PySem.W.keepIn K (.ref f) = true ∧ Binds K fd ps []
section
variable {X : Cx} {Wo : WO} {M : Md X.K Wo} {ρ : List B} {t : Rs} {e : Expr} {es : List Expr} {p pos : Pos} {x : Str} {k j n : Nat} {S : List B → Rs → (B → Rs → Prop) → Prop}
theorem jd_call {P : PyData → Rs → Prop} (D : Def X.prog X.w X.K Wo X.mg X.base k x n S) (hr : Room j X.A) (hk : k ≤ j) (hg : Gl X x) (h : JA M (e :: es) ρ t fun bs t1 => bs.length = n ∧ S bs t1 fun b t2 => ∃ y, b = .d y ∧ P y t2)
    (h2 : (x == ("__debug__" : Str)) = false := by decide) (h3 : starEach (e :: es) X.env = (false, eval e X.env) :: starEach es X.env := by rfl)
    (h4 : (backTo pos (starEach es X.env)).any (·.1) = false := by rfl) : JD M (.Call (.Name x p) (e :: es) [] pos) ρ t P := by
  obtain ⟨f, fd, ps, F, hm, kp, hb⟩ := D.ex
  refine jd_of (pe_call F (hr.mono hk) hg hm kp hb .nil pass0 paT h2 h3 h4) fun σ G H S Q q => h σ G H S _ fun G1 H1 vs bs t1 s1 a1 ⟨hl, sp⟩ => ?_
  show spD X.K Wo n _ (vs ++ []) H1 Q E0
  rw [List.append_nil]
  refine ⟨M, G1, bs, t1, _, (S.step s1).ok, a1, hl, sp, fun G2 H2 v z t2 s2 d2 ⟨y, ey, py⟩ => ?_, fun G2 H2 l ws xs t2 s2 n g e a ⟨y, ey, py⟩ => (by cases ey)⟩
  cases ey
  exact q G2 H2 v z t2 (s1.trans s2) d2 py
theorem jl_call {P : List PyData → Rs → Prop} (D : Def X.prog X.w X.K Wo X.mg X.base k x n S) (hr : Room j X.A) (hk : k ≤ j) (hg : Gl X x) (h : JA M (e :: es) ρ t fun bs t1 => bs.length = n ∧ S bs t1 fun b t2 => ∃ y, b = .own y ∧ P y t2)
    (h2 : (x == ("__debug__" : Str)) = false := by decide) (h3 : starEach (e :: es) X.env = (false, eval e X.env) :: starEach es X.env := by rfl)
    (h4 : (backTo pos (starEach es X.env)).any (·.1) = false := by rfl) : JL M (.Call (.Name x p) (e :: es) [] pos) ρ t P := by
  obtain ⟨f, fd, ps, F, hm, kp, hb⟩ := D.ex
  refine jl_of (pe_call F (hr.mono hk) hg hm kp hb .nil pass0 paT h2 h3 h4) fun σ G H S Q q => h σ G H S _ fun G1 H1 vs bs t1 s1 a1 ⟨hl, sp⟩ => ?_
  show spD X.K Wo n _ (vs ++ []) H1 Q E0
  rw [List.append_nil]
  refine ⟨M, G1, bs, t1, _, (S.step s1).ok, a1, hl, sp, fun G2 H2 v z t2 s2 d2 ⟨y, ey, py⟩ => (by cases ey), fun G2 H2 l ws xs t2 s2 n g e a ⟨y, ey, py⟩ => ?_⟩
  cases ey
  exact q G2 H2 l ws _ t2 (s1.trans s2) (fresh_of s1 n) g e a py
/-- a def without arguments -/
theorem jl_call0 {P : List PyData → Rs → Prop} (D : Def X.prog X.w X.K Wo X.mg X.base k x 0 S) (hr : Room j X.A) (hk : k ≤ j) (hg : Gl X x) (h : S [] t fun b t2 => ∃ y, b = .own y ∧ P y t2)
    (h2 : (x == ("__debug__" : Str)) = false := by decide) : JL M (.Call (.Name x p) [] [] pos) ρ t P := by
  obtain ⟨f, fd, ps, F, hm, kp, hb⟩ := D.ex
  refine jl_of (pe_call0 F (hr.mono hk) hg hm kp hb .nil pass0 h2) fun σ G H S Q q => ?_
  show spD X.K Wo 0 _ ([] ++ []) H Q E0
  refine ⟨M, G, [], t, _, S.ok, .nil, rfl, h, fun G2 H2 v z t2 s2 d2 ⟨y, ey, py⟩ => (by cases ey), fun G2 H2 l ws xs t2 s2 n g e a ⟨y, ey, py⟩ => ?_⟩
  cases ey
  exact q G2 H2 l ws _ t2 s2 n g e a py
end
end Dl
end
section
set_option maxRecDepth 100000
set_option maxHeartbeats 4000000
namespace Dl
open PySem PySem.Spec PyProof.Rows L2

/-! ### statements -/
structure Dk where
  nx : List B → Rs → Prop
  rt : B → Rs → Prop
  bk : List B → Rs → Prop := fun _ _ => False
  ct : List B → Rs → Prop := fun _ _ => False
section
variable {K : PySem.W.Frag}
structure Fit {Wo : WO} (M : Md K Wo) (G1 : Hp) (D : Dk) (E : Ends) : Prop where
  nx : ∀ (σ : L2.St) (G H : Hp) (ρ : List B) (t : Rs), Sat M t G H σ ρ → Same G1 G → D.nx ρ t → E.nx σ H
  bk : ∀ (σ : L2.St) (G H : Hp) (ρ : List B) (t : Rs), Sat M t G H σ ρ → Same G1 G → D.bk ρ t → E.bk σ H
  ct : ∀ (σ : L2.St) (G H : Hp) (ρ : List B) (t : Rs), Sat M t G H σ ρ → Same G1 G → D.ct ρ t → E.ct σ H
  rt : ∀ (G H : Hp) (t : Rs) (v : V) (x : PyData), Stp M t M.G0 M.H0 G H → De K G v x → D.rt (.d x) t → E.rt v H
  rtL : ∀ (G H : Hp) (t : Rs) (l : Addr) (ws : List V) (xs : List PyData), Stp M t M.G0 M.H0 G H → M.H0 l = none → G l = none → H l = some (.lst ws) → DeAll K G ws xs → D.rt (.own xs) t → E.rt (.ref l) H
def DS {Wo : WO} (M : Md K Wo) (ts : TS) (ρ : List B) (t : Rs) (D : Dk) : Prop := ∀ (σ : L2.St) (G H : Hp), Sat M t G H σ ρ → ∀ E : Ends, Fit M G D E → ts E σ H
theorem Fit.mono {Wo : WO} {M : Md K Wo} {G G' : Hp} {D : Dk} {E : Ends} (F : Fit M G D E) (e : Same G G') : Fit M G' D E :=
  ⟨fun σ G2 H ρ t S s d => F.nx σ G2 H ρ t S (e.trans s) d, fun σ G2 H ρ t S s d => F.bk σ G2 H ρ t S (e.trans s) d, fun σ G2 H ρ t S s d => F.ct σ G2 H ρ t S (e.trans s) d, F.rt, F.rtL⟩
/-- a target takes data -/
def DG {Wo : WO} (M : Md K Wo) (g : TG) (x : PyData) (ρ : List B) (Q : List B → Prop) : Prop := ∀ (t : Rs) (G H : Hp) (σ : L2.St) (v : V), Sat M t G H σ ρ → De K G v x → ∀ R : L2.St → Hp → Prop, (∀ (σ' : L2.St) (ρ' : List B), Sat M t G H σ' ρ' → Q ρ' → R σ' H) → g v σ H R
end
section
variable {X : Cx} {Wo : WO} (M : Md X.K Wo)
abbrev JS (st : Stmt) (ρ : List B) (t : Rs) (D : Dk) : Prop := DS M (TsOf X st) ρ t D
abbrev JSs (st : List Stmt) (ρ : List B) (t : Rs) (D : Dk) : Prop := DS M (TssOf X st) ρ t D
end
section
variable {K : PySem.W.Frag} {Wo : WO} {M : Md K Wo} {t : Rs} {G H : Hp} {σ : L2.St} {ρ : List B}
theorem Sat.set {i : Nat} {v : V} {x : PyData} (S : Sat M t G H σ ρ) (d : De K G v x) : Sat M t G H (σ.set i (some v)) (ρ.set i (.d x)) where
  st := S.st
  ok := S.ok
  len := by rw [List.length_set, List.length_set, S.len]
  at_ := fun j b e => by
    by_cases hj : i = j
    · subst hj
      by_cases hl : i < ρ.length
      · rw [List.getElem?_set_self hl] at e
        cases e
        exact ⟨v, List.getElem?_set_self (by rw [S.len]; exact hl), d⟩
      · rw [List.getElem?_eq_none (by rw [List.length_set]; omega)] at e
        cases e
    · rw [List.getElem?_set_ne hj] at e ⊢
      exact S.at_ j b e
  dis := fun a b xs ys l n e1 e2 e3 e4 => by
    by_cases ha : i = a
    · subst ha
      by_cases hl : i < ρ.length
      · rw [List.getElem?_set_self hl] at e1
        cases e1
      · rw [List.getElem?_eq_none (by rw [List.length_set]; omega)] at e1
        cases e1
    · by_cases hb : i = b
      · subst hb
        by_cases hl : i < ρ.length
        · rw [List.getElem?_set_self hl] at e2
          cases e2
        · rw [List.getElem?_eq_none (by rw [List.length_set]; omega)] at e2
          cases e2
      · rw [List.getElem?_set_ne ha] at e1 e3
        rw [List.getElem?_set_ne hb] at e2 e4
        exact S.dis a b xs ys l n e1 e2 e3 e4
/-- a slot gets a new list of its own -/
theorem Sat.setL {i : Nat} {l : Addr} {ws : List V} {xs : List PyData} (S : Sat M t G H σ ρ) (n : l ≠ M.r) (g : G l = none) (h : H l = some (.lst ws)) (h0 : M.H0 l = none) (d : DeAll K G ws xs) (fresh : ∀ (j : Nat) (ys : List PyData), j ≠ i → ρ[j]? = some (.own ys) → σ[j]? ≠ some (some (.ref l))) :
    Sat M t G H (σ.set i (some (.ref l))) (ρ.set i (.own xs)) where
  st := S.st
  ok := S.ok
  len := by rw [List.length_set, List.length_set, S.len]
  at_ := fun j b e => by
    by_cases hj : i = j
    · subst hj
      by_cases hl : i < ρ.length
      · rw [List.getElem?_set_self hl] at e
        cases e
        exact ⟨l, ws, List.getElem?_set_self (by rw [S.len]; exact hl), n, g, h, h0, d⟩
      · rw [List.getElem?_eq_none (by rw [List.length_set]; omega)] at e
        cases e
    · rw [List.getElem?_set_ne hj] at e ⊢
      exact S.at_ j b e
  dis := fun a b ys zs k ne e1 e2 e3 e4 => by
    by_cases ha : i = a
    · subst ha
      rw [List.getElem?_set_ne ne] at e2 e4
      have hl : i < σ.length := by
        by_cases q : i < σ.length
        · exact q
        · rw [List.getElem?_eq_none (by rw [List.length_set]; omega)] at e3
          cases e3
      rw [List.getElem?_set_self hl] at e3
      cases e3
      exact fresh b zs (Ne.symm ne) e2 e4
    · rw [List.getElem?_set_ne ha] at e1 e3
      by_cases hb : i = b
      · subst hb
        have hl : i < σ.length := by
          by_cases q : i < σ.length
          · exact q
          · rw [List.getElem?_eq_none (by rw [List.length_set]; omega)] at e4
            cases e4
        rw [List.getElem?_set_self hl] at e4
        cases e4
        exact fresh a ys (fun z => ha z.symm) e1 e3
      · rw [List.getElem?_set_ne hb] at e2 e4
        exact S.dis a b ys zs k ne e1 e2 e3 e4
/-- a slot takes an object that stays as it is -/
theorem Sat.setI {i : Nat} {l : Addr} {o : HO} {m : Im} (S : Sat M t G H σ ρ) (h : G l = some o) (r : m.R l G o) : Sat M t G H (σ.set i (some (.ref l))) (ρ.set i (.im m)) where
  st := S.st
  ok := S.ok
  len := by rw [List.length_set, List.length_set, S.len]
  at_ := fun j b e => by
    by_cases hj : i = j
    · subst hj
      by_cases hl : i < ρ.length
      · rw [List.getElem?_set_self hl] at e
        cases e
        exact ⟨l, o, List.getElem?_set_self (by rw [S.len]; exact hl), h, r⟩
      · rw [List.getElem?_eq_none (by rw [List.length_set]; omega)] at e
        cases e
    · rw [List.getElem?_set_ne hj] at e ⊢
      exact S.at_ j b e
  dis := fun a b xs ys l n e1 e2 e3 e4 => by
    by_cases ha : i = a
    · subst ha
      by_cases hl : i < ρ.length
      · rw [List.getElem?_set_self hl] at e1
        cases e1
      · rw [List.getElem?_eq_none (by rw [List.length_set]; omega)] at e1
        cases e1
    · by_cases hb : i = b
      · subst hb
        by_cases hl : i < ρ.length
        · rw [List.getElem?_set_self hl] at e2
          cases e2
        · rw [List.getElem?_eq_none (by rw [List.length_set]; omega)] at e2
          cases e2
      · rw [List.getElem?_set_ne ha] at e1 e3
        rw [List.getElem?_set_ne hb] at e2 e4
        exact S.dis a b xs ys l n e1 e2 e3 e4
/-- a list that nobody held ahead -/
theorem Sat.fresh {l : Addr} (S : Sat M t G H σ ρ) (n : H l = none) {j : Nat} {ys : List PyData} (e : ρ[j]? = some (.own ys)) : σ[j]? ≠ some (some (.ref l)) := fun z => by
  obtain ⟨l', vs, e1, _, _, h, _⟩ := S.at_ j _ e
  rw [z] at e1
  cases e1
  rw [n] at h
  cases h
/-- less is known -/
theorem Sat.un {i : Nat} (S : Sat M t G H σ ρ) {u : Option V} : Sat M t G H (σ.set i u) (ρ.set i .un) where
  st := S.st
  ok := S.ok
  len := by rw [List.length_set, List.length_set, S.len]
  at_ := fun j b e => by
    by_cases hj : i = j
    · subst hj
      by_cases hl : i < ρ.length
      · rw [List.getElem?_set_self hl] at e
        cases e
        trivial
      · rw [List.getElem?_eq_none (by rw [List.length_set]; omega)] at e
        cases e
    · rw [List.getElem?_set_ne hj] at e ⊢
      exact S.at_ j b e
  dis := fun a b xs ys l n e1 e2 e3 e4 => by
    by_cases ha : i = a
    · subst ha
      by_cases hl : i < ρ.length
      · rw [List.getElem?_set_self hl] at e1
        cases e1
      · rw [List.getElem?_eq_none (by rw [List.length_set]; omega)] at e1
        cases e1
    · by_cases hb : i = b
      · subst hb
        by_cases hl : i < ρ.length
        · rw [List.getElem?_set_self hl] at e2
          cases e2
        · rw [List.getElem?_eq_none (by rw [List.length_set]; omega)] at e2
          cases e2
      · rw [List.getElem?_set_ne ha] at e1 e3
        rw [List.getElem?_set_ne hb] at e2 e4
        exact S.dis a b xs ys l n e1 e2 e3 e4
/-- the list of a slot becomes data -/
theorem Sat.freeze {i : Nat} {xs : List PyData} (S : Sat M t G H σ ρ) (e : ρ[i]? = some (.own xs)) : ∃ (l : Addr) (ws : List V), σ[i]? = some (some (.ref l)) ∧ H l = some (.lst ws) ∧ Same G (upd G l (.lst ws)) ∧ De K (upd G l (.lst ws)) (.ref l) (.list xs) ∧ Sat M t (upd G l (.lst ws)) H σ (ρ.set i (.d (.list xs))) := by
  obtain ⟨l, ws, e1, n, g, h, h0, d⟩ := S.at_ i _ e
  have up : Same G (upd G l (.lst ws)) := fun b u z => by
    rw [upd_ne (ne_of_none z g)]
    exact z
  have de : De K (upd G l (.lst ws)) (.ref l) (.list xs) := .lst upd_same (DeAll.up up _ _ d)
  refine ⟨l, ws, e1, h, up, de, ?_⟩
  refine ⟨S.st.freeze h0 g h, ⟨fun b u z => ?_, ?_, ?_⟩, by rw [List.length_set]; exact S.len, fun j b e2 => ?_, fun a b ys zs k ne e2 e3 e4 e5 => ?_⟩
  · by_cases hb : b = l
    · subst hb
      rw [upd_same] at z
      rw [h]
      exact z
    · rw [upd_ne hb] at z
      exact S.ok.sub b u z
  · rw [upd_ne (Ne.symm n)]
    exact S.ok.gr
  · obtain ⟨o, q, w⟩ := S.ok.rd
    exact ⟨o, q, M.up up w⟩
  · by_cases hj : i = j
    · subst hj
      rw [List.getElem?_set_self (by
        by_cases q : i < ρ.length
        · exact q
        · rw [List.getElem?_eq_none (by omega)] at e
          cases e)] at e2
      cases e2
      exact ⟨.ref l, e1, de⟩
    · rw [List.getElem?_set_ne hj] at e2
      have s := S.at_ j b e2
      cases b with
      | un => trivial
      | rd => exact s
      | d x =>
        obtain ⟨v, e3, h3⟩ := s
        exact ⟨v, e3, De.up up x v h3⟩
      | own ys =>
        obtain ⟨l2, vs, e3, n2, g2, h2, h02, d2⟩ := s
        refine ⟨l2, vs, e3, n2, ?_, h2, h02, DeAll.up up _ _ d2⟩
        have : l2 ≠ l := fun z => by
          subst z
          exact S.dis i j xs ys l2 hj e e2 e1 e3
        rw [upd_ne this]
        exact g2
      | im m =>
        obtain ⟨l2, o, e3, h2, r⟩ := s
        exact ⟨l2, o, e3, up _ _ h2, m.up up r⟩
  · by_cases ha : i = a
    · subst ha
      rw [List.getElem?_set_self (by
        by_cases q : i < ρ.length
        · exact q
        · rw [List.getElem?_eq_none (by omega)] at e
          cases e)] at e2
      cases e2
    · by_cases hb : i = b
      · subst hb
        rw [List.getElem?_set_self (by
          by_cases q : i < ρ.length
          · exact q
          · rw [List.getElem?_eq_none (by omega)] at e
            cases e)] at e3
        cases e3
      · rw [List.getElem?_set_ne ha] at e2
        rw [List.getElem?_set_ne hb] at e3
        exact S.dis a b ys zs k ne e2 e3 e4 e5
/-- the list of a slot is changed in place -/
theorem Sat.write {i : Nat} {xs ys : List PyData} {l : Addr} {ws : List V} (S : Sat M t G H σ ρ) (e : ρ[i]? = some (.own xs)) (e1 : σ[i]? = some (some (.ref l))) (d : DeAll K G ws ys) : Sat M t G (upd H l (.lst ws)) σ (ρ.set i (.own ys)) := by
  obtain ⟨l', vs, e1', n, g, h, h0, _⟩ := S.at_ i _ e
  rw [e1] at e1'
  cases e1'
  have hi : i < ρ.length := by
    by_cases q : i < ρ.length
    · exact q
    · rw [List.getElem?_eq_none (by omega)] at e
      cases e
  have sub : Same G (upd H l (.lst ws)) := fun b u z => by
    rw [upd_ne (ne_of_none z g)]
    exact S.ok.sub b u z
  have rd : ∃ o, (upd H l (.lst ws)) M.r = some o ∧ Wo t G o := by
    obtain ⟨o, q, w⟩ := S.ok.rd
    refine ⟨o, ?_, w⟩
    rw [upd_ne (Ne.symm n)]
    exact q
  refine ⟨⟨S.st.gg, fun b u nb z => ?_, S.st.fr, sub, rd⟩, ⟨sub, S.ok.gr, rd⟩, by rw [List.length_set]; exact S.len, fun j b e2 => ?_, fun a b ps qs k ne e2 e3 e4 e5 => ?_⟩
  · rw [upd_ne (ne_of_none z h0)]
    exact S.st.hh b u nb z
  · by_cases hj : i = j
    · subst hj
      rw [List.getElem?_set_self hi] at e2
      cases e2
      exact ⟨l, ws, e1, n, g, upd_same, h0, d⟩
    · rw [List.getElem?_set_ne hj] at e2
      have s := S.at_ j b e2
      cases b with
      | un => trivial
      | rd => exact s
      | d x => exact s
      | own zs =>
        obtain ⟨l2, us, e3, n2, g2, h2, h02, d2⟩ := s
        refine ⟨l2, us, e3, n2, g2, ?_, h02, d2⟩
        have : l2 ≠ l := fun z => by
          subst z
          exact S.dis i j xs zs l2 hj e e2 e1 e3
        rw [upd_ne this]
        exact h2
      | im m => exact s
  · have own : ∀ (c : Nat) (zs : List PyData), (ρ.set i (.own ys))[c]? = some (.own zs) → ∃ zs', ρ[c]? = some (.own zs') := fun c zs z => by
      by_cases hc : i = c
      · subst hc
        exact ⟨_, e⟩
      · rw [List.getElem?_set_ne hc] at z
        exact ⟨_, z⟩
    obtain ⟨ps', q1⟩ := own a ps e2
    obtain ⟨qs', q2⟩ := own b qs e3
    exact S.dis a b ps' qs' k ne q1 q2 e4 e5
theorem Sat.ne_r (S : Sat M t G H σ ρ) {l : Addr} (n : H l = none) : l ≠ M.r := fun z => by
  obtain ⟨o, q, _⟩ := S.ok.rd
  rw [z, q] at n
  cases n
theorem DS.imp {ts : TS} {D D' : Dk} (h : DS M ts ρ t D) (i1 : ∀ ρ t, D.nx ρ t → D'.nx ρ t) (i2 : ∀ b t, D.rt b t → D'.rt b t) (i3 : ∀ ρ t, D.bk ρ t → D'.bk ρ t) (i4 : ∀ ρ t, D.ct ρ t → D'.ct ρ t) : DS M ts ρ t D' := fun σ G H S E F =>
  h σ G H S E ⟨fun σ G H ρ t s m d => F.nx σ G H ρ t s m (i1 _ _ d), fun σ G H ρ t s m d => F.bk σ G H ρ t s m (i3 _ _ d), fun σ G H ρ t s m d => F.ct σ G H ρ t s m (i4 _ _ d), fun G H t v x s e d => F.rt G H t v x s e (i2 _ _ d), fun G H t l ws xs s a b c e d => F.rtL G H t l ws xs s a b c e (i2 _ _ d)⟩
end

section
variable {X : Cx} {Wo : WO} {M : Md X.K Wo} {ρ : List B} {t : Rs} {D : Dk} {st : Stmt} {rest : List Stmt} {e c : Expr} {es : List Expr} {pos : Pos}
theorem js_of {ts : TS} (h : PS X st ts) (d : DS M ts ρ t D) : JS M st ρ t D := fun σ G H S E F => TsOf.of h (d σ G H S E F)
theorem jss_nil (h : D.nx ρ t) : JSs M [] ρ t D := fun σ G H S E F => TssOf.of pss_nil (F.nx σ G H ρ t S (Same.refl _) h)
theorem jss_cons (h : JS M st ρ t { D with nx := fun ρ' t' => JSs M rest ρ' t' D }) : JSs M (st :: rest) ρ t D := fun σ G H S E F => TssOf.of (pss_cons psT pssT) (h σ G H S { E with nx := fun σ' H' => TssOf X rest E σ' H' } ⟨fun σ' G' H' ρ' t' S' m h' => h' σ' G' H' S' E (F.mono m), F.bk, F.ct, F.rt, F.rtL⟩)
theorem jss_one (h : JS M st ρ t D) : JSs M [st] ρ t D := fun σ G H S E F => TssOf.of (pss_one psT) (h σ G H S E F)
theorem js_if {a b : List Stmt} (h : JT M c ρ t fun k t1 => (k = true → JSs M a ρ t1 D) ∧ (k = false → JSs M b ρ t1 D)) : JS M (.If c a b pos) ρ t D := js_of (ps_if ptT pssT pssT) fun σ G H S E F => h σ G H S _ fun G1 H1 k t1 s1 ⟨h1, h2⟩ => by
  cases k with
  | true => exact iteT (h1 rfl σ G1 H1 (S.step s1) E (F.mono s1.gg))
  | false => exact iteF (h2 rfl σ G1 H1 (S.step s1) E (F.mono s1.gg))
theorem js_ret (h : JD M e ρ t fun x t1 => D.rt (.d x) t1) : JS M (.Return (some e) pos) ρ t D := js_of (ps_ret peT) fun σ G H S E F => h σ G H S _ fun G1 H1 v x t1 s1 d1 p => F.rt G1 H1 t1 v x (S.st.trans s1) d1 p
theorem js_retL (h : JL M e ρ t fun xs t1 => D.rt (.own xs) t1) : JS M (.Return (some e) pos) ρ t D := js_of (ps_ret peT) fun σ G H S E F => h σ G H S _ fun G1 H1 l ws xs t1 s1 n g e a p => F.rtL G1 H1 t1 l ws xs (S.st.trans s1) (fresh_of S.st n) g e a p
theorem js_retN (h : D.rt (.d .none) t) : JS M (.Return none pos) ρ t D := js_of ps_retN fun σ G H S E F => F.rt G H t .non .none S.st .non h
theorem js_expr (h : JD M e ρ t fun _ t1 => D.nx ρ t1) (hs : swapsWith e none pos.line X.env = pure false := by rfl) : JS M (.Expr e pos) ρ t D := js_of (ps_expr peT hs) fun σ G H S E F => h σ G H S _ fun G1 H1 v x t1 s1 d1 p => F.nx σ G1 H1 ρ t1 (S.step s1) s1.gg p
theorem js_cont (h : D.ct ρ t) : JS M (.Continue pos) ρ t D := js_of ps_continue fun σ G H S E F => F.ct σ G H ρ t S (Same.refl _) h
theorem js_break (h : D.bk ρ t) : JS M (.Break pos) ρ t D := js_of ps_break fun σ G H S E F => F.bk σ G H ρ t S (Same.refl _) h
theorem js_pass (h : D.nx ρ t) : JS M (.Pass pos) ρ t D := js_of ps_pass fun σ G H S E F => F.nx σ G H ρ t S (Same.refl _) h
theorem js_set (i : Nat) {x : Str} {pos' : Pos} (hN : X.N.Nodup) (h : JD M e ρ t fun y t1 => D.nx (ρ.set i (.d y)) t1) (hi : X.N[i]? = some x := by rfl) (hx : L2.Loc X.env.scope x := by exact Or.inl rfl) (hs : swapsWith e (some (.Name x pos')) pos.line X.env = pure false := by rfl)
    (hf : X.fn x = true ∨ X.env.scope.names.lookup x = some .local := by first | exact .inl rfl | exact .inr rfl) : JS M (.Assign [.Name x pos'] e pos) ρ t D := js_of (ps_set hN hi hx peT hs hf) fun σ G H S E F =>
  h σ G H S _ fun G1 H1 v y t1 s1 d1 p => F.nx _ G1 H1 _ t1 ((S.step s1).set d1) s1.gg p
theorem js_setL (i : Nat) {x : Str} {pos' : Pos} (hN : X.N.Nodup) (h : JL M e ρ t fun ys t1 => D.nx (ρ.set i (.own ys)) t1) (hi : X.N[i]? = some x := by rfl) (hx : L2.Loc X.env.scope x := by exact Or.inl rfl) (hs : swapsWith e (some (.Name x pos')) pos.line X.env = pure false := by rfl)
    (hf : X.fn x = true ∨ X.env.scope.names.lookup x = some .local := by first | exact .inl rfl | exact .inr rfl) : JS M (.Assign [.Name x pos'] e pos) ρ t D := js_of (ps_set hN hi hx peT hs hf) fun σ G H S E F =>
  h σ G H S _ fun G1 H1 l ws xs t1 s1 n g e1 a p => F.nx _ G1 H1 _ t1 ((S.step s1).setL (S.ne_r n) g e1 (fresh_of S.st n) a fun j ys _ z => S.fresh n z) s1.gg p
/-- a slot's list is data from here on -/
theorem jss_freeze (i : Nat) {st : List Stmt} {xs : List PyData} (e : ρ[i]? = some (.own xs)) (h : JSs M st (ρ.set i (.d (.list xs))) t D) : JSs M st ρ t D := fun σ G H S E F => by
  obtain ⟨l, ws, _, _, up, _, S'⟩ := S.freeze e
  exact h σ _ H S' E (F.mono up)
theorem js_freeze (i : Nat) {xs : List PyData} (e : ρ[i]? = some (.own xs)) (h : JS M st (ρ.set i (.d (.list xs))) t D) : JS M st ρ t D := fun σ G H S E F => by
  obtain ⟨l, ws, _, _, up, _, S'⟩ := S.freeze e
  exact h σ _ H S' E (F.mono up)
/-- the list of a slot is handed back -/
theorem js_retO (i : Nat) {x : Str} {p : Pos} {xs : List PyData} (hr : ρ[i]? = some (.own xs)) (h : D.rt (.own xs) t) (hN : X.N[i]? = some x := by rfl) (hv : Vis X.env.scope x := by first | exact Or.inl rfl | exact Or.inr (Or.inl rfl) | exact Or.inr (Or.inr rfl))
    (hd : (x == ("__debug__" : Str)) = false := by decide) (hcd : (x == ("__classdict__" : Str)) = false := by decide) : JS M (.Return (some (.Name x p)) pos) ρ t D := js_of (ps_ret (pv i hN hv hd hcd)) fun σ G H S E F => by
  obtain ⟨l, ws, e1, n, g, h1, h0, d⟩ := S.at_ i _ hr
  exact ⟨.ref l, e1, F.rtL G H t l ws xs S.st h0 g h1 d h⟩
/-! ### targets -/
theorem dg_name {K : PySem.W.Frag} {Wo : WO} {M : Md K Wo} {i : Nat} {x : PyData} {ρ : List B} {Q : List B → Prop} (h : Q (ρ.set i (.d x))) : DG M (gName i) x ρ Q := fun t G H σ v S d R r => r _ _ (S.set d) h
theorem dg_two {K : PySem.W.Frag} {Wo : WO} {M : Md K Wo} {i j : Nat} {x y : PyData} {ρ : List B} {Q : List B → Prop} (h : Q ((ρ.set i (.d x)).set j (.d y))) : DG M (gTup K 2 (gCons (gName i) (gCons (gName j) gNil))) (.tuple [x, y]) ρ Q := fun t G H σ v S d R r => by
  obtain ⟨a, vs, rfl, st, da⟩ := d.tupE
  cases da with
  | cons d1 da => cases da with
    | cons d2 da =>
      cases da
      exact ⟨a, _, rfl, sqt_up S.ok.sub st, rfl, _, _, rfl, _, _, rfl, rfl, r _ _ ((S.set d1).set d2) h⟩
theorem dg_three {K : PySem.W.Frag} {Wo : WO} {M : Md K Wo} {i j k : Nat} {x y z : PyData} {ρ : List B} {Q : List B → Prop} (h : Q (((ρ.set i (.d x)).set j (.d y)).set k (.d z))) : DG M (gTup K 3 (gCons (gName i) (gCons (gName j) (gCons (gName k) gNil)))) (.tuple [x, y, z]) ρ Q := fun t G H σ v S d R r => by
  obtain ⟨a, vs, rfl, st, da⟩ := d.tupE
  cases da with
  | cons d1 da => cases da with
    | cons d2 da => cases da with
      | cons d3 da =>
        cases da
        exact ⟨a, _, rfl, sqt_up S.ok.sub st, rfl, _, _, rfl, _, _, rfl, _, _, rfl, rfl, r _ _ (((S.set d1).set d2).set d3) h⟩
theorem js_asg {tg : Expr} {g : TG} (hg : PG X tg g) (h : JD M e ρ t fun y t1 => DG M g y ρ fun ρ' => D.nx ρ' t1) (hs : swapsWithSole [tg] e pos.line X.env = pure false := by rfl) (hw : swappedStores [tg] e X.env = pure none := by rfl)
    (h1 : (assignEach [tg] X.env).map (·.2) = [assign tg X.env] := by rfl) : JS M (.Assign [tg] e pos) ρ t D := js_of (ps_asg peT hg hs hw h1) fun σ G H S E F =>
  h σ G H S _ fun G1 H1 v y t1 s1 d1 p => p t1 G1 H1 σ v (S.step s1) d1 _ fun σ' ρ' S' q => F.nx σ' G1 H1 ρ' t1 S' s1.gg q
/-- a, b = e1, e2 -/
theorem js_par (i j : Nat) {x y : Str} {a b : Expr} {px py pt pt2 : Pos} {kt k2 : Nat} (hc : X.calm = true) (hN : X.N.Nodup) (hij : i ≠ j) (hw : swappedStores [.Tuple [.Name x px, .Name y py] kt pt] (.Tuple [a, b] k2 pt2) X.env = pure (some [x, y]))
    (h : JA M [a, b] ρ t fun bs t1 => ∃ u v, bs = [.d u, .d v] ∧ D.nx ((ρ.set i (.d u)).set j (.d v)) t1)
    (hi : X.N[i]? = some x := by rfl) (hj : X.N[j]? = some y := by rfl) (hx : X.env.scope.names.lookup x = some .local := by rfl) (hy : X.env.scope.names.lookup y = some .local := by rfl)
    (hs : swapsWithSole [.Tuple [.Name x px, .Name y py] kt pt] (.Tuple [a, b] k2 pt2) pos.line X.env = pure false := by rfl) : JS M (.Assign [.Tuple [.Name x px, .Name y py] kt pt] (.Tuple [a, b] k2 pt2) pos) ρ t D :=
  js_of (ps_par hc hN hi hj hij hx hy paT hw hs) fun σ G H S E F => h σ G H S _ fun G1 H1 vs bs t1 s1 a1 ⟨u, v, e, p⟩ => by
    subst e
    cases a1 with
    | cons d1 r => cases r with
      | cons d2 r =>
        cases r
        cases d1 with
        | d d1 => cases d2 with
          | d d2 => exact ⟨_, _, rfl, F.nx _ G1 H1 _ t1 (((S.step s1).set d1).set d2) s1.gg p⟩
theorem js_par3 (i j k : Nat) {x y z : Str} {a b c : Expr} {px py pz pt pt2 : Pos} {kt k2 : Nat} (ps : ∀ {ta : TA}, PA X [a, b, c] ta → PS X st (tPar3 i j k ta))
    (h : JA M [a, b, c] ρ t fun bs t1 => ∃ u v w, bs = [.d u, .d v, .d w] ∧ D.nx (((ρ.set i (.d u)).set j (.d v)).set k (.d w)) t1) : JS M st ρ t D :=
  js_of (ps paT) fun σ G H S E F => h σ G H S _ fun G1 H1 vs bs t1 s1 a1 ⟨u, v, w, e, p⟩ => by
    subst e
    cases a1 with
    | cons d1 r => cases r with
      | cons d2 r => cases r with
        | cons d3 r =>
          cases r
          cases d1 with
          | d d1 => cases d2 with
            | d d2 => cases d3 with
              | d d3 => exact ⟨_, _, _, rfl, F.nx _ G1 H1 _ t1 ((((S.step s1).set d1).set d2).set d3) s1.gg p⟩
end
end Dl
end
section
set_option maxRecDepth 100000
set_option maxHeartbeats 4000000
namespace Dl
open PySem PySem.Spec PyProof.Rows L2

/-! ### what is walked -/
@[irreducible] def TiOf (X : Cx) (tg e : Expr) : TI := fun σ H R => ∀ (pins : List (Addr × Obj)) (s : Shared), Inv X pins σ H s →
  wpAny (model X.prog X.w) X.A (eval e X.env) (fun v s1 => wpAny (model X.prog X.w) X.A (pyIter v) (PIE X pins σ tg R) X.xe s1) X.xe s
theorem piT {X : Cx} {tg e : Expr} : PI X tg e (TiOf X tg e) := by unfold TiOf; exact ⟨fun pins s σ H R I h => h pins s I⟩
theorem TiOf.of {X : Cx} {tg e : Expr} {ti : TI} {σ : L2.St} {H : Hp} (h : PI X tg e ti) {R : It → Hp → Prop} (q : ti σ H R) : TiOf X tg e σ H R := by unfold TiOf; exact fun pins s I => h.run pins s σ H R I q
/-- the walk J gives the data xs, one after another, from the data heap G0 on -/
structure Wk {K : PySem.W.Frag} {Wo : WO} (M : Md K Wo) (G0 : Hp) (J : It) (xs : List PyData) : Prop where
  stop : ∀ (i : Nat) (t : Rs) (G H : Hp), Same G0 G → Ok M t G H → xs.length ≤ i → J.stop i H
  go : ∀ (i : Nat) (t : Rs) (G H : Hp), Same G0 G → Ok M t G H → i < xs.length → J.go i H
  yld : ∀ (i : Nat) (t : Rs) (G H : Hp) (x : V) (H' : Hp), Same G0 G → Ok M t G H → J.yld i H x H' → i < xs.length → ∃ G' d, Stp M t G H G' H' ∧ xs[i]? = some d ∧ De K G' x d
def DI {K : PySem.W.Frag} {Wo : WO} (M : Md K Wo) (ti : TI) (ρ : List B) (t : Rs) (P : List PyData → Rs → Prop) : Prop := ∀ (σ : L2.St) (G H : Hp), Sat M t G H σ ρ → ∀ R : It → Hp → Prop,
  (∀ (G' H' : Hp) (J : It) (xs : List PyData) (t' : Rs), Stp M t' G H G' H' → Wk M G' J xs → P xs t' → R J H') → ti σ H R
section
variable {X : Cx} {Wo : WO} (M : Md X.K Wo)
abbrev JI (tg e : Expr) (ρ : List B) (t : Rs) (P : List PyData → Rs → Prop) : Prop := DI M (TiOf X tg e) ρ t P
end
theorem wk_lst {K : PySem.W.Frag} {Wo : WO} {M : Md K Wo} {G0 : Hp} {a : Addr} {vs : List V} {xs : List PyData} (h : G0 a = some (.lst vs)) (d : DeAll K G0 vs xs) : Wk M G0 (Itl K a) xs where
  stop := fun i t G H e k hi => ⟨vs, .inl (.inl (k.sub _ _ (e _ _ h))), by rw [d.length]; exact hi⟩
  go := fun i t G H e k hi => ⟨vs, vs[i]'(by rw [d.length]; exact hi), .inl (.inl (k.sub _ _ (e _ _ h))), List.getElem?_eq_getElem _⟩
  yld := fun i t G H x H' e k y hi => by
    obtain ⟨rfl, y⟩ := y
    have e1 := y vs (.inl (.inl (k.sub _ _ (e _ _ h))))
    obtain ⟨z, e2, d2⟩ := d.ofV e1
    exact ⟨G, z, k.refl, e2, De.up e _ _ d2⟩
theorem wk_tup {K : PySem.W.Frag} {Wo : WO} {M : Md K Wo} {G0 : Hp} {a : Addr} {vs : List V} {xs : List PyData} (h : SqT K G0 a vs) (d : DeAll K G0 vs xs) : Wk M G0 (Itt K a) xs where
  stop := fun i t G H e k hi => ⟨vs, sqt_up (e.trans k.sub) h, by rw [d.length]; exact hi⟩
  go := fun i t G H e k hi => ⟨vs, vs[i]'(by rw [d.length]; exact hi), sqt_up (e.trans k.sub) h, List.getElem?_eq_getElem _⟩
  yld := fun i t G H x H' e k y hi => by
    obtain ⟨rfl, y⟩ := y
    have e1 := y vs (sqt_up (e.trans k.sub) h)
    obtain ⟨z, e2, d2⟩ := d.ofV e1
    exact ⟨G, z, k.refl, e2, De.up e _ _ d2⟩
/-- lo, lo + 1, .. -/
def rngD (lo : Int) (n : Nat) : List PyData := (List.range n).map fun i => .int (lo + (i : Nat))
theorem rngD_len (lo : Int) (n : Nat) : (rngD lo n).length = n := by simp [rngD]
theorem rngD_at {lo : Int} {n i : Nat} (h : i < n) : (rngD lo n)[i]? = some (.int (lo + (i : Nat))) := by simp [rngD, h]
theorem rngD_of {lo : Int} {n i : Nat} {x : PyData} (h : (rngD lo n)[i]? = some x) : i < n ∧ x = .int (lo + (i : Nat)) := by
  by_cases hi : i < n
  · rw [rngD_at hi] at h
    exact ⟨hi, (Option.some.inj h).symm⟩
  · rw [List.getElem?_eq_none (by rw [rngD_len]; omega)] at h
    cases h
theorem wk_rng {K : PySem.W.Frag} {Wo : WO} {M : Md K Wo} {G0 : Hp} {lo : Int} {n : Nat} : Wk M G0 (Itr lo n) (rngD lo n) where
  stop := fun i t G H e k hi => by
    rw [rngD_len] at hi
    exact hi
  go := fun i t G H e k hi => by
    rw [rngD_len] at hi
    exact hi
  yld := fun i t G H x H' e k y hi => by
    obtain ⟨rfl, rfl⟩ := y
    rw [rngD_len] at hi
    exact ⟨G, _, k.refl, rngD_at hi, .int _⟩
def sgnD (x : Str) : List PyData := x.cps.toList.map fun c => .str ⟨#[c]⟩
theorem wk_str {K : PySem.W.Frag} {Wo : WO} {M : Md K Wo} {G0 : Hp} {x : Str} : Wk M G0 (Its x) (sgnD x) where
  stop := fun i t G H e k hi => by
    simp only [sgnD, List.length_map, Array.length_toList] at hi
    exact hi
  go := fun i t G H e k hi => by
    simp only [sgnD, List.length_map, Array.length_toList] at hi
    exact hi
  yld := fun i t G H v H' e k y hi => by
    obtain ⟨rfl, c, ec, rfl⟩ := y
    refine ⟨G, .str ⟨#[c]⟩, k.refl, ?_, .str _⟩
    simp only [sgnD, List.getElem?_map, Array.getElem?_toList, ec]
    rfl
section
variable {X : Cx} {Wo : WO} {M : Md X.K Wo} {ρ : List B} {t : Rs} {e a b tg : Expr} {P : List PyData → Rs → Prop} {pos p : Pos}
theorem ji_lst (h : JD M e ρ t fun x t1 => ∃ xs, x = .list xs ∧ P xs t1) : JI M tg e ρ t P := fun σ G H S R r => TiOf.of (pi_list peT) (h σ G H S _ fun G1 H1 v x t1 s1 d1 ⟨xs, e, p⟩ => by
  subst e
  obtain ⟨a, vs, rfl, st, da⟩ := d1.lstE
  exact ⟨a, rfl, ⟨vs, .inl (.inl ((S.step s1).ok.sub _ _ st))⟩, r G1 H1 _ xs t1 s1 (wk_lst st da) p⟩)
theorem ji_tup (h : JD M e ρ t fun x t1 => ∃ xs, x = .tuple xs ∧ P xs t1) : JI M tg e ρ t P := fun σ G H S R r => TiOf.of (pi_tup peT) (h σ G H S _ fun G1 H1 v x t1 s1 d1 ⟨xs, e, p⟩ => by
  subst e
  obtain ⟨a, vs, rfl, st, da⟩ := d1.tupE
  exact ⟨a, rfl, ⟨vs, sqt_up (S.step s1).ok.sub st⟩, r G1 H1 _ xs t1 s1 (wk_tup st da) p⟩)
theorem ji_str (h : JD M e ρ t fun x t1 => ∃ z, x = .str z ∧ P (sgnD z) t1) : JI M tg e ρ t P := fun σ G H S R r => TiOf.of (pi_str peT) (h σ G H S _ fun G1 H1 v x t1 s1 d1 ⟨z, e, p⟩ => by
  subst e
  exact ⟨z, d1.strE, r G1 H1 _ _ t1 s1 wk_str p⟩)
theorem ji_rng1 (hg : Gl X (Str.ofString "range")) (hm : X.mg (Str.ofString "range") = none) (h : JD M a ρ t fun x t1 => ∃ j : Int, x = .int j ∧ -(2 ^ 62) ≤ j ∧ j < 2 ^ 62 ∧ P (rngD 0 j.toNat) t1)
    (hs : starEach [a] X.env = [(false, eval a X.env)] := by rfl) : JI M tg (.Call (.Name (Str.ofString "range") p) [a] [] pos) ρ t P := fun σ G H S R r => TiOf.of (pi_range1 hg hm (pa_cons peT pa_nil hs) hs) (h σ G H S _ fun G1 H1 v x t1 s1 d1 ⟨j, e, h1, h2, q⟩ => by
  subst e
  refine ⟨j, ?_, h1, h2, r G1 H1 _ _ t1 s1 wk_rng q⟩
  rw [d1.intE])
theorem ji_rng2 (hg : Gl X (Str.ofString "range")) (hm : X.mg (Str.ofString "range") = none) (h : JD M a ρ t fun x t1 => ∃ i : Int, x = .int i ∧ JD M b ρ t1 fun y t2 => ∃ j : Int, y = .int j ∧ (-(2 ^ 62) ≤ i ∧ i < 2 ^ 62 ∧ -(2 ^ 62) ≤ j ∧ j < 2 ^ 62) ∧ P (rngD i (j - i).toNat) t2)
    (hs : starEach [a, b] X.env = [(false, eval a X.env), (false, eval b X.env)] := by rfl) (hs2 : starEach [b] X.env = [(false, eval b X.env)] := by rfl) : JI M tg (.Call (.Name (Str.ofString "range") p) [a, b] [] pos) ρ t P := fun σ G H S R r =>
  TiOf.of (pi_range2 hg hm (pa_cons peT (pa_cons peT pa_nil hs2) (by rw [hs, hs2])) hs hs2) (h σ G H S _ fun G1 H1 v x t1 s1 d1 ⟨i, e, h1⟩ => h1 σ G1 H1 (S.step s1) _ fun G2 H2 w y t2 s2 d2 ⟨j, e2, hb, q⟩ => by
    subst e e2
    refine ⟨i, j, ?_, hb, r G2 H2 _ _ t2 (s1.trans s2) wk_rng q⟩
    rw [d1.intE, d2.intE])

/-! ### for, while -/
theorem js_for {D : Dk} {body : List Stmt} {g : TG} (hp : PassesOwn (model X.prog X.w) X.A X.env X.xe) (hc : X.calm = true) (hg : PG X tg g)
    (h : JI M tg e ρ t fun xs t1 => ∃ Iv : Nat → List B → Rs → Prop, Iv 0 ρ t1 ∧
      (∀ (i : Nat) (x : PyData) (ρ' : List B) (t' : Rs), xs[i]? = some x → Iv i ρ' t' → DG M g x ρ' fun ρ2 => JSs M body ρ2 t' { D with nx := Iv (i + 1), ct := Iv (i + 1), bk := D.nx }) ∧
      (∀ (ρ' : List B) (t' : Rs), Iv xs.length ρ' t' → D.nx ρ' t'))
    (hs : ∀ x, foldedSetIterable e X.env x = pure x := by intro _; rfl) : JS M (.For tg e body [] pos) ρ t D := js_of (ps_for hp hc piT hg pssT hs) fun σ G H S E F => h σ G H S _ fun G1 H1 J xs t1 s1 wk ⟨Iv, h0, hst, hd⟩ => by
  refine ⟨fun i m σ' H' => m = xs.length - i ∧ i ≤ xs.length ∧ ∃ G' ρ' t', Sat M t' G' H' σ' ρ' ∧ Same G1 G' ∧ Iv i ρ' t', ⟨xs.length, rfl, Nat.zero_le _, G1, ρ, t1, S.step s1, Same.refl _, h0⟩, ?_⟩
  rintro i m σ' H' ⟨rfl, hi, G', ρ', t', S', sm, hI⟩
  by_cases hlt : i < xs.length
  · refine .inr ⟨wk.go i t' G' H' sm S'.ok hlt, fun σ2 H2 => ∃ G2 ρ2 t2, Sat M t2 G2 H2 σ2 ρ2 ∧ Same G1 G2 ∧ Iv (i + 1) ρ2 t2, fun σ2 H2 ⟨G2, ρ2, t2, a1, a2, a3⟩ => ⟨xs.length - (i + 1), by omega, rfl, hlt, G2, ρ2, t2, a1, a2, a3⟩, fun x H2 y => ?_⟩
    obtain ⟨G2, d, s2, e2, d2⟩ := wk.yld i t' G' H' x H2 sm S'.ok y hlt
    refine hst i d ρ' t' e2 hI t' G2 H2 σ' x (S'.step s2) d2 _ fun σ3 ρ3 S3 hb => ?_
    exact hb σ3 G2 H2 S3 _ ⟨fun σ4 G4 H4 ρ4 t4 S4 m q => ⟨G4, ρ4, t4, S4, (sm.trans s2.gg).trans m, q⟩, fun σ4 G4 H4 ρ4 t4 S4 m q => F.nx σ4 G4 H4 ρ4 t4 S4 (((s1.gg.trans sm).trans s2.gg).trans m) q,
      fun σ4 G4 H4 ρ4 t4 S4 m q => ⟨G4, ρ4, t4, S4, (sm.trans s2.gg).trans m, q⟩, F.rt, F.rtL⟩
  · have ei : i = xs.length := by omega
    subst ei
    exact .inl ⟨wk.stop _ t' G' H' sm S'.ok (Nat.le_refl _), F.nx σ' G' H' ρ' t' S' (s1.gg.trans sm) (hd ρ' t' hI)⟩
/-- while c: body; Iv by a number that falls -/
theorem js_while {D : Dk} {c : Expr} {body : List Stmt} (hp : PassesOwn (model X.prog X.w) X.A X.env X.xe) (Iv : Nat → List B → Rs → Prop) (m0 : Nat) (h0 : Iv m0 ρ t)
    (h : ∀ (m : Nat) (ρ' : List B) (t' : Rs), Iv m ρ' t' → JT M c ρ' t' fun k t1 => (k = true → JSs M body ρ' t1 { D with nx := fun ρ2 t2 => ∃ m', m' < m ∧ Iv m' ρ2 t2, ct := fun ρ2 t2 => ∃ m', m' < m ∧ Iv m' ρ2 t2, bk := D.nx }) ∧ (k = false → D.nx ρ' t1)) :
    JS M (.While c body [] pos) ρ t D := js_of (ps_while hp ptT pssT) fun σ G H S E F => by
  refine ⟨fun m σ' H' => ∃ G' ρ' t', Sat M t' G' H' σ' ρ' ∧ Same G G' ∧ Iv m ρ' t', ⟨m0, G, ρ, t, S, Same.refl _, h0⟩, ?_⟩
  rintro m σ' H' ⟨G', ρ', t', S', sm, hI⟩
  refine h m ρ' t' hI σ' G' H' S' _ fun G1 H1 k t1 s1 ⟨h1, h2⟩ => ?_
  cases k with
  | true =>
    refine iteT ⟨fun σ2 H2 => ∃ m', m' < m ∧ ∃ G2 ρ2 t2, Sat M t2 G2 H2 σ2 ρ2 ∧ Same G G2 ∧ Iv m' ρ2 t2, fun σ2 H2 ⟨m', hm, q⟩ => ⟨m', hm, q⟩, ?_⟩
    exact h1 rfl σ' G1 H1 (S'.step s1) _ ⟨fun σ4 G4 H4 ρ4 t4 S4 g ⟨m', hm, q⟩ => ⟨m', hm, G4, ρ4, t4, S4, (sm.trans s1.gg).trans g, q⟩, fun σ4 G4 H4 ρ4 t4 S4 g q => F.nx σ4 G4 H4 ρ4 t4 S4 ((sm.trans s1.gg).trans g) q,
      fun σ4 G4 H4 ρ4 t4 S4 g ⟨m', hm, q⟩ => ⟨m', hm, G4, ρ4, t4, S4, (sm.trans s1.gg).trans g, q⟩, F.rt, F.rtL⟩
  | false => exact iteF (F.nx σ' G1 H1 ρ' t1 (S'.step s1) (sm.trans s1.gg) (h2 rfl))
end

/-! ### comprehensions -/
def wipeB (ρ : List B) : List Nat → List B
  | [] => ρ
  | v :: vs => (wipeB ρ vs).set v .un
theorem Sat.wipe {K : PySem.W.Frag} {Wo : WO} {M : Md K Wo} {t : Rs} {G H : Hp} {σ : L2.St} {ρ : List B} (S : Sat M t G H σ ρ) : ∀ vs : List Nat, Sat M t G H (L2.wipe σ vs) (wipeB ρ vs)
  | [] => S
  | v :: vs => (Sat.wipe S vs).un
/-- the names of a comprehension are its target's alone -/
def Wipes (g : TG) (vs : List Nat) : Prop := ∀ (v : V) (σ : L2.St) (H : Hp) (Q : L2.St → Hp → Prop), g v (wipe σ vs) H Q → g v (wipe σ vs) H fun σ2 H2 => wipe σ2 vs = wipe σ vs ∧ Q σ2 H2
theorem wipes1 {i : Nat} : Wipes (gName i) [i] := fun v σ H Q h => ⟨by simp [wipe], h⟩
theorem wipes2 {K : PySem.W.Frag} {i j n : Nat} (hij : i ≠ j) : Wipes (gTup K n (gCons (gName i) (gCons (gName j) gNil))) [i, j] := fun v σ H Q h => by
  obtain ⟨a, xs, e, q, l, x, r, e1, y, r2, e2, e3, h⟩ := h
  refine ⟨a, xs, e, q, l, x, r, e1, y, r2, e2, e3, ?_, h⟩
  simp only [wipe, List.set_set]
  rw [List.set_comm _ _ hij]
  simp only [List.set_set]
theorem wipes3 {K : PySem.W.Frag} {i j k n : Nat} (hij : i ≠ j) (hik : i ≠ k) (hjk : j ≠ k) : Wipes (gTup K n (gCons (gName i) (gCons (gName j) (gCons (gName k) gNil)))) [i, j, k] := fun v σ H Q h => by
  obtain ⟨a, xs, e, q, l, x, r, e1, y, r2, e2, z, r3, e3, e4, h⟩ := h
  refine ⟨a, xs, e, q, l, x, r, e1, y, r2, e2, z, r3, e3, e4, ?_, h⟩
  simp only [wipe, List.set_set]
  apply List.ext_getElem?
  intro m
  simp only [List.getElem?_set]
  repeat' split
  all_goals first | (simp_all; done) | omega | (simp_all; omega)
abbrev Blk (X : Cx) (scope : Scope) (s : Shared) (H : Hp) (C : Addr) (cl : List (Str × Addr)) (fp : List Addr) : Cx := X.blk s H scope (compEnvC scope cl C X.env) fp
@[irreducible] def TeAll (X : Cx) (scope : Scope) (e : Expr) : TE := fun σ H Q => ∀ (s : Shared) (H0 : Hp) (C : Addr) (cl : List (Str × Addr)) (fp : List Addr), TeOf (Blk X scope s H0 C cl fp) e σ H Q
@[irreducible] def TtAll (X : Cx) (scope : Scope) (e : Expr) : TT := fun σ H Q => ∀ (s : Shared) (H0 : Hp) (C : Addr) (cl : List (Str × Addr)) (fp : List Addr), TtOf (Blk X scope s H0 C cl fp) e σ H Q
section
variable {X : Cx} {Wo : WO} {M : Md X.K Wo} {ρ : List B} {t : Rs} {elt cond tg iter : Expr} {P : List PyData → Rs → Prop} {pos : Pos} {scope : Scope} {own : List (Str × Nat)} {g : TG}
theorem peA {e : Expr} (s : Shared) (H0 : Hp) (C : Addr) (cl : List (Str × Addr)) (fp : List Addr) : PE (Blk X scope s H0 C cl fp) e (TeAll X scope e) := by unfold TeAll; exact ⟨fun pins s' σ H Q I h => peT.run pins s' σ H Q I (h s H0 C cl fp)⟩
theorem ptA {e : Expr} (s : Shared) (H0 : Hp) (C : Addr) (cl : List (Str × Addr)) (fp : List Addr) : PT (Blk X scope s H0 C cl fp) e (TtAll X scope e) := by unfold TtAll; exact ⟨fun pins s' σ H Q I h => ptT.run pins s' σ H Q I (h s H0 C cl fp)⟩
/-- elt and cond in the block, whatever it begins with -/
def JDb {Wo : WO} (M : Md X.K Wo) (scope : Scope) (e : Expr) (ρ : List B) (t : Rs) (P : PyData → Rs → Prop) : Prop := ∀ (s : Shared) (H0 : Hp) (C : Addr) (cl : List (Str × Addr)) (fp : List Addr), JD (X := Blk X scope s H0 C cl fp) M e ρ t P
def JTb {Wo : WO} (M : Md X.K Wo) (scope : Scope) (e : Expr) (ρ : List B) (t : Rs) (P : Bool → Rs → Prop) : Prop := ∀ (s : Shared) (H0 : Hp) (C : Addr) (cl : List (Str × Addr)) (fp : List Addr), JT (X := Blk X scope s H0 C cl fp) M e ρ t P
theorem JDb.all {e : Expr} {ρ : List B} {t : Rs} {P : PyData → Rs → Prop} (h : JDb M scope e ρ t P) : DD M (TeAll X scope e) ρ t P := fun σ G H S Q q => by first | (unfold TeAll; exact fun s H0 C cl fp => h s H0 C cl fp σ G H S Q q) | (unfold TtAll; exact fun s H0 C cl fp => h s H0 C cl fp σ G H S Q q)
theorem JTb.all {e : Expr} {ρ : List B} {t : Rs} {P : Bool → Rs → Prop} (h : JTb M scope e ρ t P) : DT M (TtAll X scope e) ρ t P := fun σ G H S Q q => by first | (unfold TeAll; exact fun s H0 C cl fp => h s H0 C cl fp σ G H S Q q) | (unfold TtAll; exact fun s H0 C cl fp => h s H0 C cl fp σ G H S Q q)
/-- a turn of a comprehension: tt its test -/
def Turn1 {Wo : WO} (M : Md X.K Wo) (scope : Scope) (elt : Expr) (g : TG) (tt : TT) (vs : List Nat) (ρ : List B) (x : PyData) (t : Rs) (acc : List PyData) (N : List PyData → Rs → Prop) : Prop :=
  DG M g x (wipeB ρ vs) fun ρ2 => DT M tt ρ2 t fun b t2 => (b = true → JDb M scope elt ρ2 t2 fun y t3 => acc.length < 16777216 ∧ N (acc ++ [y]) t3) ∧ (b = false → N acc t2)
theorem lc_dl {wi : TI} {tt : TT} {vs : List Nat} (hw : Wipes g vs) (hi : DI M wi ρ t fun xs t1 => ∃ Iv : Nat → List PyData → Rs → Prop, Iv 0 [] t1 ∧
      (∀ (i : Nat) (x : PyData) (acc : List PyData) (t' : Rs), xs[i]? = some x → Iv i acc t' → Turn1 M scope elt g tt vs ρ x t' acc (Iv (i + 1))) ∧ (∀ (acc : List PyData) (t' : Rs), Iv xs.length acc t' → P acc t')) :
    DL M (tLc wi g tt (TeAll X scope elt) vs) ρ t P := fun σ G H S Q q => hi σ G H S _ fun G1 H1 J xs t1 s1 wk ⟨Iv, h0, hst, hd⟩ D hD => by
  have S1 := S.step s1
  have gD : G1 D = none := none_of S1.ok hD
  refine ⟨fun i m H' => m = xs.length - i ∧ i ≤ xs.length ∧ ∃ G' acc ws t', Stp M t' G1 H1 G' H' ∧ G' D = none ∧ H' D = some (.lst ws) ∧ DeAll X.K G' ws acc ∧ Iv i acc t', ⟨xs.length, rfl, Nat.zero_le _, G1, [], [], t1, S1.ok.layO hD, gD, upd_same, .nil, h0⟩, ?_⟩
  rintro i m H' ⟨rfl, hle, G', acc, ws, t', s', gD', hD', da, hI⟩
  have S' := S1.step s'
  by_cases hlt : i < xs.length
  · refine .inr ⟨wk.go i t' G' H' s'.gg S'.ok hlt, fun H2 => ∃ G2 acc2 ws2 t2, Stp M t2 G1 H1 G2 H2 ∧ G2 D = none ∧ H2 D = some (.lst ws2) ∧ DeAll X.K G2 ws2 acc2 ∧ Iv (i + 1) acc2 t2, fun H2 ⟨G2, acc2, ws2, t2, a1, a2, a3, a4, a5⟩ => ⟨xs.length - (i + 1), by omega, rfl, hlt, G2, acc2, ws2, t2, a1, a2, a3, a4, a5⟩, fun x H2 y => ?_⟩
    obtain ⟨G2, d, s2, e2, d2⟩ := wk.yld i t' G' H' x H2 s'.gg S'.ok y hlt
    refine hw _ _ _ _ (hst i d acc t' e2 hI t' G2 H2 _ x ((S'.step s2).wipe vs) d2 _ fun σ3 ρ3 S3 hT => ?_)
    have nr : D ≠ M.r := S1.ne_r hD
    refine hT σ3 G2 H2 S3 _ fun G4 H4 b t4 s4 ⟨hy, hn⟩ => ?_
    have keepD : ∀ {Ga Ha Gb Hb : Hp} {tb : Rs}, Stp M tb Ga Ha Gb Hb → ∀ {us : List V}, Ha D = some (.lst us) → Ga D = none → Hb D = some (.lst us) ∧ Gb D = none := fun s us h g => ⟨s.hh D _ nr h, s.fr D (by rw [h]; simp) g⟩
    obtain ⟨hD2, gD2⟩ := keepD s2 hD' gD'
    obtain ⟨hD4, gD4⟩ := keepD s4 hD2 gD2
    cases b with
    | false => exact iteF ⟨G4, acc, ws, t4, (s'.trans s2).trans s4, gD4, hD4, DeAll.up (s2.gg.trans s4.gg) _ _ da, hn rfl⟩
    | true =>
      refine iteT ((hy rfl).all σ3 G4 H4 (S3.step s4) _ fun G5 H5 v y t5 s5 d5 ⟨hl, hN⟩ => ?_)
      obtain ⟨hD5, gD5⟩ := keepD s5 hD4 gD4
      have da5 : DeAll X.K G5 ws acc := DeAll.up ((s2.gg.trans s4.gg).trans s5.gg) _ _ da
      have st5 := ((s'.trans s2).trans s4).trans s5
      refine ⟨ws, hD5, line_lt (by rw [da5.length]; exact hl), G5, acc ++ [y], ws ++ [v], t5, ?_, gD5, upd_same, da5.app (.cons d5 .nil), hN⟩
      refine ⟨st5.gg, fun b u nb z => ?_, st5.fr, fun b u z => ?_, ?_⟩
      · by_cases hb : b = D
        · rw [hb] at z
          rw [hD] at z
          cases z
        · rw [upd_ne hb]
          exact st5.hh b u nb z
      · by_cases hb : b = D
        · rw [hb] at z
          rw [gD5] at z
          cases z
        · rw [upd_ne hb]
          exact st5.sub b u z
      · obtain ⟨o, q, w⟩ := st5.rd
        refine ⟨o, ?_, w⟩
        rw [upd_ne (Ne.symm nr)]
        exact q
  · have ei : i = xs.length := by omega
    subst ei
    refine .inl ⟨wk.stop _ t' G' H' s'.gg S'.ok (Nat.le_refl _), ?_⟩
    exact q G' H' D ws acc t' (s1.trans s') (fresh_of s1 hD) gD' hD' da (hd acc t' hI)
end
end Dl
end
section
set_option maxRecDepth 100000
set_option maxHeartbeats 4000000
namespace Dl
open PySem PySem.Spec PyProof.Rows L2

section
variable {X : Cx} {Wo : WO} {M : Md X.K Wo} {ρ : List B} {t : Rs} {elt cond tg iter : Expr} {P : List PyData → Rs → Prop} {pos : Pos} {scope : Scope} {own : List (Str × Nat)} {g : TG} {D : Dk}
/-- a turn without a test -/
def TurnE {Wo : WO} (M : Md X.K Wo) (scope : Scope) (elt : Expr) (g : TG) (vs : List Nat) (ρ : List B) (x : PyData) (t : Rs) (acc : List PyData) (N : List PyData → Rs → Prop) : Prop :=
  DG M g x (wipeB ρ vs) fun ρ2 => JDb M scope elt ρ2 t fun y t3 => acc.length < 16777216 ∧ N (acc ++ [y]) t3
def TurnT {Wo : WO} (M : Md X.K Wo) (scope : Scope) (elt cond : Expr) (g : TG) (vs : List Nat) (ρ : List B) (x : PyData) (t : Rs) (acc : List PyData) (N : List PyData → Rs → Prop) : Prop :=
  DG M g x (wipeB ρ vs) fun ρ2 => JTb M scope cond ρ2 t fun b t2 => (b = true → JDb M scope elt ρ2 t2 fun y t3 => acc.length < 16777216 ∧ N (acc ++ [y]) t3) ∧ (b = false → N acc t2)
theorem TurnE.one {vs : List Nat} {x : PyData} {acc : List PyData} {N : List PyData → Rs → Prop} (h : TurnE M scope elt g vs ρ x t acc N) : Turn1 M scope elt g tYes vs ρ x t acc N := fun t0 G H σ v S d R r =>
  h t0 G H σ v S d R fun σ' ρ' S' j => r σ' ρ' S' fun σ2 G2 H2 S2 Q q => q G2 H2 true t S2.ok.refl ⟨fun _ => j, fun z => by cases z⟩
theorem TurnT.one {vs : List Nat} {x : PyData} {acc : List PyData} {N : List PyData → Rs → Prop} (h : TurnT M scope elt cond g vs ρ x t acc N) : Turn1 M scope elt g (TtAll X scope cond) vs ρ x t acc N := fun t0 G H σ v S d R r =>
  h t0 G H σ v S d R fun σ' ρ' S' j => r σ' ρ' S' j.all
theorem jl_comp (hc : X.calm = true) (hN : X.N.Nodup) (ok : BlkOk X.N X.env.scope scope own) (hw : Wipes g (own.map (·.2)))
    (hg : ∀ (s : Shared) (H : Hp) (C : Addr) (cl : List (Str × Addr)) (fp : List Addr), PG (X.blk s H scope (compEnvC scope cl C X.env) fp) tg g)
    (hi : JI M tg iter ρ t fun xs t1 => ∃ Iv : Nat → List PyData → Rs → Prop, Iv 0 [] t1 ∧
      (∀ (i : Nat) (x : PyData) (acc : List PyData) (t' : Rs), xs[i]? = some x → Iv i acc t' → TurnE M scope elt g (own.map (·.2)) ρ x t' acc (Iv (i + 1))) ∧ (∀ (acc : List PyData) (t' : Rs), Iv xs.length acc t' → P acc t'))
    (hs : ∀ x, foldedSetIterable iter X.env x = pure x := by intro _; rfl) : JL M (.ListComp elt [⟨tg, iter, [], 0⟩] scope pos) ρ t P :=
  jl_of (pe_lc (own := own) (g := g) (tt := tYes) (te := TeAll X scope elt) hc hN piT ok hg (fun _ _ _ _ _ => pts_nil) (fun s H C cl fp => peA s H C cl fp) hs)
    (lc_dl hw fun σ G H S R r => hi σ G H S R fun G' H' J xs t' s wk ⟨Iv, h0, h1, h2⟩ => r G' H' J xs t' s wk ⟨Iv, h0, fun i x acc t' e hI => (h1 i x acc t' e hI).one, h2⟩)
theorem jl_compT (hc : X.calm = true) (hN : X.N.Nodup) (ok : BlkOk X.N X.env.scope scope own) (hw : Wipes g (own.map (·.2)))
    (hg : ∀ (s : Shared) (H : Hp) (C : Addr) (cl : List (Str × Addr)) (fp : List Addr), PG (X.blk s H scope (compEnvC scope cl C X.env) fp) tg g)
    (hi : JI M tg iter ρ t fun xs t1 => ∃ Iv : Nat → List PyData → Rs → Prop, Iv 0 [] t1 ∧
      (∀ (i : Nat) (x : PyData) (acc : List PyData) (t' : Rs), xs[i]? = some x → Iv i acc t' → TurnT M scope elt cond g (own.map (·.2)) ρ x t' acc (Iv (i + 1))) ∧ (∀ (acc : List PyData) (t' : Rs), Iv xs.length acc t' → P acc t'))
    (hs : ∀ x, foldedSetIterable iter X.env x = pure x := by intro _; rfl) : JL M (.ListComp elt [⟨tg, iter, [cond], 0⟩] scope pos) ρ t P :=
  jl_of (pe_lc (own := own) (g := g) (tt := TtAll X scope cond) (te := TeAll X scope elt) hc hN piT ok hg (fun s H C cl fp => pts_one (ptA s H C cl fp)) (fun s H C cl fp => peA s H C cl fp) hs)
    (lc_dl hw fun σ G H S R r => hi σ G H S R fun G' H' J xs t' s wk ⟨Iv, h0, h1, h2⟩ => r G' H' J xs t' s wk ⟨Iv, h0, fun i x acc t' e hI => (h1 i x acc t' e hI).one, h2⟩)
/-- y = [elt for ..] -/
theorem js_comp (i : Nat) {y : Str} {py spos : Pos} (hc : X.calm = true) (hN : X.N.Nodup) (ok : BlkOk X.N X.env.scope scope own) (hw : Wipes g (own.map (·.2)))
    (hg : ∀ (s : Shared) (H : Hp) (C : Addr) (cl : List (Str × Addr)) (fp : List Addr), PG (X.blk s H scope (compEnvC scope cl C X.env) fp) tg g)
    (hsw : swapsWith (.ListComp elt [⟨tg, iter, [], 0⟩] scope pos) (some (.Name y py)) spos.line X.env = pure true)
    (hi : JI M tg iter ρ t fun xs t1 => ∃ Iv : Nat → List PyData → Rs → Prop, Iv 0 [] t1 ∧
      (∀ (i : Nat) (x : PyData) (acc : List PyData) (t' : Rs), xs[i]? = some x → Iv i acc t' → TurnE M scope elt g (own.map (·.2)) ρ x t' acc (Iv (i + 1))) ∧ (∀ (acc : List PyData) (t' : Rs), Iv xs.length acc t' → D.nx (ρ.set i (.own acc)) t'))
    (hy : X.N[i]? = some y := by rfl) (hyl : X.env.scope.names.lookup y = some .local := by rfl) (hs : ∀ x, foldedSetIterable iter X.env x = pure x := by intro _; rfl) : JS M (.Assign [.Name y py] (.ListComp elt [⟨tg, iter, [], 0⟩] scope pos) spos) ρ t D :=
  js_of (ps_setLc (own := own) (g := g) (tt := tYes) (te := TeAll X scope elt) hc hN hy hyl hsw piT ok hg (fun _ _ _ _ _ => pts_nil) (fun s H C cl fp => peA s H C cl fp) hs) fun σ G H S E F =>
    (lc_dl (P := fun acc t' => D.nx (ρ.set i (.own acc)) t') hw fun σ G H S R r => hi σ G H S R fun G' H' J xs t' s wk ⟨Iv, h0, h1, h2⟩ => r G' H' J xs t' s wk ⟨Iv, h0, fun i x acc t' e hI => (h1 i x acc t' e hI).one, h2⟩) σ G H S _ fun G1 H1 l ws xs t1 s1 n g e a p =>
      F.nx _ G1 H1 _ t1 ((S.step s1).setL (S.ne_r n) g e (fresh_of S.st n) a fun j ys _ z => S.fresh n z) s1.gg p
theorem js_compT (i : Nat) {y : Str} {py spos : Pos} (hc : X.calm = true) (hN : X.N.Nodup) (ok : BlkOk X.N X.env.scope scope own) (hw : Wipes g (own.map (·.2)))
    (hg : ∀ (s : Shared) (H : Hp) (C : Addr) (cl : List (Str × Addr)) (fp : List Addr), PG (X.blk s H scope (compEnvC scope cl C X.env) fp) tg g)
    (hsw : swapsWith (.ListComp elt [⟨tg, iter, [cond], 0⟩] scope pos) (some (.Name y py)) spos.line X.env = pure true)
    (hi : JI M tg iter ρ t fun xs t1 => ∃ Iv : Nat → List PyData → Rs → Prop, Iv 0 [] t1 ∧
      (∀ (i : Nat) (x : PyData) (acc : List PyData) (t' : Rs), xs[i]? = some x → Iv i acc t' → TurnT M scope elt cond g (own.map (·.2)) ρ x t' acc (Iv (i + 1))) ∧ (∀ (acc : List PyData) (t' : Rs), Iv xs.length acc t' → D.nx (ρ.set i (.own acc)) t'))
    (hy : X.N[i]? = some y := by rfl) (hyl : X.env.scope.names.lookup y = some .local := by rfl) (hs : ∀ x, foldedSetIterable iter X.env x = pure x := by intro _; rfl) : JS M (.Assign [.Name y py] (.ListComp elt [⟨tg, iter, [cond], 0⟩] scope pos) spos) ρ t D :=
  js_of (ps_setLc (own := own) (g := g) (tt := TtAll X scope cond) (te := TeAll X scope elt) hc hN hy hyl hsw piT ok hg (fun s H C cl fp => pts_one (ptA s H C cl fp)) (fun s H C cl fp => peA s H C cl fp) hs) fun σ G H S E F =>
    (lc_dl (P := fun acc t' => D.nx (ρ.set i (.own acc)) t') hw fun σ G H S R r => hi σ G H S R fun G' H' J xs t' s wk ⟨Iv, h0, h1, h2⟩ => r G' H' J xs t' s wk ⟨Iv, h0, fun i x acc t' e hI => (h1 i x acc t' e hI).one, h2⟩) σ G H S _ fun G1 H1 l ws xs t1 s1 n g e a p =>
      F.nx _ G1 H1 _ t1 ((S.step s1).setL (S.ne_r n) g e (fresh_of S.st n) a fun j ys _ z => S.fresh n z) s1.gg p
end

/-! ### comprehensions whose element is a function of the item -/
section
variable {X : Cx} {Wo : WO} {M : Md X.K Wo} {ρ : List B} {t : Rs} {elt cond tg iter : Expr} {P : List PyData → Rs → Prop} {pos : Pos} {scope : Scope} {own : List (Str × Nat)} {g : TG} {D : Dk}
/-- what a map's source and element ask -/
def MapOk (M : Md X.K Wo) (scope : Scope) (elt : Expr) (g : TG) (vs : List Nat) (ρ : List B) (t : Rs) (f : PyData → PyData) (xs : List PyData) : Prop :=
  xs.length ≤ 16777216 ∧ ∀ x ∈ xs, DG M g x (wipeB ρ vs) fun ρ2 => JDb M scope elt ρ2 t fun y t3 => y = f x ∧ t3 = t
def FiltOk (M : Md X.K Wo) (scope : Scope) (elt cond : Expr) (g : TG) (vs : List Nat) (ρ : List B) (t : Rs) (c : PyData → Bool) (f : PyData → PyData) (xs : List PyData) : Prop :=
  xs.length ≤ 16777216 ∧ ∀ x ∈ xs, DG M g x (wipeB ρ vs) fun ρ2 => JTb M scope cond ρ2 t fun b t2 => b = c x ∧ t2 = t ∧ (c x = true → JDb M scope elt ρ2 t fun y t3 => y = f x ∧ t3 = t)
theorem MapOk.turns {vs : List Nat} {f : PyData → PyData} {xs : List PyData} (h : MapOk M scope elt g vs ρ t f xs) {N : List PyData → Rs → Prop} (q : N (xs.map f) t) : ∃ Iv : Nat → List PyData → Rs → Prop, Iv 0 [] t ∧
      (∀ (i : Nat) (x : PyData) (acc : List PyData) (t' : Rs), xs[i]? = some x → Iv i acc t' → TurnE M scope elt g vs ρ x t' acc (Iv (i + 1))) ∧ (∀ (acc : List PyData) (t' : Rs), Iv xs.length acc t' → N acc t') := by
  refine ⟨fun i acc t' => acc = (xs.take i).map f ∧ t' = t, ⟨rfl, rfl⟩, fun i x acc t' ex ⟨ea, et⟩ => ?_, fun acc t' ⟨ea, et⟩ => ?_⟩
  · subst ea et
    have hi : i < xs.length := by
      by_cases z : i < xs.length
      · exact z
      · rw [List.getElem?_eq_none (by omega)] at ex
        cases ex
    intro t0 G H σ v S d R r
    refine h.2 x (List.mem_of_getElem? ex) t0 G H σ v S d R fun σ' ρ' S' j => r σ' ρ' S' fun s0 H0 C cl fp => (j s0 H0 C cl fp).imp fun y t3 ⟨e1, e2⟩ => ⟨?_, ?_, e2⟩
    · rw [List.length_map, List.length_take]
      have := h.1
      omega
    · rw [List.take_add_one, ex, e1]
      simp
  · subst ea et
    rw [List.take_length]
    exact q
theorem FiltOk.turns {vs : List Nat} {c : PyData → Bool} {f : PyData → PyData} {xs : List PyData} (h : FiltOk M scope elt cond g vs ρ t c f xs) {N : List PyData → Rs → Prop} (q : N ((xs.filter c).map f) t) : ∃ Iv : Nat → List PyData → Rs → Prop, Iv 0 [] t ∧
      (∀ (i : Nat) (x : PyData) (acc : List PyData) (t' : Rs), xs[i]? = some x → Iv i acc t' → TurnT M scope elt cond g vs ρ x t' acc (Iv (i + 1))) ∧ (∀ (acc : List PyData) (t' : Rs), Iv xs.length acc t' → N acc t') := by
  refine ⟨fun i acc t' => acc = ((xs.take i).filter c).map f ∧ t' = t, ⟨rfl, rfl⟩, fun i x acc t' ex ⟨ea, et⟩ => ?_, fun acc t' ⟨ea, et⟩ => ?_⟩
  · subst ea et
    have hi : i < xs.length := by
      by_cases z : i < xs.length
      · exact z
      · rw [List.getElem?_eq_none (by omega)] at ex
        cases ex
    intro t0 G H σ v S d R r
    refine h.2 x (List.mem_of_getElem? ex) t0 G H σ v S d R fun σ' ρ' S' j => r σ' ρ' S' fun s0 H0 C cl fp => (j s0 H0 C cl fp).imp fun b t2 ⟨e1, e2, e3⟩ => ?_
    subst e2
    refine ⟨fun hb s1 H1 C1 cl1 fp1 => (e3 (by rw [← e1]; exact hb) s1 H1 C1 cl1 fp1).imp fun y t3 ⟨e4, e5⟩ => ⟨?_, ?_, e5⟩, fun hb => ⟨?_, rfl⟩⟩
    · rw [List.length_map]
      have h1 := List.length_filter_le c (xs.take i)
      rw [List.length_take] at h1
      have := h.1
      omega
    · rw [List.take_add_one, ex, e4, List.filter_append, List.map_append]
      have : c x = true := by rw [← e1]; exact hb
      simp [this]
    · rw [List.take_add_one, ex, List.filter_append, List.map_append]
      have : c x = false := by rw [← e1]; exact hb
      simp [this]
  · subst ea et
    rw [List.take_length]
    exact q
theorem jl_map (f : PyData → PyData) (hc : X.calm = true) (hN : X.N.Nodup) (ok : BlkOk X.N X.env.scope scope own) (hw : Wipes g (own.map (·.2)))
    (hg : ∀ (s : Shared) (H : Hp) (C : Addr) (cl : List (Str × Addr)) (fp : List Addr), PG (X.blk s H scope (compEnvC scope cl C X.env) fp) tg g)
    (hi : JI M tg iter ρ t fun xs t1 => MapOk M scope elt g (own.map (·.2)) ρ t1 f xs ∧ P (xs.map f) t1) (hs : ∀ x, foldedSetIterable iter X.env x = pure x := by intro _; rfl) : JL M (.ListComp elt [⟨tg, iter, [], 0⟩] scope pos) ρ t P :=
  jl_comp hc hN ok hw hg (fun σ G H S R r => hi σ G H S R fun G' H' J xs t' s wk ⟨h1, h2⟩ => r G' H' J xs t' s wk (h1.turns h2)) hs
theorem jl_filt (c : PyData → Bool) (f : PyData → PyData) (hc : X.calm = true) (hN : X.N.Nodup) (ok : BlkOk X.N X.env.scope scope own) (hw : Wipes g (own.map (·.2)))
    (hg : ∀ (s : Shared) (H : Hp) (C : Addr) (cl : List (Str × Addr)) (fp : List Addr), PG (X.blk s H scope (compEnvC scope cl C X.env) fp) tg g)
    (hi : JI M tg iter ρ t fun xs t1 => FiltOk M scope elt cond g (own.map (·.2)) ρ t1 c f xs ∧ P ((xs.filter c).map f) t1) (hs : ∀ x, foldedSetIterable iter X.env x = pure x := by intro _; rfl) : JL M (.ListComp elt [⟨tg, iter, [cond], 0⟩] scope pos) ρ t P :=
  jl_compT hc hN ok hw hg (fun σ G H S R r => hi σ G H S R fun G' H' J xs t' s wk ⟨h1, h2⟩ => r G' H' J xs t' s wk (h1.turns h2)) hs
end

/-! ### the lists of slots, changed in place -/
section
variable {X : Cx} {Wo : WO} {M : Md X.K Wo} {ρ : List B} {t : Rs} {e a b : Expr} {P : PyData → Rs → Prop} {pos cpos apos : Pos} {D : Dk} {x : Str} {p : Pos}
theorem own_at {K : PySem.W.Frag} {Wo : WO} {M : Md K Wo} {t : Rs} {G H : Hp} {σ : L2.St} {ρ : List B} {i : Nat} {xs : List PyData} (S : Sat M t G H σ ρ) (e : ρ[i]? = some (.own xs)) : ∃ (l : Addr) (ws : List V), σ[i]? = some (some (.ref l)) ∧ H l = some (.lst ws) ∧ DeAll K G ws xs := by
  obtain ⟨l, ws, e1, _, _, h, _, d⟩ := S.at_ i _ e
  exact ⟨l, ws, e1, h, d⟩
theorem jt_own (i : Nat) {xs : List PyData} {P : Bool → Rs → Prop} (hr : ρ[i]? = some (.own xs)) (q : P (!xs.isEmpty) t) (hN : X.N[i]? = some x := by rfl) (hv : Vis X.env.scope x := by first | exact Or.inl rfl | exact Or.inr (Or.inl rfl) | exact Or.inr (Or.inr rfl))
    (hd : (x == ("__debug__" : Str)) = false := by decide) (hcd : (x == ("__classdict__" : Str)) = false := by decide) : JT M (.Name x p) ρ t P := jt_of (pt_truth (pv i hN hv hd hcd) (by intro _; rfl)) fun σ G H S Q r => by
  obtain ⟨l, ws, e1, h, d⟩ := own_at S hr
  exact ⟨.ref l, e1, _, .inl ⟨ws, .inl (.inl h), empty_eq d⟩, r G H _ t S.ok.refl q⟩
theorem js_append (i : Nat) {xs : List PyData} (hr : ρ[i]? = some (.own xs)) (h : JD M e ρ t fun y t1 => xs.length < 16777216 ∧ D.nx (ρ.set i (.own (xs ++ [y]))) t1)
    (hN : X.N[i]? = some x := by rfl) (hv : Vis X.env.scope x := by first | exact Or.inl rfl | exact Or.inr (Or.inl rfl) | exact Or.inr (Or.inr rfl)) (hd : (x == ("__debug__" : Str)) = false := by decide) (hcd : (x == ("__classdict__" : Str)) = false := by decide)
    (hs : swapsWith (.Call (.Attribute (.Name x p) "append" apos) [e] [] cpos) none pos.line X.env = pure false := by rfl) (h3 : starEach [e] X.env = (false, eval e X.env) :: starEach [] X.env := by rfl)
    (h1 : attributeBase (.Name x p) "append" X.env (eval (.Name x p) X.env) = eval (.Name x p) X.env := by rfl)
    (h2 : ((((backTo cpos (starEach [e] X.env)).all fun x => !x.1) && (backToKw cpos (keywordEach [] X.env)).all fun x => x.1.isSome) && decide (([e].length + ([] : List Keyword).length + if ([] : List Keyword).isEmpty = true then 0 else 1) < 30)) = true := by rfl)
    (h4 : (apos.endLine == cpos.line) = true := by rfl) (h5 : ((backTo cpos (starEach [] X.env)).any fun x => x.1) = false := by rfl) : JS M (.Expr (.Call (.Attribute (.Name x p) "append" apos) [e] [] cpos) pos) ρ t D :=
  js_of (ps_expr (pe_bm PySem.F.plainAttrs_list PySem.F.slot_list_append PySem.F.type_list_append mt_append (pv i hN hv hd hcd) (pa_cons peT pa_nil h3) h1 h2 h4 h3 h5) hs) fun σ G H S E F => by
    obtain ⟨l, ws, e1, h1, d⟩ := own_at S hr
    refine ⟨.ref l, e1, .inl ⟨rfl, ws, .inl (.inl h1)⟩, h σ G H S _ fun G1 H1 v y t1 s1 d1 ⟨hl, p⟩ => ?_⟩
    have S1 := S.step s1
    obtain ⟨l2, ws2, e2, h2, d2⟩ := own_at S1 hr
    rw [e1] at e2
    cases e2
    exact ⟨l, ws2, v, rfl, rfl, h2, line_lt (by rw [d2.length]; exact hl), F.nx σ G1 _ _ t1 (S1.write hr e1 (d2.app (.cons d1 .nil))) s1.gg p⟩
theorem js_extend (i : Nat) {xs : List PyData} (hr : ρ[i]? = some (.own xs)) (h : JD M e ρ t fun y t1 => ∃ ys, y = .list ys ∧ xs.length + ys.length ≤ 16777216 ∧ D.nx (ρ.set i (.own (xs ++ ys))) t1)
    (hN : X.N[i]? = some x := by rfl) (hv : Vis X.env.scope x := by first | exact Or.inl rfl | exact Or.inr (Or.inl rfl) | exact Or.inr (Or.inr rfl)) (hd : (x == ("__debug__" : Str)) = false := by decide) (hcd : (x == ("__classdict__" : Str)) = false := by decide)
    (hs : swapsWith (.Call (.Attribute (.Name x p) "extend" apos) [e] [] cpos) none pos.line X.env = pure false := by rfl) (h3 : starEach [e] X.env = (false, eval e X.env) :: starEach [] X.env := by rfl)
    (h1 : attributeBase (.Name x p) "extend" X.env (eval (.Name x p) X.env) = eval (.Name x p) X.env := by rfl)
    (h2 : ((((backTo cpos (starEach [e] X.env)).all fun x => !x.1) && (backToKw cpos (keywordEach [] X.env)).all fun x => x.1.isSome) && decide (([e].length + ([] : List Keyword).length + if ([] : List Keyword).isEmpty = true then 0 else 1) < 30)) = true := by rfl)
    (h4 : (apos.endLine == cpos.line) = true := by rfl) (h5 : ((backTo cpos (starEach [] X.env)).any fun x => x.1) = false := by rfl) : JS M (.Expr (.Call (.Attribute (.Name x p) "extend" apos) [e] [] cpos) pos) ρ t D :=
  js_of (ps_expr (pe_bm PySem.F.plainAttrs_list PySem.F.slot_list_extend PySem.F.type_list_extend mt_extend (pv i hN hv hd hcd) (pa_cons peT pa_nil h3) h1 h2 h4 h3 h5) hs) fun σ G H S E F => by
    obtain ⟨l, ws, e1, h1, d⟩ := own_at S hr
    refine ⟨.ref l, e1, .inl ⟨rfl, ws, .inl (.inl h1)⟩, h σ G H S _ fun G1 H1 v y t1 s1 d1 ⟨ys, ey, hl, p⟩ => ?_⟩
    subst ey
    have S1 := S.step s1
    obtain ⟨l2, ws2, e2, h2, d2⟩ := own_at S1 hr
    rw [e1] at e2
    cases e2
    obtain ⟨b2, us, rfl, st, du⟩ := d1.lstE
    exact ⟨l, b2, ws2, us, rfl, rfl, h2, S1.ok.sub _ _ st, line_of (by rw [d2.length, du.length]; exact hl), F.nx σ G1 _ _ t1 (S1.write hr e1 (d2.app du)) s1.gg p⟩
/-- target = xs.pop() -/
theorem js_popTo (i : Nat) {tg : Expr} {g : TG} {xs : List PyData} {y : PyData} (hr : ρ[i]? = some (.own (xs ++ [y]))) (hg : PG X tg g) (h : DG M g y (ρ.set i (.own xs)) fun ρ' => D.nx ρ' t)
    (hN : X.N[i]? = some x := by rfl) (hv : Vis X.env.scope x := by first | exact Or.inl rfl | exact Or.inr (Or.inl rfl) | exact Or.inr (Or.inr rfl)) (hd : (x == ("__debug__" : Str)) = false := by decide) (hcd : (x == ("__classdict__" : Str)) = false := by decide)
    (hs : swapsWithSole [tg] (.Call (.Attribute (.Name x p) "pop" apos) [] [] cpos) pos.line X.env = pure false := by rfl) (hw : swappedStores [tg] (.Call (.Attribute (.Name x p) "pop" apos) [] [] cpos) X.env = pure none := by rfl)
    (ha : (assignEach [tg] X.env).map (·.2) = [assign tg X.env] := by rfl)
    (h1 : attributeBase (.Name x p) "pop" X.env (eval (.Name x p) X.env) = eval (.Name x p) X.env := by rfl) (h4 : (apos.endLine == cpos.line) = true := by rfl) : JS M (.Assign [tg] (.Call (.Attribute (.Name x p) "pop" apos) [] [] cpos) pos) ρ t D :=
  js_of (ps_asg (pe_bm0 PySem.F.plainAttrs_list PySem.F.slot_list_pop PySem.F.type_list_pop mt_pop (pv i hN hv hd hcd) h1 h4) hg hs hw ha) fun σ G H S E F => by
    obtain ⟨l, ws, e1, h1, d⟩ := own_at S hr
    have el : ws.length = xs.length + 1 := by rw [d.length, List.length_append]; rfl
    obtain ⟨v, ev, dv⟩ := d.at_ (i := xs.length) (d := y) (by simp)
    refine ⟨.ref l, e1, .inl ⟨rfl, ws, .inl (.inl h1)⟩, l, ws, v, rfl, rfl, h1, by rw [el, Nat.add_sub_cancel]; exact ev, ?_⟩
    have dd : DeAll X.K G ws.dropLast xs := by
      have z := d.take xs.length
      rw [List.take_left] at z
      rw [List.dropLast_eq_take, el, Nat.add_sub_cancel]
      exact z
    exact h t G _ σ v (S.write hr e1 dd) dv _ fun σ' ρ' S' q => F.nx σ' G _ ρ' t S' (Same.refl _) q
/-- xs[i] = e -/
theorem js_setIx (i : Nat) {xs : List PyData} (hr : ρ[i]? = some (.own xs)) (h : JD M e ρ t fun y t1 => JD M b ρ t1 fun z t2 => ∃ j k, z = .int j ∧ ixN xs.length j = some k ∧ D.nx (ρ.set i (.own (xs.set k y))) t2)
    (ha : ∀ v, assign (.Subscript (.Name x p) b apos) X.env v = (do
      let ov ← holding [v] (eval (.Name x p) X.env)
      let iv ← holding [v, ov] (eval b X.env)
      standAt apos
      holding [v, ov, iv] (setItem ov iv v)
      release [v, ov, iv] []) := by intro _; rfl)
    (hN : X.N[i]? = some x := by rfl) (hv : Vis X.env.scope x := by first | exact Or.inl rfl | exact Or.inr (Or.inl rfl) | exact Or.inr (Or.inr rfl)) (hd : (x == ("__debug__" : Str)) = false := by decide) (hcd : (x == ("__classdict__" : Str)) = false := by decide)
    (hs : swapsWithSole [.Subscript (.Name x p) b apos] e pos.line X.env = pure false := by rfl) (hw : swappedStores [.Subscript (.Name x p) b apos] e X.env = pure none := by rfl)
    (h1 : (assignEach [.Subscript (.Name x p) b apos] X.env).map (·.2) = [assign (.Subscript (.Name x p) b apos) X.env] := by rfl) : JS M (.Assign [.Subscript (.Name x p) b apos] e pos) ρ t D :=
  js_of (ps_asg peT (pg_sub (pv i hN hv hd hcd) peT set_list ha) hs hw h1) fun σ G H S E F => h σ G H S _ fun G1 H1 v y t1 s1 d1 h2 => by
    obtain ⟨l, ws, e1, _, _⟩ := own_at S hr
    refine ⟨.ref l, e1, h2 σ G1 H1 (S.step s1) _ fun G2 H2 w z t2 s2 d2 ⟨j, k, ez, hk, p⟩ => ?_⟩
    subst ez
    have S2 := (S.step s1).step s2
    obtain ⟨l2, ws2, e2, h2', dw⟩ := own_at S2 hr
    rw [e1] at e2
    cases e2
    refine ⟨l, ws2, j, k, rfl, d2.intE, h2', by rw [dw.length]; exact hk, F.nx σ G2 _ _ t2 (S2.write hr e1 (dw.set (De.up s2.gg _ _ d1) k)) (s1.gg.trans s2.gg) p⟩
/-- xs.pop(i) as a statement -/
theorem js_popAt (i : Nat) {xs : List PyData} (hr : ρ[i]? = some (.own xs)) (h : JD M e ρ t fun y t1 => ∃ (j : Int) (k : Nat) (z : PyData), y = .int j ∧ -(2 ^ 63) ≤ j ∧ j < 2 ^ 63 ∧ seqIndex? j xs.length = some k ∧ xs[k]? = some z ∧ D.nx (ρ.set i (.own (xs.eraseIdx k))) t1)
    (hN : X.N[i]? = some x := by rfl) (hv : Vis X.env.scope x := by first | exact Or.inl rfl | exact Or.inr (Or.inl rfl) | exact Or.inr (Or.inr rfl)) (hd : (x == ("__debug__" : Str)) = false := by decide) (hcd : (x == ("__classdict__" : Str)) = false := by decide)
    (hs : swapsWith (.Call (.Attribute (.Name x p) "pop" apos) [e] [] cpos) none pos.line X.env = pure false := by rfl) (h3 : starEach [e] X.env = (false, eval e X.env) :: starEach [] X.env := by rfl)
    (h1 : attributeBase (.Name x p) "pop" X.env (eval (.Name x p) X.env) = eval (.Name x p) X.env := by rfl)
    (h2 : ((((backTo cpos (starEach [e] X.env)).all fun x => !x.1) && (backToKw cpos (keywordEach [] X.env)).all fun x => x.1.isSome) && decide (([e].length + ([] : List Keyword).length + if ([] : List Keyword).isEmpty = true then 0 else 1) < 30)) = true := by rfl)
    (h4 : (apos.endLine == cpos.line) = true := by rfl) (h5 : ((backTo cpos (starEach [] X.env)).any fun x => x.1) = false := by rfl) : JS M (.Expr (.Call (.Attribute (.Name x p) "pop" apos) [e] [] cpos) pos) ρ t D :=
  js_of (ps_expr (pe_bm PySem.F.plainAttrs_list PySem.F.slot_list_pop PySem.F.type_list_pop mt_popAt (pv i hN hv hd hcd) (pa_cons peT pa_nil h3) h1 h2 h4 h3 h5) hs) fun σ G H S E F => by
    obtain ⟨l, ws, e1, h1, d⟩ := own_at S hr
    refine ⟨.ref l, e1, .inl ⟨rfl, ws, .inl (.inl h1)⟩, h σ G H S _ fun G1 H1 v y t1 s1 d1 ⟨j, k, z, ey, b1, b2, hk, hz, p⟩ => ?_⟩
    subst ey
    have S1 := S.step s1
    obtain ⟨l2, ws2, e2, h2, d2⟩ := own_at S1 hr
    rw [e1] at e2
    cases e2
    obtain ⟨u, eu, du⟩ := d2.at_ hz
    refine ⟨l, ws2, j, k, u, rfl, by rw [d1.intE], h2, b1, b2, by rw [d2.length]; exact hk, eu, F.nx σ G1 _ _ t1 (S1.write hr e1 ?_) s1.gg p⟩
    rw [List.eraseIdx_eq_take_drop_succ, List.eraseIdx_eq_take_drop_succ]
    exact (d2.take k).app (d2.drop (k + 1))
end
/-! ### a statement and the rest -/
section
variable {X : Cx} {Wo : WO} {M : Md X.K Wo} {ρ : List B} {t : Rs} {e c : Expr} {pos : Pos} {D : Dk} {x : Str} {rest a b : List Stmt}
theorem jss_set (i : Nat) {pos' : Pos} (hN : X.N.Nodup) (h : JD M e ρ t fun y t1 => JSs M rest (ρ.set i (.d y)) t1 D) (hi : X.N[i]? = some x := by rfl) (hx : L2.Loc X.env.scope x := by exact Or.inl rfl) (hs : swapsWith e (some (.Name x pos')) pos.line X.env = pure false := by rfl)
    (hf : X.fn x = true ∨ X.env.scope.names.lookup x = some .local := by first | exact .inl rfl | exact .inr rfl) : JSs M (.Assign [.Name x pos'] e pos :: rest) ρ t D := jss_cons (js_set i hN h hi hx hs hf)
theorem jss_setL (i : Nat) {pos' : Pos} (hN : X.N.Nodup) (h : JL M e ρ t fun ys t1 => JSs M rest (ρ.set i (.own ys)) t1 D) (hi : X.N[i]? = some x := by rfl) (hx : L2.Loc X.env.scope x := by exact Or.inl rfl) (hs : swapsWith e (some (.Name x pos')) pos.line X.env = pure false := by rfl)
    (hf : X.fn x = true ∨ X.env.scope.names.lookup x = some .local := by first | exact .inl rfl | exact .inr rfl) : JSs M (.Assign [.Name x pos'] e pos :: rest) ρ t D := jss_cons (js_setL i hN h hi hx hs hf)
/-- if c: a, where a hands back or goes on, then the rest -/
theorem jss_if (h : JT M c ρ t fun k t1 => (k = true → JSs M a ρ t1 { D with nx := fun ρ' t' => JSs M rest ρ' t' D }) ∧ (k = false → JSs M b ρ t1 { D with nx := fun ρ' t' => JSs M rest ρ' t' D })) : JSs M (.If c a b pos :: rest) ρ t D := jss_cons (js_if h)
/-- if c: a, and nothing otherwise -/
theorem jss_if0 (h : JT M c ρ t fun k t1 => (k = true → JSs M a ρ t1 { D with nx := fun ρ' t' => JSs M rest ρ' t' D }) ∧ (k = false → JSs M rest ρ t1 D)) : JSs M (.If c a [] pos :: rest) ρ t D := jss_cons (js_if (h.imp fun k t1 ⟨h1, h2⟩ => ⟨h1, fun e => jss_nil (h2 e)⟩))
theorem jss_ret (h : JD M e ρ t fun x t1 => D.rt (.d x) t1) : JSs M (.Return (some e) pos :: rest) ρ t D := jss_cons (js_ret h)
theorem jss_retL (h : JL M e ρ t fun x t1 => D.rt (.own x) t1) : JSs M (.Return (some e) pos :: rest) ρ t D := jss_cons (js_retL h)
end
/-! ### guards: which piece of syntax stands there -/
section
variable {X : Cx} {Wo : WO} {M : Md X.K Wo} {ρ : List B} {t : Rs} {P : PyData → Rs → Prop} {T : Bool → Rs → Prop} {pos : Pos} {D : Dk}
theorem g_name {x : Str} (h : JD M (.Name x pos) ρ t P) : JD M (.Name x pos) ρ t P := h
theorem g_call {f : Expr} {es : List Expr} {ks : List Keyword} (h : JD M (.Call f es ks pos) ρ t P) : JD M (.Call f es ks pos) ρ t P := h
theorem g_sub {a b : Expr} (h : JD M (.Subscript a b pos) ρ t P) : JD M (.Subscript a b pos) ρ t P := h
theorem g_cmp {a : Expr} {os : List CmpOp} {bs : List Expr} (h : JD M (.Compare a os bs pos) ρ t P) : JD M (.Compare a os bs pos) ρ t P := h
theorem g_cmpT {a : Expr} {os : List CmpOp} {bs : List Expr} (h : JT M (.Compare a os bs pos) ρ t T) : JT M (.Compare a os bs pos) ρ t T := h
theorem g_callT {f : Expr} {es : List Expr} {ks : List Keyword} (h : JT M (.Call f es ks pos) ρ t T) : JT M (.Call f es ks pos) ρ t T := h
theorem jt_bop {op : BoolOp} {es : List Expr} (h : JW M (.BoolOp op es pos) ρ t T) : JT M (.BoolOp op es pos) ρ t T := jt_w h
theorem g_args {e : Expr} {es : List Expr} {P : List B → Rs → Prop} (h : JA M (e :: es) ρ t P) : JA M (e :: es) ρ t P := h
end
end Dl
end
section
set_option maxRecDepth 100000
set_option maxHeartbeats 4000000
namespace Dl
open PySem PySem.Spec PyProof.Rows L2

/-! ### a def of the text by its body, over data -/
section
variable {P : Program} {w : World} {K : PySem.W.Frag} {mg : Str → Option Value} {base : Heap}
/-- where a def's body stands -/
abbrev Xo (P : Program) (w : World) (K : PySem.W.Frag) (mg : Str → Option Value) (base : Heap) (N : List Str) (qual : Str) (st : Stmt) (f : Addr) (cdv : Value) (A : Around) (outer : List Env) (s : Shared) (H : Hp) (E : XK) : Cx :=
  (cxOf CX0 P w K mg base N qual (defScope st) f cdv A outer s H E).nox
theorem args_slot {Wo : WO} {M : Md K Wo} {G H : Hp} : ∀ {vs : List V} {bs : List B}, ArgAll M G vs bs → ∀ (i : Nat) (b : B), bs[i]? = some b → Slot M G H ((vs.map some)[i]?) b
  | _, _, .nil, i, b, e => by simp at e
  | _, _, .cons h r, 0, b, e => by
    cases e
    cases h with
    | d h => exact ⟨_, rfl, h⟩
    | rd => rfl
  | _, _, .cons h r, i + 1, b, e => args_slot r i b e
theorem args_own {Wo : WO} {M : Md K Wo} {G : Hp} : ∀ {vs : List V} {bs : List B}, ArgAll M G vs bs → ∀ (i : Nat) (xs : List PyData), bs[i]? ≠ some (.own xs)
  | _, _, .nil, i, b => by simp
  | _, _, .cons h r, 0, b => by
    intro e
    cases e
    cases h
  | _, _, .cons h r, i + 1, b => args_own r i b
theorem args_im {Wo : WO} {M : Md K Wo} {G : Hp} : ∀ {vs : List V} {bs : List B}, ArgAll M G vs bs → ∀ (i : Nat) (m : Im), bs[i]? ≠ some (.im m)
  | _, _, .nil, i, b => by simp
  | _, _, .cons h r, 0, b => by
    intro e
    cases e
    cases h
  | _, _, .cons h r, i + 1, b => args_im r i b
theorem sat_start {Wo : WO} {M : Md K Wo} {t : Rs} {n : Nat} {G H : Hp} {vs : List V} {bs : List B} {N : List Str} (k : Ok M t G H) (a : ArgAll M G vs bs) (hn : bs.length = n) : Sat (M.at_ G H) t G H (L2.start N vs) (bs ++ List.replicate (N.length - n) .un) where
  st := ⟨Same.refl G, fun _ _ _ e => e, fun _ _ e => e, k.sub, k.rd⟩
  ok := ⟨k.sub, k.gr, k.rd⟩
  len := by
    unfold L2.start
    rw [List.length_append, List.length_append, List.length_map, List.length_replicate, List.length_replicate, a.length, hn]
  at_ := fun i b e => by
    unfold L2.start
    have hl := a.length
    by_cases hi : i < bs.length
    · rw [List.getElem?_append_left hi] at e
      rw [List.getElem?_append_left (by rw [List.length_map]; omega)]
      have s := args_slot (H := H) a i b e
      cases b with
      | un => trivial
      | rd => exact s
      | d x => exact s
      | own xs => exact absurd e (args_own a i xs)
      | im m => exact absurd e (args_im a i m)
    · rw [List.getElem?_append_right (by omega), List.getElem?_replicate] at e
      split at e
      · cases e
        trivial
      · cases e
  dis := fun i j xs ys l _ e _ _ _ => by
    exfalso
    by_cases hi : i < bs.length
    · rw [List.getElem?_append_left hi] at e
      exact args_own a i xs e
    · rw [List.getElem?_append_right (by omega), List.getElem?_replicate] at e
      split at e <;> cases e
theorem okD {Wo : WO} {x qual : Str} {st : Stmt} {f : Addr} {fd : FuncData} {N ps : List Str} {k n : Nat} {S : List B → Rs → (B → Rs → Prop) → Prop} (F : Fun K x qual st f fd) (Sc : FnScope N ps (defScope st)) (hn : ps.length = n)
    (body : ∀ (cdv : Value) (A : Around) (outer : List Env) (s : Shared) (H : Hp) (E : XK) (M : Md K Wo) (bs : List B) (t : Rs) (Pt : B → Rs → Prop), Room k (Xo P w K mg base N qual st f cdv A outer s H E).A → bs.length = n → S bs t Pt →
      JSs (X := Xo P w K mg base N qual st f cdv A outer s H E) M (defBody st) (bs ++ List.replicate (N.length - n) .un) t { nx := fun _ t' => Pt (.d .none) t', rt := Pt }) : FnOk P w K mg base CX0 (k + 1) f fd ps (spD K Wo n S) := by
  refine F.ok Sc (fun vs H Q E h => ?_) (fun cdv A outer s H vs Q E hr h => ?_)
  · obtain ⟨M, G, bs, t, Pt, _, a, hl, _⟩ := h
    rw [a.length, hl, hn]
  · obtain ⟨M, G, bs, t, Pt, ok, a, hl, hS, q1, q2⟩ := h
    refine ⟨_, pssT, body cdv A outer s H E (M.at_ G H) bs t Pt hr hl hS (L2.start N vs) G H (sat_start ok a hl) _ ⟨fun σ' G' H' ρ' t' S' _ p => ?_, fun σ' G' H' ρ' t' _ _ p => p.elim, fun σ' G' H' ρ' t' _ _ p => p.elim, fun G' H' t' v x s' d p => ?_, fun G' H' t' l ws xs s' h0 g e d p => ?_⟩⟩
    · exact q1 G' H' .non .none t' ⟨S'.st.gg, S'.st.hh, S'.st.fr, S'.st.sub, S'.st.rd⟩ .non p
    · exact q1 G' H' v x t' ⟨s'.gg, s'.hh, s'.fr, s'.sub, s'.rd⟩ d p
    · exact q2 G' H' l ws xs t' ⟨s'.gg, s'.hh, s'.fr, s'.sub, s'.rd⟩ h0 g e d p
theorem Fun.def_ {Wo : WO} {x qual y : Str} {st : Stmt} {f : Addr} {fd : FuncData} {ps : List Str} {k n : Nat} {S : List B → Rs → (B → Rs → Prop) → Prop} (F : Fun K x qual st f fd) (h : FnOk P w K mg base CX0 k f fd ps (spD K Wo n S)) (hm : mg y = some (.ref f)) (b : Binds K fd ps []) : Def P w K Wo mg base k y n S := ⟨f, fd, ps, h, hm, F.kp, b⟩
theorem Def.imp {Wo : WO} {k n : Nat} {x : Str} {S S' : List B → Rs → (B → Rs → Prop) → Prop} (D : Def P w K Wo mg base k x n S) (h : ∀ bs t Q, S' bs t Q → S bs t Q) : Def P w K Wo mg base k x n S' := by
  obtain ⟨f, fd, ps, F, hm, kp, hb⟩ := D.ex
  exact ⟨f, fd, ps, F.imp fun vs H Q E ⟨M, G, bs, t, Pt, a, b, c, d, e⟩ => ⟨M, G, bs, t, Pt, a, b, c, h _ _ _ d, e⟩, hm, kp, hb⟩
theorem Def.mono {Wo : WO} {k j n : Nat} {x : Str} {S : List B → Rs → (B → Rs → Prop) → Prop} (D : Def P w K Wo mg base k x n S) (h : k ≤ j) : Def P w K Wo mg base j x n S := by
  obtain ⟨f, fd, ps, F, hm, kp, hb⟩ := D.ex
  exact ⟨f, fd, ps, F.mono h, hm, kp, hb⟩
end

/-! ### repr of data, where nothing is being shown -/
section
variable {X : Cx}
def rRepr (K : PySem.W.Frag) : List V → Hp → VK → Prop := fun xs H Q => ∃ v d, xs = [v] ∧ Dp K H v d ∧ d.showable = true ∧ d.hasDict = false ∧ d.depth ≤ 64 ∧ d.shown.length ≤ sizeLine ∧ (∀ i, d = .int i → i.natAbs.log2 < 1920) ∧ Q (.str d.shown) H
theorem cr_repr {k : Nat} (hr : Room k X.A) (hg : X.A.guards = some []) : CallR X (.builtin "repr") (rRepr X.K) := by
  intro pins s σ H xs us Q I r h
  obtain ⟨v, d, rfl, dp, h1, h2, h3, h4, h5, q⟩ := h
  obtain ⟨u, rfl, rv⟩ := vals1 r
  obtain ⟨as, rd⟩ := Dp.reads I d v u dp rv
  have hu := hr.un
  cases dp with
  | non =>
    cases rv
    exact PySem.P.repr_of_none ⟨.str _, H, I.tok _, ⟨_, rfl⟩, q⟩
  | bl b =>
    cases rv
    exact PySem.P.repr_of_bool ⟨.str _, H, I.tok _, ⟨_, rfl⟩, by cases b <;> exact q⟩
  | int i =>
    obtain ⟨t, rfl⟩ := rv
    exact PySem.P.repr_of_int (h5 i rfl) ⟨.str _, H, I.tok _, ⟨_, rfl⟩, q⟩
  | str z =>
    obtain ⟨t, rfl⟩ := rv
    exact PySem.P.repr_of_str ⟨.str _, H, I.tok _, ⟨_, rfl⟩, q⟩ h4
  | lst e f =>
    cases rv
    exact PySem.repr_of_reads' rd h1 (fun z => by rw [h2] at z; cases z) hg (by omega) (fun _ _ e => e) (fun h' u tk hk => ⟨.str _, H, I.kept hk, ⟨_, rfl⟩, q⟩) h4
  | tup e f =>
    cases rv
    exact PySem.repr_of_reads' rd h1 (fun z => by rw [h2] at z; cases z) hg (by omega) (fun _ _ e => e) (fun h' u tk hk => ⟨.str _, H, I.kept hk, ⟨_, rfl⟩, q⟩) h4
end
end Dl
end
section
set_option maxRecDepth 100000
set_option maxHeartbeats 4000000
namespace Dl
open PySem PySem.Spec PyProof.Rows L2

/-! ### the reader [cells, next, rest, draws] -/
def W4 : WO := fun t G o => ∃ c, o = .lst [.ref c, .int t.nxt, .int t.rest, .int t.draws] ∧ G c = some (.lst (t.ns.map V.int))
theorem w4_up {t : Rs} {G G' : Hp} {o : HO} (e : Same G G') (h : W4 t G o) : W4 t G' o := by
  obtain ⟨c, h1, h2⟩ := h
  exact ⟨c, h1, e _ _ h2⟩
def Rs.fld (t : Rs) : Int → Int
  | 1 => t.nxt
  | 2 => t.rest
  | _ => t.draws
def Rs.put (t : Rs) (k v : Int) : Rs := match k with
  | 1 => { t with nxt := v }
  | 2 => { t with rest := v }
  | _ => { t with draws := v }
theorem Sat.rdSet {K : PySem.W.Frag} {Wo : WO} {M : Md K Wo} {t t' : Rs} {G H : Hp} {σ : L2.St} {ρ : List B} {o : HO} (S : Sat M t G H σ ρ) (w : Wo t' G o) : Sat M t' G (upd H M.r o) σ ρ := by
  have sub : Same G (upd H M.r o) := fun b u z => by
    rw [upd_ne (ne_of_none z S.ok.gr)]
    exact S.ok.sub b u z
  refine ⟨⟨S.st.gg, fun b u nb z => ?_, S.st.fr, sub, o, upd_same, w⟩, ⟨sub, S.ok.gr, o, upd_same, w⟩, S.len, fun j b e => ?_, S.dis⟩
  · rw [upd_ne nb]
    exact S.st.hh b u nb z
  · have s := S.at_ j b e
    cases b with
    | un => trivial
    | rd => exact s
    | d x => exact s
    | own xs =>
      obtain ⟨l, vs, e1, n, g, h, h0, d⟩ := s
      refine ⟨l, vs, e1, n, g, ?_, h0, d⟩
      rw [upd_ne n]
      exact h
    | im m => exact s
section
variable {X : Cx} {M : Md X.K W4} {ρ : List B} {t : Rs} {e : Expr} {P : PyData → Rs → Prop} {pos apos p cp : Pos} {D : Dk} {x : Str} {j : Nat} {rest : List Stmt}
theorem jd_rdN (i : Nat) {k : Int} (hk : k = 1 ∨ k = 2 ∨ k = 3) (hr : ρ[i]? = some .rd) (q : P (.int (t.fld k)) t) (hN : X.N[i]? = some x := by rfl) (hv : Vis X.env.scope x := by first | exact Or.inl rfl | exact Or.inr (Or.inl rfl) | exact Or.inr (Or.inr rfl))
    (hd : (x == ("__debug__" : Str)) = false := by decide) (hcd : (x == ("__classdict__" : Str)) = false := by decide) : JD M (.Subscript (.Name x p) (.Constant (.int k) j cp) pos) ρ t P :=
  jd_of (pe_ix ix_list (pv i hN hv hd hcd) pe_int (fun _ _ => rfl)) fun σ G H S Q r => by
    obtain ⟨o, ho, c, eo, hc⟩ := S.ok.rd
    subst eo
    refine ⟨.ref M.r, S.at_ i _ hr, M.r, _, k, .int (t.fld k), rfl, rfl, .inl (.inl ho), ?_, r G H _ _ t S.ok.refl (.int _) q⟩
    rcases hk with rfl | rfl | rfl <;> rfl
theorem jd_rdC (i : Nat) (hr : ρ[i]? = some .rd) (q : P (.list (t.ns.map PyData.int)) t) (hN : X.N[i]? = some x := by rfl) (hv : Vis X.env.scope x := by first | exact Or.inl rfl | exact Or.inr (Or.inl rfl) | exact Or.inr (Or.inr rfl))
    (hd : (x == ("__debug__" : Str)) = false := by decide) (hcd : (x == ("__classdict__" : Str)) = false := by decide) : JD M (.Subscript (.Name x p) (.Constant (.int 0) j cp) pos) ρ t P :=
  jd_of (pe_ix ix_list (pv i hN hv hd hcd) pe_int (fun _ _ => rfl)) fun σ G H S Q r => by
    obtain ⟨o, ho, c, eo, hc⟩ := S.ok.rd
    subst eo
    exact ⟨.ref M.r, S.at_ i _ hr, M.r, _, 0, .ref c, rfl, rfl, .inl (.inl ho), rfl, r G H _ _ t S.ok.refl (.lst hc (DeAll.ofInts _)) q⟩
theorem js_rdSet (i : Nat) {k : Int} (hk : k = 1 ∨ k = 2 ∨ k = 3) (hr : ρ[i]? = some .rd) (h : JD M e ρ t fun y t1 => ∃ v, y = .int v ∧ D.nx ρ (t1.put k v))
    (ha : ∀ v, assign (.Subscript (.Name x p) (.Constant (.int k) j cp) apos) X.env v = (do
      let ov ← holding [v] (eval (.Name x p) X.env)
      let iv ← holding [v, ov] (eval (.Constant (.int k) j cp) X.env)
      standAt apos
      holding [v, ov, iv] (setItem ov iv v)
      release [v, ov, iv] []) := by intro _; rfl)
    (hN : X.N[i]? = some x := by rfl) (hv : Vis X.env.scope x := by first | exact Or.inl rfl | exact Or.inr (Or.inl rfl) | exact Or.inr (Or.inr rfl)) (hd : (x == ("__debug__" : Str)) = false := by decide) (hcd : (x == ("__classdict__" : Str)) = false := by decide)
    (hs : swapsWithSole [.Subscript (.Name x p) (.Constant (.int k) j cp) apos] e pos.line X.env = pure false := by rfl) (hw : swappedStores [.Subscript (.Name x p) (.Constant (.int k) j cp) apos] e X.env = pure none := by rfl)
    (h1 : (assignEach [.Subscript (.Name x p) (.Constant (.int k) j cp) apos] X.env).map (·.2) = [assign (.Subscript (.Name x p) (.Constant (.int k) j cp) apos) X.env] := by rfl) : JS M (.Assign [.Subscript (.Name x p) (.Constant (.int k) j cp) apos] e pos) ρ t D :=
  js_of (ps_asg peT (pg_sub (pv i hN hv hd hcd) pe_int set_list ha) hs hw h1) fun σ G H S E F => h σ G H S _ fun G1 H1 v y t1 s1 d1 ⟨z, ez, q⟩ => by
    subst ez
    have S1 := S.step s1
    obtain ⟨o, ho, c, eo, hc⟩ := S1.ok.rd
    subst eo
    rw [d1.intE]
    have go : ∀ (ws : List V) (n : Nat), ixN 4 k = some n → ([V.ref c, .int t1.nxt, .int t1.rest, .int t1.draws].set n (.int z)) = ws → W4 (t1.put k z) G1 (.lst ws) → gSub (tVar i) (tC (.int k)) rSetL (.int z) σ H1 E.nx := fun ws n e1 e2 w =>
      ⟨.ref M.r, S1.at_ i _ hr, M.r, _, k, n, rfl, rfl, ho, e1, by
        rw [e2]
        exact F.nx σ G1 _ ρ _ (S1.rdSet w) s1.gg q⟩
    rcases hk with rfl | rfl | rfl
    · exact go _ 1 rfl rfl ⟨c, rfl, hc⟩
    · exact go _ 2 rfl rfl ⟨c, rfl, hc⟩
    · exact go _ 3 rfl rfl ⟨c, rfl, hc⟩
theorem jss_rdSet (i : Nat) {k : Int} (hk : k = 1 ∨ k = 2 ∨ k = 3) (hr : ρ[i]? = some .rd) (h : JD M e ρ t fun y t1 => ∃ v, y = .int v ∧ JSs M rest ρ (t1.put k v) D)
    (ha : ∀ v, assign (.Subscript (.Name x p) (.Constant (.int k) j cp) apos) X.env v = (do
      let ov ← holding [v] (eval (.Name x p) X.env)
      let iv ← holding [v, ov] (eval (.Constant (.int k) j cp) X.env)
      standAt apos
      holding [v, ov, iv] (setItem ov iv v)
      release [v, ov, iv] []) := by intro _; rfl)
    (hN : X.N[i]? = some x := by rfl) (hv : Vis X.env.scope x := by first | exact Or.inl rfl | exact Or.inr (Or.inl rfl) | exact Or.inr (Or.inr rfl)) (hd : (x == ("__debug__" : Str)) = false := by decide) (hcd : (x == ("__classdict__" : Str)) = false := by decide)
    (hs : swapsWithSole [.Subscript (.Name x p) (.Constant (.int k) j cp) apos] e pos.line X.env = pure false := by rfl) (hw : swappedStores [.Subscript (.Name x p) (.Constant (.int k) j cp) apos] e X.env = pure none := by rfl)
    (h1 : (assignEach [.Subscript (.Name x p) (.Constant (.int k) j cp) apos] X.env).map (·.2) = [assign (.Subscript (.Name x p) (.Constant (.int k) j cp) apos) X.env] := by rfl) : JSs M (.Assign [.Subscript (.Name x p) (.Constant (.int k) j cp) apos] e pos :: rest) ρ t D := jss_cons (js_rdSet i hk hr h ha hN hv hd hcd hs hw h1)
end
/-! ### data that may be compared -/
theorem lay_ints : ∀ ns : List Int, PyData.canLayAll0 (ns.map PyData.int) = true
  | [] => by simp [PyData.canLayAll0]
  | n :: ns => by simp [PyData.canLayAll0, PyData.canLay0, lay_ints ns]
theorem dep_ints : ∀ ns : List Int, PyData.depthAll (ns.map PyData.int) ≤ 1
  | [] => by simp [PyData.depthAll]
  | n :: ns => by
    have h := dep_ints ns
    simp only [List.map_cons, PyData.depthAll, PyData.depth]
    omega
theorem shaped_of {d : PyData} (h : d.canLay0 = true) (h2 : d.depth ≤ 64) : SeqAt.shaped d = true := by
  show (d.canLay0 && decide (d.depth ≤ 64)) = true
  rw [h, decide_eq_true h2]
  rfl
theorem shaped_ints (ns : List Int) : SeqAt.shaped (.list (ns.map PyData.int)) = true := by
  refine shaped_of (by simp only [PyData.canLay0]; exact lay_ints ns) ?_
  have h := dep_ints ns
  simp only [PyData.depth]
  omega
theorem shaped_intsT (ns : List Int) : SeqAt.shaped (.tuple (ns.map PyData.int)) = true := by
  refine shaped_of (by simp only [PyData.canLay0]; exact lay_ints ns) ?_
  have h := dep_ints ns
  simp only [PyData.depth]
  omega
end Dl
end
section
set_option maxRecDepth 100000
set_option maxHeartbeats 4000000
namespace Dl
open PySem PySem.Spec PyProof.Rows L2

/-! ### plain data and its size -/
mutual
def Fin : PyData → Prop
  | .none => True
  | .bool _ => True
  | .int i => i.natAbs < 2 ^ 256
  | .str y => ∀ c ∈ y.cps.toList, c < 128
  | .list xs => FinA xs
  | .tuple xs => FinA xs
  | .dict _ => False
def FinA : List PyData → Prop
  | [] => True
  | x :: xs => Fin x ∧ FinA xs
end
mutual
def sz : PyData → Nat
  | .none => 1
  | .bool _ => 1
  | .int _ => 1
  | .str y => 1 + y.length
  | .list xs => 1 + szA xs
  | .tuple xs => 1 + szA xs
  | .dict _ => 1
def szA : List PyData → Nat
  | [] => 0
  | x :: xs => sz x + szA xs
end
theorem FinA_iff : ∀ {xs : List PyData}, FinA xs ↔ ∀ x ∈ xs, Fin x
  | [] => by simp [FinA]
  | x :: xs => by
    rw [FinA, FinA_iff]
    simp
theorem FinA_app {xs ys : List PyData} : FinA (xs ++ ys) ↔ FinA xs ∧ FinA ys := by
  rw [FinA_iff, FinA_iff, FinA_iff]
  constructor
  · intro h
    exact ⟨fun x hx => h x (List.mem_append_left _ hx), fun x hx => h x (List.mem_append_right _ hx)⟩
  · rintro ⟨h1, h2⟩ x hx
    rcases List.mem_append.mp hx with h | h
    · exact h1 x h
    · exact h2 x h
theorem szA_app : ∀ (xs ys : List PyData), szA (xs ++ ys) = szA xs + szA ys
  | [], ys => by simp [szA]
  | x :: xs, ys => by
    rw [List.cons_append, szA, szA, szA_app xs ys]
    omega
theorem sz_pos (x : PyData) : 1 ≤ sz x := by
  cases x <;> simp only [sz] <;> omega
theorem len_szA : ∀ xs : List PyData, xs.length ≤ szA xs
  | [] => Nat.zero_le _
  | x :: xs => by
    have h1 := len_szA xs
    have h2 := sz_pos x
    rw [List.length_cons, szA]
    omega
theorem szA_mem : ∀ {xs : List PyData} {x : PyData}, x ∈ xs → sz x ≤ szA xs
  | [], _, h => absurd h List.not_mem_nil
  | y :: xs, x, h => by
    rw [szA]
    rcases List.mem_cons.mp h with rfl | h
    · omega
    · have := szA_mem h
      omega
theorem dep_mem : ∀ {xs : List PyData} {x : PyData}, x ∈ xs → x.depth ≤ PyData.depthAll xs
  | [], _, h => absurd h List.not_mem_nil
  | y :: xs, x, h => by
    simp only [PyData.depthAll]
    rcases List.mem_cons.mp h with rfl | h
    · omega
    · have := dep_mem h
      omega
theorem depA_le : ∀ {xs : List PyData} {n : Nat}, (∀ x ∈ xs, x.depth ≤ n) → PyData.depthAll xs ≤ n
  | [], n, _ => by simp only [PyData.depthAll]; omega
  | y :: xs, n, h => by
    simp only [PyData.depthAll]
    have h1 := h y List.mem_cons_self
    have h2 := depA_le fun x hx => h x (List.mem_cons_of_mem _ hx)
    omega
mutual
theorem Fin.lay : ∀ x : PyData, Fin x → x.canLay0 = true
  | .none, _ => by simp only [PyData.canLay0]
  | .bool _, _ => by simp only [PyData.canLay0]
  | .int _, _ => by simp only [PyData.canLay0]
  | .str y, h => by
    simp only [PyData.canLay0, PyData.strOk, Array.all_eq_true]
    intro i hi
    have := h y.cps[i] (by simp)
    exact decide_eq_true (by omega)
  | .list xs, h => by
    simp only [PyData.canLay0]
    exact FinA.lay xs h
  | .tuple xs, h => by
    simp only [PyData.canLay0]
    exact FinA.lay xs h
  | .dict _, h => h.elim
theorem FinA.lay : ∀ xs : List PyData, FinA xs → PyData.canLayAll0 xs = true
  | [], _ => by simp only [PyData.canLayAll0]
  | x :: xs, h => by
    simp only [PyData.canLayAll0]
    rw [Fin.lay x h.1, FinA.lay xs h.2]
    rfl
end
mutual
theorem Fin.show_ : ∀ x : PyData, Fin x → x.showable = true
  | .none, _ => by simp only [PyData.showable]
  | .bool _, _ => by simp only [PyData.showable]
  | .int i, h => by
    simp only [PyData.showable]
    have h' : i.natAbs < 2 ^ 256 := h
    refine decide_eq_true ?_
    by_cases e : i.natAbs = 0
    · rw [e]
      decide
    · have := (Nat.log2_lt e).mpr h'
      omega
  | .str y, _ => by simp only [PyData.showable]
  | .list xs, h => by
    simp only [PyData.showable]
    exact FinA.show_ xs h
  | .tuple xs, h => by
    simp only [PyData.showable]
    exact FinA.show_ xs h
  | .dict _, h => h.elim
theorem FinA.show_ : ∀ xs : List PyData, FinA xs → PyData.showableAll xs = true
  | [], _ => by simp only [PyData.showableAll]
  | x :: xs, h => by
    simp only [PyData.showableAll]
    rw [Fin.show_ x h.1, FinA.show_ xs h.2]
    rfl
end
theorem len_app (a b : Str) : (a ++ b).length = a.length + b.length := strLen_append a b
theorem listText_len (ts : List Str) : (listText ts).length ≤ piled ts + 2 := by
  cases ts with
  | nil => decide
  | cons t r =>
    have h := textFrom_length_pos r 1 (("[" : Str) ++ (if (0 : Nat) > 0 then ", " else "" : String) ++ t) (Nat.succ_pos 0)
    have e : ((("[" : Str) ++ (if (0 : Nat) > 0 then ", " else "" : String) ++ t)).length = 1 + t.length := by
      rw [len_app, len_app]
      rfl
    have hX : (listText (t :: r)).length = (textFrom 1 (("[" : Str) ++ (if (0 : Nat) > 0 then ", " else "" : String) ++ t) r).length + 1 := by
      show (textFrom 0 "[" (t :: r) ++ "]").length = _
      rw [len_app]
      rfl
    rw [hX, h, e, piled_cons]
    omega
theorem tupleText_len (ts : List Str) : (tupleText ts).length ≤ piled ts + 3 := by
  unfold tupleText
  rw [len_app, len_app]
  have e1 : ((("(" : String) : Str)).length = 1 := rfl
  have e3 : (((if ts.length == 1 then ",)" else ")" : String) : Str)).length ≤ 2 := by split <;> decide
  rw [e1]
  by_cases h : ts = []
  · subst h
    decide
  · have := join_length_add ts h
    omega
mutual
theorem Fin.len : ∀ x : PyData, Fin x → x.shown.length + 2 ≤ 300 * sz x
  | .none, _ => by
    simp only [PyData.shown, sz]
    decide
  | .bool b, _ => by
    simp only [PyData.shown, sz]
    cases b <;> decide
  | .int i, h => by
    simp only [PyData.shown, sz]
    have h' : i.natAbs < 2 ^ 256 := h
    have hl : i.natAbs.log2 < 256 := by
      by_cases e : i.natAbs = 0
      · rw [e]
        decide
      · exact (Nat.log2_lt e).mpr h'
    have := int_text_length_le (a := i) (by decide : 0 < 256) hl
    show (Str.ofString (toString i)).length + 2 ≤ _
    rw [PySem.ofString_length]
    omega
  | .str y, h => by
    simp only [PyData.shown, sz]
    have := StrLaws.reprText_len y fun c hc => Nat.lt_of_lt_of_le (h c hc) (by decide)
    omega
  | .list xs, h => by
    simp only [PyData.shown, sz]
    have h1 := listText_len (PyData.shownAll xs)
    have h2 := FinA.len xs h
    omega
  | .tuple xs, h => by
    simp only [PyData.shown, sz]
    have h1 := tupleText_len (PyData.shownAll xs)
    have h2 := FinA.len xs h
    omega
  | .dict _, h => h.elim
theorem FinA.len : ∀ xs : List PyData, FinA xs → piled (PyData.shownAll xs) ≤ 300 * szA xs
  | [], _ => by
    simp only [PyData.shownAll, szA]
    decide
  | x :: xs, h => by
    simp only [PyData.shownAll, szA]
    rw [piled_cons]
    have h1 := Fin.len x h.1
    have h2 := FinA.len xs h.2
    omega
end
end Dl
end
section
set_option maxRecDepth 100000
set_option maxHeartbeats 4000000
namespace Dl
open PySem PySem.Spec PyProof.Rows L2

/-! ### names of the module -/
section
variable {X : Cx} {Wo : WO} {M : Md X.K Wo} {ρ : List B} {t : Rs} {P : PyData → Rs → Prop} {a b e : Expr} {es : List Expr} {pos p : Pos} {x : Str}
theorem jd_glob {u : Value} {v : V} {d : PyData} (hm : X.mg x = some u) (hv : RelV v u) (hd : ∀ G, De X.K G v d) (q : P d t) (hg : Gl X x := by rfl) (h : (x == Str.ofString "__debug__") = false := by decide) : JD M (.Name x p) ρ t P :=
  jd_of (pe_glob hg hm hv h) fun σ G H S Q r => r G H v d t S.ok.refl (hd G) q
/-- d[k], d a written dict with text keys -/
theorem jd_kdict {y : Str} {p2 : Pos} {ad : Addr} (hm : X.mg y = some (.ref ad)) (h : JD M b ρ t fun z t1 => ∃ k v, z = .str k ∧ KDct X.K X.w ad k (.int v) ∧ P (.int v) t1)
    (hg : Gl X y := by rfl) (h2 : (y == Str.ofString "__debug__") = false := by decide) (hp : PlainIx b := by intro _ _; rfl) : JD M (.Subscript (.Name y p2) b pos) ρ t P :=
  jd_of (pe_ix ix_kdict (pe_glob (v := .ref ad) hg hm rfl h2) peT hp) fun σ G H S Q r => h σ G H S _ fun G1 H1 v z t1 s1 d1 ⟨k, i, ez, kd, q⟩ => by
    subst ez
    exact ⟨ad, k, .int i, rfl, d1.strE, kd, r G1 H1 _ _ t1 s1 (.int i) q⟩

/-! ### x in t, t a tuple of data -/
theorem op_inU (hu : X.A.units + 65 < cLine) : OpR X (compareOp .In) (rInU X.K false) := by
  intro pins s σ H x y v u Q I rx ry h
  obtain ⟨d, ds, hd, he, sd, se, q⟩ := h
  obtain ⟨as, r1⟩ := Dp.reads I d x v hd rx
  obtain ⟨bs, r2⟩ := Dp.reads I (.tuple ds) y u he ry
  have lay : PyData.canLayAll0 ds = true := by
    have z := SeqAt.canLay_of_shaped se
    simpa only [PyData.canLay0] using z
  have dd : d.depth ≤ 64 := by
    have z : (d.canLay0 && decide (d.depth ≤ 64)) = true := sd
    rw [Bool.and_eq_true] at z
    exact of_decide_eq_true z.2
  exact SeqAt.in_tuple_reads r2 r1 lay (SeqAt.canLay_of_shaped sd) (by omega) ⟨.bl _, H, I, rfl, q⟩
theorem op_niU (hu : X.A.units + 65 < cLine) : OpR X (compareOp .NotIn) (rInU X.K true) := by
  intro pins s σ H x y v u Q I rx ry h
  obtain ⟨d, ds, hd, he, sd, se, q⟩ := h
  obtain ⟨as, r1⟩ := Dp.reads I d x v hd rx
  obtain ⟨bs, r2⟩ := Dp.reads I (.tuple ds) y u he ry
  have lay : PyData.canLayAll0 ds = true := by
    have z := SeqAt.canLay_of_shaped se
    simpa only [PyData.canLay0] using z
  have dd : d.depth ≤ 64 := by
    have z : (d.canLay0 && decide (d.depth ≤ 64)) = true := sd
    rw [Bool.and_eq_true] at z
    exact of_decide_eq_true z.2
  exact SeqAt.notIn_tuple_reads r2 r1 lay (SeqAt.canLay_of_shaped sd) (by omega) ⟨.bl _, H, I, rfl, q⟩
theorem bn_inU {K : PySem.W.Frag} {M : Md K Wo} {neg : Bool} {d : PyData} {ds : List PyData} (h1 : SeqAt.shaped d = true) (h2 : SeqAt.shaped (.tuple ds) = true) (p : P (.bool (if neg then !ds.any fun z => PyData.eqv z d else ds.any fun z => PyData.eqv z d)) t) : Bn M (rInU K neg) d (.tuple ds) t P :=
  fun G H v w k hv hw Q q => ⟨d, ds, De.dp _ _ (De.up k.sub _ _ hv), De.dp _ _ (De.up k.sub _ _ hw), h1, h2, keep k q (.bl _) p⟩
theorem jd_inU {k : Nat} (hr : Room k X.A) (h : JD M a ρ t fun x t1 => JD M b ρ t1 fun y t2 => ∃ ys, y = .tuple ys ∧ SeqAt.shaped x = true ∧ SeqAt.shaped (.tuple ys) = true ∧ P (.bool (ys.any fun z => PyData.eqv z x)) t2) (hm : behindInMarks .In b = false := by rfl) : JD M (.Compare a [.In] [b] pos) ρ t P :=
  jd_cmp (op_inU (by have := hr.un; omega)) hm (h.imp fun x _ h1 => h1.imp fun y _ ⟨ys, e, c, d, q⟩ => by
    subst e
    exact bn_inU c d q)
theorem jt_inU {P : Bool → Rs → Prop} {k : Nat} (hr : Room k X.A) (h : JD M a ρ t fun x t1 => JD M b ρ t1 fun y t2 => ∃ ys, y = .tuple ys ∧ SeqAt.shaped x = true ∧ SeqAt.shaped (.tuple ys) = true ∧ P (ys.any fun z => PyData.eqv z x) t2) (hm : behindInMarks .In b = false := by rfl) : JT M (.Compare a [.In] [b] pos) ρ t P :=
  jt_cmp (op_inU (by have := hr.un; omega)) hm (h.imp fun x _ h1 => h1.imp fun y _ ⟨ys, e, c, d, q⟩ => by
    subst e
    exact bn_inU c d ⟨_, rfl, q⟩)
theorem jd_niU {k : Nat} (hr : Room k X.A) (h : JD M a ρ t fun x t1 => JD M b ρ t1 fun y t2 => ∃ ys, y = .tuple ys ∧ SeqAt.shaped x = true ∧ SeqAt.shaped (.tuple ys) = true ∧ P (.bool (!ys.any fun z => PyData.eqv z x)) t2) (hm : behindInMarks .NotIn b = false := by rfl) : JD M (.Compare a [.NotIn] [b] pos) ρ t P :=
  jd_cmp (op_niU (by have := hr.un; omega)) hm (h.imp fun x _ h1 => h1.imp fun y _ ⟨ys, e, c, d, q⟩ => by
    subst e
    exact bn_inU c d q)
theorem jt_niU {P : Bool → Rs → Prop} {k : Nat} (hr : Room k X.A) (h : JD M a ρ t fun x t1 => JD M b ρ t1 fun y t2 => ∃ ys, y = .tuple ys ∧ SeqAt.shaped x = true ∧ SeqAt.shaped (.tuple ys) = true ∧ P (!ys.any fun z => PyData.eqv z x) t2) (hm : behindInMarks .NotIn b = false := by rfl) : JT M (.Compare a [.NotIn] [b] pos) ρ t P :=
  jt_cmp (op_niU (by have := hr.un; omega)) hm (h.imp fun x _ h1 => h1.imp fun y _ ⟨ys, e, c, d, q⟩ => by
    subst e
    exact bn_inU c d ⟨_, rfl, q⟩)
/-- one sign in a text -/
theorem jd_inS (h : JD M a ρ t fun x t1 => ∃ c, x = .str ⟨#[c]⟩ ∧ JD M b ρ t1 fun y t2 => ∃ z, y = .str z ∧ P (.bool (decide (c ∈ z.cps.toList))) t2) (hm : behindInMarks .In b = false := by rfl) : JD M (.Compare a [.In] [b] pos) ρ t P :=
  jd_cmp op_in_sign hm (h.imp fun x _ ⟨c, e, h1⟩ => h1.imp fun y _ ⟨z, e2, q⟩ => by
    subst e e2
    exact fun G H v w k hv hw Q r => ⟨c, z, hv.strE, hw.strE, keep k r (.bl _) q⟩)
/-- t < u, tuples of ints -/
theorem jd_ltT {k : Nat} (hr : Room k X.A) (h : JD M a ρ t fun x t1 => ∃ ns : List Int, x = .tuple (ns.map PyData.int) ∧ JD M b ρ t1 fun y t2 => ∃ ms : List Int, y = .tuple (ms.map PyData.int) ∧ P (.bool (HT.lexLt ns ms)) t2) : JD M (.Compare a [.Lt] [b] pos) ρ t P :=
  jd_cmp (op_ltT hr.units0) (nomark _) (h.imp fun x _ ⟨ns, e, h1⟩ => h1.imp fun y _ ⟨ms, e2, q⟩ => by
    subst e e2
    intro G H v w k hv hw Q r
    obtain ⟨a1, vs, rfl, st, da⟩ := hv.tupE
    obtain ⟨a2, ws, rfl, st2, da2⟩ := hw.tupE
    rw [da.ints] at st
    rw [da2.ints] at st2
    exact ⟨a1, a2, ns, ms, rfl, rfl, sqt_up k.sub st, sqt_up k.sub st2, keep k r (.bl _) q⟩)

/-! ### a star in a display -/
theorem ja_star {st : Pos} {P : List B → Rs → Prop} (h : JD M e ρ t fun x t1 => ∃ xs, (x = .tuple xs ∨ x = .list xs) ∧ JA M es ρ t1 fun bs t2 => P (xs.map B.d ++ bs) t2)
    (hs : starEach (.Starred e st :: es) X.env = (true, eval e X.env) :: starEach es X.env := by rfl) : JA M (.Starred e st :: es) ρ t P :=
  ja_of (StX.pa_star peT paT hs) fun σ G H S Q q => h σ G H S _ fun G1 H1 v x t1 s1 d1 ⟨xs, ex, h1⟩ => by
    have args : ∀ {G2 : Hp} {vs : List V} {xs : List PyData}, DeAll X.K G2 vs xs → ∀ {ws : List V} {bs : List B}, ArgAll M G2 ws bs → ArgAll M G2 (vs ++ ws) (xs.map B.d ++ bs) := by
      intro G2 vs xs da ws bs r
      induction xs generalizing vs with
      | nil =>
        cases da
        exact r
      | cons y ys ih =>
        cases da with
        | cons d da => exact .cons (.d d) (ih da)
    rcases ex with e1 | e1
    · subst e1
      obtain ⟨a1, vs, rfl, st, da⟩ := d1.tupE
      exact ⟨a1, vs, rfl, .inl (sqt_up (S.step s1).ok.sub st), h1 σ G1 H1 (S.step s1) _ fun G2 H2 ws bs t2 s2 ar p => q G2 H2 _ _ t2 (s1.trans s2) (args (DeAll.up s2.gg _ _ da) ar) p⟩
    · subst e1
      obtain ⟨a1, vs, rfl, st, da⟩ := d1.lstE
      exact ⟨a1, vs, rfl, .inr (.inl (.inl ((S.step s1).ok.sub _ _ st))), h1 σ G1 H1 (S.step s1) _ fun G2 H2 ws bs t2 s2 ar p => q G2 H2 _ _ t2 (s1.trans s2) (args (DeAll.up s2.gg _ _ da) ar) p⟩
end
end Dl
end
section
set_option maxRecDepth 100000
set_option maxHeartbeats 4000000
namespace Dl
open PySem PySem.Spec PyProof.Rows L2

/-! ### {'a': 'b', ..}.get(k), the dict written on the spot -/
def cPairs (kvs : List (Str × Str)) : List (TE × TE) := kvs.map fun p => (tC (.str p.1), tC (.str p.2))
theorem tPairs_c {σ : L2.St} {H : Hp} : ∀ (kvs : List (Str × Str)) (Q : List (V × V) → Hp → Prop), Q (kvs.map fun p => (.str p.1, .str p.2)) H → tPairs (cPairs kvs) σ H Q
  | [], Q, h => h
  | p :: r, Q, h => tPairs_c r (fun ps H' => Q ((.str p.1, .str p.2) :: ps) H') h
def getS (kvs : List (Str × Str)) (s : Str) : Option Str := (kvs.find? fun p => decide (p.1 = s)).map (·.2)
def optD : Option Str → PyData
  | some s => .str s
  | none => .none
section
variable {X : Cx} {Wo : WO} {M : Md X.K Wo} {ρ : List B} {t : Rs} {P : PyData → Rs → Prop} {d e : Expr} {cpos apos : Pos}
theorem jd_dget {k : Nat} (kvs : List (Str × Str)) (hr : Room k X.A) (hd : PE X d (tDisp (cPairs kvs))) (hn : kvs.length ≤ 15) (hm : mergeK [] (kvs.map fun p => (Sum.inr p.1, V.str p.2)) = kvs.map fun p => (Sum.inr p.1, V.str p.2))
    (h : JD M e ρ t fun y t1 => ∃ s, y = .str s ∧ P (optD (getS kvs s)) t1) (m : M1 X d "get" apos e cpos) : JD M (.Call (.Attribute d "get" apos) [e] [] cpos) ρ t P :=
  jd_of (pe_dget1 (by have := hr.un; omega) hd peT m) fun σ G H S Q q => fun p hp => by
    refine tPairs_c kvs _ ⟨upd_same, kvs.map fun p => (Sum.inr p.1, V.str p.2), ?_, by rw [List.length_map]; exact hn, ?_⟩
    · rw [List.map_map]
      rfl
    · rw [hm]
      have k0 := S.ok
      have s1 := k0.layO (o := .dK []) hp
      have eU : upd (upd H p (.dK [])) p (.dK (kvs.map fun p => (Sum.inr p.1, V.str p.2))) = upd H p (.dK (kvs.map fun p => (Sum.inr p.1, V.str p.2))) := by
        funext b
        by_cases hb : b = p
        · subst hb
          rw [upd_same, upd_same]
        · rw [upd_ne hb, upd_ne hb, upd_ne hb]
      rw [eU]
      have s2 := k0.layO (o := .dK (kvs.map fun p => (Sum.inr p.1, V.str p.2))) hp
      refine ⟨p, rfl, .inl ⟨_, .inl upd_same⟩, h σ G _ (S.step s2) _ fun G3 H3 v y t3 s3 d3 ⟨s, ey, q3⟩ => ?_⟩
      subst ey
      have hpr : p ≠ M.r := S.ne_r hp
      have h3 : H3 p = some (.dK (kvs.map fun p => (Sum.inr p.1, V.str p.2))) := s3.hh p _ hpr upd_same
      rw [d3.strE]
      refine ⟨_, DGet.k (k := Sum.inr s) h3, ?_⟩
      have e1 : valV (kvs.map fun p => ((Sum.inr p.1 : Key), V.str p.2)) (Sum.inr s) = (getS kvs s).map V.str := by
        unfold valV getS
        rw [List.find?_map]
        simp only [Function.comp_def, Option.map_map]
        congr 1
        congr 1
        funext x
        by_cases hx : x.1 = s
        · rw [decide_eq_true hx, decide_eq_true (by rw [hx])]
        · rw [decide_eq_false hx, decide_eq_false (fun z => hx (Sum.inr.inj z))]
      rw [e1]
      cases eg : getS kvs s with
      | none =>
        rw [eg] at q3
        exact q G3 H3 .non .none t3 (s2.trans s3) .non q3
      | some z =>
        rw [eg] at q3
        exact q G3 H3 (.str z) (.str z) t3 (s2.trans s3) (.str z) q3
/-- a chain of comparisons of texts as a test -/
theorem jt_chainS {P : Bool → Rs → Prop} {a b c : Expr} {pos : Pos} {op op' : CmpOp} {g g' : Str → Str → Bool} {r r' : R2} (ho : OpR X (compareOp op) r) (ho' : OpR X (compareOp op') r') (hr : ∀ i j H (Q : VK), Q (.bl (g i j)) H → r (.str i) (.str j) H Q) (hr' : ∀ i j H (Q : VK), Q (.bl (g' i j)) H → r' (.str i) (.str j) H Q)
    (h : JD M a ρ t fun x t1 => ∃ i, x = .str i ∧ JD M b ρ t1 fun y t2 => ∃ j, y = .str j ∧ (g i j = false → P false t2) ∧ (g i j = true → JD M c ρ t2 fun z t3 => ∃ k, z = .str k ∧ P (g' j k) t3)) (hm : lastMarks [op, op'] [b, c] = false := by rfl) : JT M (.Compare a [op, op'] [b, c] pos) ρ t P :=
  jt_of (pt_chain ho ho' peT peT peT hm) fun σ G H S Q q => h σ G H S _ fun G1 H1 v x t1 s1 d1 ⟨i, e1, h1⟩ => h1 σ G1 H1 (S.step s1) _ fun G2 H2 w y t2 s2 d2 ⟨j, e2, hf, ht⟩ => by
    subst e1 e2
    rw [d1.strE, d2.strE]
    refine hr i j _ _ ⟨g i j, rfl, ?_⟩
    cases hg : g i j with
    | true =>
      refine iteT (ht hg σ G2 H2 ((S.step s1).step s2) _ fun G3 H3 u z t3 s3 d3 ⟨k, e3, p⟩ => ?_)
      subst e3
      rw [d3.strE]
      exact hr' j k _ _ ⟨_, rfl, q G3 H3 _ t3 ((s1.trans s2).trans s3) p⟩
    | false => exact iteF ⟨_, rfl, q G2 H2 _ t2 (s1.trans s2) (hf hg)⟩
end
end Dl
end
section
set_option maxRecDepth 100000
set_option maxHeartbeats 4000000
namespace Dl
open PySem PySem.Spec PyProof.Rows L2
/-- t <= u, tuples of ints: u < t is not so -/
theorem lexAt_le : ∀ (k i : Nat) (ns ms : List Int), k = min (ns.length - i) (ms.length - i) → i ≤ ns.length → i ≤ ms.length →
    Ob.lexAt (fun j => decide (ns.getD j 0 = ms.getD j 0)) (fun j => decide (ns.getD j 0 ≤ ms.getD j 0)) (decide (ns.length ≤ ms.length)) i k = !HT.lexLt (ms.drop i) (ns.drop i)
  | 0, i, ns, ms, e, h1, h2 => by
    rw [Ob.lexAt_zero]
    by_cases h : ns.length = i
    · rw [List.drop_of_length_le (l := ns) (by omega), decide_eq_true (show ns.length ≤ ms.length by omega)]
      cases ms.drop i with
      | nil => rfl
      | cons y ys => rfl
    · have h3 : ms.length = i := by omega
      rw [List.drop_of_length_le (l := ms) (by omega), decide_eq_false (show ¬ ns.length ≤ ms.length by omega)]
      have : (ns.drop i).length ≠ 0 := by rw [List.length_drop]; omega
      cases hd : ns.drop i with
      | nil => rw [hd] at this; exact absurd rfl this
      | cons y ys => rfl
  | k + 1, i, ns, ms, e, h1, h2 => by
    have l1 : i < ns.length := by omega
    have l2 : i < ms.length := by omega
    rw [Ob.lexAt_succ, List.drop_eq_getElem_cons l1, List.drop_eq_getElem_cons l2, HT.lexLt_cons, lexAt_le k (i + 1) ns ms (by omega) (by omega) (by omega)]
    have g1 : ns.getD i 0 = ns[i] := by simp [List.getD, List.getElem?_eq_getElem l1]
    have g2 : ms.getD i 0 = ms[i] := by simp [List.getD, List.getElem?_eq_getElem l2]
    rw [g1, g2]
    by_cases h : ns[i] = ms[i]
    · rw [decide_eq_true h, if_pos rfl, if_pos h.symm]
    · rw [decide_eq_false h, if_neg (by decide), if_neg (fun z => h z.symm)]
      by_cases hl : ns[i] ≤ ms[i]
      · rw [decide_eq_true hl, decide_eq_false (by omega)]
        rfl
      · rw [decide_eq_false hl, decide_eq_true (by omega)]
        rfl
section
variable {X : Cx} {Wo : WO} {M : Md X.K Wo} {ρ : List B} {t : Rs} {a b : Expr} {pos : Pos}
theorem jd_leT {k : Nat} {P : PyData → Rs → Prop} (hr : Room k X.A) (h : JD M a ρ t fun x t1 => ∃ ns : List Int, x = .tuple (ns.map PyData.int) ∧ JD M b ρ t1 fun y t2 => ∃ ms : List Int, y = .tuple (ms.map PyData.int) ∧ P (.bool (!HT.lexLt ms ns)) t2) : JD M (.Compare a [.LtE] [b] pos) ρ t P :=
  jd_cmp (op_leT hr.units0) (nomark _) (h.imp fun x _ ⟨ns, e, h1⟩ => h1.imp fun y _ ⟨ms, e2, q⟩ => by
    subst e e2
    intro G H v w k hv hw Q r
    obtain ⟨a1, vs, rfl, st, da⟩ := hv.tupE
    obtain ⟨a2, ws, rfl, st2, da2⟩ := hw.tupE
    rw [da.ints] at st
    rw [da2.ints] at st2
    refine ⟨a1, a2, ns, ms, rfl, rfl, sqt_up k.sub st, sqt_up k.sub st2, ?_⟩
    rw [lexAt_le _ 0 ns ms (by simp) (Nat.zero_le _) (Nat.zero_le _)]
    exact keep k r (.bl _) q)
theorem jt_imp {e : Expr} {P P' : Bool → Rs → Prop} (h : JT M e ρ t P) (i : ∀ x t', P x t' → P' x t') : JT M e ρ t P' := DT.imp h i
theorem jd_imp {e : Expr} {P P' : PyData → Rs → Prop} (h : JD M e ρ t P) (i : ∀ x t', P x t' → P' x t') : JD M e ρ t P' := h.imp i
theorem jt_leT {k : Nat} {P : Bool → Rs → Prop} (hr : Room k X.A) (h : JD M a ρ t fun x t1 => ∃ ns : List Int, x = .tuple (ns.map PyData.int) ∧ JD M b ρ t1 fun y t2 => ∃ ms : List Int, y = .tuple (ms.map PyData.int) ∧ P (!HT.lexLt ms ns) t2) : JT M (.Compare a [.LtE] [b] pos) ρ t P :=
  jt_cmp (op_leT hr.units0) (nomark _) (h.imp fun x _ ⟨ns, e, h1⟩ => h1.imp fun y _ ⟨ms, e2, q⟩ => by
    subst e e2
    intro G H v w k hv hw Q r
    obtain ⟨a1, vs, rfl, st, da⟩ := hv.tupE
    obtain ⟨a2, ws, rfl, st2, da2⟩ := hw.tupE
    rw [da.ints] at st
    rw [da2.ints] at st2
    refine ⟨a1, a2, ns, ms, rfl, rfl, sqt_up k.sub st, sqt_up k.sub st2, ?_⟩
    rw [lexAt_le _ 0 ns ms (by simp) (Nat.zero_le _) (Nat.zero_le _)]
    exact keep k r (.bl _) ⟨_, rfl, q⟩)
end
end Dl
end
section
set_option maxRecDepth 100000
set_option maxHeartbeats 4000000
namespace Dl
open PySem PySem.Spec PyProof.Rows L2
section
variable {X : Cx} {Wo : WO} {M : Md X.K Wo} {ρ : List B} {t : Rs} {e a b : Expr} {P : PyData → Rs → Prop} {pos cpos apos p : Pos} {D : Dk} {x : Str}
theorem op_add_bi : OpR X (binaryOp .Add) (fun x y H Q => ∃ k j, x = .bl k ∧ y = .int j ∧ Q (.int ((if k = true then (1 : Int) else 0) + j)) H) := by
  intro pins s σ H x y v u Q I rx ry h
  obtain ⟨k, j, rfl, rfl, q⟩ := h
  obtain ⟨t, rfl⟩ := ry
  cases rx
  exact PySem.IntBool.add_bool_int ⟨.int _, H, I.tok _, ⟨_, rfl⟩, q⟩
/-- True + i -/
theorem jd_addB (h : JD M a ρ t fun x t1 => ∃ k, x = .bool k ∧ JD M b ρ t1 fun y t2 => ∃ j, y = .int j ∧ P (.int ((if k = true then (1 : Int) else 0) + j)) t2) : JD M (.BinOp a .Add b pos) ρ t P := jd_bin op_add_bi (h.imp fun _ _ ⟨i, e, h1⟩ => h1.imp fun _ _ ⟨j, f, q⟩ => by
  subst e f
  intro G H v w k hv hw Q r
  cases hv
  exact ⟨_, _, rfl, hw.intE, keep k r (.int _) q⟩)
/-- own[i] -/
theorem jd_ixO (i : Nat) {xs : List PyData} (hr : ρ[i]? = some (.own xs)) (h : JD M b ρ t fun y t2 => ∃ j z, y = .int j ∧ atI xs j = some z ∧ P z t2) (hp : PlainIx b := by intro _ _; rfl)
    (hN : X.N[i]? = some x := by rfl) (hv : Vis X.env.scope x := by first | exact Or.inl rfl | exact Or.inr (Or.inl rfl) | exact Or.inr (Or.inr rfl)) (hd : (x == ("__debug__" : Str)) = false := by decide) (hcd : (x == ("__classdict__" : Str)) = false := by decide) : JD M (.Subscript (.Name x p) b pos) ρ t P :=
  jd_of (pe_ix ix_list (pv i hN hv hd hcd) peT hp) fun σ G H S Q q => by
    obtain ⟨l, ws, e1, _, _⟩ := own_at S hr
    refine ⟨.ref l, e1, h σ G H S _ fun G1 H1 v y t1 s1 d1 ⟨j, z, ey, hz, p1⟩ => ?_⟩
    subst ey
    have S1 := S.step s1
    obtain ⟨l2, ws2, e2, h2, d2⟩ := own_at S1 hr
    rw [e1] at e2
    cases e2
    obtain ⟨u, eu, du⟩ := d2.atI hz
    exact ⟨l, ws2, j, u, rfl, d1.intE, .inl (.inl h2), eu, q G1 H1 u z t1 s1 du p1⟩
/-- len(own) -/
theorem jd_lenO (i : Nat) {xs : List PyData} {q : Pos} (hr : ρ[i]? = some (.own xs)) (hm : X.mg "len" = none) (hx : xs.length ≤ 16777216) (h : P (.int xs.length) t) (hg : Gl X (Str.ofString "len") := by rfl)
    (hN : X.N[i]? = some x := by rfl) (hv : Vis X.env.scope x := by first | exact Or.inl rfl | exact Or.inr (Or.inl rfl) | exact Or.inr (Or.inr rfl)) (hd : (x == ("__debug__" : Str)) = false := by decide) (hcd : (x == ("__classdict__" : Str)) = false := by decide)
    (h3 : starEach [.Name x p] X.env = (false, eval (.Name x p) X.env) :: starEach [] X.env := by rfl) : JD M (.Call (.Name (Str.ofString "len") q) [.Name x p] [] pos) ρ t P :=
  jd_of (pe_callB call_len hg hm PySem.boot_len (pa_cons (pv i hN hv hd hcd) pa_nil h3) (by decide) (by decide) h3 rfl) fun σ G H S Q r => by
    obtain ⟨l, ws, e1, h1, d⟩ := own_at S hr
    refine ⟨.ref l, e1, .ref l, xs.length, rfl, ?_, r G H _ _ t S.ok.refl (.int _) h⟩
    exact .inl ⟨ws, .inl (.inl h1), d.length.symm⟩
/-- own.insert(i, y) -/
theorem js_insert (i : Nat) {xs : List PyData} (hr : ρ[i]? = some (.own xs)) (h : JD M a ρ t fun y t1 => ∃ j : Nat, y = .int j ∧ j < 2 ^ 62 ∧ JD M b ρ t1 fun z t2 => xs.length < 16777216 ∧ D.nx (ρ.set i (.own (xs.take j ++ [z] ++ xs.drop j))) t2)
    (hN : X.N[i]? = some x := by rfl) (hv : Vis X.env.scope x := by first | exact Or.inl rfl | exact Or.inr (Or.inl rfl) | exact Or.inr (Or.inr rfl)) (hd : (x == ("__debug__" : Str)) = false := by decide) (hcd : (x == ("__classdict__" : Str)) = false := by decide)
    (hs : swapsWith (.Call (.Attribute (.Name x p) "insert" apos) [a, b] [] cpos) none pos.line X.env = pure false := by rfl) (h3 : starEach [a, b] X.env = (false, eval a X.env) :: starEach [b] X.env := by rfl) (h6 : starEach [b] X.env = (false, eval b X.env) :: starEach [] X.env := by rfl)
    (h1 : attributeBase (.Name x p) "insert" X.env (eval (.Name x p) X.env) = eval (.Name x p) X.env := by rfl)
    (h2 : ((((backTo cpos (starEach [a, b] X.env)).all fun x => !x.1) && (backToKw cpos (keywordEach [] X.env)).all fun x => x.1.isSome) && decide (([a, b].length + ([] : List Keyword).length + if ([] : List Keyword).isEmpty = true then 0 else 1) < 30)) = true := by rfl)
    (h4 : (apos.endLine == cpos.line) = true := by rfl) (h5 : ((backTo cpos (starEach [b] X.env)).any fun x => x.1) = false := by rfl) : JS M (.Expr (.Call (.Attribute (.Name x p) "insert" apos) [a, b] [] cpos) pos) ρ t D :=
  js_of (ps_expr (pe_bm PySem.F.plainAttrs_list PySem.F.slot_list_insert PySem.F.type_list_insert mt_insert (pv i hN hv hd hcd) (pa_cons peT (pa_cons peT pa_nil h6) h3) h1 h2 h4 h3 h5) hs) fun σ G H S E F => by
    obtain ⟨l, ws, e1, h1, d⟩ := own_at S hr
    refine ⟨.ref l, e1, .inl ⟨rfl, ws, .inl (.inl h1)⟩, h σ G H S _ fun G1 H1 v y t1 s1 d1 ⟨j, ey, hj, h'⟩ => h' σ G1 H1 (S.step s1) _ fun G2 H2 w z t2 s2 d2 ⟨hl, p⟩ => ?_⟩
    subst ey
    have S2 := (S.step s1).step s2
    obtain ⟨l2, ws2, e2, h2, dw⟩ := own_at S2 hr
    rw [e1] at e2
    cases e2
    refine ⟨l, ws2, j, w, rfl, by rw [d1.intE], h2, ?_, by omega, by omega, F.nx σ G2 _ _ t2 (S2.write hr e1 ?_) (s1.gg.trans s2.gg) p⟩
    · exact line_lt (by rw [dw.length]; exact hl)
    · exact ((dw.take j).app (.cons d2 .nil)).app (dw.drop j)
/-- a statement, by what holds behind it -/
theorem js_imp {st : Stmt} {Pn : List B → Rs → Prop} (h : JS M st ρ t { D with nx := Pn }) (i : ∀ ρ' t', Pn ρ' t' → D.nx ρ' t') : JS M st ρ t D := fun σ G H S E F =>
  h σ G H S E ⟨fun σ' G' H' ρ' t' S' m z => F.nx σ' G' H' ρ' t' S' m (i _ _ z), F.bk, F.ct, F.rt, F.rtL⟩
theorem jss_cut {st : Stmt} {rest : List Stmt} (Pn : List B → Rs → Prop) (h : JS M st ρ t { D with nx := Pn }) (i : ∀ ρ' t', Pn ρ' t' → JSs M rest ρ' t' D) : JSs M (st :: rest) ρ t D := jss_cons (js_imp h i)
end
end Dl
end
section
set_option maxRecDepth 100000
set_option maxHeartbeats 4000000
namespace Dl
open PySem PySem.Spec PyProof.Rows L2
/-! ### the parts of a display, read forward -/
theorem ds_nil {R : List PyData → Prop} (h : R []) : ∃ ds, ([] : List B) = ds.map B.d ∧ R ds := ⟨[], rfl, h⟩
theorem ds_cons {x : PyData} {bs : List B} {R : List PyData → Prop} (h : ∃ ds, bs = ds.map B.d ∧ R (x :: ds)) : ∃ ds, B.d x :: bs = ds.map B.d ∧ R ds := by
  obtain ⟨ds, e, r⟩ := h
  exact ⟨x :: ds, by rw [e]; rfl, r⟩
/-! ### t[::-1] of a tuple -/
section
variable {prog : Program} {w : World} {A : Around} {E : Value → Shared → Prop} {s : Shared}
theorem back_applied {sl : Addr} {vs : Value} {n : Nat} {Q : Int × Int × Nat → Shared → Prop} (hs : s.heap.IsSliceOf sl .none .none vs) (pv : IsPart vs (some (-1))) (h : Q ((n : Int) - 1, -1, n) s) : wpAny (model prog w) A (Builtin.Slice.sliceApplied (.ref sl) (pure (n : Int))) Q E s := by
  have hs2 := hs
  obtain ⟨ob, e1, e2, e3⟩ := hs2
  unfold Builtin.Slice.sliceApplied Builtin.Slice.sliceFields
  refine wpAny_bind (wpAny_bind (wpAny_field e1 e3 (x := .none) rfl (wpAny_bind (wpAny_field e1 e3 (x := .none) rfl (wpAny_bind (wpAny_field e1 e3 (x := vs) rfl (wpAny_pure ?_)))))))
  refine wpAny_bind (HT.slicePart_ pv ?_)
  show wpAny _ _ (if ((-1 : Int) == 0) = true then _ else _) _ _ s
  rw [if_neg (by decide)]
  refine wpAny_bind (slicePart_none (wpAny_bind (slicePart_none (wpAny_bind (wpAny_pure ?_)))))
  show wpAny _ _ (match Builtin.Slice.sliceAdjust none none (-1) (n : Int) with | (lo, hi) => pure (lo, (-1 : Int), Builtin.Slice.slicePlaces lo hi (-1))) _ _ s
  have ea : Builtin.Slice.sliceAdjust none none (-1) (n : Int) = ((n : Int) - 1, -1) := rfl
  rw [ea]
  show wpAny _ _ (pure ((n : Int) - 1, (-1 : Int), Builtin.Slice.slicePlaces ((n : Int) - 1) (-1) (-1))) _ _ s
  have ep : Builtin.Slice.slicePlaces ((n : Int) - 1) (-1) (-1) = n := by
    unfold Builtin.Slice.slicePlaces
    rw [if_neg (by decide)]
    by_cases h0 : n = 0
    · subst h0
      rfl
    · rw [if_pos (by omega)]
      have : ((n : Int) - 1 - -1 - 1) / (- -1) + 1 = (n : Int) := by
        rw [show (- -1 : Int) = 1 by decide, Int.ediv_one]
        omega
      rw [this]
      rfl
  rw [ep]
  exact wpAny_pure h
theorem fm_congr {α β : Type} {f g : α → Option β} : ∀ {l : List α}, (∀ x ∈ l, f x = g x) → l.filterMap f = l.filterMap g
  | [], _ => rfl
  | x :: l, h => by
    rw [List.filterMap_cons, List.filterMap_cons, h x List.mem_cons_self, fm_congr fun y hy => h y (List.mem_cons_of_mem _ hy)]
theorem back_pick (xs : Array Value) : ((List.range xs.size).filterMap fun (m : Nat) => xs[(((xs.size : Int) - 1) + (m : Int) * (-1)).toNat]?).toArray = xs.toList.reverse.toArray := by
  congr 1
  refine List.ext_getElem? fun i => ?_
  have e : ((List.range xs.size).filterMap fun (m : Nat) => xs[(((xs.size : Int) - 1) + (m : Int) * (-1)).toNat]?) = (List.range xs.size).map fun m => xs.toList.getD (xs.size - 1 - m) .none := by
    rw [← List.filterMap_eq_map]
    refine fm_congr fun m hm => ?_
    have hm' := List.mem_range.mp hm
    have e1 : (((xs.size : Int) - 1) + (m : Int) * (-1)).toNat = xs.size - 1 - m := by omega
    rw [e1]
    have h1 : xs.size - 1 - m < xs.size := by omega
    rw [Array.getElem?_eq_getElem h1]
    simp [List.getD, Function.comp, h1]
  rw [e, List.getElem?_map]
  by_cases hi : i < xs.size
  · rw [List.getElem?_range hi, List.getElem?_reverse (by simpa using hi)]
    simp [List.getD, show xs.size - 1 - i < xs.size by omega]
  · rw [List.getElem?_eq_none (by simp; omega), List.getElem?_eq_none (by simp; omega)]
    rfl
theorem back_get {t sl : Addr} {vs : Value} {items : Array Value} {Q : Value → Shared → Prop} (ht : IsTup s.heap t items) (hs : s.heap.IsSliceOf sl .none .none vs) (pv : IsPart vs (some (-1))) (hz : items.size ≤ sizeLine)
    (h : Q (.ref s.heap.objs.size) { s with heap := s.heap.push { cls := .type "tuple", data := .seq items.toList.reverse.toArray } }) : wpAny (model prog w) A (getItem (.ref t) (.ref sl)) Q E s := by
  have fit : sizeOk (.seq items.toList.reverse.toArray) := by
    show items.toList.reverse.toArray.size ≤ sizeLine
    rw [List.size_toArray, List.length_reverse, Array.length_toList]
    exact hz
  have ty : s.TypeIs (.ref sl) "slice" := let ⟨o, a, b, _⟩ := hs; ⟨o, a, b⟩
  unfold getItem
  try with_reducible refine wpAny_holding ?_
  first | refine wpAny_bind (wpAny_pure ?_) | skip
  refine wpAny_bind (wpAny_sequenceKey ht.typeIs (by decide) ?_)
  refine wpAny_bind (wpAny_callSpecial?_slot (name := "__getitem__") ht.typeIs PyProof.Rows.slot_tuple_getitem (wpAny_call_entry PyProof.Rows.slot_tuple_getitem ht.typeIs entry_tuple_getitem ?_ (args_tuple_getitem _ _)))
  show wpAny _ _ (Builtin.Tuple.tupleItemsOf (.ref t) >>= _) _ _ s
  refine wpAny_bind (tupleItemsOf_ ht (wpAny_bind (wpAny_typeOf ty ?_)))
  rw [if_pos (by decide)]
  refine wpAny_bind (back_applied hs pv ?_)
  show wpAny _ _ (if (((items.size : Int) - 1) == 0 && (-1 : Int) == 1 && items.size == items.size) = true then _ else _) _ _ s
  have no : ¬ ((((items.size : Int) - 1) == 0 && (-1 : Int) == 1 && items.size == items.size) = true) := fun z => by
    rw [Bool.and_eq_true, Bool.and_eq_true] at z
    exact absurd z.1.2 (by decide)
  rw [if_neg no, back_pick]
  exact wpAny_bind (m := Builtin.Tuple.tupleExact _) (wpAny_newObj_type (wpAny_pure ⟨_, rfl, wpAny_pure h⟩) fit)
end
section
variable {X : Cx}
def tBackT (K : PySem.W.Frag) (te : TE) : TE := fun σ H Q => te σ H fun x H1 => ∃ a xs, x = .ref a ∧ SqT K H1 a xs ∧ ∀ p, H1 p = none → Q (.ref p) (upd H1 p (.tup xs.reverse))
theorem pe_backT {e : Expr} {te : TE} {k : Nat} {p1 p2 p3 pos : Pos} (he : PE X e te) : PE X (.Subscript e (.Slice none none (some (.UnaryOp .USub (.Constant (.int 1) k p1) p2)) p3) pos) (tBackT X.K te) := ⟨fun pins s σ H Q I h => by
  refine Subscript_ (thn (he.run pins s σ H _ I h) fun v s1 ⟨x, H1, I1, r1, a, xs, ex, hx, q⟩ => ?_)
  subst ex
  cases r1
  have step : PO X (some (.UnaryOp .USub (.Constant (.int 1) k p1) p2)) (tPart (tUn (rU fun i => .int (-i)) (tC (.int 1)))) := po_some (pe_un un_neg pe_int)
  refine wpAny_Slice (thn (po_none.run pins s1 σ H1 (fun o H2 => o = none ∧ H2 = H1) I1 ⟨rfl, rfl⟩) fun vl s2 ⟨l, H2, I2, pl, el, e2⟩ => ?_)
  subst el e2
  refine thn (po_none.run pins s2 σ H2 (fun o H3 => o = none ∧ H3 = H2) I2 ⟨rfl, rfl⟩) fun vu s3 ⟨u, H3, I3, pu, eu, e3⟩ => ?_
  subst eu e3
  refine thn (step.run pins s3 σ H3 (fun o H4 => o = some (-1) ∧ H4 = H3) I3 ⟨1, rfl, -1, rfl, rfl, rfl⟩) fun vs s4 ⟨o, H4, I4, ps, eo, e4⟩ => ?_
  subst eo e4
  cases pl
  cases pu
  have J : Inv X pins σ H4 { s4 with heap := s4.heap.push { cls := .type "slice", data := .fields #[.none, .none, vs] } } := I4.kept (t' := s4.toks) fun b ob z => Heap.get?_push_of_some _ z
  obtain ⟨its, r, tu, hz⟩ := J.tuple hx
  show wpAny (model X.prog X.w) X.A (subscriptTail e (.Slice none none (some (.UnaryOp .USub (.Constant (.int 1) k p1) p2)) p3) (.ref a) (.ref s4.heap.objs.size)) (EP X pins σ Q) X.xe { s4 with heap := s4.heap.push { cls := .type "slice", data := .fields #[.none, .none, vs] } }
  refine tail_any (ops := [.ref a, .ref s4.heap.objs.size]) tu.typeIs (PyProof.Rows.slot_tuple_getitem.lookup) ?_ (by with_unfolding_all rfl)
  have hlen := r.length
  refine back_get tu (Heap.IsSliceOf.new _ .none .none vs) ps (by rw [List.size_toArray]; omega) ?_
  refine ⟨.ref _, _, J.laid (t' := s4.toks) (o := .tup xs.reverse) (fun b ob z => Heap.get?_push_of_some _ z) (Nat.le_refl _) ?_, rfl, q _ (J.hok.fresh (Nat.le_refl _))⟩
  exact ⟨by rw [List.length_reverse]; exact hz, its.reverse, r.reverse, _, Heap.get?_push_size _ rfl, rfl, _, rfl⟩⟩
section
variable {Wo : WO} {M : Md X.K Wo} {ρ : List B} {t : Rs} {a b : Expr} {P : PyData → Rs → Prop} {pos : Pos}
theorem jd_revT {k : Nat} {p1 p3 p4 : Pos} (h : JD M a ρ t fun x t1 => ∃ xs, x = .tuple xs ∧ P (.tuple xs.reverse) t1) : JD M (.Subscript a (.Slice none none (some (.UnaryOp .USub (.Constant (.int 1) k p1) p3)) p4) pos) ρ t P :=
  jd_of (pe_backT peT) fun σ G H S Q q => h σ G H S _ fun G1 H1 v x t1 s1 d1 ⟨xs, e, p⟩ => by
    subst e
    have k := (S.step s1).ok
    obtain ⟨a1, vs, rfl, st, da⟩ := d1.tupE
    refine ⟨a1, vs, rfl, sqt_up k.sub st, fun n1 hn => ?_⟩
    have s4 := k.lay (o := .tup vs.reverse) hn
    exact q _ _ _ _ t1 (s1.trans s4) (.tup (.inl (.inl upd_same)) (DeAll.up s4.gg _ _ da.rev)) p
/-- text * int -/
def rMulS : R2 := fun x y H Q => ∃ z n, x = .str z ∧ y = .int n ∧ MulOk z n ∧ Q (.str (Txt.mul z n)) H
theorem op_mulS : OpR X (binaryOp .Mult) rMulS := by
  intro pins s σ H x y v u Q I rx ry h
  obtain ⟨z, n, rfl, rfl, ok, q⟩ := h
  obtain ⟨t, rfl⟩ := rx
  obtain ⟨t', rfl⟩ := ry
  exact SB.mul ok fun t2 k => ⟨.str _, H, I.tok _, ⟨_, rfl⟩, q⟩
theorem jd_mulS (h : JD M a ρ t fun x t1 => ∃ z, x = .str z ∧ JD M b ρ t1 fun y t2 => ∃ n, y = .int n ∧ MulOk z n ∧ P (.str (Txt.mul z n)) t2) : JD M (.BinOp a .Mult b pos) ρ t P := jd_bin op_mulS (h.imp fun _ _ ⟨i, e, h1⟩ => h1.imp fun _ _ ⟨j, f, m, q⟩ => by
  subst e f
  intro G H v w k hv hw Q r
  exact ⟨i, j, hv.strE, hw.intE, m, keep k r (.str _) q⟩)
end
end
end Dl
end
section
set_option maxRecDepth 100000
set_option maxHeartbeats 4000000
namespace Dl
open PySem PySem.Spec PyProof.Rows L2
/-! ### a def that is called where nothing is being shown: repr of lists is known there -/
/-- what a def promises at callers that show nothing -/
structure FnG (P : Program) (w : World) (K : PySem.W.Frag) (mg : Str → Option Value) (base : Heap) (k : Nat) (f : Addr) (fd : FuncData) (ps : List Str) (sp : Sp) : Prop where
  run : ∀ (A : Around) (out : List Env) (s0 : Shared) (G : Hp) (ar : Args) (xs : List Value) (ys : List V) (Qf : VK) (Ef : XK), A.guards = some [] → Room k A → Env0 P w K mg base A out s0 G →
    BindsTo s0 fd ar (ps.zip xs) → Vals ys xs → sp ys G Qf Ef → codeAny (model P w) A (.call (.ref f) ar) (CR CX0 out P w G s0 Qf Ef) s0
section
variable {P : Program} {w : World} {K : PySem.W.Frag} {mg : Str → Option Value} {base : Heap}
theorem fnG_of {x qual : Str} {st : Stmt} {f : Addr} {fd : FuncData} {N ps : List Str} {k : Nat} {sp : Sp} (F : Fun K x qual st f fd) (Sc : FnScope N ps (defScope st)) (len : ∀ ys G Qf Ef, sp ys G Qf Ef → ys.length = ps.length)
    (body : ∀ (cdv : Value) (A : Around) (out : List Env) (s0 : Shared) (G : Hp) (ys : List V) (Qf : VK) (Ef : XK), A.guards = some [] → Room k (A.deeper (envOfC qual (defScope st) s0.heap.objs.size f cdv)) → sp ys G Qf Ef →
      ∃ t, PSs (Xo P w K mg base N qual st f cdv A out s0 G Ef) (defBody st) t ∧ t { nx := fun _ G' => Qf .non G', rt := Qf } (L2.start N ys) G) : FnG P w K mg base (k + 1) f fd ps sp := by
  obtain ⟨oc, od, kV, doc, pm, an, cdv, ct, osl, rfl, lk, hcd⟩ := F.ex
  refine ⟨fun A out s0 G ar xs ys Qf Ef hg hr env bd rv hsp => ?_⟩
  have same := len _ _ _ _ hsp
  have inK : K.In s0.heap := env.mod.kin.keeps fun b o z => (env.bs b o z).1
  have free : s0.heap.NoLimit := env.mod.nolimit.keeps fun b o z => (env.bs b o z).1
  have place : ∀ y ∈ ps.zip xs, (defScope st).names.lookup y.1 = some .local ∨ ((defScope st).names.lookup y.1 = some .cell ∧ ((cellsFrom (s0.heap.objs.size + 1) (defScope st).names []).lookup y.1).isSome = true) := fun y hy => by
    obtain ⟨n, v⟩ := y
    rcases Sc.par n (List.of_mem_zip hy).1 with z | z
    · exact .inl z
    · exact .inr ⟨z, PySem.W.cellsFrom_some _ _ _ (.inl z)⟩
  refine codeAny_call_function hr.depth (inK _ _ lk) rfl Sc.co Sc.gen rfl (PySem.W.codeRec_of inK hcd) (bd _ _ _ _ (wpAny_newFunctionEnv_cells Sc.kind place fun env1 he s1 x1 => ?_))
  subst he
  refine ⟨free.keeps x1.toInCall.keep, codeAny_func ?_⟩
  obtain ⟨t, ht, hq⟩ := body cdv A out s0 G ys Qf Ef hg (hr.deeper _) hsp
  have J := inv_start (CX := CX0) (E := Ef) Sc hr.hd env same rv x1
  refine wpAny_mono (ht.nox.run [] s1 (L2.start N ys) G _ J hq) (fun fl s2 hs => ?_) fun e s2 hs => hs
  cases fl with
  | ret u =>
    obtain ⟨v, σ1, G1, J1, r1, q1⟩ := hs
    exact ⟨v, G1, J1.os, J1.bare, J1.base, J1.hok, r1, q1⟩
  | next =>
    obtain ⟨σ1, G1, J1, q1⟩ := hs
    exact ⟨V.non, G1, J1.os, J1.bare, J1.base, J1.hok, rfl, q1⟩
  | brk =>
    obtain ⟨_, _, _, q1⟩ := hs
    exact q1.elim
  | cont =>
    obtain ⟨_, _, _, q1⟩ := hs
    exact q1.elim
theorem law_callG {mb : Str → Option Value} {k : Nat} {fa c : Addr} {fd : FuncData} {x : Str} {sp : Sp} {s1 : Shared} {cells : List Value} {ns : List Int}
    (inK : K.In s1.heap) (hm : s1.heap.Ns mainGlobals mg) (hb : s1.heap.Ns builtinsNs mb) (hbb : ∀ x : Str, x ≠ "__name__" → mb x = bootBuiltins x) (free : s1.heap.NoLimit) (hg : s1.gens = #[])
    (hc : s1.heap.get? c = some { cls := .type "list", data := .seq cells.toArray }) (hi : IntsAre cells ns) (hl : ns.length ≤ sizeLine) (hr : Room k callerA)
    (F : ∀ low : Heap, K.In low → low.Ns mainGlobals mg → FnG P w K mg low k fa fd [x] sp) (bd : ∀ (s : Shared) (u : Value), BindsTo s fd ⟨[u], []⟩ [(x, u)])
    (hsp : ∀ H : Hp, Only H → SqL K H c (ns.map V.int) → sp [.ref c] H (fun v _ => v = .bl true) fun _ _ _ => False) :
    codeAny (model P w) callerA (.call (.ref fa) ⟨[.ref c], []⟩) (fun r s' => r = .ok (.ret (.bool true)) ∧ OldK s1.heap s'.heap ∧ s'.os = s1.os ∧ AllBare s'.gens) s1 := by
  have rel := vals_ints hi
  have same := hi.length
  have main : ∀ G : Hp, Only G → SqL K G c (ns.map V.int) → HOk P w G s1.heap → (∀ b, G b ≠ none → b = c) → (G c ≠ none → K.lookup c = none) →
      codeAny (model P w) callerA (.call (.ref fa) ⟨[.ref c], []⟩) (fun r s' => r = .ok (.ret (.bool true)) ∧ OldK s1.heap s'.heap ∧ s'.os = s1.os ∧ AllBare s'.gens) s1 := by
    intro G only sq hok just notK
    have untracked : ∀ {b : Addr} {o : Obj} {es : Array DictEntry} {ep : Nat}, s1.heap.get? b = some o → o.data = .dict es ep → G b = none := fun {b o es ep} e d => by
      by_cases z : G b = none
      · exact z
      · obtain rfl := just b z
        rw [hc] at e
        obtain rfl := Option.some.inj e
        exact absurd d (by intro z2; cases (show Data.seq cells.toArray _ = Data.dict es ep from z2))
    have low : ∀ {b : Addr} {m : Str → Option Value}, s1.heap.Ns b m → (hidT s1.heap G).Ns b m := fun {b m} z => by
      obtain ⟨o, es, ep, e, d, r⟩ := z
      exact ⟨o, es, ep, hidT_get e (untracked e d), d, r⟩
    have lowK : K.In (hidT s1.heap G) := fun b o e => hidT_get (inK b o e) (by
      by_cases z : G b = none
      · exact z
      · obtain rfl := just b z
        rw [notK z] at e
        cases e)
    have md : Mod K mg (hidT s1.heap G) := ⟨lowK, low hm, ⟨mb, low hb, hbb⟩, by
      obtain ⟨mc, z1, z2⟩ := free
      exact ⟨mc, low z1, z2⟩⟩
    have env : Env0 P w K mg (hidT s1.heap G) callerA [] s1 G := ⟨rfl, md, fun b o e => of_hidT e, Nat.le_of_eq (hidT_size _ _), trivial, (fun b z => absurd (show b ∈ ([] : List Addr) from z) List.not_mem_nil), hok, .of_eq hg⟩
    have go := (F _ lowK (low hm)).run callerA [] s1 G ⟨[.ref c], []⟩ [.ref c] [.ref c] _ _ rfl hr env (bd s1 (.ref c)) (.cons rfl .nil) (hsp G only sq)
    refine codeAny_mono go fun r s2 h => ?_
    match r, h with
    | .error e, h => exact (show False from h).elim
    | .ok .next, h => exact (show False from h).elim
    | .ok .brk, h => exact (show False from h).elim
    | .ok .cont, h => exact (show False from h).elim
    | .ok (.ret u), h =>
      obtain ⟨v, G2, os, bare, un, hok2, r2, q⟩ := h
      obtain rfl : v = V.bl true := q
      obtain rfl : u = Value.bool true := r2
      refine ⟨rfl, OldK.of_keep fun b o e => ?_, os, bare⟩
      rcases only b with z | ⟨ob, xs, z⟩
      · exact un.keep b o e z (fun y => absurd (show b ∈ ([] : List Addr) from y) List.not_mem_nil) (by simp)
      · obtain ⟨e1, _⟩ := hok b _ z
        obtain ⟨e2, _⟩ := hok2 b _ (un.frzs b ob _ z)
        rw [e] at e1
        rw [Option.some.inj e1]
        exact e2
  by_cases hk : K.lookup c = none
  · refine main (fun b => if b = c then some (.frz { cls := .type "list", data := .seq cells.toArray } (.lst (ns.map V.int))) else none) (fun b => ?_) (.inl (.inr ⟨{ cls := .type "list", data := .seq cells.toArray }, if_pos rfl⟩)) (fun b u z => ?_) (fun b z => ?_) fun _ => hk
    · by_cases e : b = c
      · exact .inr ⟨_, _, if_pos e⟩
      · exact .inl (if_neg e)
    · by_cases e : b = c
      · obtain rfl := Option.some.inj ((if_pos e).symm.trans z)
        subst e
        exact ⟨hc, by rw [List.length_map]; exact hl, cells, _, rel, hc⟩
      · exact absurd ((if_neg e).symm.trans z) (by intro y; cases y)
    · by_cases e : b = c
      · exact e
      · exact absurd (if_neg e) z
  · obtain ⟨o, ho⟩ := Option.ne_none_iff_exists'.mp hk
    have e := inK c o ho
    rw [hc] at e
    obtain rfl := Option.some.inj e
    exact main (fun _ => none) (fun _ => .inl rfl) (.inr ⟨_, cells.toArray, _, ho, rfl, rfl, rfl, by rw [List.size_toArray, same]; exact hl, by simpa using rel⟩) (fun b u z => absurd (show (none : Option HO) = some u from z) (by intro y; cases y)) (fun b z => absurd rfl z) fun z => absurd rfl z
end
end Dl
end
section
set_option maxRecDepth 100000
set_option maxHeartbeats 4000000
namespace Dl
open PySem PySem.Spec PyProof.Rows L2
/-- what the head leaves, from the law's promise where nothing is shown -/
theorem walk_ofG {l : PySem.W.OpenLaw} {n k : Nat} {q : Program} {loose : List Str} {XP : (Str → Option Value) → Heap → Prop} {YP : World → Heap → Prop} {d : DefRec} {Kp : Params → PySem.W.Frag} {sp : World → Sp} {x : Str}
    (hn : l.most = some n) (hn2 : n ≤ sizeLine) (hdf : d.params.defaults = []) (hr : Room k callerA) (hY : ∀ (w : World) (h : Heap), YP w h → (Kp w.params).In h)
    (F : ∀ (w : World) (mg : Str → Option Value) (fa : Addr) (h : Heap), (Kp w.params).In h → h.Ns mainGlobals mg → mg d.name = some (.ref fa) →
      ∃ fd : FuncData, (∀ (s : Shared) (u : Value), BindsTo s fd ⟨[u], []⟩ [(x, u)]) ∧ ∀ low : Heap, (Kp w.params).In low → low.Ns mainGlobals mg → FnG l.prog w (Kp w.params) mg low k fa fd [x] (sp w))
    (hsp : ∀ (w : World) (H : Hp) (c : Addr) (ns : List Int), ns.length ≤ n → Only H → SqL (Kp w.params) H c (ns.map V.int) → sp w [.ref c] H (fun v _ => v = .bl true) fun _ _ _ => False) :
    PySem.W.WalkO q loose XP YP l.row.toRowW d [] (fun f vs => PySem.call f vs) := by
  refine Att.attach_call hn hdf fun w s0 s1 mg mb fa o pm cd doc c cells ns G Y ho hd hcd hmg hobj hints hlen hg => ?_
  obtain ⟨fd, bd, hF⟩ := F w mg fa _ (hY w _ Y) G.T.g hmg
  exact law_callG (hY w _ Y) G.T.g G.T.b G.T.builtins G.T.nolimit hg hobj hints (Nat.le_trans hlen hn2) hr hF bd fun H a b => hsp w H c ns hlen a b
end Dl
end
section
set_option maxRecDepth 100000
set_option maxHeartbeats 4000000
namespace Dl
open PySem PySem.Spec PyProof.Rows L2
theorem boot_sorted' : bootBuiltins (Str.ofString "sorted") = some (.builtin "sorted") := by decide +kernel
theorem boot_set' : bootBuiltins (Str.ofString "set") = some (.type "set") := by decide +kernel
/-! ### sorted(set(pairs)), whatever ints: some of the pairs, in some order -/
section
variable {P : Program} {w : World} {A : Around} {E : Value → Shared → Prop} {s : Shared}
theorem isT_pair {h : Heap} {k : List Int} {b : Addr} (x : IsT P w h k b) (hk : k.length = 2) : ∃ i j, Srt.IsPair h (.ref b) i j := by
  obtain ⟨o, its, n, ho, hc, hd, hi⟩ := x
  have ia := ints_of_items hi
  match k, hk, its, ia, hd with
  | [i, j], _, its, ia, hd =>
    have e : ∃ t u, its.toList = [.int i t, .int j u] := by
      generalize its.toList = l at ia
      cases ia with
      | cons _ t r => cases r with
        | cons _ u r => cases r; exact ⟨t, u, rfl⟩
    obtain ⟨t, u, e⟩ := e
    have e2 : its = #[.int i t, .int j u] := by rw [← Array.toArray_toList (xs := its), e]
    exact ⟨i, j, b, o, t, u, n, rfl, ho, hc, by rw [← e2]; exact hd⟩
theorem sorted_setP {a : Addr} {L : List (Addr × List Int)} {es : Array (Int × Value)} {ep : Nat} {t : SetTable} {Q : Value → Shared → Prop} (R : SetTR P w s.heap a L es ep t) (hh : A.handled = none) (two : ∀ p ∈ L, p.2.length = 2)
    (hQ : ∀ s' p (out : List Value) (c : Nat), (∀ b o, s.heap.get? b = some o → s'.heap.get? b = some o) → s'.gens = s.gens → s'.os = s.os → s.heap.objs.size ≤ p → s'.heap.get? p = some (seqObj "list" out.toArray c) → out.Perm (L.map fun q => Value.ref q.1) → Q (.ref p) s') :
    wpAny (model P w) A (call (.builtin "sorted") [.ref a]) Q E s := by
  obtain ⟨ob, h1, h2, h3⟩ := R.ob
  have few := R.few
  have sz := R.size
  refine Calls.call_function_entry kind_sorted plain_sorted entry_sorted (args_sorted1 _) ?_
  unfold Builtin.«sorted»
  refine wpAny_bind (m := checkCount "sorted" 1 1 _) (wpAny_pure ?_)
  refine wpAny_bind (collect_set (A := A.in1) hh ⟨ob, h1, h2.1, h3⟩ R.fits (by unfold scanBound; omega) R.tab.ris R.led fun s1 vs k1 z1 g1 o1 pm => ?_)
  have rows : es.toList.map (·.2) = L.map fun q => Value.ref q.1 := by
    rw [R.rows]
    unfold rowsOf
    rw [List.map_map] <;> rfl
  rw [rows] at pm
  have fit : vs.length ≤ sizeLine := by
    rw [pm.length_eq, List.length_map, sizeLine_eq]
    omega
  refine wpAny_bind (wpAny_newList ?_ fit)
  have at1 : (s1.heap.push (seqObj "list" vs.toArray 0)).get? s1.heap.objs.size = some (seqObj "list" vs.toArray 0) := Heap.get?_push_size _ rfl
  have pairs : ∀ v ∈ vs, ∃ i j, Srt.IsPair (s1.heap.push (seqObj "list" vs.toArray 0)) v i j := fun v hv => by
    obtain ⟨q, hq, rfl⟩ := List.mem_map.mp (pm.mem_iff.mp hv)
    exact isT_pair (P := P) (w := w) (isT_keep (R.tup q hq) fun b u e => Heap.get?_push_of_some _ (k1 b u e)) (two q hq)
  refine wpAny_bind (wpAny_holding (wpAny_call_entry slot_list_sort ⟨_, at1, rfl⟩ entry_list_sort (Srt.list_sort_any (s := { s1 with heap := s1.heap.push (seqObj "list" vs.toArray 0) }) at1 fit (fun h2 => Srt.pairs_sortable (s := { s1 with heap := s1.heap.push (seqObj "list" vs.toArray 0) }) (by omega) pairs fun o e => ?_) fun out ho => ⟨_, rfl, ?_⟩) (args_list_sort _)))
  · have e' : some o = some (seqObj "list" vs.toArray 0) := e.symm.trans at1
    cases e'
    intro c
    exact absurd (Value.type.inj c) (by decide)
  · obtain ⟨c, hc⟩ := sortedHeap_at (vs := vs) (out := out.toArray) at1
    refine wpAny_pure ⟨_, rfl, hQ _ s1.heap.objs.size out c (fun b u e => ?_) g1 o1 z1 hc (ho.trans pm)⟩
    have e1 := k1 b u e
    have lt := Heap.lt_size e1
    show (sortedHeap (s1.heap.push (seqObj "list" vs.toArray 0)) s1.heap.objs.size vs out.toArray).get? b = some u
    rw [sortedHeap_old (Nat.ne_of_lt lt) (by rw [size_push']; exact Nat.lt_succ_of_lt lt)]
    exact Heap.get?_push_of_some _ e1
end
def rSortedQ (K : PySem.W.Frag) (P : Program) (w : World) : List V → Hp → VK → Prop := fun vs H Q => ∃ (a : Addr) (L : List (Addr × List Int)), vs = [V.ref a] ∧ H a = some (SetTO P w a L) ∧ (∀ p ∈ L, SqT K H p.1 (p.2.map V.int) ∧ p.2.length = 2) ∧
  ∀ (L2 : List (Addr × List Int)) (p : Addr), (∀ q ∈ L2, q ∈ L) → L2.length < 64 → H p = none → Q (.ref p) (upd H p (.lst (L2.map fun q => V.ref q.1)))
section
variable {X : Cx}
theorem perm_map_out {α : Type} (f : Addr × List Int → α) : ∀ {out : List α} {L : List (Addr × List Int)}, out.Perm (L.map f) → ∃ L2 : List (Addr × List Int), out = L2.map f ∧ (∀ q ∈ L2, q ∈ L) ∧ L2.length = L.length := fun {out L} h => by
  have mem : ∀ o : List α, (∀ v ∈ o, v ∈ L.map f) → ∃ L2 : List (Addr × List Int), o = L2.map f ∧ ∀ q ∈ L2, q ∈ L := by
    intro o
    induction o with
    | nil => exact fun _ => ⟨[], rfl, fun q z => by cases z⟩
    | cons v r ih =>
      intro hv
      obtain ⟨q, hq, e⟩ := List.mem_map.mp (hv v List.mem_cons_self)
      obtain ⟨L2, e2, h2⟩ := ih fun u hu => hv u (List.mem_cons_of_mem _ hu)
      exact ⟨q :: L2, by rw [List.map_cons, e, e2], fun z hz => by
        rcases List.mem_cons.mp hz with rfl | hz
        · exact hq
        · exact h2 z hz⟩
  obtain ⟨L2, e, h2⟩ := mem out fun v hv => h.mem_iff.mp hv
  refine ⟨L2, e, h2, ?_⟩
  have l := h.length_eq
  rw [e, List.length_map, List.length_map] at l
  exact l
theorem cr_sortedQ (hc : X.calm = true) : CallR X (.builtin "sorted") (rSortedQ X.K X.prog X.w) := by
  intro pins s σ H vs us Q I r h
  obtain ⟨a, L, rfl, ha, hk, q⟩ := h
  have R0 : SetT0 X.prog X.w s.heap a L := (I.hok a _ ha).1
  obtain ⟨es, ep, t, R⟩ := R0.full fun p hp => I.isT (hk p hp).1
  rw [Vals.ref1 r]
  refine sorted_setP R (I.ok.hd hc) (fun p hp => (hk p hp).2) fun s2 p out c k g o hp hg perm => ?_
  obtain ⟨L2, rfl, sub, len⟩ := perm_map_out _ perm
  have few := R.few
  have fresh : H p = none := I.hok.fresh hp
  have J : Inv X pins σ (upd H p (.lst (L2.map fun q => V.ref q.1))) { s with heap := s2.heap, gens := s2.gens, drawn := s2.drawn, toks := s2.toks } :=
    I.call (ch := []) (Un.laid k hp fresh) (I.hok.laid k hp ⟨by rw [List.length_map, sizeLine_eq]; omega, _, c, vals_of_refs L2, hg⟩) (by rw [g]; exact I.bare) fun _ z => nomatch z
  have e : s2 = { s with heap := s2.heap, gens := s2.gens, drawn := s2.drawn, toks := s2.toks } := by
    cases s2
    cases s
    cases o
    rfl
  rw [e]
  exact ⟨.ref p, _, J, rfl, q L2 p sub (by omega) fresh⟩
end
theorem rows_of {K : PySem.W.Frag} {G : Hp} : ∀ {ws : List V} {nss : List (List Int)}, DeAll K G ws (nss.map fun ns => .tuple (ns.map PyData.int)) → ∃ ks : List (Addr × List Int), ws = ks.map (fun p => V.ref p.1) ∧ ks.map (·.2) = nss ∧ ∀ p ∈ ks, SqT K G p.1 (p.2.map V.int)
  | ws, [], h => by
    cases h
    exact ⟨[], rfl, rfl, fun p z => by cases z⟩
  | ws, ns :: nss, h => by
    rw [List.map_cons] at h
    cases h with
    | cons d r =>
      obtain ⟨a, vs, rfl, st, da⟩ := d.tupE
      rw [da.ints] at st
      obtain ⟨ks, e1, e2, e3⟩ := rows_of r
      exact ⟨(a, ns) :: ks, by rw [List.map_cons, e1], by rw [List.map_cons, e2], fun p hp => by
        rcases List.mem_cons.mp hp with rfl | hp
        · exact st
        · exact e3 p hp⟩
theorem rows_back {K : PySem.W.Frag} {G : Hp} : ∀ (ks : List (Addr × List Int)), (∀ p ∈ ks, SqT K G p.1 (p.2.map V.int)) → DeAll K G (ks.map fun p => V.ref p.1) ((ks.map (·.2)).map fun ns => .tuple (ns.map PyData.int))
  | [], _ => .nil
  | p :: ks, h => .cons (.tup (h p List.mem_cons_self) (DeAll.ofInts _)) (rows_back ks fun q hq => h q (List.mem_cons_of_mem _ hq))
section
variable {X : Cx} {Wo : WO} {M : Md X.K Wo} {ρ : List B} {t : Rs} {e : Expr} {P : List PyData → Rs → Prop} {pos pos2 p1 p2 : Pos}
theorem jl_sortedSet {k : Nat} (hc : X.calm = true) (hr : Room k X.A) (hm1 : X.mg "sorted" = none) (hm2 : X.mg "set" = none)
    (h : JD M e ρ t fun x t1 => ∃ nss : List (List Int), x = .list (nss.map fun ns => .tuple (ns.map PyData.int)) ∧ nss.length < 64 ∧ (∀ ns ∈ nss, ns.length = 2) ∧ ∀ mss : List (List Int), (∀ ns ∈ mss, ns ∈ nss) → mss.length < 64 → P (mss.map fun ns => .tuple (ns.map PyData.int)) t1)
    (hg1 : Gl X "sorted" := by rfl) (hg2 : Gl X "set" := by rfl) (h3 : starEach [e] X.env = (false, eval e X.env) :: starEach [] X.env := by rfl)
    (h4 : starEach [.Call (.Name "set" p2) [e] [] pos2] X.env = (false, eval (.Call (.Name "set" p2) [e] [] pos2) X.env) :: starEach [] X.env := by rfl) : JL M (.Call (.Name "sorted" p1) [.Call (.Name "set" p2) [e] [] pos2] [] pos) ρ t P :=
  jl_of (pe_callB (cr_sortedQ hc) hg1 hm1 boot_sorted' (pa_cons (pe_callTy (cr_setOfT hc (by have := hr.un; omega)) hg2 hm2 boot_set' (pa_cons peT pa_nil h3) (by decide) (by decide) h3 rfl) pa_nil h4) (by decide) (by decide) h4 rfl) fun σ G H S Q q =>
    h σ G H S _ fun G1 H1 v x t1 s1 d1 ⟨nss, ex, few, two, p⟩ => by
      subst ex
      obtain ⟨l, ws, rfl, st, da⟩ := d1.lstE
      obtain ⟨ks, rfl, e2, e3⟩ := rows_of da
      have k1 := (S.step s1).ok
      have hlen : ks.length = nss.length := by rw [← e2, List.length_map]
      refine ⟨l, ks, rfl, .inl (.inl (k1.sub _ _ st)), fun p hp => sqt_up k1.sub (e3 p hp), by omega, fun a L ha sub _ => ?_⟩
      have s2 := k1.layO (o := SetTO X.prog X.w a L) ha
      have k2 := k1.step s2
      have in2 : ∀ q ∈ L, q.2 ∈ nss := fun q hq => by
        rw [← e2]
        exact List.mem_map.mpr ⟨q, sub q hq, rfl⟩
      refine ⟨a, L, rfl, upd_same, fun p hp => ⟨sqt_up s2.sub (e3 p (sub p hp)), two _ (in2 p hp)⟩, fun L2 p2 sub2 len2 hp2 => ?_⟩
      have s3 := k2.layO (o := .lst (L2.map fun q => V.ref q.1)) hp2
      refine q G1 _ p2 _ _ t1 (s1.trans (s2.trans s3)) (fresh_of (s1.trans s2) hp2) (none_of k2 hp2) upd_same (rows_back L2 fun r hr => e3 r (sub r (sub2 r hr))) (p _ (fun ns hns => ?_) (by rw [List.length_map]; exact len2))
      obtain ⟨r, hr, rfl⟩ := List.mem_map.mp hns
      exact in2 r (sub2 r hr)
end
end Dl
end
section
set_option maxRecDepth 100000
set_option maxHeartbeats 4000000
namespace Dl
open PySem PySem.Spec PyProof.Rows L2
mutual
theorem Fin.noD : ∀ x : PyData, Fin x → x.hasDict = false
  | .none, _ => by simp only [PyData.hasDict]
  | .bool _, _ => by simp only [PyData.hasDict]
  | .int _, _ => by simp only [PyData.hasDict]
  | .str _, _ => by simp only [PyData.hasDict]
  | .list xs, h => by
    simp only [PyData.hasDict]
    exact FinA.noD xs h
  | .tuple xs, h => by
    simp only [PyData.hasDict]
    exact FinA.noD xs h
  | .dict _, h => h.elim
theorem FinA.noD : ∀ xs : List PyData, FinA xs → PyData.hasDictAll xs = false
  | [], _ => by simp only [PyData.hasDictAll]
  | x :: xs, h => by
    simp only [PyData.hasDictAll]
    rw [Fin.noD x h.1, FinA.noD xs h.2]
    rfl
end
section
variable {X : Cx} {Wo : WO} {M : Md X.K Wo} {ρ : List B} {t : Rs} {e a b : Expr} {pos p : Pos} {x : Str} {k j : Nat} {S : List B → Rs → (B → Rs → Prop) → Prop}
theorem jd_repr {P : PyData → Rs → Prop} (hr : Room k X.A) (hg0 : X.A.guards = some []) (hm : X.mg "repr" = none) (h : JD M e ρ t fun y t1 => Fin y ∧ sz y ≤ 55000 ∧ y.depth ≤ 60 ∧ P (.str y.shown) t1) (hg : Gl X "repr" := by rfl)
    (h3 : starEach [e] X.env = (false, eval e X.env) :: starEach [] X.env := by rfl) : JD M (.Call (.Name "repr" p) [e] [] pos) ρ t P :=
  jd_of (pe_callB (cr_repr hr hg0) hg hm (by decide +kernel) (pa_cons peT pa_nil h3) (by decide) (by decide) h3 rfl) fun σ G H S Q q => h σ G H S _ fun G1 H1 v y t1 s1 d1 ⟨fy, sy, dy, p1⟩ => by
    refine ⟨v, y, rfl, De.dp _ _ (De.up (S.step s1).ok.sub _ _ d1), Fin.show_ y fy, Fin.noD y fy, by omega, ?_, fun i e => ?_, q G1 H1 _ _ t1 s1 (.str _) p1⟩
    · have := Fin.len y fy
      rw [sizeLine_eq]
      omega
    · subst e
      have f1 : i.natAbs < 2 ^ 256 := fy
      by_cases z : i.natAbs = 0
      · rw [z]
        decide
      · have := (Nat.log2_lt z).mpr f1
        omega
theorem jt_neS {P : Bool → Rs → Prop} (h : JD M a ρ t fun x t1 => ∃ y, x = .str y ∧ JD M b ρ t1 fun z t2 => ∃ u, z = .str u ∧ P (!decide (y = u)) t2) : JT M (.Compare a [.NotEq] [b] pos) ρ t P :=
  jt_cmp op_ne (nomark _) (h.imp fun x _ ⟨y, e, h1⟩ => h1.imp fun z _ ⟨u, e2, q⟩ => by
    subst e e2
    intro G H v w k hv hw Q r
    rw [hv.strE, hw.strE]
    have e3 : (!decide (V.str y = V.str u)) = !decide (y = u) := by
      by_cases hy : y = u
      · rw [decide_eq_true hy, decide_eq_true (by rw [hy])]
      · rw [decide_eq_false hy, decide_eq_false (fun z => hy (V.str.inj z))]
    exact ⟨rfl, by rw [e3]; exact keep k r (.bl _) ⟨_, rfl, q⟩⟩)
theorem jd_call0 {P : PyData → Rs → Prop} (D : Def X.prog X.w X.K Wo X.mg X.base k x 0 S) (hr : Room j X.A) (hk : k ≤ j) (hg : Gl X x) (h : S [] t fun b t2 => ∃ y, b = .d y ∧ P y t2)
    (h2 : (x == ("__debug__" : Str)) = false := by decide) : JD M (.Call (.Name x p) [] [] pos) ρ t P := by
  obtain ⟨f, fd, ps, F, hm, kp, hb⟩ := D.ex
  refine jd_of (pe_call0 F (hr.mono hk) hg hm kp hb .nil pass0 h2) fun σ G H S Q q => ?_
  show spD X.K Wo 0 _ ([] ++ []) H Q E0
  refine ⟨M, G, [], t, _, S.ok, .nil, rfl, h, fun G2 H2 v z t2 s2 d2 ⟨y, ey, py⟩ => ?_, fun G2 H2 l ws xs t2 s2 n g e a ⟨y, ey, py⟩ => (by cases ey)⟩
  cases ey
  exact q G2 H2 v z t2 s2 d2 py
end
end Dl
end
section
set_option maxRecDepth 100000
set_option maxHeartbeats 4000000
namespace Dz
open PySem PySem.Spec PyProof.Rows L2 Dl
/-! ### zip of any tuples: what one turn does -/
/-- the zip at b + n + 2 of the tuples ls, ahead of turn i -/
structure Zs (h : Heap) (b : Addr) (ls : List Addr) (i : Nat) : Prop where
  z : ∃ f0 f1, h.get? (b + ls.length + 2) = some { cls := .type "zip", dict := none, data := .fields #[f0, f1, .bool false, .ref (b + ls.length), .ref (b + ls.length + 1)], slots := #[] } ∧ (f0 = .none ∨ ∃ a : Nat, f0 = rawInt a)
  ti : h.get? (b + ls.length) = some { cls := .type "tuple", data := .seq ((List.range ls.length).map fun k => Value.ref (b + k)).toArray }
  to : ∃ vs : Array Value, vs.size = ls.length ∧ h.get? (b + ls.length + 1) = some { cls := .type "tuple", data := .seq vs }
  it : ∀ (k : Nat) (l : Addr), ls[k]? = some l → h.IsTupleIter (b + k) l i
/-- what is neither the zip nor its own stays -/
def Far (b n : Nat) (h h' : Heap) : Prop := ∀ c o, (c < b ∨ b + n + 2 < c) → h.get? c = some o → h'.get? c = some o
theorem Far.refl (b n : Nat) (h : Heap) : Far b n h h := fun _ _ _ e => e
theorem Far.trans {b n : Nat} {h h1 h2 : Heap} (x : Far b n h h1) (y : Far b n h1 h2) : Far b n h h2 := fun c o q e => y c o q (x c o q e)
theorem Far.same {b n : Nat} {h h1 : Heap} {a : Addr} (x : Heap.SameBut a h h1) (q : b ≤ a) (q2 : a ≤ b + n + 2) : Far b n h h1 := fun c o hc e => (x.2 c fun z => by
  subst z
  rcases hc with hc | hc
  · exact absurd (Nat.lt_of_lt_of_le hc q) (Nat.lt_irrefl _)
  · exact absurd (Nat.lt_of_lt_of_le hc q2) (Nat.lt_irrefl _)).trans e
section
variable {prog : Program} {w : World} {A : Around} {E : Value → Shared → Prop} {s : Shared}
theorem le2 {b n k : Nat} (h : k < n) : b + k ≤ b + n + 2 := by omega
theorem ne0 {b n k : Nat} (h : k < n) : b + n ≠ b + k := by omega
theorem ne1 {b n k : Nat} (h : k < n) : b + n + 1 ≠ b + k := by omega
theorem ne2 {b n k : Nat} (h : k < n) : b + n + 2 ≠ b + k := by omega
theorem idx_at {n b k : Nat} (h : k < n) : ((List.range n).map fun k => Value.ref (b + k))[k]? = some (Value.ref (b + k)) := by simp [h]
/-- the objects of the zip while it draws: the first k iterators are drawn -/
structure Zd (s0 : Shared) (b : Nat) (ls : List Addr) (i k : Nat) (xs : List Value) (h : Heap) (f0 : Value) (own : Bool) : Prop where
  z : ∃ f1, h.get? (b + ls.length + 2) = some { cls := .type "zip", dict := none, data := .fields #[f0, f1, .bool false, .ref (b + ls.length), .ref (b + ls.length + 1)], slots := #[] }
  ti : h.get? (b + ls.length) = some { cls := .type "tuple", data := .seq ((List.range ls.length).map fun k => Value.ref (b + k)).toArray }
  to : ∃ vs : Array Value, vs.size = ls.length ∧ h.get? (b + ls.length + 1) = some { cls := .type "tuple", data := .seq vs } ∧ (own = true → ∀ j, j < k → vs[j]? = xs[j]?)
  it : ∀ (j : Nat) (l : Addr), ls[j]? = some l → h.IsTupleIter (b + j) l (if j < k then i + 1 else i)
  far : Far b ls.length s0.heap h
  sz : h.objs.size = s0.heap.objs.size
theorem iter_at {h h' : Heap} {it l : Addr} {i : Nat} (x : h.IsTupleIter it l i) (e : ∀ o, h.get? it = some o → h'.get? it = some o) : h'.IsTupleIter it l i := x.at e
section
variable {prog : Program} {w : World} {A : Around} {E : Value → Shared → Prop} {s0 : Shared} {b i : Nat} {ls : List Addr} {arr : Nat → Array Value} {xs : List Value}
/-- one iterator is drawn -/
theorem Zd.draw {k : Nat} {f0 : Value} {own : Bool} {h : Heap} {Q : Value → Shared → Prop} (D : Zd s0 b ls i k xs h f0 own) (hk : k < ls.length)
    (lt : ∀ (k : Nat) (l : Addr), ls[k]? = some l → l < b) (tup : ∀ (k : Nat) (l : Addr), ls[k]? = some l → s0.heap.IsTuple l (arr k)) (hx : ∀ k : Nat, k < ls.length → ∃ x, xs[k]? = some x ∧ (arr k)[i]? = some x)
    (hQ : ∀ (h2 : Heap) (x : Value), xs[k]? = some x → Zd s0 b ls i (k + 1) xs h2 f0 false → (own = true → ∃ vs : Array Value, vs.size = ls.length ∧ h2.get? (b + ls.length + 1) = some { cls := .type "tuple", data := .seq vs } ∧ ∀ j, j < k → vs[j]? = xs[j]?) → Q x { s0 with heap := h2 }) :
    wpAny (model prog w) A (Builtin.SmallTypes.nextOf (.ref (b + k))) Q E { s0 with heap := h } := by
  obtain ⟨x, ex, ea⟩ := hx k hk
  have el : ls[k]? = some ls[k] := List.getElem?_eq_getElem hk
  have hit := D.it k _ el
  rw [if_neg (Nat.lt_irrefl k)] at hit
  obtain ⟨o, ho, hc, n, hd⟩ := tup k _ el
  have tl : h.IsTuple ls[k] (arr k) := ⟨o, D.far _ _ (.inl (lt k _ el)) ho, hc, n, hd⟩
  refine RZ.nextOf_tuple_item (s := { s0 with heap := h }) hit tl ea fun h2 hit2 sb => ?_
  have keep : ∀ (c : Addr) (o : Obj), c ≠ b + k → h.get? c = some o → h2.get? c = some o := fun c o hc e => sb.extBut c o hc e
  obtain ⟨f1, hz⟩ := D.z
  obtain ⟨vs, hvs, hto, hown⟩ := D.to
  refine hQ h2 x ex ⟨⟨f1, keep _ _ (ne2 hk) hz⟩, keep _ _ (ne0 hk) D.ti, ⟨vs, hvs, keep _ _ (ne1 hk) hto, fun z => by cases z⟩, fun j l ej => ?_, D.far.trans (Far.same sb (Nat.le_add_right b k) (le2 hk)), sb.1.trans D.sz⟩ fun hw => ⟨vs, hvs, keep _ _ (ne1 hk) hto, hown hw⟩
  by_cases hjk : j = k
  · subst hjk
    rw [el] at ej
    cases ej
    rw [if_pos (Nat.lt_succ_self j)]
    exact hit2
  · have := D.it j l ej
    have e : (if j < k + 1 then i + 1 else i) = (if j < k then i + 1 else i) := by
      by_cases q : j < k
      · rw [if_pos q, if_pos (by omega)]
      · rw [if_neg q, if_neg (by omega)]
    rw [e]
    exact this.at fun o e => keep _ o (fun z => hjk (Nat.add_left_cancel z)) e
end
section
variable {prog : Program} {w : World} {A : Around} {E : Value → Shared → Prop} {s : Shared}
theorem wpAny_alive {M : Model} {a : Addr} {Q : Option Obj → Shared → Prop} (h : Q (s.heap.get? a) s) : wpAny M A (loadIfAlive a) Q E s := fun Γ p _ => by
  unfold loadIfAlive
  rw [Sem.wp_loadIfAlive]
  exact h
/-- whether the tuple handed out before is free -/
theorem free_or {b n : Nat} {f0 f1 : Value} {t u : Value} {Q : Bool → Shared → Prop} (hz : s.heap.get? (b + n + 2) = some { cls := .type "zip", dict := none, data := .fields #[f0, f1, .bool false, t, u], slots := #[] }) (hf : f0 = .none ∨ ∃ a : Nat, f0 = rawInt a)
    (h1 : Q true s) (h2 : ∀ (h' : Heap) (f1' : Value), h'.get? (b + n + 2) = some { cls := .type "zip", dict := none, data := .fields #[f0, f1', .bool false, t, u], slots := #[] } → Heap.SameBut (b + n + 2) s.heap h' → Q false { s with heap := h' }) :
    wpAny (model prog w) A (Builtin.SmallTypes.ownedTupleIsFree (.ref (b + n + 2))) Q E s := by
  unfold Builtin.SmallTypes.ownedTupleIsFree
  refine wpAny_bind (wpAny_field hz rfl (x := f0) rfl ?_)
  rcases hf with rfl | ⟨a, rfl⟩
  · exact wpAny_pure h1
  · show wpAny _ _ (loadIfAlive ((a : Int).toNat) >>= _) _ _ _
    refine wpAny_bind (wpAny_alive ?_)
    cases e : s.heap.get? ((a : Int).toNat) with
    | none => exact wpAny_pure h1
    | some o =>
      show wpAny _ _ (field (.ref (b + n + 2)) 1 >>= _) _ _ _
      refine wpAny_bind (wpAny_field hz rfl (x := f1) rfl ?_)
      by_cases hb : (f1 != Value.bool true) = true
      · rw [if_pos hb]
        refine wpAny_bind (wpAny_setField_rec hz (by simp) fun h' hz' hs' => wpAny_pure ?_)
        exact h2 h' _ hz' hs'
      · rw [if_neg hb]
        refine wpAny_pure ?_
        exact h2 s.heap f1 hz (Heap.SameBut.refl _ _)
theorem zip_at {n b k : Nat} {x : Value} {kx : Nat} {rest : List (Value × Nat)} (h : (x, kx) :: rest = (((List.range n).map fun k => Value.ref (b + k)).zipIdx).drop k) : k < n ∧ x = .ref (b + k) ∧ kx = k ∧ rest = (((List.range n).map fun k => Value.ref (b + k)).zipIdx).drop (k + 1) := by
  have hk : k < n := by
    by_cases q : k < n
    · exact q
    · rw [List.drop_eq_nil_of_le (by simp; omega)] at h
      cases h
  have e : (((List.range n).map fun k => Value.ref (b + k)).zipIdx)[k]? = some (Value.ref (b + k), k) := by simp [hk]
  obtain ⟨hlt, e2⟩ := List.getElem?_eq_some_iff.mp e
  rw [List.drop_eq_getElem_cons hlt, e2] at h
  cases h
  exact ⟨hk, rfl, rfl, rfl⟩
theorem zn_next {b i : Nat} {ls : List Addr} {arr : Nat → Array Value} {xs : List Value} {Q : Value → Shared → Prop} (S : Zs s.heap b ls i) (pos : 0 < ls.length) (few : ls.length ≤ 1000)
    (lt : ∀ (k : Nat) (l : Addr), ls[k]? = some l → l < b) (tup : ∀ (k : Nat) (l : Addr), ls[k]? = some l → s.heap.IsTuple l (arr k)) (hx : ∀ k : Nat, k < ls.length → ∃ x, xs[k]? = some x ∧ (arr k)[i]? = some x) (hl : xs.length = ls.length)
    (hQ : ∀ h', Zs h' b ls (i + 1) → h'.get? s.heap.objs.size = some { cls := .type "tuple", data := .seq xs.toArray } → h'.objs.size = s.heap.objs.size + 1 → Far b ls.length s.heap h' → Q (.ref s.heap.objs.size) { s with heap := h' }) :
    wpAny (model prog w) A (Builtin.«zip.__next__» ⟨[.ref (b + ls.length + 2)], []⟩) (fun fin s' => ∃ v, fin = .done (.ret v) ∧ Q v s') E s := by
  obtain ⟨f0, f1, hz, hf0⟩ := S.z
  have hti := S.ti
  obtain ⟨vs, hvs, hto⟩ := S.to
  have hzl : b + ls.length + 2 < s.heap.objs.size := Heap.lt_size hz
  show wpAny _ _ (field (.ref (b + ls.length + 2)) 2 >>= _) _ _ _
  refine wpAny_bind (wpAny_field hz rfl (x := .bool false) rfl ?_)
  show wpAny _ _ (field (.ref (b + ls.length + 2)) 3 >>= _) _ _ _
  refine wpAny_bind (wpAny_field hz rfl (x := .ref (b + ls.length)) rfl ?_)
  refine wpAny_bind (wpAny_seqItems hti rfl ?_)
  have ne : (((List.range ls.length).map fun k => Value.ref (b + k)).toArray).isEmpty = false := by
    rw [← Bool.not_eq_true, Array.isEmpty_iff_size_eq_zero]
    simp
    intro z
    rw [z] at pos
    cases pos
  simp only [ne]
  show wpAny _ _ (Builtin.SmallTypes.ownedTupleIsFree (.ref (b + ls.length + 2)) >>= _) _ _ _
  refine wpAny_bind (free_or hz hf0 ?_ fun h₁ f1' hz₁ hs₁ => ?_)
  · simp only [if_true]
    refine wpAny_bind (wpAny_rule ?_)
    refine wpAny_bind (wpAny_field hz rfl (x := .ref (b + ls.length + 1)) rfl ?_)
    refine wpAny_bind (wpAny_setField_rec hz (by simp) fun h₁ hz₁ hs₁ => ?_)
    have up : ∀ (c : Addr) (o : Obj), c ≠ b + ls.length + 2 → s.heap.get? c = some o → h₁.get? c = some o := fun c o hc e => hs₁.extBut c o hc e
    refine wpAny_bind (wpAny_mono (wpAny_forIn_list _ (fun rest st s' => st = (none, ()) ∧ ∃ k h', k ≤ ls.length ∧ rest = (((List.range ls.length).map fun k => Value.ref (b + k)).zipIdx).drop k ∧ s' = { s with heap := h' } ∧ Zd s b ls i k xs h' .ellipsis true)
      (fun st s' => st = (none, ()) ∧ ∃ h', s' = { s with heap := h' } ∧ Zd s b ls i ls.length xs h' .ellipsis true) ?turn ?fin _ _ ?start) ?aft fun _ _ e => e)
    case start =>
      refine ⟨rfl, 0, h₁, Nat.zero_le _, rfl, rfl, ⟨⟨f1, hz₁⟩, up _ _ (Nat.ne_of_lt (by show b + ls.length < b + ls.length + 2; omega)) hti, ⟨vs, hvs, up _ _ (Nat.ne_of_lt (by show b + ls.length + 1 < b + ls.length + 2; omega)) hto, fun _ j hj => absurd hj (Nat.not_lt_zero j)⟩, fun j l ej => ?_, Far.same hs₁ (by show b ≤ b + ls.length + 2; omega) (Nat.le_refl _), hs₁.1⟩⟩
      rw [if_neg (Nat.not_lt_zero j)]
      have hj : j < ls.length := (List.getElem?_eq_some_iff.mp ej).1
      exact (S.it j l ej).at fun o e => up _ o (Ne.symm (ne2 hj)) e
    case fin =>
      rintro st s' ⟨e, k, h', hk, hr, es, D⟩
      have : k = ls.length := by
        have := congrArg List.length hr
        simp at this
        omega
      subst this
      exact ⟨e, h', es, D⟩
    case turn =>
      rintro ⟨x, kx⟩ rest st s' ⟨rfl, k, h', hk, hr, rfl, D⟩
      obtain ⟨hkl, rfl, rfl, hr2⟩ := zip_at hr
      refine wpAny_bind (wpAny_onRaise ?_)
      show wpAny _ _ (Builtin.SmallTypes.nextOf (.ref (b + kx)) >>= _) _ _ _
      refine wpAny_bind (D.draw hkl lt tup hx fun h2 x ex D2 own => wpAny_pure ?_)
      obtain ⟨ws, hws, hto2, hown⟩ := own rfl
      refine wpAny_bind (wpAny_seqItems hto2 rfl ?_)
      refine wpAny_bind (wpAny_updateSeq hto2 rfl ?_ (by rw [hws, sizeLine_eq]; omega) (by rw [Array.size_setIfInBounds, hws, sizeLine_eq]; omega))
      refine wpAny_bind (wpAny_letGo (wpAny_pure ?_))
      have sb : Heap.SameBut (b + ls.length + 1) h2 (h2.update (b + ls.length + 1) (Obj.mapSeq (·.setIfInBounds kx x))) := Heap.SameBut.update ..
      have up2 : ∀ (c : Addr) (o : Obj), c ≠ b + ls.length + 1 → h2.get? c = some o → (h2.update (b + ls.length + 1) (Obj.mapSeq (·.setIfInBounds kx x))).get? c = some o := fun c o hc e => sb.extBut c o hc e
      obtain ⟨g1, hz2⟩ := D2.z
      refine ⟨rfl, kx + 1, _, hkl, hr2, rfl, ⟨⟨g1, up2 _ _ (Nat.ne_of_gt (by show b + ls.length + 1 < b + ls.length + 2; omega)) hz2⟩, up2 _ _ (Nat.ne_of_lt (by show b + ls.length < b + ls.length + 1; omega)) D2.ti, ⟨ws.setIfInBounds kx x, by rw [Array.size_setIfInBounds, hws], ?_, fun _ j hj => ?_⟩, fun j l ej => ?_, D2.far.trans (Far.same sb (by show b ≤ b + ls.length + 1; omega) (by show b + ls.length + 1 ≤ b + ls.length + 2; omega)), sb.1.trans D2.sz⟩⟩
      · rw [Heap.get?_update_self _ hto2 rfl]
        simp [Obj.mapSeq]
      · by_cases hjk : j = kx
        · subst hjk
          rw [ex, Array.getElem?_setIfInBounds_self_of_lt (by rw [hws]; exact hkl)]
        · rw [Array.getElem?_setIfInBounds_ne (Ne.symm hjk)]
          exact hown j (by omega)
      · have hj : j < ls.length := (List.getElem?_eq_some_iff.mp ej).1
        exact (D2.it j l ej).at fun o e => up2 _ o (Ne.symm (ne1 hj)) e
    case aft =>
      rintro st s' ⟨rfl, h', rfl, D⟩
      obtain ⟨ws, hws, hto2, hown⟩ := D.to
      obtain ⟨g1, hz2⟩ := D.z
      have exs : ws.toList = xs := List.ext_getElem? fun j => by
        by_cases hj : j < ls.length
        · rw [← hown rfl j hj]
          simp
        · rw [List.getElem?_eq_none (by simp; omega), List.getElem?_eq_none (by omega)]
      refine wpAny_bind (wpAny_seqItems hto2 rfl ?_)
      refine wpAny_bind (wpAny_newTuple ?_ (by rw [exs, hl, sizeLine_eq]; omega))
      rw [exs]
      have hsz := D.sz
      show wpAny _ _ (Builtin.SmallTypes.ownedTupleHandOut (.ref (b + ls.length + 2)) (.ref h'.objs.size) >>= _) _ _ _
      refine wpAny_bind ?_
      unfold Builtin.SmallTypes.ownedTupleHandOut
      have new : (h'.push { cls := .type "tuple", data := .seq xs.toArray }).get? h'.objs.size = some { cls := .type "tuple", data := .seq xs.toArray } := Heap.get?_push_size _ rfl
      refine wpAny_bind (wpAny_setField_rec (s := { s with heap := h'.push { cls := .type "tuple", data := .seq xs.toArray } }) (Heap.get?_push_of_some _ hz2) (by simp) fun h₃ hz₃ hs₃ => ?_)
      refine wpAny_setField_rec (s := { s with heap := h₃ }) hz₃ (by simp) fun h₄ hz₄ hs₄ => ?_
      have up4 : ∀ (c : Addr) (o : Obj), c ≠ b + ls.length + 2 → h'.get? c = some o → h₄.get? c = some o := fun c o hc e => hs₄.extBut c o hc (hs₃.extBut c o hc (Heap.get?_push_of_some _ e))
      have hne : h'.objs.size ≠ b + ls.length + 2 := by
        rw [hsz]
        exact Nat.ne_of_gt hzl
      have new4 := hs₄.extBut _ _ hne (hs₃.extBut _ _ hne new)
      have sz4 : h₄.objs.size = s.heap.objs.size + 1 := by rw [hs₄.1, hs₃.1, Heap.size_push, hsz]
      refine wpAny_pure ⟨_, rfl, ?_⟩
      show Q (.ref h'.objs.size) _
      rw [hsz] at new4 ⊢
      refine hQ h₄ ⟨⟨_, _, hz₄, .inr ⟨h'.objs.size, rfl⟩⟩, up4 _ _ (Nat.ne_of_lt (by show b + ls.length < b + ls.length + 2; omega)) D.ti, ⟨ws, hws, up4 _ _ (Nat.ne_of_lt (by show b + ls.length + 1 < b + ls.length + 2; omega)) hto2⟩, fun j l ej => ?_⟩ new4 sz4 fun c o hc e => ?_
      · have hj : j < ls.length := (List.getElem?_eq_some_iff.mp ej).1
        have := D.it j l ej
        rw [if_pos hj] at this
        exact this.at fun o e => up4 _ o (Ne.symm (ne2 hj)) e
      · exact up4 c o (fun z => by
          subst z
          rcases hc with hc | hc
          · exact absurd hc (by show ¬ (b + ls.length + 2 < b); omega)
          · exact absurd hc (Nat.lt_irrefl _)) (D.far c o hc e)
  · simp only [Bool.false_eq_true, if_false]
    have up : ∀ (c : Addr) (o : Obj), c ≠ b + ls.length + 2 → s.heap.get? c = some o → h₁.get? c = some o := fun c o hc e => hs₁.extBut c o hc e
    refine wpAny_bind (wpAny_mono (wpAny_forIn_array' _ (fun rest st s' => ∃ k h', k ≤ ls.length ∧ rest = ((List.range ls.length).map fun k => Value.ref (b + k)).drop k ∧ st = (none, (xs.take k).toArray) ∧ s' = { s with heap := h' } ∧ Zd s b ls i k xs h' f0 false)
      (fun st s' => st = (none, xs.toArray) ∧ ∃ h', s' = { s with heap := h' } ∧ Zd s b ls i ls.length xs h' f0 false) ?turn ?fin _ _ ?start) ?aft fun _ _ e => e)
    case start =>
      refine ⟨0, h₁, Nat.zero_le _, rfl, rfl, rfl, ⟨⟨f1', hz₁⟩, up _ _ (Nat.ne_of_lt (by show b + ls.length < b + ls.length + 2; omega)) hti, ⟨vs, hvs, up _ _ (Nat.ne_of_lt (by show b + ls.length + 1 < b + ls.length + 2; omega)) hto, fun z => by cases z⟩, fun j l ej => ?_, Far.same hs₁ (by show b ≤ b + ls.length + 2; omega) (Nat.le_refl _), hs₁.1⟩⟩
      rw [if_neg (Nat.not_lt_zero j)]
      have hj : j < ls.length := (List.getElem?_eq_some_iff.mp ej).1
      exact (S.it j l ej).at fun o e => up _ o (Ne.symm (ne2 hj)) e
    case fin =>
      rintro st s' ⟨k, h', hk, hr, e, es, D⟩
      have : k = ls.length := by
        have := congrArg List.length hr
        simp at this
        omega
      subst this
      rw [List.take_of_length_le (by omega)] at e
      exact ⟨e, h', es, D⟩
    case turn =>
      rintro x rest st s' ⟨k, h', hk, hr, rfl, rfl, D⟩
      have hkl : k < ls.length := by
        by_cases q : k < ls.length
        · exact q
        · rw [List.drop_eq_nil_of_le (by simp; omega)] at hr
          cases hr
      have e := idx_at (b := b) hkl
      obtain ⟨hlt, e2⟩ := List.getElem?_eq_some_iff.mp e
      rw [List.drop_eq_getElem_cons hlt, e2] at hr
      cases hr
      refine wpAny_bind (wpAny_holding ?_)
      show wpAny _ _ (Builtin.SmallTypes.nextOf (.ref (b + k)) >>= _) _ _ _
      refine wpAny_bind (D.draw hkl lt tup hx fun h2 x ex D2 _ => wpAny_pure (wpAny_pure ?_))
      refine ⟨k + 1, h2, hkl, rfl, ?_, rfl, D2⟩
      have ht : xs.take (k + 1) = xs.take k ++ [x] := by
        rw [List.take_add_one, ex]
        rfl
      show (none, (xs.take k).toArray.push x) = _
      rw [ht]
      simp
    case aft =>
      rintro st s' ⟨rfl, h', rfl, D⟩
      have hsz := D.sz
      obtain ⟨g1, hz2⟩ := D.z
      obtain ⟨ws, hws, hto2, _⟩ := D.to
      refine wpAny_bind (wpAny_newTuple (wpAny_pure ⟨_, rfl, ?_⟩) (by show xs.length ≤ _; rw [hl, sizeLine_eq]; omega))
      show Q (.ref h'.objs.size) _
      have up4 : ∀ (c : Addr) (o : Obj), h'.get? c = some o → (h'.push { cls := .type "tuple", data := .seq xs.toArray }).get? c = some o := fun c o e => Heap.get?_push_of_some _ e
      have new4 : (h'.push { cls := .type "tuple", data := .seq xs.toArray }).get? h'.objs.size = some { cls := .type "tuple", data := .seq xs.toArray } := Heap.get?_push_size _ rfl
      have sz4 : (h'.push { cls := .type "tuple", data := .seq xs.toArray }).objs.size = s.heap.objs.size + 1 := by rw [Heap.size_push, hsz]
      rw [hsz] at new4 ⊢
      refine hQ _ ⟨⟨_, _, up4 _ _ hz2, hf0⟩, up4 _ _ D.ti, ⟨ws, hws, up4 _ _ hto2⟩, fun j l ej => ?_⟩ new4 sz4 fun c o hc e => up4 _ _ (D.far c o hc e)
      have hj : j < ls.length := (List.getElem?_eq_some_iff.mp ej).1
      have := D.it j l ej
      rw [if_pos hj] at this
      exact this.at fun o e => up4 _ o e
end
end
end Dz
end
section
set_option maxRecDepth 100000
set_option maxHeartbeats 4000000
namespace Dz
open PySem PySem.Spec PyProof.Rows L2 Dl
section
variable {prog : Program} {w : World} {A : Around} {E : Value → Shared → Prop} {s : Shared}
theorem zn_end {b i : Nat} {ls : List Addr} {its : Array Value} {Q : PySem.Fin → Shared → Prop} (hh : A.handled = none) (S : Zs s.heap b ls i) {l0 : Addr} (h0 : ls[0]? = some l0) (tup : s.heap.IsTuple l0 its) (hend : its[i]? = none)
    (hE : ∀ h' e, Far b ls.length s.heap h' → (∃ o, h'.get? e = some o ∧ o.cls = .type "StopIteration") → E (.ref e) { s with heap := h' }) :
    wpAny (model prog w) A (Builtin.«zip.__next__» ⟨[.ref (b + ls.length + 2)], []⟩) Q E s := by
  obtain ⟨f0, f1, hz, hf0⟩ := S.z
  have pos : 0 < ls.length := (List.getElem?_eq_some_iff.mp h0).1
  have hti := S.ti
  obtain ⟨vs, hvs, hto⟩ := S.to
  have hit := S.it 0 l0 h0
  have z0 : b ≠ b + ls.length + 2 := by omega
  show wpAny _ _ (field (.ref (b + ls.length + 2)) 2 >>= _) _ _ _
  refine wpAny_bind (wpAny_field hz rfl (x := .bool false) rfl ?_)
  show wpAny _ _ (field (.ref (b + ls.length + 2)) 3 >>= _) _ _ _
  refine wpAny_bind (wpAny_field hz rfl (x := .ref (b + ls.length)) rfl ?_)
  refine wpAny_bind (wpAny_seqItems hti rfl ?_)
  have ne : (((List.range ls.length).map fun k => Value.ref (b + k)).toArray).isEmpty = false := by
    rw [← Bool.not_eq_true, Array.isEmpty_iff_size_eq_zero]
    simp
    intro z
    rw [z] at pos
    cases pos
  have hd : ∃ r, (List.range ls.length).map (fun k => Value.ref (b + k)) = Value.ref b :: r := by
    cases e : ls.length with
    | zero => omega
    | succ m => exact ⟨_, by rw [List.range_succ_eq_map, List.map_cons]; rfl⟩
  obtain ⟨r, hr⟩ := hd
  simp only [ne]
  show wpAny _ _ (Builtin.SmallTypes.ownedTupleIsFree (.ref (b + ls.length + 2)) >>= _) _ _ _
  refine wpAny_bind (free_or hz hf0 ?_ fun h₁ f1' hz₁ hs₁ => ?_)
  · simp only [if_true]
    refine wpAny_bind (wpAny_rule ?_)
    refine wpAny_bind (wpAny_field hz rfl (x := .ref (b + ls.length + 1)) rfl ?_)
    refine wpAny_bind (wpAny_setField_rec hz (by simp) fun h₁ hz₁ hs₁ => ?_)
    rw [hr]
    simp only [List.zipIdx_cons, List.forIn_cons]
    refine wpAny_bind (wpAny_bind (wpAny_bind (wpAny_onRaise ?_)))
    show wpAny _ _ (Builtin.SmallTypes.nextOf (.ref b) >>= _) _ _ _
    obtain ⟨o, ho, hc, n, hdt⟩ := tup
    have hl : h₁.IsTuple l0 its := ⟨o, hs₁.extBut _ _ (fun z => by
      subst z
      rw [hz] at ho
      cases ho
      exact absurd (Value.type.inj hc) (by decide)) ho, hc, n, hdt⟩
    refine wpAny_bind (RZ.nextOf_tuple_end (s := { s with heap := h₁ }) hh (hit.at fun o e => hs₁.extBut _ _ z0 e) hl hend fun h₂ e hs₂ he => ?_)
    obtain ⟨oe, hoe, hce⟩ := he
    have hz₂ := hs₂ _ _ z0.symm hz₁
    have hez : e ≠ b + ls.length + 2 := fun z => by
      subst z
      rw [hz₂] at hoe
      cases hoe
      exact absurd (Value.type.inj hce) (by decide)
    refine wpAny_setField_rec (s := { s with heap := h₂ }) hz₂ (by simp) fun h₃ _ hs₃ => hE h₃ e (fun c o hc x => ?_) ⟨oe, hs₃.extBut _ _ hez hoe, hce⟩
    have c1 : c ≠ b + ls.length + 2 := fun z => by
      subst z
      rcases hc with q | q
      · exact absurd q (by show ¬ (b + ls.length + 2 < b); omega)
      · exact absurd q (Nat.lt_irrefl _)
    have c2 : c ≠ b := fun z => by
      subst z
      rcases hc with q | q
      · exact absurd q (Nat.lt_irrefl _)
      · exact absurd q (by show ¬ (c + ls.length + 2 < c); omega)
    exact hs₃.extBut _ _ c1 (hs₂ _ _ c2 (hs₁.extBut _ _ c1 x))
  · simp only [Bool.false_eq_true, if_false]
    rw [hr, ← Array.forIn_toList]
    simp only [List.forIn_cons]
    refine wpAny_bind (wpAny_bind (wpAny_bind (wpAny_holding ?_)))
    show wpAny _ _ (Builtin.SmallTypes.nextOf (.ref b) >>= _) _ _ _
    obtain ⟨o, ho, hc, n, hdt⟩ := tup
    have hl : h₁.IsTuple l0 its := ⟨o, hs₁.extBut _ _ (fun z => by
      subst z
      rw [hz] at ho
      cases ho
      exact absurd (Value.type.inj hc) (by decide)) ho, hc, n, hdt⟩
    refine wpAny_bind (RZ.nextOf_tuple_end (s := { s with heap := h₁ }) hh (hit.at fun o e => hs₁.extBut _ _ z0 e) hl hend fun h₂ e hs₂ he => ?_)
    refine hE h₂ e (fun c o hc x => ?_) he
    have c1 : c ≠ b + ls.length + 2 := fun z => by
      subst z
      rcases hc with q | q
      · exact absurd q (by show ¬ (b + ls.length + 2 < b); omega)
      · exact absurd q (Nat.lt_irrefl _)
    have c2 : c ≠ b := fun z => by
      subst z
      rcases hc with q | q
      · exact absurd q (Nat.lt_irrefl _)
      · exact absurd q (by show ¬ (c + ls.length + 2 < c); omega)
    exact hs₂ _ _ c2 (hs₁.extBut _ _ c1 x)
theorem zs_type {h : Heap} {b i : Nat} {ls : List Addr} (S : Zs h b ls i) {s : Shared} (e : s.heap = h) : s.TypeIs (.ref (b + ls.length + 2)) "zip" := by
  obtain ⟨f0, f1, hz, _⟩ := S.z
  exact ⟨_, by rw [e]; exact hz, rfl⟩
theorem next_item {b i : Nat} {ls : List Addr} {arr : Nat → Array Value} {xs : List Value} {Q : Option Value → Shared → Prop} (S : Zs s.heap b ls i) (pos : 0 < ls.length) (few : ls.length ≤ 1000)
    (lt : ∀ (k : Nat) (l : Addr), ls[k]? = some l → l < b) (tup : ∀ (k : Nat) (l : Addr), ls[k]? = some l → s.heap.IsTuple l (arr k)) (hx : ∀ k : Nat, k < ls.length → ∃ x, xs[k]? = some x ∧ (arr k)[i]? = some x) (hl : xs.length = ls.length)
    (hQ : ∀ h', Zs h' b ls (i + 1) → h'.get? s.heap.objs.size = some { cls := .type "tuple", data := .seq xs.toArray } → h'.objs.size = s.heap.objs.size + 1 → Far b ls.length s.heap h' → Q (some (.ref s.heap.objs.size)) { s with heap := h' }) :
    wpAny (model prog w) A (pyNext (.ref (b + ls.length + 2))) Q E s := by
  have hT := zs_type (s := s) S rfl
  unfold pyNext
  refine wpAny_bind (wpAny_attempt (wpAny_callSpecial?_slot (name := Str.ofString "__next__") hT F.slot_zip_next (wpAny_call_entry F.slot_zip_next hT F.entry_zip_next ?_ (F.args_zip_next_1 _))))
  exact zn_next S pos few lt tup hx hl fun h' a1 a2 a3 a4 => wpAny_pure (hQ h' a1 a2 a3 a4)
theorem next_end {b i : Nat} {ls : List Addr} {its : Array Value} {Q : Option Value → Shared → Prop} (hh : A.handled = none) (S : Zs s.heap b ls i) {l0 : Addr} (h0 : ls[0]? = some l0) (tup : s.heap.IsTuple l0 its) (hend : its[i]? = none)
    (hQ : ∀ h', Far b ls.length s.heap h' → Q none { s with heap := h' }) : wpAny (model prog w) A (pyNext (.ref (b + ls.length + 2))) Q E s := by
  have hT := zs_type (s := s) S rfl
  unfold pyNext
  refine wpAny_bind (wpAny_attempt (wpAny_callSpecial?_slot (name := Str.ofString "__next__") hT F.slot_zip_next (wpAny_call_entry F.slot_zip_next hT F.entry_zip_next (zn_end hh S h0 tup hend fun h' e hk he => ?_) (F.args_zip_next_1 _))))
  obtain ⟨o, ho, hc⟩ := he
  refine wpAny_bind (wpAny_isInstance (T := "StopIteration") (b := true) ⟨o, ho, hc⟩ isSubtype_stop ?_)
  exact wpAny_pure (hQ _ hk)
theorem iter_zn {b i : Nat} {ls : List Addr} {Q : Value → Shared → Prop} (S : Zs s.heap b ls i) (h : Q (.ref (b + ls.length + 2)) s) : wpAny (model prog w) A (pyIter (.ref (b + ls.length + 2))) Q E s := by
  have hT := zs_type (s := s) S rfl
  refine wpAny_pyIter_slot hT F.slot_zip_iter (wpAny_call_entry F.slot_zip_iter hT F.entry_zip_iter ?_ (F.args_zip_iter_1 _))
  show wpAny _ _ (ret (.ref (b + ls.length + 2))) _ _ s
  exact wpAny_pure ⟨_, rfl, "zip", _, hT, F.slot_zip_next.lookup, h⟩
/-! ### zip(..) of any number of tuples -/
theorem iterAll_tup {ls : List Addr} {Q : List Value → Shared → Prop} (tup : ∀ l ∈ ls, ∃ xs, s.heap.IsTuple l xs)
    (hQ : ∀ h', (∀ c o, s.heap.get? c = some o → h'.get? c = some o) → h'.objs.size = s.heap.objs.size + ls.length → (∀ (k : Nat) (l : Addr), ls[k]? = some l → h'.IsTupleIter (s.heap.objs.size + k) l 0) →
      Q ((List.range ls.length).map fun k => Value.ref (s.heap.objs.size + k)) { s with heap := h' }) :
    wpAny (model prog w) A (Builtin.SmallTypes.iterAll (ls.map Value.ref)) Q E s := by
  unfold Builtin.SmallTypes.iterAll
  refine wpAny_bind (wpAny_mono (wpAny_forIn_list _ (fun rest st s' => ∃ k h', k ≤ ls.length ∧ rest = (ls.map Value.ref).drop k ∧ st = (((List.range k).map fun k => Value.ref (s.heap.objs.size + k)).toArray) ∧ s' = { s with heap := h' } ∧ (∀ c o, s.heap.get? c = some o → h'.get? c = some o) ∧ h'.objs.size = s.heap.objs.size + k ∧ (∀ (j : Nat) (l : Addr), j < k → ls[j]? = some l → h'.IsTupleIter (s.heap.objs.size + j) l 0))
    (fun st s' => st = (((List.range ls.length).map fun k => Value.ref (s.heap.objs.size + k)).toArray) ∧ ∃ h', s' = { s with heap := h' } ∧ (∀ c o, s.heap.get? c = some o → h'.get? c = some o) ∧ h'.objs.size = s.heap.objs.size + ls.length ∧ (∀ (j : Nat) (l : Addr), ls[j]? = some l → h'.IsTupleIter (s.heap.objs.size + j) l 0)) ?turn ?fin _ _ ?start) ?aft fun _ _ e => e)
  case start => exact ⟨0, s.heap, Nat.zero_le _, rfl, rfl, rfl, fun _ _ e => e, rfl, fun j l h => absurd h (Nat.not_lt_zero j)⟩
  case fin =>
    rintro st s' ⟨k, h', hk, hr, e, es, a1, a2, a3⟩
    have : k = ls.length := by
      have := congrArg List.length hr
      simp at this
      omega
    subst this
    exact ⟨e, h', es, a1, a2, fun j l el => a3 j l (List.getElem?_eq_some_iff.mp el).1 el⟩
  case turn =>
    rintro x rest st s' ⟨k, h', hk, hr, rfl, rfl, a1, a2, a3⟩
    have hkl : k < ls.length := by
      by_cases q : k < ls.length
      · exact q
      · rw [List.drop_eq_nil_of_le (by simp; omega)] at hr
        cases hr
    rw [List.drop_eq_getElem_cons (by simpa using hkl)] at hr
    cases hr
    rw [List.getElem_map]
    obtain ⟨xs, o, ho, hc, n, hd⟩ := tup ls[k] (List.getElem_mem hkl)
    refine wpAny_bind (wpAny_holding (wpAny_pyIter_tuple (s := { s with heap := h' }) ⟨o, a1 _ _ ho, hc, n, hd⟩ (wpAny_pure ?_)))
    refine ⟨k + 1, _, hkl, rfl, ?_, rfl, fun c o e => Heap.get?_push_of_some _ (a1 c o e), ?_, fun j l hj ej => ?_⟩
    · show (((List.range k).map fun k => Value.ref (s.heap.objs.size + k)).toArray).push (.ref h'.objs.size) = _
      rw [a2, List.range_succ, List.map_append]
      simp
    · show (h'.push _).objs.size = _
      rw [Heap.size_push, a2]
      rfl
    · by_cases hjk : j = k
      · subst hjk
        rw [List.getElem?_eq_getElem hkl] at ej
        cases ej
        rw [← a2]
        exact ⟨_, Heap.get?_push_size _ rfl, rfl, rfl⟩
      · exact (a3 j l (by omega) ej).at fun o e => Heap.get?_push_of_some _ e
  case aft =>
    rintro st s' ⟨rfl, h', rfl, a1, a2, a3⟩
    exact wpAny_pure (hQ h' a1 a2 a3)
theorem new_zip (ls : List Addr) (few : ls.length ≤ 1000) : Meets (Builtin.«zip.__new__» ⟨.type "zip" :: ls.map Value.ref, []⟩) (fun _ R s => (∀ l ∈ ls, ∃ xs, s.heap.IsTuple l xs) ∧
    ∀ h', Zs h' s.heap.objs.size ls 0 → h'.objs.size = s.heap.objs.size + ls.length + 3 → (∀ c o, s.heap.get? c = some o → h'.get? c = some o) → R (.ok (.ret (.ref (s.heap.objs.size + ls.length + 2)))) { s with heap := h' }) :=
  .of_wp fun prog w A R s h => by
    obtain ⟨tup, hR⟩ := h
    have hsub := sub_zip
    have cls : wpAny (model prog w) A.in1 (Builtin.SmallTypes.newClass "zip" { pos := Value.type "zip" :: List.map Value.ref ls }) (fun a s' => a = (.type "zip", ls.map Value.ref) ∧ s' = s) (fun e s' => R (.error e) s') s := by
      simp only [Builtin.SmallTypes.newClass]
      refine wpAny_bind (m := isType _) (wpAny_pure ?_)
      simp only [Bool.not_true, Bool.false_eq_true, if_false]
      rw [hsub]
      refine wpAny_bind (wpAny_pure ?_)
      simp only [Bool.not_true, Bool.false_eq_true, if_false]
      exact wpAny_pure ⟨rfl, rfl⟩
    unfold Builtin.«zip.__new__»
    refine wpAny_bind (m := Builtin.SmallTypes.newClass "zip" _) (wpAny_mono cls ?_ fun _ _ e => e)
    rintro a s' ⟨rfl, rfl⟩
    show wpAny _ _ (Builtin.SmallTypes.iterAll (ls.map Value.ref) >>= _) _ _ _
    refine wpAny_bind (iterAll_tup tup fun h1 k1 z1 i1 => ?_)
    refine wpAny_bind (wpAny_newTuple ?_ (by simp; rw [sizeLine_eq]; omega))
    refine wpAny_bind (wpAny_newTuple ?_ (by simp; rw [sizeLine_eq]; omega))
    dsimp only
    generalize hb : s'.heap.objs.size = b at *
    have zA : (h1.push { cls := Value.type "tuple", data := Data.seq (List.map (fun k => Value.ref (b + k)) (List.range ls.length)).toArray }).objs.size = b + ls.length + 1 := by rw [Heap.size_push, z1]
    generalize hA : h1.push { cls := Value.type "tuple", data := Data.seq (List.map (fun k => Value.ref (b + k)) (List.range ls.length)).toArray } = hpA at *
    have gA : hpA.get? (b + ls.length) = some { cls := Value.type "tuple", data := Data.seq (List.map (fun k => Value.ref (b + k)) (List.range ls.length)).toArray } := by
      rw [← hA, ← z1]
      exact Heap.get?_push_size _ rfl
    have upA : ∀ c o, h1.get? c = some o → hpA.get? c = some o := fun c o e => by
      rw [← hA]
      exact Heap.get?_push_of_some _ e
    generalize hB : hpA.push { cls := Value.type "tuple", data := Data.seq (List.map (fun x => Value.none) (List.map (fun k => Value.ref (b + k)) (List.range ls.length))).toArray } = hpB
    have zB : hpB.objs.size = b + ls.length + 2 := by rw [← hB, Heap.size_push, zA]
    have gB : hpB.get? (b + ls.length + 1) = some { cls := Value.type "tuple", data := Data.seq (List.map (fun x => Value.none) (List.map (fun k => Value.ref (b + k)) (List.range ls.length))).toArray } := by
      rw [← hB, ← zA]
      exact Heap.get?_push_size _ rfl
    have upB : ∀ c o, hpA.get? c = some o → hpB.get? c = some o := fun c o e => by
      rw [← hB]
      exact Heap.get?_push_of_some _ e
    refine wpAny_bind (m := Builtin.SmallTypes.newRecord _ _) ?_
    unfold Builtin.SmallTypes.newRecord
    refine wpAny_newObj_type ?_ (by show (Array.size _) ≤ _; simp [Builtin.SmallTypes.ownedTupleFields, sizeLine_eq])
    refine wpAny_pure ⟨_, rfl, ?_⟩
    show R (.ok (.ret (.ref hpB.objs.size))) _
    rw [zB]
    have gC : (hpB.push { cls := .type "zip", data := .fields #[.none, .bool false, .bool false, .ref (b + ls.length), .ref (b + ls.length + 1)] }).get? (b + ls.length + 2) = some { cls := .type "zip", data := .fields #[.none, .bool false, .bool false, .ref (b + ls.length), .ref (b + ls.length + 1)] } := by
      rw [← zB]
      exact Heap.get?_push_size _ rfl
    have upC : ∀ c o, hpB.get? c = some o → (hpB.push { cls := .type "zip", data := .fields #[.none, .bool false, .bool false, .ref (b + ls.length), .ref (b + ls.length + 1)] }).get? c = some o := fun c o e => Heap.get?_push_of_some _ e
    have fin := hR (hpB.push { cls := .type "zip", data := .fields #[.none, .bool false, .bool false, .ref (b + ls.length), .ref (b + ls.length + 1)] }) ⟨⟨_, _, gC, .inl rfl⟩, upC _ _ (upB _ _ gA), ⟨_, by simp, upC _ _ gB⟩, fun k l e => (i1 k l e).at fun o e => upC _ _ (upB _ _ (upA _ _ e))⟩ (by rw [Heap.size_push, zB]) fun c o e => upC _ _ (upB _ _ (upA _ _ (k1 _ _ e)))
    rw [z1, zA]
    exact fin
theorem typeCall_zn : ∀ vs : List Value, vs.length ≤ 9 → checkTypeCall "zip" ⟨vs, []⟩ = pure ()
  | [], _ => by kernel_rfl
  | [_], _ => by kernel_rfl
  | [_, _], _ => by kernel_rfl
  | [_, _, _], _ => by kernel_rfl
  | [_, _, _, _], _ => by kernel_rfl
  | [_, _, _, _, _], _ => by kernel_rfl
  | [_, _, _, _, _, _], _ => by kernel_rfl
  | [_, _, _, _, _, _, _], _ => by kernel_rfl
  | [_, _, _, _, _, _, _, _], _ => by kernel_rfl
  | [_, _, _, _, _, _, _, _, _], _ => by kernel_rfl
  | _ :: _ :: _ :: _ :: _ :: _ :: _ :: _ :: _ :: _ :: _, h => absurd h (by simp)
theorem newCall_zn : ∀ vs : List Value, vs.length ≤ 9 → checkBuiltinCall "zip.__new__" ⟨.type "zip" :: vs, []⟩ = pure ()
  | [], _ => by kernel_rfl
  | [_], _ => by kernel_rfl
  | [_, _], _ => by kernel_rfl
  | [_, _, _], _ => by kernel_rfl
  | [_, _, _, _], _ => by kernel_rfl
  | [_, _, _, _, _], _ => by kernel_rfl
  | [_, _, _, _, _, _], _ => by kernel_rfl
  | [_, _, _, _, _, _, _], _ => by kernel_rfl
  | [_, _, _, _, _, _, _, _], _ => by kernel_rfl
  | [_, _, _, _, _, _, _, _, _], _ => by kernel_rfl
  | _ :: _ :: _ :: _ :: _ :: _ :: _ :: _ :: _ :: _ :: _, h => absurd h (by simp)
theorem init_zn (obj : Value) : ∀ vs : List Value, vs.length ≤ 9 → argsOk "object.__init__" ⟨obj :: vs, []⟩ := fun vs h => by
  unfold argsOk
  rw [signature?_of (id := "object.__init__") (n := ['_', '_', 't', 'i', 'n', 'i', '_', '_']) (o := ['t', 'c', 'e', 'j', 'b', 'o']) (by kernel_rfl) PySem.F.owner_object]
  match vs, h with
  | [], _ => kernel_rfl
  | [_], _ => kernel_rfl
  | [_, _], _ => kernel_rfl
  | [_, _, _], _ => kernel_rfl
  | [_, _, _, _], _ => kernel_rfl
  | [_, _, _, _, _], _ => kernel_rfl
  | [_, _, _, _, _, _], _ => kernel_rfl
  | [_, _, _, _, _, _, _], _ => kernel_rfl
  | [_, _, _, _, _, _, _, _], _ => kernel_rfl
  | [_, _, _, _, _, _, _, _, _], _ => kernel_rfl
  | _ :: _ :: _ :: _ :: _ :: _ :: _ :: _ :: _ :: _ :: _, h => exact absurd h (by simp)
theorem call_zn {ls : List Addr} {Q : Value → Shared → Prop} (few : ls.length ≤ 9) (tup : ∀ l ∈ ls, ∃ xs, s.heap.IsTuple l xs)
    (h : ∀ h', Zs h' s.heap.objs.size ls 0 → h'.objs.size = s.heap.objs.size + ls.length + 3 → (∀ c o, s.heap.get? c = some o → h'.get? c = some o) → Q (.ref (s.heap.objs.size + ls.length + 2)) { s with heap := h' }) :
    wpAny (model prog w) A (call (.type "zip") (ls.map Value.ref)) Q E s :=
  callType_new F.called_zip (by decide) (typeCall_zn _ (by simpa using few)) (newCall_zn _ (by simpa using few)) (fun obj => init_zn obj _ (by simpa using few)) F.entry_zip_new (new_zip ls (Nat.le_trans few (by decide)))
    ⟨tup, fun h' Z a b => ⟨zs_type (s := { s with heap := h' }) Z rfl, h h' Z a b⟩⟩
end
end Dz
end
section
set_option maxRecDepth 100000
set_option maxHeartbeats 4000000
namespace Dw
open PySem PySem.Spec PyProof.Rows L2 Dl

/-! ### mirrors: what a piece of a program does with data, as what must hold so that a wish comes true -/
def W (α : Type) : Type := Rs → (α → Rs → Prop) → Prop
def ret {α : Type} (a : α) : W α := fun t P => P a t
def bnd {α β : Type} (m : W α) (k : α → W β) : W β := fun t P => m t fun a t1 => k a t1 P
def bad {α : Type} : W α := fun _ _ => False
def need {α : Type} (c : Prop) (m : W α) : W α := fun t P => c ∧ m t P
theorem ret_bnd {α β : Type} (a : α) (k : α → W β) : bnd (ret a) k = k a := rfl
theorem bnd_ret {α : Type} (m : W α) : bnd m ret = m := rfl
theorem bnd_bnd {α β γ : Type} (m : W α) (k : α → W β) (l : β → W γ) : bnd (bnd m k) l = bnd m fun a => bnd (k a) l := rfl
theorem bad_bnd {α β : Type} (k : α → W β) : bnd (bad : W α) k = bad := rfl
theorem need_bnd {α β : Type} (c : Prop) (m : W α) (k : α → W β) : bnd (need c m) k = need c (bnd m k) := rfl
theorem need_true {α : Type} {c : Prop} (h : c) (m : W α) : need c m = m := by
  funext t P
  exact propext ⟨fun z => z.2, fun z => ⟨h, z⟩⟩
def op2 (o : PyData → PyData → W PyData) (f g : W PyData) : W PyData := bnd f fun x => bnd g fun y => o x y
def op1 (o : PyData → W PyData) (f : W PyData) : W PyData := bnd f o
def liq : Nat := 16777216
def oadd : PyData → PyData → W PyData
  | .int i, .int j => ret (.int (i + j))
  | .bool k, .int j => ret (.int ((if k = true then (1 : Int) else 0) + j))
  | _, _ => bad
def osub : PyData → PyData → W PyData
  | .int i, .int j => ret (.int (i - j))
  | _, _ => bad
def omul : PyData → PyData → W PyData
  | .int i, .int j => need (CMul i j) (ret (.int (i * j)))
  | _, _ => bad
def ofdiv : PyData → PyData → W PyData
  | .int i, .int j => need (CDivN i j) (ret (.int (i.fdiv j)))
  | _, _ => bad
def omod : PyData → PyData → W PyData
  | .int i, .int j => need (j ≠ 0) (ret (.int (i.fmod j)))
  | _, _ => bad
def opow : PyData → PyData → W PyData
  | .int i, .int j => need (CPow i j) (ret (.int (i ^ j.toNat)))
  | _, _ => bad
def ocatS : PyData → PyData → W PyData
  | .str a, .str b => need (a.length + b.length ≤ 16777216) (ret (.str (a ++ b)))
  | _, _ => bad
def ocatT : PyData → PyData → W PyData
  | .tuple a, .tuple b => need (a.length + b.length ≤ 16777216) (ret (.tuple (a ++ b)))
  | _, _ => bad
def olt : PyData → PyData → W PyData
  | .int i, .int j => ret (.bool (decide (i < j)))
  | _, _ => bad
def ole : PyData → PyData → W PyData
  | .int i, .int j => ret (.bool (decide (i ≤ j)))
  | _, _ => bad
def ogt : PyData → PyData → W PyData
  | .int i, .int j => ret (.bool (decide (i > j)))
  | _, _ => bad
def oge : PyData → PyData → W PyData
  | .int i, .int j => ret (.bool (decide (i ≥ j)))
  | _, _ => bad
def oltS : PyData → PyData → W PyData
  | .str i, .str j => ret (.bool (decide (i.cps.toList < j.cps.toList)))
  | _, _ => bad
def oeq (x y : PyData) : W PyData := need (SeqAt.shaped x = true ∧ SeqAt.shaped y = true) (ret (.bool (PyData.eqv x y)))
def one_ (x y : PyData) : W PyData := need (SeqAt.shaped x = true ∧ SeqAt.shaped y = true) (ret (.bool (!PyData.eqv x y)))
def oin : PyData → PyData → W PyData
  | x, .list ys => need (SeqAt.shaped x = true ∧ SeqAt.shaped (.list ys) = true) (ret (.bool (ys.any fun z => PyData.eqv z x)))
  | x, .tuple ys => need (SeqAt.shaped x = true ∧ SeqAt.shaped (.tuple ys) = true) (ret (.bool (ys.any fun z => PyData.eqv z x)))
  | _, _ => bad
def onin : PyData → PyData → W PyData
  | x, .list ys => need (SeqAt.shaped x = true ∧ SeqAt.shaped (.list ys) = true) (ret (.bool (!ys.any fun z => PyData.eqv z x)))
  | x, .tuple ys => need (SeqAt.shaped x = true ∧ SeqAt.shaped (.tuple ys) = true) (ret (.bool (!ys.any fun z => PyData.eqv z x)))
  | _, _ => bad
def oisN (x : PyData) : W PyData := ret (.bool (PyData.isN x))
def onotN (x : PyData) : W PyData := ret (.bool (!PyData.isN x))
def onot : PyData → W PyData
  | .bool b => ret (.bool (!b))
  | _ => bad
def oneg : PyData → W PyData
  | .int i => ret (.int (-i))
  | _ => bad
def olen (x : PyData) : W PyData := match lenD x with
  | some n => need (n ≤ 16777216) (ret (.int n))
  | none => bad
def otup : PyData → W PyData
  | .list xs => ret (.tuple xs)
  | .tuple xs => ret (.tuple xs)
  | _ => bad
def oint : PyData → W PyData
  | .int i => ret (.int i)
  | _ => bad
def ostr : PyData → W PyData
  | .int i => need (i.natAbs.log2 < 1920) (ret (.str (Str.ofString (toString i))))
  | _ => bad
def boolsOf : List PyData → Option (List Bool)
  | [] => some []
  | .bool b :: r => (boolsOf r).map (b :: ·)
  | _ => none
theorem boolsOf_map : ∀ bs : List Bool, boolsOf (bs.map PyData.bool) = some bs
  | [] => rfl
  | b :: bs => by rw [List.map_cons, boolsOf, boolsOf_map]; rfl
theorem boolsOf_some : ∀ {xs : List PyData} {bs : List Bool}, boolsOf xs = some bs → xs = bs.map PyData.bool
  | [], bs, h => by cases h; rfl
  | x :: r, bs, h => by
    cases x with
    | bool b =>
      rw [boolsOf] at h
      cases e : boolsOf r with
      | none => rw [e] at h; cases h
      | some cs =>
        rw [e] at h
        cases h
        rw [List.map_cons, ← boolsOf_some e]
    | _ => cases h
def oall (x : PyData) : W PyData := match x with
  | .list xs => match boolsOf xs with
    | some bs => ret (.bool (bs.all id))
    | none => bad
  | _ => bad
def oany (x : PyData) : W PyData := match x with
  | .list xs => match boolsOf xs with
    | some bs => ret (.bool (bs.any id))
    | none => bad
  | _ => bad
def oix (x y : PyData) : W PyData := match x, y with
  | .tuple xs, .int i => match atI xs i with
    | some z => ret z
    | none => bad
  | .list xs, .int i => match atI xs i with
    | some z => ret z
    | none => bad
  | _, _ => bad
def oixS (x y : PyData) : W PyData := match x, y with
  | .str xs, .int i => match atI xs.cps.toList i with
    | some z => need (xs.length ≤ 16777216) (ret (.str ⟨#[z]⟩))
    | none => bad
  | _, _ => bad
def slT (f : W PyData) (lo hi : W (Option Int)) : W PyData := bnd f fun x => match x with
  | .tuple xs => bnd lo fun l => bnd hi fun u => ret (.tuple (cutD xs l u))
  | _ => bad
def slL (f : W PyData) (lo hi : W (Option Int)) : W (List PyData) := bnd f fun x => match x with
  | .list xs => bnd lo fun l => bnd hi fun u => ret (cutD xs l u)
  | _ => bad
def slS (f : W PyData) (lo hi : W (Option Int)) : W PyData := bnd f fun x => match x with
  | .str z => bnd lo fun l => bnd hi fun u => need (z.length ≤ 16777216) (ret (.str (cutS z l u)))
  | _ => bad
def revT (f : W PyData) : W PyData := bnd f fun x => match x with
  | .tuple xs => ret (.tuple xs.reverse)
  | _ => bad
def revL (f : W PyData) : W (List PyData) := bnd f fun x => match x with
  | .list xs => ret xs.reverse
  | _ => bad
def andW (f g : W PyData) : W PyData := bnd f fun x => match x with
  | .bool b => bif b then g else ret (.bool false)
  | _ => bad
def orW (f g : W PyData) : W PyData := bnd f fun x => match x with
  | .bool b => bif b then ret (.bool true) else g
  | _ => bad
def ifW {α : Type} (c : W Bool) (f g : W α) : W α := bnd c fun b => bif b then f else g
def chW (o o' : PyData → PyData → W PyData) (f g h : W PyData) : W PyData := bnd f fun x => bnd g fun y => bnd (o x y) fun b => match b with
  | .bool true => bnd h fun z => o' y z
  | .bool false => ret (.bool false)
  | _ => bad
def asB : PyData → W Bool
  | .bool b => ret b
  | _ => bad
def strOk : PyData → Prop
  | .str y => y.length ≤ 16777216
  | _ => True
def asT (x : PyData) : W Bool := need (strOk x) (ret (truD x))
def andT (f g : W Bool) : W Bool := bnd f fun b => bif b then g else ret false
def orT (f g : W Bool) : W Bool := bnd f fun b => bif b then ret true else g
def notT (f : W Bool) : W Bool := bnd f fun b => ret (!b)
def nilA {α : Type} : W (List α) := ret []
def consA (f : W PyData) (g : W (List PyData)) : W (List PyData) := bnd f fun x => bnd g fun xs => ret (x :: xs)
def starA (f : W PyData) (g : W (List PyData)) : W (List PyData) := bnd f fun x => match x with
  | .tuple ys => bnd g fun xs => ret (ys ++ xs)
  | .list ys => bnd g fun xs => ret (ys ++ xs)
  | _ => bad
def tupW (f : W (List PyData)) : W PyData := bnd f fun xs => need (xs.length ≤ 16777216) (ret (.tuple xs))
def lstW (f : W (List PyData)) : W (List PyData) := bnd f fun xs => need (xs.length ≤ 16777216) (ret xs)
def froz (f : W (List PyData)) : W PyData := bnd f fun xs => ret (.list xs)
def catL (f g : W PyData) : W (List PyData) := bnd f fun x => match x with
  | .list xs => bnd g fun y => match y with
    | .list ys => need (xs.length + ys.length ≤ 16777216) (ret (xs ++ ys))
    | _ => bad
  | _ => bad
def asL (x : PyData) : W (List PyData) := match x with
  | .list xs => ret xs
  | .tuple xs => ret xs
  | _ => bad
def asD : B → W PyData
  | .d x => ret x
  | .own xs => ret (.list xs)
  | _ => bad
def asO : B → W (List PyData)
  | .own xs => ret xs
  | _ => bad
def bD : W (List PyData) → W (List B) := fun f => bnd f fun xs => ret (xs.map B.d)
def rdA (g : W (List B)) : W (List B) := bnd g fun bs => ret (.rd :: bs)
def dA (f : W PyData) (g : W (List B)) : W (List B) := bnd f fun x => bnd g fun bs => ret (.d x :: bs)
def callD (m : List B → W B) (f : W (List B)) : W PyData := bnd f fun bs => bnd (m bs) asD
def callL (m : List B → W B) (f : W (List B)) : W (List PyData) := bnd f fun bs => bnd (m bs) asO
def oN : W (Option Int) := ret none
def oS (f : W PyData) : W (Option Int) := bnd f fun x => match x with
  | .int i => ret (some i)
  | _ => bad
def inRng (j : Int) : Prop := -(2 ^ 62) ≤ j ∧ j < 2 ^ 62
def rng1 (f : W PyData) : W (List PyData) := bnd f fun x => match x with
  | .int j => need (inRng j) (ret (rngD 0 j.toNat))
  | _ => bad
def rng2 (f g : W PyData) : W (List PyData) := bnd f fun x => match x with
  | .int i => bnd g fun y => match y with
    | .int j => need (inRng i ∧ inRng j) (ret (rngD i (j - i).toNat))
    | _ => bad
  | _ => bad
def itS (f : W PyData) : W (List PyData) := bnd f fun x => match x with
  | .str z => ret (sgnD z)
  | _ => bad
def itL (f : W PyData) : W (List PyData) := bnd f fun x => match x with
  | .list xs => ret xs
  | _ => bad
def itT (f : W PyData) : W (List PyData) := bnd f fun x => match x with
  | .tuple xs => ret xs
  | _ => bad
/-! loops -/
inductive Out (τ σ : Type) where
  | nx (s : τ)
  | ct (s : σ)
  | bk (s : σ)
  | rt (b : B)
def forW {σ : Type} (f : σ → PyData → W (Out σ σ)) : List PyData → σ → W (Sum σ B)
  | [], s => ret (.inl s)
  | x :: r, s => bnd (f s x) fun o => match o with
    | .nx s' => forW f r s'
    | .ct s' => forW f r s'
    | .bk s' => ret (.inl s')
    | .rt b => ret (.inr b)
def whN {σ : Type} (c : σ → W Bool) (f : σ → W (Out σ σ)) : Nat → σ → W (Sum σ B)
  | 0, _ => bad
  | n + 1, s => bnd (c s) fun b => bif b then (bnd (f s) fun o => match o with
    | .nx s' => whN c f n s'
    | .ct s' => whN c f n s'
    | .bk s' => ret (.inl s')
    | .rt b => ret (.inr b)) else ret (.inl s)
def whW {σ : Type} (c : σ → W Bool) (f : σ → W (Out σ σ)) (s : σ) : W (Sum σ B) := fun t P => ∃ n, whN c f n s t P
/-- what follows a loop -/
def thn {α τ σ : Type} (m : W (Sum α B)) (k : α → W (Out τ σ)) : W (Out τ σ) := bnd m fun o => match o with
  | .inl s => k s
  | .inr b => ret (.rt b)
/-- what follows an if whose branches meet again -/
def joi {α τ σ : Type} (m : W (Out α σ)) (k : α → W (Out τ σ)) : W (Out τ σ) := bnd m fun o => match o with
  | .nx s => k s
  | .ct s => ret (.ct s)
  | .bk s => ret (.bk s)
  | .rt b => ret (.rt b)
/-- a block that never goes on -/
def upO {τ σ : Type} (m : W (Out Empty σ)) : W (Out τ σ) := joi m fun s => nomatch s
def mapW (f : PyData → W PyData) : List PyData → W (List PyData)
  | [] => ret []
  | x :: r => bnd (f x) fun y => bnd (mapW f r) fun ys => ret (y :: ys)
def filW (c : PyData → W Bool) (f : PyData → W PyData) : List PyData → W (List PyData)
  | [] => ret []
  | x :: r => bnd (c x) fun b => bif b then (bnd (f x) fun y => bnd (filW c f r) fun ys => ret (y :: ys)) else filW c f r
def compW (it : W (List PyData)) (f : PyData → W PyData) : W (List PyData) := bnd it fun xs => need (xs.length ≤ 16777216) (mapW f xs)
def compI (it : W (List PyData)) (c : PyData → W Bool) (f : PyData → W PyData) : W (List PyData) := bnd it fun xs => need (xs.length ≤ 16777216) (filW c f xs)
def two {α : Type} (k : PyData → PyData → W α) : PyData → W α
  | .tuple [x, y] => k x y
  | _ => bad
def three {α : Type} (k : PyData → PyData → PyData → W α) : PyData → W α
  | .tuple [x, y, z] => k x y z
  | _ => bad
/-- a def's answer by its body -/
def fnW (m : W (Out Empty Empty)) : W B := bnd m fun o => match o with
  | .rt b => ret b
  | .nx s => nomatch s
  | .ct s => nomatch s
  | .bk s => nomatch s
def fnU (m : W (Out Unit Empty)) : W B := bnd m fun o => match o with
  | .rt b => ret b
  | .nx _ => ret (.d .none)
  | .ct s => nomatch s
  | .bk s => nomatch s
def nul {α : Type} : Empty → α := fun s => nomatch s
/-- slots: less is known -/
inductive Le : List B → List B → Prop
  | nil : Le [] []
  | same {b : B} {r q : List B} : Le r q → Le (b :: r) (b :: q)
  | un {b : B} {r q : List B} : Le r q → Le (b :: r) (.un :: q)
theorem Le.len {r q : List B} (h : Le r q) : r.length = q.length := by
  induction h with
  | nil => rfl
  | same _ ih => rw [List.length_cons, List.length_cons, ih]
  | un _ ih => rw [List.length_cons, List.length_cons, ih]
theorem Le.at_ {r q : List B} (h : Le r q) : ∀ (i : Nat) (b : B), q[i]? = some b → b = .un ∨ r[i]? = some b := by
  induction h with
  | nil => intro i b e; simp at e
  | same _ ih =>
    intro i b e
    cases i with
    | zero => exact .inr e
    | succ i => exact ih i b e
  | un _ ih =>
    intro i b e
    cases i with
    | zero => cases e; exact .inl rfl
    | succ i => exact ih i b e
section
variable {K : PySem.W.Frag} {Wo : WO} {M : Md K Wo} {t : Rs} {G H : Hp} {σ : L2.St} {ρ ρ2 : List B}
theorem sat_le (h : Le ρ ρ2) (S : Sat M t G H σ ρ) : Sat M t G H σ ρ2 where
  st := S.st
  ok := S.ok
  len := by rw [S.len, h.len]
  at_ := fun i b e => by
    rcases h.at_ i b e with rfl | e
    · trivial
    · exact S.at_ i b e
  dis := fun i j xs ys l n e1 e2 e3 e4 => by
    rcases h.at_ i _ e1 with z | e1
    · cases z
    rcases h.at_ j _ e2 with z | e2
    · cases z
    exact S.dis i j xs ys l n e1 e2 e3 e4
end
end Dw
end
section
set_option maxRecDepth 100000
set_option maxHeartbeats 4000000
namespace Dw
open PySem PySem.Spec PyProof.Rows L2 Dl

/-! ### a piece of syntax and its mirror -/
section
variable {X : Cx} {Wo : WO} (M : Md X.K Wo)
structure RD (e : Expr) (ρ : List B) (f : W PyData) : Prop where
  run : ∀ (t : Rs) (P : PyData → Rs → Prop), f t P → JD M e ρ t P
structure RL (e : Expr) (ρ : List B) (f : W (List PyData)) : Prop where
  run : ∀ (t : Rs) (P : List PyData → Rs → Prop), f t P → JL M e ρ t P
structure RT (e : Expr) (ρ : List B) (f : W Bool) : Prop where
  run : ∀ (t : Rs) (P : Bool → Rs → Prop), f t P → JT M e ρ t P
structure RV (e : Expr) (ρ : List B) (f : W Bool) : Prop where
  run : ∀ (t : Rs) (P : Bool → Rs → Prop), f t P → JW M e ρ t P
structure RA (es : List Expr) (ρ : List B) (f : W (List B)) : Prop where
  run : ∀ (t : Rs) (P : List B → Rs → Prop), f t P → JA M es ρ t P
structure RO (e : Option Expr) (ρ : List B) (f : W (Option Int)) : Prop where
  run : ∀ (t : Rs) (P : Option Int → Rs → Prop), f t P → JO M e ρ t P
structure RI (tg e : Expr) (ρ : List B) (f : W (List PyData)) : Prop where
  run : ∀ (t : Rs) (P : List PyData → Rs → Prop), f t P → JI M tg e ρ t P
end
/-- where a def's body is walked: nothing is handled, there is room -/
structure Bb (mg : Str → Option Value) : Prop where
  isi : mg "isinstance" = none
  int : mg "int" = none
  bool : mg "bool" = none
  str : mg "str" = none
  tuple : mg "tuple" = none
  list : mg "list" = none
  len : mg "len" = none
  all : mg "all" = none
  any : mg "any" = none
  range : mg "range" = none
  sorted : mg "sorted" = none
  set : mg "set" = none
  repr : mg "repr" = none
  sum : mg "sum" = none
  zip : mg "zip" = none
  enum : mg "enumerate" = none
  dict : mg "dict" = none
  min : mg "min" = none
  max : mg "max" = none
structure Ev (X : Cx) (k : Nat) : Prop where
  calm : X.calm = true
  room : Room k X.A
  bu : Bb X.mg
theorem Ev.blk {X : Cx} {k : Nat} (E : Ev X k) {scope : Scope} {s : Shared} {H : Hp} {C : Addr} {cl : List (Str × Addr)} {fp : List Addr} : Ev (Blk X scope s H C cl fp) k := ⟨E.calm, E.room, E.bu⟩
theorem opr_or {X : Cx} {f : Value → Value → Sem Value} {r q : R2} (h : OpR X f r) (g : OpR X f q) : OpR X f fun x y H Q => r x y H Q ∨ q x y H Q := fun pins s σ H x y v u Q I a b c => c.elim (h pins s σ H x y v u Q I a b) (g pins s σ H x y v u Q I a b)
section
variable {X : Cx} {Wo : WO} {M : Md X.K Wo} {ρ : List B} {a b c e : Expr} {es rest : List Expr} {pos p : Pos} {f g h : W PyData} {tf tg : W Bool} {af : W (List B)} {lf lg : W (List PyData)} {kk : Nat}
/-- a law of a two-place operation over data -/
def Ob {K : PySem.W.Frag} {Wo : WO} (M : Md K Wo) (r : R2) (o : PyData → PyData → W PyData) : Prop := ∀ x y t P, o x y t P → Bn M r x y t P
theorem Ob.or {K : PySem.W.Frag} {Wo : WO} {M : Md K Wo} {r q : R2} {o : PyData → PyData → W PyData} (h : ∀ x y t P, o x y t P → Bn M r x y t P ∨ Bn M q x y t P) : Ob M (fun x y H Q => r x y H Q ∨ q x y H Q) o := fun x y t P z => (h x y t P z).elim (fun w G H v u k a b Q c => .inl (w G H v u k a b Q c)) fun w G H v u k a b Q c => .inr (w G H v u k a b Q c)
theorem rd_bin {op : Operator} {r : R2} {o : PyData → PyData → W PyData} (ho : OpR X (binaryOp op) r) (ob : Ob M r o) (ha : RD M a ρ f) (hb : RD M b ρ g) : RD M (.BinOp a op b pos) ρ (op2 o f g) := ⟨fun t P z =>
  jd_bin ho ((ha.run t _ z).imp fun x t1 z1 => (hb.run t1 _ z1).imp fun y t2 z2 => ob x y t2 P z2)⟩
theorem rd_cmp {op : CmpOp} {r : R2} {o : PyData → PyData → W PyData} (ho : OpR X (compareOp op) r) (hm : behindInMarks op b = false) (ob : Ob M r o) (ha : RD M a ρ f) (hb : RD M b ρ g) : RD M (.Compare a [op] [b] pos) ρ (op2 o f g) := ⟨fun t P z =>
  jd_cmp ho hm ((ha.run t _ z).imp fun x t1 z1 => (hb.run t1 _ z1).imp fun y t2 z2 => ob x y t2 P z2)⟩
theorem asB_of {x : PyData} {t : Rs} {P : Bool → Rs → Prop} (h : asB x t P) : ∃ k, x = .bool k ∧ P k t := by
  cases x <;> first | exact ⟨_, rfl, h⟩ | exact h.elim
theorem rt_cmp {op : CmpOp} {r : R2} {o : PyData → PyData → W PyData} (ho : OpR X (compareOp op) r) (hm : behindInMarks op b = false) (ob : Ob M r o) (ha : RD M a ρ f) (hb : RD M b ρ g) : RT M (.Compare a [op] [b] pos) ρ (bnd (op2 o f g) asB) := ⟨fun t P z =>
  jt_cmp ho hm ((ha.run t _ z).imp fun x t1 z1 => (hb.run t1 _ z1).imp fun y t2 z2 => ob x y t2 _ (by
    have : (o x y) t2 (fun z t3 => asB z t3 P) := z2
    have e : (fun z t3 => asB z t3 P) = fun z t3 => ∃ k, z = PyData.bool k ∧ P k t3 := by
      funext z t3
      refine propext ⟨asB_of, fun ⟨k, e, q⟩ => ?_⟩
      subst e
      exact q
    rw [e] at this
    exact this))⟩
/-! operators over data -/
section
variable {K : PySem.W.Frag} {M : Md K Wo}
theorem ob_add : Ob M (fun x y H Q => rI0 (fun i j => .int (i + j)) x y H Q ∨ (∃ k j, x = .bl k ∧ y = .int j ∧ Q (.int ((if k = true then (1 : Int) else 0) + j)) H)) oadd := Ob.or fun x y t P z => by
  cases x with
  | int i => cases y with
    | int j => exact .inl (bn_I0 (g := fun i j => i + j) z)
    | _ => exact z.elim
  | bool k => cases y with
    | int j =>
      refine .inr fun G H v w o hv hw Q q => ?_
      exact ⟨k, j, hv.blE, hw.intE, keep o q (.int _) z⟩
    | _ => exact z.elim
  | _ => exact z.elim
theorem ob_sub : Ob M (rI0 fun i j => .int (i - j)) osub := fun x y t P z => by
  cases x <;> first | exact z.elim | (cases y <;> first | exact z.elim | exact bn_I0 (g := fun i j => i - j) z)
theorem ob_mul : Ob M (rI CMul fun i j => .int (i * j)) omul := fun x y t P z => by
  cases x <;> first | exact z.elim | (cases y <;> first | exact z.elim | exact bn_I (g := fun i j => i * j) z.1 z.2)
theorem ob_fdiv : Ob M (rI CDivN fun i j => .int (i.fdiv j)) ofdiv := fun x y t P z => by
  cases x <;> first | exact z.elim | (cases y <;> first | exact z.elim | exact bn_I (g := fun i j => i.fdiv j) z.1 z.2)
theorem ob_mod : Ob M (rI (fun _ j => j ≠ 0) fun i j => .int (i.fmod j)) omod := fun x y t P z => by
  cases x <;> first | exact z.elim | (cases y <;> first | exact z.elim | exact bn_I (C := fun x j => j ≠ 0) (g := fun i j => i.fmod j) z.1 z.2)
theorem ob_pow : Ob M (rI CPow fun i j => .int (i ^ j.toNat)) opow := fun x y t P z => by
  cases x <;> first | exact z.elim | (cases y <;> first | exact z.elim | exact bn_I (g := fun i j => i ^ j.toNat) z.1 z.2)
theorem ob_lt : Ob M (rI0 fun i j => .bl (decide (i < j))) olt := fun x y t P z => by
  cases x <;> first | exact z.elim | (cases y <;> first | exact z.elim | exact bn_B0 (g := fun i j => decide (i < j)) z)
theorem ob_le : Ob M (rI0 fun i j => .bl (decide (i ≤ j))) ole := fun x y t P z => by
  cases x <;> first | exact z.elim | (cases y <;> first | exact z.elim | exact bn_B0 (g := fun i j => decide (i ≤ j)) z)
theorem ob_gt : Ob M (rI0 fun i j => .bl (decide (i > j))) ogt := fun x y t P z => by
  cases x <;> first | exact z.elim | (cases y <;> first | exact z.elim | exact bn_B0 (g := fun i j => decide (i > j)) z)
theorem ob_ge : Ob M (rI0 fun i j => .bl (decide (i ≥ j))) oge := fun x y t P z => by
  cases x <;> first | exact z.elim | (cases y <;> first | exact z.elim | exact bn_B0 (g := fun i j => decide (i ≥ j)) z)
end
theorem rd_add (ha : RD M a ρ f) (hb : RD M b ρ g) : RD M (.BinOp a .Add b pos) ρ (op2 oadd f g) := rd_bin (opr_or op_add op_add_bi) ob_add ha hb
theorem rd_sub (ha : RD M a ρ f) (hb : RD M b ρ g) : RD M (.BinOp a .Sub b pos) ρ (op2 osub f g) := rd_bin op_sub ob_sub ha hb
theorem rd_mul (ha : RD M a ρ f) (hb : RD M b ρ g) : RD M (.BinOp a .Mult b pos) ρ (op2 omul f g) := rd_bin op_mul ob_mul ha hb
theorem rd_fdiv (ha : RD M a ρ f) (hb : RD M b ρ g) : RD M (.BinOp a .FloorDiv b pos) ρ (op2 ofdiv f g) := rd_bin op_fdivN ob_fdiv ha hb
theorem rd_mod (ha : RD M a ρ f) (hb : RD M b ρ g) : RD M (.BinOp a .Mod b pos) ρ (op2 omod f g) := rd_bin op_modN ob_mod ha hb
theorem rd_pow (ha : RD M a ρ f) (hb : RD M b ρ g) : RD M (.BinOp a .Pow b pos) ρ (op2 opow f g) := rd_bin op_pow ob_pow ha hb
theorem ob_catS {K : PySem.W.Frag} {M : Md K Wo} : Ob M (fun x y H Q => ∃ i j, x = .str i ∧ y = .str j ∧ i.length + j.length ≤ sizeLine ∧ Q (.str (i ++ j)) H) ocatS := fun x y t P z => by
  cases x <;> first | exact z.elim | (cases y <;> first | exact z.elim | exact fun G H v w k hv hw Q q => ⟨_, _, hv.strE, hw.strE, line_of z.1, keep k q (.str _) z.2⟩)
theorem rd_catS (ha : RD M a ρ f) (hb : RD M b ρ g) : RD M (.BinOp a .Add b pos) ρ (op2 ocatS f g) := rd_bin op_add_str ob_catS ha hb
theorem rd_catT (ha : RD M a ρ f) (hb : RD M b ρ g) : RD M (.BinOp a .Add b pos) ρ (op2 ocatT f g) := rd_bin op_catA (fun x y t P z => by
  cases x <;> first | exact z.elim | skip
  cases y <;> first | exact z.elim | skip
  rename_i xs ys
  obtain ⟨l, p⟩ := z
  intro G H v w k hv hw Q q
  obtain ⟨a1, vs, rfl, st, da⟩ := hv.tupE
  obtain ⟨a2, ws, rfl, st2, da2⟩ := hw.tupE
  refine ⟨a1, a2, vs, ws, rfl, rfl, sqt_up k.sub st, sqt_up k.sub st2, line_of (by rw [da.length, da2.length]; exact l), fun z => ?_, fun _ z => ?_, fun _ _ a3 n3 => ?_⟩
  · have z' : xs = [] := List.eq_nil_of_length_eq_zero (by rw [← da.length, z]; rfl)
    subst z'
    exact keep k q hw p
  · have z' : ys = [] := List.eq_nil_of_length_eq_zero (by rw [← da2.length, z]; rfl)
    subst z'
    rw [ret, List.append_nil] at p
    exact keep k q hv p
  · have s := k.lay (o := .tup (vs ++ ws)) n3
    exact q _ _ _ _ _ s (.tup (.inl (.inl upd_same)) (DeAll.up s.gg _ _ (da.app da2))) p) ha hb
theorem rl_cat (ha : RD M a ρ f) (hb : RD M b ρ g) : RL M (.BinOp a .Add b pos) ρ (catL f g) := ⟨fun t P z => jl_cat ((ha.run t _ z).imp fun x t1 z1 => by
  cases x <;> first | exact z1.elim | skip
  refine ⟨_, rfl, (hb.run t1 _ z1).imp fun y t2 z2 => ?_⟩
  cases y <;> first | exact z2.elim | skip
  exact ⟨_, rfl, z2.1, z2.2⟩)⟩
/-! comparisons -/
theorem rd_lt (ha : RD M a ρ f) (hb : RD M b ρ g) : RD M (.Compare a [.Lt] [b] pos) ρ (op2 olt f g) := rd_cmp op_lt (nomark _) ob_lt ha hb
theorem rd_le (ha : RD M a ρ f) (hb : RD M b ρ g) : RD M (.Compare a [.LtE] [b] pos) ρ (op2 ole f g) := rd_cmp op_le (nomark _) ob_le ha hb
theorem rd_gt (ha : RD M a ρ f) (hb : RD M b ρ g) : RD M (.Compare a [.Gt] [b] pos) ρ (op2 ogt f g) := rd_cmp op_gt (nomark _) ob_gt ha hb
theorem rd_ge (ha : RD M a ρ f) (hb : RD M b ρ g) : RD M (.Compare a [.GtE] [b] pos) ρ (op2 oge f g) := rd_cmp op_ge (nomark _) ob_ge ha hb
theorem rt_lt (ha : RD M a ρ f) (hb : RD M b ρ g) : RT M (.Compare a [.Lt] [b] pos) ρ (bnd (op2 olt f g) asB) := rt_cmp op_lt (nomark _) ob_lt ha hb
theorem rt_le (ha : RD M a ρ f) (hb : RD M b ρ g) : RT M (.Compare a [.LtE] [b] pos) ρ (bnd (op2 ole f g) asB) := rt_cmp op_le (nomark _) ob_le ha hb
theorem rt_gt (ha : RD M a ρ f) (hb : RD M b ρ g) : RT M (.Compare a [.Gt] [b] pos) ρ (bnd (op2 ogt f g) asB) := rt_cmp op_gt (nomark _) ob_gt ha hb
theorem rt_ge (ha : RD M a ρ f) (hb : RD M b ρ g) : RT M (.Compare a [.GtE] [b] pos) ρ (bnd (op2 oge f g) asB) := rt_cmp op_ge (nomark _) ob_ge ha hb
def rEqD (K : PySem.W.Frag) : R2 := fun x y H Q => ∃ d e, Dp K H x d ∧ Dp K H y e ∧ SeqAt.shaped d = true ∧ SeqAt.shaped e = true ∧ Q (.bl (PyData.eqv d e)) H
theorem ob_eq {K : PySem.W.Frag} {M : Md K Wo} : Ob M (rEqD K) oeq := fun x y t P z => fun G H v w k hv hw Q q =>
  ⟨x, y, De.dp _ _ (De.up k.sub _ _ hv), De.dp _ _ (De.up k.sub _ _ hw), z.1.1, z.1.2, keep k q (.bl _) z.2⟩
def rNeD (K : PySem.W.Frag) : R2 := fun x y H Q => ∃ d e, Dp K H x d ∧ Dp K H y e ∧ SeqAt.shaped d = true ∧ SeqAt.shaped e = true ∧ Q (.bl (!PyData.eqv d e)) H
theorem ob_ne {K : PySem.W.Frag} {M : Md K Wo} : Ob M (rNeD K) one_ := fun x y t P z => fun G H v w k hv hw Q q =>
  ⟨x, y, De.dp _ _ (De.up k.sub _ _ hv), De.dp _ _ (De.up k.sub _ _ hw), z.1.1, z.1.2, keep k q (.bl _) z.2⟩
theorem rd_eq (E : Ev X kk) (ha : RD M a ρ f) (hb : RD M b ρ g) : RD M (.Compare a [.Eq] [b] pos) ρ (op2 oeq f g) := rd_cmp (r := rEqD X.K) (op_eqD E.room.units) (nomark _) ob_eq ha hb
theorem rd_ne (E : Ev X kk) (ha : RD M a ρ f) (hb : RD M b ρ g) : RD M (.Compare a [.NotEq] [b] pos) ρ (op2 one_ f g) := rd_cmp (r := rNeD X.K) (op_neD E.room.units) (nomark _) ob_ne ha hb
theorem rt_eq (E : Ev X kk) (ha : RD M a ρ f) (hb : RD M b ρ g) : RT M (.Compare a [.Eq] [b] pos) ρ (bnd (op2 oeq f g) asB) := rt_cmp (r := rEqD X.K) (op_eqD E.room.units) (nomark _) ob_eq ha hb
theorem rt_ne (E : Ev X kk) (ha : RD M a ρ f) (hb : RD M b ρ g) : RT M (.Compare a [.NotEq] [b] pos) ρ (bnd (op2 one_ f g) asB) := rt_cmp (r := rNeD X.K) (op_neD E.room.units) (nomark _) ob_ne ha hb
/-! in -/
def rInL (K : PySem.W.Frag) (neg : Bool) : R2 := fun x y H Q => ∃ d ds, Dp K H x d ∧ Dp K H y (.list ds) ∧ SeqAt.shaped d = true ∧ SeqAt.shaped (.list ds) = true ∧ Q (.bl (if neg then !ds.any fun z => PyData.eqv z d else ds.any fun z => PyData.eqv z d)) H
theorem op_inLL (hu : X.A.units + 65 < cLine) : OpR X (compareOp .In) (rInL X.K false) := fun pins s σ H x y v u Q I a b ⟨d, ds, h1, h2, h3, h4, q⟩ => op_inD hu pins s σ H x y v u Q I a b ⟨d, ds, h1, h2, h3, h4, q⟩
theorem op_niLL (hu : X.A.units + 65 < cLine) : OpR X (compareOp .NotIn) (rInL X.K true) := fun pins s σ H x y v u Q I a b ⟨d, ds, h1, h2, h3, h4, q⟩ => op_notInD hu pins s σ H x y v u Q I a b ⟨d, ds, h1, h2, h3, h4, q⟩
theorem ob_in {K : PySem.W.Frag} {M : Md K Wo} : Ob M (fun x y H Q => rInL K false x y H Q ∨ rInU K false x y H Q) oin := Ob.or fun x y t P z => by
  cases y with
  | list ys => exact .inl fun G H v w k hv hw Q q => ⟨x, ys, De.dp _ _ (De.up k.sub _ _ hv), De.dp _ _ (De.up k.sub _ _ hw), z.1.1, z.1.2, keep k q (.bl _) z.2⟩
  | tuple ys => exact .inr fun G H v w k hv hw Q q => ⟨x, ys, De.dp _ _ (De.up k.sub _ _ hv), De.dp _ _ (De.up k.sub _ _ hw), z.1.1, z.1.2, keep k q (.bl _) z.2⟩
  | _ => exact z.elim
theorem ob_nin {K : PySem.W.Frag} {M : Md K Wo} : Ob M (fun x y H Q => rInL K true x y H Q ∨ rInU K true x y H Q) onin := Ob.or fun x y t P z => by
  cases y with
  | list ys => exact .inl fun G H v w k hv hw Q q => ⟨x, ys, De.dp _ _ (De.up k.sub _ _ hv), De.dp _ _ (De.up k.sub _ _ hw), z.1.1, z.1.2, keep k q (.bl _) z.2⟩
  | tuple ys => exact .inr fun G H v w k hv hw Q q => ⟨x, ys, De.dp _ _ (De.up k.sub _ _ hv), De.dp _ _ (De.up k.sub _ _ hw), z.1.1, z.1.2, keep k q (.bl _) z.2⟩
  | _ => exact z.elim
theorem Ev.u65 (E : Ev X kk) : X.A.units + 65 < cLine := by have := E.room.un; omega
theorem rd_in (E : Ev X kk) (ha : RD M a ρ f) (hb : RD M b ρ g) (hm : behindInMarks .In b = false := by rfl) : RD M (.Compare a [.In] [b] pos) ρ (op2 oin f g) := rd_cmp (opr_or (op_inLL E.u65) (op_inU E.u65)) hm ob_in ha hb
theorem rd_nin (E : Ev X kk) (ha : RD M a ρ f) (hb : RD M b ρ g) (hm : behindInMarks .NotIn b = false := by rfl) : RD M (.Compare a [.NotIn] [b] pos) ρ (op2 onin f g) := rd_cmp (opr_or (op_niLL E.u65) (op_niU E.u65)) hm ob_nin ha hb
theorem rt_in (E : Ev X kk) (ha : RD M a ρ f) (hb : RD M b ρ g) (hm : behindInMarks .In b = false := by rfl) : RT M (.Compare a [.In] [b] pos) ρ (bnd (op2 oin f g) asB) := rt_cmp (opr_or (op_inLL E.u65) (op_inU E.u65)) hm ob_in ha hb
theorem rt_nin (E : Ev X kk) (ha : RD M a ρ f) (hb : RD M b ρ g) (hm : behindInMarks .NotIn b = false := by rfl) : RT M (.Compare a [.NotIn] [b] pos) ρ (bnd (op2 onin f g) asB) := rt_cmp (opr_or (op_niLL E.u65) (op_niU E.u65)) hm ob_nin ha hb
theorem rd_isN {j : Nat} {p1 : Pos} (ha : RD M a ρ f) : RD M (.Compare a [.Is] [.Constant .none j p1] pos) ρ (op1 oisN f) := ⟨fun t P z => jd_isN (ha.run t _ z)⟩
theorem rd_notN {j : Nat} {p1 : Pos} (ha : RD M a ρ f) : RD M (.Compare a [.IsNot] [.Constant .none j p1] pos) ρ (op1 onotN f) := ⟨fun t P z => jd_notN (ha.run t _ z)⟩
theorem rt_isN {j : Nat} {p1 : Pos} (ha : RD M a ρ f) : RT M (.Compare a [.Is] [.Constant .none j p1] pos) ρ (bnd (op1 oisN f) asB) := ⟨fun t P z => jt_isN (ha.run t _ z)⟩
theorem rt_notN {j : Nat} {p1 : Pos} (ha : RD M a ρ f) : RT M (.Compare a [.IsNot] [.Constant .none j p1] pos) ρ (bnd (op1 onotN f) asB) := ⟨fun t P z => jt_notN (ha.run t _ z)⟩
/-! names, constants -/
theorem rd_nm (i : Nat) {x : Str} {y : PyData} (hr : ρ[i]? = some (.d y) := by rfl) (hN : X.N[i]? = some x := by rfl) (hv : Vis X.env.scope x := by first | exact Or.inl rfl | exact Or.inr (Or.inl rfl) | exact Or.inr (Or.inr rfl))
    (hd : (x == ("__debug__" : Str)) = false := by decide) (hcd : (x == ("__classdict__" : Str)) = false := by decide) : RD M (.Name x pos) ρ (ret y) := ⟨fun t P z => jd_name i hr z hN hv hd hcd⟩
theorem rd_int {i : Int} {j : Nat} : RD M (.Constant (.int i) j pos) ρ (ret (.int i)) := ⟨fun t P z => jd_int z⟩
theorem rd_str {i : Str} {j : Nat} : RD M (.Constant (.str i) j pos) ρ (ret (.str i)) := ⟨fun t P z => jd_str z⟩
theorem rd_bl {i : Bool} {j : Nat} : RD M (.Constant (.bool i) j pos) ρ (ret (.bool i)) := ⟨fun t P z => jd_bl z⟩
theorem rd_non {j : Nat} : RD M (.Constant .none j pos) ρ (ret .none) := ⟨fun t P z => jd_non z⟩
theorem rd_glob {x : Str} {d : PyData} (hm : ∃ u v, X.mg x = some u ∧ RelV v u ∧ ∀ G, De X.K G v d) (hg : Gl X x := by rfl) (h : (x == Str.ofString "__debug__") = false := by decide) : RD M (.Name x pos) ρ (ret d) := ⟨fun t P z => by
  obtain ⟨u, v, h1, h2, h3⟩ := hm
  exact jd_glob h1 h2 h3 z hg h⟩
/-! arguments, displays -/
theorem ra_nil : RA M [] ρ (ret []) := ⟨fun t P z => ja_nil z⟩
theorem ra_cons (he : RD M e ρ f) (hs : RA M es ρ af) (h : starEach (e :: es) X.env = (false, eval e X.env) :: starEach es X.env := by rfl) : RA M (e :: es) ρ (dA f af) := ⟨fun t P z => ja_cons ((he.run t _ z).imp fun x t1 z1 => hs.run t1 _ z1) h⟩
theorem ra_rd (i : Nat) {x : Str} {p : Pos} (hs : RA M es ρ af) (hr : ρ[i]? = some .rd := by rfl) (hN : X.N[i]? = some x := by rfl)
    (hv : Vis X.env.scope x := by first | exact Or.inl rfl | exact Or.inr (Or.inl rfl) | exact Or.inr (Or.inr rfl)) (hd : (x == ("__debug__" : Str)) = false := by decide) (hcd : (x == ("__classdict__" : Str)) = false := by decide)
    (h : starEach (.Name x p :: es) X.env = (false, eval (.Name x p) X.env) :: starEach es X.env := by rfl) : RA M (.Name x p :: es) ρ (rdA af) := ⟨fun t P z => ja_rd i hr (hs.run t _ z) hN hv hd hcd h⟩
theorem DA.imp {ta : TA} {K : PySem.W.Frag} {M : Md K Wo} {t : Rs} {P P' : List B → Rs → Prop} (h : DA M ta ρ t P) (i : ∀ x t', P x t' → P' x t') : DA M ta ρ t P' := fun σ G H S Q q => h σ G H S Q fun G' H' vs bs t' s a p => q G' H' vs bs t' s a (i _ _ p)
def dsOf : List B → Option (List PyData)
  | [] => some []
  | .d x :: r => (dsOf r).map (x :: ·)
  | _ => none
theorem dsOf_map : ∀ xs : List PyData, dsOf (xs.map B.d) = some xs
  | [] => rfl
  | x :: xs => by rw [List.map_cons, dsOf, dsOf_map]; rfl
theorem dsOf_some : ∀ {bs : List B} {xs : List PyData}, dsOf bs = some xs → bs = xs.map B.d
  | [], xs, h => by cases h; rfl
  | x :: r, xs, h => by
    cases x with
    | d b =>
      rw [dsOf] at h
      cases e : dsOf r with
      | none => rw [e] at h; cases h
      | some cs =>
        rw [e] at h
        cases h
        rw [List.map_cons, ← dsOf_some e]
    | _ => cases h
/-- a display's items -/
def disp {α : Type} (af : W (List B)) (k : List PyData → W α) : W α := bnd af fun bs => match dsOf bs with
  | some xs => need (xs.length ≤ 16777216) (k xs)
  | none => bad
theorem disp_of {α : Type} {bs : List B} {k : List PyData → W α} {t : Rs} {P : α → Rs → Prop} (h : (match dsOf bs with | some xs => need (xs.length ≤ 16777216) (k xs) | none => bad) t P) : ∃ xs, bs = xs.map B.d ∧ xs.length ≤ 16777216 ∧ k xs t P := by
  cases e : dsOf bs with
  | none => rw [e] at h; exact h.elim
  | some xs => rw [e] at h; exact ⟨xs, dsOf_some e, h.1, h.2⟩
theorem rd_tup {j : Nat} (hs : RA M es ρ af) : RD M (.Tuple es j pos) ρ (disp af fun xs => ret (.tuple xs)) := ⟨fun t P z => jd_tup (DA.imp (hs.run t _ z) fun bs t1 z1 => disp_of z1)⟩
theorem rl_lst (hs : RA M es ρ af) : RL M (.List es pos) ρ (disp af ret) := ⟨fun t P z => jl_lst (DA.imp (hs.run t _ z) fun bs t1 z1 => disp_of z1)⟩
theorem rd_l (h : RL M e ρ lf) : RD M e ρ (froz lf) := ⟨fun t P z => DL.toD (h.run t _ z)⟩
def starD (f : W PyData) (af : W (List B)) : W (List B) := bnd f fun x => match x with
  | .tuple ys => bnd af fun bs => ret (ys.map B.d ++ bs)
  | .list ys => bnd af fun bs => ret (ys.map B.d ++ bs)
  | _ => bad
end
end Dw
end
section
set_option maxRecDepth 100000
set_option maxHeartbeats 4000000
namespace Dw
open PySem PySem.Spec PyProof.Rows L2 Dl
section
variable {X : Cx} {Wo : WO} {M : Md X.K Wo} {ρ : List B} {a b c e tg : Expr} {es rest : List Expr} {pos p : Pos} {f g h : W PyData} {tf ug : W Bool} {af : W (List B)} {lf lg : W (List PyData)} {kk : Nat} {lo hi : Option Expr} {lw hw : W (Option Int)}
/-! one operand, and, or, if -/
theorem rd_neg (ha : RD M a ρ f) : RD M (.UnaryOp .USub a pos) ρ (op1 oneg f) := ⟨fun t P z => jd_neg ((ha.run t _ z).imp fun x t1 z1 => by
  cases x <;> first | exact z1.elim | exact ⟨_, rfl, z1⟩)⟩
theorem rd_not (ha : RD M a ρ f) : RD M (.UnaryOp .Not a pos) ρ (op1 onot f) := ⟨fun t P z => jd_not ((ha.run t _ z).imp fun x t1 z1 => by
  cases x <;> first | exact z1.elim | exact ⟨_, rfl, z1⟩)⟩
theorem rd_one {op : BoolOp} (ha : RD M a ρ f) : RD M (.BoolOp op [a] pos) ρ f := ⟨fun t P z => jd_one (ha.run t _ z)⟩
theorem rd_and (ha : RD M a ρ f) (hb : RD M (.BoolOp .And (b :: rest) pos) ρ g) : RD M (.BoolOp .And (a :: b :: rest) pos) ρ (andW f g) := ⟨fun t P z => jd_and ((ha.run t _ z).imp fun x t1 z1 => by
  cases x <;> first | exact z1.elim | skip
  rename_i k
  refine ⟨k, rfl, fun e => ?_, fun e => ?_⟩
  · subst e
    exact hb.run t1 _ z1
  · subst e
    exact z1)⟩
theorem rd_or (ha : RD M a ρ f) (hb : RD M (.BoolOp .Or (b :: rest) pos) ρ g) : RD M (.BoolOp .Or (a :: b :: rest) pos) ρ (orW f g) := ⟨fun t P z => jd_or ((ha.run t _ z).imp fun x t1 z1 => by
  cases x <;> first | exact z1.elim | skip
  rename_i k
  refine ⟨k, rfl, fun e => ?_, fun e => ?_⟩
  · subst e
    exact hb.run t1 _ z1
  · subst e
    exact z1)⟩
theorem rd_if (hc : RT M c ρ tf) (ha : RD M a ρ f) (hb : RD M b ρ g) : RD M (.IfExp c a b pos) ρ (ifW tf f g) := ⟨fun t P z => jd_if ((hc.run t _ z).imp fun k t1 z1 => ⟨fun e => by
  subst e
  exact ha.run t1 _ z1, fun e => by
  subst e
  exact hb.run t1 _ z1⟩)⟩
def chI {α : Type} (u v : Int → Int → Bool) (w : Bool → α) (f g h : W PyData) : W α := bnd f fun x => match x with
  | .int i => bnd g fun y => match y with
    | .int j => bif u i j then (bnd h fun z => match z with
      | .int k => ret (w (v j k))
      | _ => bad) else ret (w false)
    | _ => bad
  | _ => bad
theorem rd_chain {op op' : CmpOp} {u v : Int → Int → Bool} (ho : OpR X (compareOp op) (rI0 fun i j => .bl (u i j))) (ho' : OpR X (compareOp op') (rI0 fun i j => .bl (v i j))) (ha : RD M a ρ f) (hb : RD M b ρ g) (hc : RD M c ρ h) (hm : lastMarks [op, op'] [b, c] = false := by rfl) :
    RD M (.Compare a [op, op'] [b, c] pos) ρ (chI u v PyData.bool f g h) := ⟨fun t P z => jd_chain ho ho' ((ha.run t _ z).imp fun x t1 z1 => by
  cases x <;> first | exact z1.elim | skip
  rename_i i
  refine ⟨i, rfl, (hb.run t1 _ z1).imp fun y t2 z2 => ?_⟩
  cases y <;> first | exact z2.elim | skip
  rename_i j
  refine ⟨j, rfl, fun e => ?_, fun e => ?_⟩
  · simp only [e, cond_false] at z2
    exact z2
  · simp only [e, cond_true] at z2
    refine (hc.run t2 _ z2).imp fun z t3 z3 => ?_
    cases z <;> first | exact z3.elim | exact ⟨_, rfl, z3⟩) hm⟩
theorem rt_chain {op op' : CmpOp} {u v : Int → Int → Bool} (ho : OpR X (compareOp op) (rI0 fun i j => .bl (u i j))) (ho' : OpR X (compareOp op') (rI0 fun i j => .bl (v i j))) (ha : RD M a ρ f) (hb : RD M b ρ g) (hc : RD M c ρ h) (hm : lastMarks [op, op'] [b, c] = false := by rfl) :
    RT M (.Compare a [op, op'] [b, c] pos) ρ (chI u v id f g h) := ⟨fun t P z => jt_chain ho ho' ((ha.run t _ z).imp fun x t1 z1 => by
  cases x <;> first | exact z1.elim | skip
  rename_i i
  refine ⟨i, rfl, (hb.run t1 _ z1).imp fun y t2 z2 => ?_⟩
  cases y <;> first | exact z2.elim | skip
  rename_i j
  refine ⟨j, rfl, fun e => ?_, fun e => ?_⟩
  · simp only [e, cond_false] at z2
    exact z2
  · simp only [e, cond_true] at z2
    refine (hc.run t2 _ z2).imp fun z t3 z3 => ?_
    cases z <;> first | exact z3.elim | exact ⟨_, rfl, z3⟩) hm⟩
abbrev bLt (i j : Int) : Bool := decide (i < j)
abbrev bLe (i j : Int) : Bool := decide (i ≤ j)
theorem rt_not (ha : RT M a ρ tf) : RT M (.UnaryOp .Not a pos) ρ (notT tf) := ⟨fun t P z => jt_not (ha.run t _ z)⟩
theorem rt_v (h : RV M e ρ tf) : RT M e ρ tf := ⟨fun t P z => jt_w (h.run t _ z)⟩
theorem rv_one {op : BoolOp} (ha : RT M a ρ tf) : RV M (.BoolOp op [a] pos) ρ tf := ⟨fun t P z => by
  cases op with
  | And => exact jw_and1 (ha.run t _ z)
  | Or => exact jw_or1 (ha.run t _ z)⟩
theorem rv_and (ha : RT M a ρ tf) (hb : RV M (.BoolOp .And (b :: rest) pos) ρ ug) : RV M (.BoolOp .And (a :: b :: rest) pos) ρ (andT tf ug) := ⟨fun t P z => jw_and ((ha.run t _ z).imp fun k t1 z1 => ⟨fun e => by
  subst e
  exact hb.run t1 _ z1, fun e => by
  subst e
  exact z1⟩)⟩
theorem rv_or (ha : RT M a ρ tf) (hb : RV M (.BoolOp .Or (b :: rest) pos) ρ ug) : RV M (.BoolOp .Or (a :: b :: rest) pos) ρ (orT tf ug) := ⟨fun t P z => jw_or ((ha.run t _ z).imp fun k t1 z1 => ⟨fun e => by
  subst e
  exact hb.run t1 _ z1, fun e => by
  subst e
  exact z1⟩)⟩
theorem DT.imp' {tt : TT} {K : PySem.W.Frag} {M : Md K Wo} {t : Rs} {P P' : Bool → Rs → Prop} (h : DT M tt ρ t P) (i : ∀ x t', P x t' → P' x t') : DT M tt ρ t P' := h.imp i
/-- a value as a test -/
theorem rt_tru (ha : RD M e ρ f) (hw : ∀ (whole : Sem Value), PySem.isTrue e X.env whole = (do let v ← whole; standAt e.pos; holding [v] (truthy v)) := by intro _; rfl) : RT M e ρ (bnd f asT) := ⟨fun t P z => jt_tru ((ha.run t _ z).imp fun x t1 z1 => ⟨fun y ey => by
  subst ey
  exact z1.1, z1.2⟩) hw⟩
theorem rt_own (i : Nat) {x : Str} {xs : List PyData} (hr : ρ[i]? = some (.own xs) := by rfl) (hN : X.N[i]? = some x := by rfl) (hv : Vis X.env.scope x := by first | exact Or.inl rfl | exact Or.inr (Or.inl rfl) | exact Or.inr (Or.inr rfl))
    (hd : (x == ("__debug__" : Str)) = false := by decide) (hcd : (x == ("__classdict__" : Str)) = false := by decide) : RT M (.Name x p) ρ (ret (!xs.isEmpty)) := ⟨fun t P z => jt_own i hr z hN hv hd hcd⟩
/-! subscripts -/
theorem ro_none : RO M none ρ oN := ⟨fun t P z => jo_none z⟩
theorem ro_some (ha : RD M a ρ f) : RO M (some a) ρ (oS f) := ⟨fun t P z => jo_some ((ha.run t _ z).imp fun x t1 z1 => by
  cases x <;> first | exact z1.elim | exact ⟨_, rfl, z1⟩)⟩
theorem rd_ix (ha : RD M a ρ f) (hb : RD M b ρ g) (hp : PlainIx b := by intro _ _; rfl) : RD M (.Subscript a b pos) ρ (op2 oix f g) := ⟨fun t P z => jd_of (pe_ix ix_seq peT peT hp) (dd_op ((ha.run t _ z).imp fun x t1 z1 => (hb.run t1 _ z1).imp fun y t2 z2 => by
  intro G H v w k hv hw Q q
  cases x with
  | tuple xs =>
    cases y <;> first | exact z2.elim | skip
    rename_i i
    have z3 : (match atI xs i with | some z => ret z | none => bad) t2 P := z2
    cases e : atI xs i with
    | none => rw [e] at z3; exact z3.elim
    | some z =>
      rw [e] at z3
      obtain ⟨a1, vs, rfl, st, da⟩ := hv.tupE
      obtain ⟨u, eu, du⟩ := da.atI e
      exact .inr (.inl ⟨a1, vs, i, u, rfl, hw.intE, sqt_up k.sub st, eu, keep k q du z3⟩)
  | list xs =>
    cases y <;> first | exact z2.elim | skip
    rename_i i
    have z3 : (match atI xs i with | some z => ret z | none => bad) t2 P := z2
    cases e : atI xs i with
    | none => rw [e] at z3; exact z3.elim
    | some z =>
      rw [e] at z3
      obtain ⟨a1, vs, rfl, st, da⟩ := hv.lstE
      obtain ⟨u, eu, du⟩ := da.atI e
      exact .inl ⟨a1, vs, i, u, rfl, hw.intE, .inl (.inl (k.sub _ _ st)), eu, keep k q du z3⟩
  | _ => exact z2.elim))⟩
theorem rd_ixS (ha : RD M a ρ f) (hb : RD M b ρ g) (hp : PlainIx b := by intro _ _; rfl) : RD M (.Subscript a b pos) ρ (op2 oixS f g) := ⟨fun t P z => jd_of (pe_ix ix_seq peT peT hp) (dd_op ((ha.run t _ z).imp fun x t1 z1 => (hb.run t1 _ z1).imp fun y t2 z2 => by
  intro G H v w k hv hw Q q
  cases x <;> first | exact z2.elim | skip
  cases y <;> first | exact z2.elim | skip
  rename_i xs i
  have z3 : (match atI xs.cps.toList i with | some z => need (xs.length ≤ 16777216) (ret (PyData.str ⟨#[z]⟩)) | none => bad) t2 P := z2
  cases e : atI xs.cps.toList i with
  | none => rw [e] at z3; exact z3.elim
  | some z =>
    rw [e] at z3
    exact .inr (.inr ⟨xs, i, z, hv.strE, hw.intE, line_of z3.1, e, keep k q (.str _) z3.2⟩)))⟩
theorem rd_slT {p2 : Pos} (ha : RD M a ρ f) (hl : RO M lo ρ lw) (hh : RO M hi ρ hw) : RD M (.Subscript a (.Slice lo hi none p2) pos) ρ (slT f lw hw) := ⟨fun t P z => jd_slT ((ha.run t _ z).imp fun x t1 z1 => by
  cases x <;> first | exact z1.elim | skip
  exact ⟨_, rfl, fun σ G H S Q q => hl.run t1 _ z1 σ G H S Q fun G1 H1 o t2 s1 z2 => q G1 H1 o t2 s1 (fun σ G H S Q q => hh.run t2 _ z2 σ G H S Q fun G1 H1 o t3 s1 z3 => q G1 H1 o t3 s1 z3)⟩)⟩
theorem rl_slL {p2 : Pos} (ha : RD M a ρ f) (hl : RO M lo ρ lw) (hh : RO M hi ρ hw) : RL M (.Subscript a (.Slice lo hi none p2) pos) ρ (slL f lw hw) := ⟨fun t P z => jl_slL ((ha.run t _ z).imp fun x t1 z1 => by
  cases x <;> first | exact z1.elim | skip
  exact ⟨_, rfl, fun σ G H S Q q => hl.run t1 _ z1 σ G H S Q fun G1 H1 o t2 s1 z2 => q G1 H1 o t2 s1 (fun σ G H S Q q => hh.run t2 _ z2 σ G H S Q fun G1 H1 o t3 s1 z3 => q G1 H1 o t3 s1 z3)⟩)⟩
theorem rd_slS {p2 : Pos} (ha : RD M a ρ f) (hl : RO M lo ρ lw) (hh : RO M hi ρ hw) : RD M (.Subscript a (.Slice lo hi none p2) pos) ρ (slS f lw hw) := ⟨fun t P z => jd_slS ((ha.run t _ z).imp fun x t1 z1 => by
  cases x <;> first | exact z1.elim | skip
  exact ⟨_, rfl, fun σ G H S Q q => hl.run t1 _ z1 σ G H S Q fun G1 H1 o t2 s1 z2 => q G1 H1 o t2 s1 (fun σ G H S Q q => hh.run t2 _ z2 σ G H S Q fun G1 H1 o t3 s1 z3 => q G1 H1 o t3 s1 z3)⟩)⟩
theorem rd_revT {k : Nat} {p1 p3 p4 : Pos} (ha : RD M a ρ f) : RD M (.Subscript a (.Slice none none (some (.UnaryOp .USub (.Constant (.int 1) k p1) p3)) p4) pos) ρ (revT f) := ⟨fun t P z => jd_revT ((ha.run t _ z).imp fun x t1 z1 => by
  cases x <;> first | exact z1.elim | exact ⟨_, rfl, z1⟩)⟩
theorem rl_revL {k : Nat} {p1 p3 p4 : Pos} (ha : RD M a ρ f) : RL M (.Subscript a (.Slice none none (some (.UnaryOp .USub (.Constant (.int 1) k p1) p3)) p4) pos) ρ (revL f) := ⟨fun t P z => jl_rev (k := k) ((ha.run t _ z).imp fun x t1 z1 => by
  cases x <;> first | exact z1.elim | exact ⟨_, rfl, z1⟩)⟩
/-! built-ins -/
theorem ja_one {P : PyData → Rs → Prop} {t : Rs} {Q : List B → Rs → Prop} (h : JD M e ρ t P) (i : ∀ x t', P x t' → Q [.d x] t') (hs : starEach [e] X.env = (false, eval e X.env) :: starEach [] X.env := by rfl) : JA M [e] ρ t Q := ja_cons (h.imp fun x t1 z1 => ja_nil (i x t1 z1)) hs
theorem boot_all' : bootBuiltins (Str.ofString "all") = some (.builtin "all") := by decide +kernel
theorem boot_any' : bootBuiltins (Str.ofString "any") = some (.builtin "any") := by decide +kernel
theorem boot_tuple' : bootBuiltins (Str.ofString "tuple") = some (.type "tuple") := by decide +kernel
theorem boot_list' : bootBuiltins (Str.ofString "list") = some (.type "list") := by decide +kernel
theorem boot_bool' : bootBuiltins (Str.ofString "bool") = some (.type "bool") := by decide +kernel
theorem boot_str'' : bootBuiltins (Str.ofString "str") = some (.type "str") := by decide +kernel
theorem boot_int'' : bootBuiltins (Str.ofString "int") = some (.type "int") := by decide +kernel
section
variable (E : Ev X kk) (ha : RD M a ρ f)
include E ha
theorem rd_len (hs : starEach [a] X.env = (false, eval a X.env) :: starEach [] X.env := by rfl) (hg : Gl X (Str.ofString "len") := by rfl) : RD M (.Call (.Name (Str.ofString "len") p) [a] [] pos) ρ (op1 olen f) := ⟨fun t P z =>
  jd_callB call_len hg E.bu.len PySem.boot_len (ja_one (ha.run t _ z) (fun x t1 z1 => by
    have z2 : (match lenD x with | some n => need (n ≤ 16777216) (ret (PyData.int n)) | none => bad) t1 P := z1
    cases e : lenD x with
    | none => rw [e] at z2; exact z2.elim
    | some n =>
      rw [e] at z2
      exact cn_len e z2.1 z2.2) hs) (by decide) (by decide) hs rfl⟩
theorem rd_tupc (hs : starEach [a] X.env = (false, eval a X.env) :: starEach [] X.env := by rfl) (hg : Gl X (Str.ofString "tuple") := by rfl) : RD M (.Call (.Name (Str.ofString "tuple") p) [a] [] pos) ρ (op1 otup f) := ⟨fun t P z =>
  jd_callTy call_tuple_of hg E.bu.tuple boot_tuple' (ja_one (ha.run t _ z) (fun x t1 z1 => by
    cases x <;> first | exact z1.elim | exact cn_tuple (Or.inl rfl) z1 | exact cn_tuple (Or.inr rfl) z1) hs) (by decide) (by decide) hs rfl⟩
theorem rl_listc (hs : starEach [a] X.env = (false, eval a X.env) :: starEach [] X.env := by rfl) (hg : Gl X (Str.ofString "list") := by rfl) : RL M (.Call (.Name (Str.ofString "list") p) [a] [] pos) ρ (bnd f asL) := ⟨fun t P z =>
  jl_callTy call_list_of hg E.bu.list boot_list' (ja_one (ha.run t _ z) (fun x t1 z1 => by
    cases x <;> first | exact z1.elim | exact cn_list (Or.inl rfl) z1 | exact cn_list (Or.inr rfl) z1) hs) (by decide) (by decide) hs rfl⟩
theorem rd_intc (hs : starEach [a] X.env = (false, eval a X.env) :: starEach [] X.env := by rfl) (hg : Gl X (Str.ofString "int") := by rfl) : RD M (.Call (.Name (Str.ofString "int") p) [a] [] pos) ρ (op1 oint f) := ⟨fun t P z =>
  jd_callTy call_int1 hg E.bu.int boot_int'' (ja_one (ha.run t _ z) (fun x t1 z1 => by
    cases x <;> first | exact z1.elim | exact cn_int z1) hs) (by decide) (by decide) hs rfl⟩
theorem rd_strc (hs : starEach [a] X.env = (false, eval a X.env) :: starEach [] X.env := by rfl) (hg : Gl X (Str.ofString "str") := by rfl) : RD M (.Call (.Name (Str.ofString "str") p) [a] [] pos) ρ (op1 ostr f) := ⟨fun t P z =>
  jd_callTy call_str_int hg E.bu.str boot_str'' (ja_one (ha.run t _ z) (fun x t1 z1 => by
    cases x <;> first | exact z1.elim | exact cn_str z1.1 z1.2) hs) (by decide) (by decide) hs rfl⟩
theorem rd_all (hs : starEach [a] X.env = (false, eval a X.env) :: starEach [] X.env := by rfl) (hg : Gl X (Str.ofString "all") := by rfl) : RD M (.Call (.Name (Str.ofString "all") p) [a] [] pos) ρ (op1 oall f) := ⟨fun t P z =>
  jd_callB (cr_all E.calm) hg E.bu.all boot_all' (ja_one (ha.run t _ z) (fun x t1 z1 => by
    cases x <;> first | exact z1.elim | skip
    rename_i xs
    have z2 : (match boolsOf xs with | some bs => ret (PyData.bool (bs.all id)) | none => bad) t1 P := z1
    cases e : boolsOf xs with
    | none => rw [e] at z2; exact z2.elim
    | some bs =>
      rw [e] at z2
      rw [boolsOf_some e]
      exact cn_all z2) hs) (by decide) (by decide) hs rfl⟩
theorem rd_any (hs : starEach [a] X.env = (false, eval a X.env) :: starEach [] X.env := by rfl) (hg : Gl X (Str.ofString "any") := by rfl) : RD M (.Call (.Name (Str.ofString "any") p) [a] [] pos) ρ (op1 oany f) := ⟨fun t P z =>
  jd_callB (cr_any E.calm) hg E.bu.any boot_any' (ja_one (ha.run t _ z) (fun x t1 z1 => by
    cases x <;> first | exact z1.elim | skip
    rename_i xs
    have z2 : (match boolsOf xs with | some bs => ret (PyData.bool (bs.any id)) | none => bad) t1 P := z1
    cases e : boolsOf xs with
    | none => rw [e] at z2; exact z2.elim
    | some bs =>
      rw [e] at z2
      rw [boolsOf_some e]
      exact cn_any z2) hs) (by decide) (by decide) hs rfl⟩
end
/-- isinstance with one class -/
def oisi (T : String) (x : PyData) : W PyData := ret (.bool (isiD T x))
section
variable (E : Ev X kk) (ha : RD M a ρ f)
include E ha
theorem rd_isi {T : Str} {Ts : String} {p1 p2 : Pos} (hT : Ts ∈ ["int", "bool", "str", "tuple", "list"]) (hm2 : X.mg T = none) (hb2 : bootBuiltins T = some (.type Ts)) (hg2 : Gl X T := by rfl) (hg : Gl X "isinstance" := by rfl) (n2 : T ≠ Str.ofString "__name__" := by decide) (n3 : (T == Str.ofString "__debug__") = false := by decide)
    (h3 : starEach [a, .Name T p2] X.env = (false, eval a X.env) :: starEach [.Name T p2] X.env := by rfl)
    (h4 : ((backTo pos (starEach [.Name T p2] X.env)).any fun x => x.fst) = false := by rfl) (h5 : starEach [.Name T p2] X.env = (false, eval (.Name T p2) X.env) :: starEach [] X.env := by rfl) : RD M (.Call (.Name "isinstance" p1) [a, .Name T p2] [] pos) ρ (op1 (oisi Ts) f) := ⟨fun t P z =>
  jd_isi rfl hg E.bu.isi hg2 hm2 hb2 hT (ha.run t _ z) n2 n3 h3 h4 h5⟩
end
theorem rd_isInt (E : Ev X kk) {p1 p2 : Pos} (ha : RD M a ρ f) (hg2 : Gl X "int" := by rfl) (hg : Gl X "isinstance" := by rfl) (h3 : starEach [a, .Name "int" p2] X.env = (false, eval a X.env) :: starEach [.Name "int" p2] X.env := by rfl) : RD M (.Call (.Name "isinstance" p1) [a, .Name "int" p2] [] pos) ρ (op1 (oisi "int") f) := rd_isi E ha (by simp) E.bu.int boot_int'' hg2 hg (by decide) (by decide) h3 rfl rfl
theorem rd_isBool (E : Ev X kk) {p1 p2 : Pos} (ha : RD M a ρ f) (hg2 : Gl X "bool" := by rfl) (hg : Gl X "isinstance" := by rfl) (h3 : starEach [a, .Name "bool" p2] X.env = (false, eval a X.env) :: starEach [.Name "bool" p2] X.env := by rfl) : RD M (.Call (.Name "isinstance" p1) [a, .Name "bool" p2] [] pos) ρ (op1 (oisi "bool") f) := rd_isi E ha (by simp) E.bu.bool boot_bool' hg2 hg (by decide) (by decide) h3 rfl rfl
theorem rd_isStr (E : Ev X kk) {p1 p2 : Pos} (ha : RD M a ρ f) (hg2 : Gl X "str" := by rfl) (hg : Gl X "isinstance" := by rfl) (h3 : starEach [a, .Name "str" p2] X.env = (false, eval a X.env) :: starEach [.Name "str" p2] X.env := by rfl) : RD M (.Call (.Name "isinstance" p1) [a, .Name "str" p2] [] pos) ρ (op1 (oisi "str") f) := rd_isi E ha (by simp) E.bu.str boot_str'' hg2 hg (by decide) (by decide) h3 rfl rfl
theorem rd_isTup (E : Ev X kk) {p1 p2 : Pos} (ha : RD M a ρ f) (hg2 : Gl X "tuple" := by rfl) (hg : Gl X "isinstance" := by rfl) (h3 : starEach [a, .Name "tuple" p2] X.env = (false, eval a X.env) :: starEach [.Name "tuple" p2] X.env := by rfl) : RD M (.Call (.Name "isinstance" p1) [a, .Name "tuple" p2] [] pos) ρ (op1 (oisi "tuple") f) := rd_isi E ha (by simp) E.bu.tuple boot_tuple' hg2 hg (by decide) (by decide) h3 rfl rfl
theorem rd_isList (E : Ev X kk) {p1 p2 : Pos} (ha : RD M a ρ f) (hg2 : Gl X "list" := by rfl) (hg : Gl X "isinstance" := by rfl) (h3 : starEach [a, .Name "list" p2] X.env = (false, eval a X.env) :: starEach [.Name "list" p2] X.env := by rfl) : RD M (.Call (.Name "isinstance" p1) [a, .Name "list" p2] [] pos) ρ (op1 (oisi "list") f) := rd_isi E ha (by simp) E.bu.list boot_list' hg2 hg (by decide) (by decide) h3 rfl rfl
/-! repr, where nothing is being shown -/
def orepr (x : PyData) : W PyData := need (Fin x ∧ sz x ≤ 55000 ∧ x.depth ≤ 60) (ret (.str x.shown))
theorem rd_repr (E : Ev X kk) (hg0 : X.A.guards = some []) (ha : RD M a ρ f) (hs : starEach [a] X.env = (false, eval a X.env) :: starEach [] X.env := by rfl) (hg : Gl X "repr" := by rfl) : RD M (.Call (.Name "repr" p) [a] [] pos) ρ (op1 orepr f) := ⟨fun t P z =>
  jd_repr E.room hg0 E.bu.repr ((ha.run t _ z).imp fun x t1 z1 => ⟨z1.1.1, z1.1.2.1, z1.1.2.2, z1.2⟩) hg hs⟩
/-! calls of defs -/
/-- what a def promises, by its mirror -/
def Sm (m : List B → W B) : List B → Rs → (B → Rs → Prop) → Prop := fun bs t Q => m bs t Q
theorem jd_callA {x : Str} {k j n : Nat} {S : List B → Rs → (B → Rs → Prop) → Prop} {P : PyData → Rs → Prop} {t : Rs} (D : Def X.prog X.w X.K Wo X.mg X.base k x n S) (hr : Room j X.A) (hk : k ≤ j) (hg : Gl X x) (h : JA M (e :: es) ρ t fun bs t1 => bs.length = n ∧ S bs t1 fun b t2 => asD b t2 P)
    (h2 : (x == ("__debug__" : Str)) = false := by decide) (h3 : starEach (e :: es) X.env = (false, eval e X.env) :: starEach es X.env := by rfl)
    (h4 : (backTo pos (starEach es X.env)).any (·.1) = false := by rfl) : JD M (.Call (.Name x p) (e :: es) [] pos) ρ t P := by
  obtain ⟨fa, fd, ps, F, hm, kp, hb⟩ := D.ex
  refine jd_of (pe_call F (hr.mono hk) hg hm kp hb .nil pass0 paT h2 h3 h4) fun σ G H S Q q => h σ G H S _ fun G1 H1 vs bs t1 s1 a1 ⟨hl, sp⟩ => ?_
  show spD X.K Wo n _ (vs ++ []) H1 Q E0
  rw [List.append_nil]
  refine ⟨M, G1, bs, t1, _, (S.step s1).ok, a1, hl, sp, fun G2 H2 v z t2 s2 d2 py => ?_, fun G2 H2 l ws xs t2 s2 n g e a py => ?_⟩
  · exact q G2 H2 v z t2 (s1.trans s2) d2 py
  · exact q (upd G2 l (.lst ws)) H2 (.ref l) (.list xs) t2 (s1.trans (s2.freeze n g e)) (.lst upd_same (DeAll.up (fun b u z => by
      rw [upd_ne (ne_of_none z g)]
      exact z) xs ws a)) py
def callN (n : Nat) (m : List B → W B) (f : W (List B)) : W B := bnd f fun bs => need (bs.length = n) (m bs)
theorem rd_call {x : Str} {k n : Nat} {m : List B → W B} (E : Ev X kk) (D : Def X.prog X.w X.K Wo X.mg X.base k x n (Sm m)) (ha : RA M (e :: es) ρ af) (hk : k ≤ kk := by decide) (hg : Gl X x := by rfl)
    (h2 : (x == ("__debug__" : Str)) = false := by decide) (h3 : starEach (e :: es) X.env = (false, eval e X.env) :: starEach es X.env := by rfl)
    (h4 : (backTo pos (starEach es X.env)).any (·.1) = false := by rfl) : RD M (.Call (.Name x p) (e :: es) [] pos) ρ (bnd (callN n m af) asD) := ⟨fun t P z => jd_callA D E.room hk hg (DA.imp (ha.run t _ z) fun bs t1 z1 => ⟨z1.1, z1.2⟩) h2 h3 h4⟩
theorem rl_call {x : Str} {k n : Nat} {m : List B → W B} (E : Ev X kk) (D : Def X.prog X.w X.K Wo X.mg X.base k x n (Sm m)) (ha : RA M (e :: es) ρ af) (hk : k ≤ kk := by decide) (hg : Gl X x := by rfl)
    (h2 : (x == ("__debug__" : Str)) = false := by decide) (h3 : starEach (e :: es) X.env = (false, eval e X.env) :: starEach es X.env := by rfl)
    (h4 : (backTo pos (starEach es X.env)).any (·.1) = false := by rfl) : RL M (.Call (.Name x p) (e :: es) [] pos) ρ (bnd (callN n m af) asO) := ⟨fun t P z => jl_call (D.imp (S' := fun bs t Q => m bs t Q) fun bs t Q z => z) E.room hk hg (DA.imp (ha.run t _ z) fun bs t1 z1 => ⟨z1.1, by
  have z2 : m bs t1 (fun b t2 => asO b t2 P) := z1.2
  have e : (fun b t2 => asO b t2 P) = fun b t2 => ∃ y, b = .own y ∧ P y t2 := by
    funext b t2
    refine propext ⟨fun w => ?_, fun ⟨y, ey, py⟩ => by subst ey; exact py⟩
    cases b <;> first | exact ⟨_, rfl, w⟩ | exact w.elim
  rw [e] at z2
  exact z2⟩) h2 h3 h4⟩
/-! what is walked -/
theorem ri_L (ha : RD M e ρ f) : RI M tg e ρ (itL f) := ⟨fun t P z => ji_lst ((ha.run t _ z).imp fun x t1 z1 => by
  cases x <;> first | exact z1.elim | exact ⟨_, rfl, z1⟩)⟩
theorem ri_T (ha : RD M e ρ f) : RI M tg e ρ (itT f) := ⟨fun t P z => ji_tup ((ha.run t _ z).imp fun x t1 z1 => by
  cases x <;> first | exact z1.elim | exact ⟨_, rfl, z1⟩)⟩
theorem ri_S (ha : RD M e ρ f) : RI M tg e ρ (itS f) := ⟨fun t P z => ji_str ((ha.run t _ z).imp fun x t1 z1 => by
  cases x <;> first | exact z1.elim | exact ⟨_, rfl, z1⟩)⟩
theorem ri_l (ha : RL M e ρ lf) : RI M tg e ρ lf := ⟨fun t P z => ji_lst ((DL.toD ((ha.run t _ z).imp fun xs t1 z1 => (⟨xs, rfl, z1⟩ : ∃ ys, PyData.list xs = .list ys ∧ P ys t1))))⟩
theorem ri_r1 (E : Ev X kk) (ha : RD M a ρ f) (hg : Gl X (Str.ofString "range") := by rfl) (hs : starEach [a] X.env = [(false, eval a X.env)] := by rfl) : RI M tg (.Call (.Name (Str.ofString "range") p) [a] [] pos) ρ (rng1 f) := ⟨fun t P z => ji_rng1 hg E.bu.range ((ha.run t _ z).imp fun x t1 z1 => by
  cases x <;> first | exact z1.elim | exact ⟨_, rfl, z1.1.1, z1.1.2, z1.2⟩) hs⟩
theorem ri_r2 (E : Ev X kk) (ha : RD M a ρ f) (hb : RD M b ρ g) (hg : Gl X (Str.ofString "range") := by rfl) (hs : starEach [a, b] X.env = [(false, eval a X.env), (false, eval b X.env)] := by rfl) (hs2 : starEach [b] X.env = [(false, eval b X.env)] := by rfl) : RI M tg (.Call (.Name (Str.ofString "range") p) [a, b] [] pos) ρ (rng2 f g) := ⟨fun t P z => ji_rng2 hg E.bu.range ((ha.run t _ z).imp fun x t1 z1 => by
  cases x <;> first | exact z1.elim | skip
  refine ⟨_, rfl, (hb.run t1 _ z1).imp fun y t2 z2 => ?_⟩
  cases y <;> first | exact z2.elim | exact ⟨_, rfl, ⟨z2.1.1.1, z2.1.1.2, z2.1.2.1, z2.1.2.2⟩, z2.2⟩) hs hs2⟩
end
end Dw
end
section
set_option maxRecDepth 100000
set_option maxHeartbeats 4000000
namespace Dw
open PySem PySem.Spec PyProof.Rows L2 Dl
/-! ### statements -/
def endOf {τ σ : Type} (D : Dk) (emb : τ → List B) (emc : σ → List B) : Out τ σ → Rs → Prop
  | .nx s, t => D.nx (emb s) t
  | .ct s, t => D.ct (emc s) t
  | .bk s, t => D.bk (emc s) t
  | .rt b, t => D.rt b t
section
variable {X : Cx} {Wo : WO} (M : Md X.K Wo)
structure RS {τ σ : Type} (st : List Stmt) (ρ : List B) (emb : τ → List B) (emc : σ → List B) (m : W (Out τ σ)) : Prop where
  run : ∀ (t : Rs) (P : Out τ σ → Rs → Prop) (D : Dk), m t P → (∀ o t', P o t' → endOf D emb emc o t') → JSs M st ρ t D
end
theorem _root_.Dl.DI.imp' {K : PySem.W.Frag} {Wo : WO} {M : Md K Wo} {ti : TI} {ρ : List B} {t : Rs} {P P' : List PyData → Rs → Prop} (h : DI M ti ρ t P) (i : ∀ x t', P x t' → P' x t') : DI M ti ρ t P' := fun σ G H S R r => h σ G H S R fun G' H' J xs t' s w p => r G' H' J xs t' s w (i _ _ p)
section
variable {X : Cx} {Wo : WO} {M : Md X.K Wo} {ρ ρ2 : List B} {a b c e it : Expr} {tg : Expr} {es : List Expr} {pos p : Pos} {f g h : W PyData} {tf : W Bool} {af : W (List B)} {lf : W (List PyData)} {kk : Nat} {α τ σ : Type} {emb : τ → List B} {emc : σ → List B} {eme : α → List B} {rest body other : List Stmt} {m : W (Out τ σ)}
theorem jss_le {t : Rs} {D : Dk} (hl : Le ρ ρ2) (h : JSs M rest ρ2 t D) : JSs M rest ρ t D := fun σ G H S E F => h σ G H (sat_le hl S) E F
/-- the end of a block -/
theorem rs_nil {s : τ} (hl : Le ρ (emb s)) : RS M [] ρ emb emc (ret (.nx s)) := ⟨fun t P D z i => jss_le hl (jss_nil (i _ _ z))⟩
theorem rs_le (s : List B) (hl : Le ρ s) (h : RS M rest s emb emc m) : RS M rest ρ emb emc m := ⟨fun t P D z i => jss_le hl (h.run t P D z i)⟩
theorem rs_cont {s : σ} (hl : Le ρ (emc s)) : RS M (.Continue pos :: rest) ρ emb emc (ret (.ct s)) := ⟨fun t P D z i => jss_le hl (jss_cons (js_cont (i _ _ z)))⟩
theorem rs_break {s : σ} (hl : Le ρ (emc s)) : RS M (.Break pos :: rest) ρ emb emc (ret (.bk s)) := ⟨fun t P D z i => jss_le hl (jss_cons (js_break (i _ _ z)))⟩
theorem rs_pass (h : RS M rest ρ emb emc m) : RS M (.Pass pos :: rest) ρ emb emc m := ⟨fun t P D z i => jss_cons (js_pass (h.run t P D z i))⟩
theorem rs_ret (ha : RD M e ρ f) : RS M (.Return (some e) pos :: rest) ρ emb emc (bnd f fun x => ret (.rt (.d x))) := ⟨fun t P D z i => jss_ret ((ha.run t _ z).imp fun x t1 z1 => i _ _ z1)⟩
theorem rs_retL (ha : RL M e ρ lf) : RS M (.Return (some e) pos :: rest) ρ emb emc (bnd lf fun x => ret (.rt (.own x))) := ⟨fun t P D z i => jss_retL ((ha.run t _ z).imp fun x t1 z1 => i _ _ z1)⟩
theorem rs_retO (i : Nat) {x : Str} {p : Pos} {xs : List PyData} (hr : ρ[i]? = some (.own xs) := by rfl) (hN : X.N[i]? = some x := by rfl) (hv : Vis X.env.scope x := by first | exact Or.inl rfl | exact Or.inr (Or.inl rfl) | exact Or.inr (Or.inr rfl))
    (hd : (x == ("__debug__" : Str)) = false := by decide) (hcd : (x == ("__classdict__" : Str)) = false := by decide) : RS M (.Return (some (.Name x p)) pos :: rest) ρ emb emc (ret (.rt (.own xs))) := ⟨fun t P D z w => jss_cons (js_retO i hr (w _ _ z) hN hv hd hcd)⟩
theorem rs_retN : RS M (.Return none pos :: rest) ρ emb emc (ret (.rt (.d .none))) := ⟨fun t P D z i => jss_cons (js_retN (i _ _ z))⟩
theorem rs_set (i : Nat) {x : Str} {pos' : Pos} {k : PyData → W (Out τ σ)} (hN : X.N.Nodup) (ha : RD M e ρ f) (hk : ∀ y, RS M rest (ρ.set i (.d y)) emb emc (k y)) (hi : X.N[i]? = some x := by rfl) (hx : L2.Loc X.env.scope x := by first | exact Or.inl rfl | exact Or.inr rfl) (hs : swapsWith e (some (.Name x pos')) pos.line X.env = pure false := by rfl)
    (hf : X.fn x = true ∨ X.env.scope.names.lookup x = some .local := by first | exact .inl rfl | exact .inr rfl) : RS M (.Assign [.Name x pos'] e pos :: rest) ρ emb emc (bnd f k) := ⟨fun t P D z w => jss_set i hN ((ha.run t _ z).imp fun y t1 z1 => (hk y).run t1 P D z1 w) hi hx hs hf⟩
theorem rs_setL (i : Nat) {x : Str} {pos' : Pos} {k : List PyData → W (Out τ σ)} (hN : X.N.Nodup) (ha : RL M e ρ lf) (hk : ∀ y, RS M rest (ρ.set i (.own y)) emb emc (k y)) (hi : X.N[i]? = some x := by rfl) (hx : L2.Loc X.env.scope x := by first | exact Or.inl rfl | exact Or.inr rfl) (hs : swapsWith e (some (.Name x pos')) pos.line X.env = pure false := by rfl)
    (hf : X.fn x = true ∨ X.env.scope.names.lookup x = some .local := by first | exact .inl rfl | exact .inr rfl) : RS M (.Assign [.Name x pos'] e pos :: rest) ρ emb emc (bnd lf k) := ⟨fun t P D z w => jss_setL i hN ((ha.run t _ z).imp fun y t1 z1 => (hk y).run t1 P D z1 w) hi hx hs hf⟩
theorem rs_fz (i : Nat) {xs : List PyData} (h : RS M rest (ρ.set i (.d (.list xs))) emb emc m) (hr : ρ[i]? = some (.own xs) := by rfl) : RS M rest ρ emb emc m := ⟨fun t P D z w => jss_freeze i hr (h.run t P D z w)⟩
theorem rs_expr (ha : RD M e ρ f) (hk : RS M rest ρ emb emc m) (hs : swapsWith e none pos.line X.env = pure false := by rfl) : RS M (.Expr e pos :: rest) ρ emb emc (bnd f fun _ => m) := ⟨fun t P D z w => jss_cons (js_expr ((ha.run t _ z).imp fun x t1 z1 => hk.run t1 P D z1 w) hs)⟩
/-- a, b = e1, e2 -/
theorem rs_par (i j : Nat) {x y : Str} {px py pt pt2 : Pos} {kt ku : Nat} {k : PyData → PyData → W (Out τ σ)} (E : Ev X kk) (hN : X.N.Nodup) (ha : RD M a ρ f) (hb : RD M b ρ g) (hk : ∀ u v, RS M rest ((ρ.set i (.d u)).set j (.d v)) emb emc (k u v)) (hij : i ≠ j := by decide) (hw : swappedStores [.Tuple [.Name x px, .Name y py] kt pt] (.Tuple [a, b] ku pt2) X.env = pure (some [x, y]) := by rfl)
    (hi : X.N[i]? = some x := by rfl) (hj : X.N[j]? = some y := by rfl) (hx : X.env.scope.names.lookup x = some .local := by rfl) (hy : X.env.scope.names.lookup y = some .local := by rfl)
    (hs : swapsWithSole [.Tuple [.Name x px, .Name y py] kt pt] (.Tuple [a, b] ku pt2) pos.line X.env = pure false := by rfl)
    (h3 : starEach [a, b] X.env = (false, eval a X.env) :: starEach [b] X.env := by rfl) (h4 : starEach [b] X.env = (false, eval b X.env) :: starEach [] X.env := by rfl) : RS M (.Assign [.Tuple [.Name x px, .Name y py] kt pt] (.Tuple [a, b] ku pt2) pos :: rest) ρ emb emc (bnd f fun u => bnd g fun v => k u v) := ⟨fun t P D z w =>
  jss_cons (js_par i j E.calm hN hij hw (ja_cons ((ha.run t _ z).imp fun u t1 z1 => ja_cons ((hb.run t1 _ z1).imp fun v t2 z2 => ja_nil ⟨u, v, rfl, (hk u v).run t2 P D z2 w⟩) h4) h3) hi hj hx hy hs)⟩
/-- a, b, c = e1, e2, e3 -/
theorem rs_par3 (i j l : Nat) {st : Stmt} {k : PyData → PyData → PyData → W (Out τ σ)} (ps : ∀ {ta : TA}, PA X [a, b, c] ta → PS X st (tPar3 i j l ta)) (ha : RD M a ρ f) (hb : RD M b ρ g) (hc : RD M c ρ h) (hk : ∀ u v w, RS M rest (((ρ.set i (.d u)).set j (.d v)).set l (.d w)) emb emc (k u v w))
    (h3 : starEach [a, b, c] X.env = (false, eval a X.env) :: starEach [b, c] X.env := by rfl) (h4 : starEach [b, c] X.env = (false, eval b X.env) :: starEach [c] X.env := by rfl) (h5 : starEach [c] X.env = (false, eval c X.env) :: starEach [] X.env := by rfl) : RS M (st :: rest) ρ emb emc (bnd f fun u => bnd g fun v => bnd h fun w => k u v w) := ⟨fun t P D z n =>
  jss_cons (js_par3 (x := "") (y := "") (z := "") (px := ⟨0, 0, 0, 0⟩) (py := ⟨0, 0, 0, 0⟩) (pz := ⟨0, 0, 0, 0⟩) (pt := ⟨0, 0, 0, 0⟩) (pt2 := ⟨0, 0, 0, 0⟩) (kt := 0) (k2 := 0) i j l ps (ja_cons ((ha.run t _ z).imp fun u t1 z1 => ja_cons ((hb.run t1 _ z1).imp fun v t2 z2 => ja_cons ((hc.run t2 _ z2).imp fun w t3 z3 => ja_nil ⟨u, v, w, rfl, (hk u v w).run t3 P D z3 n⟩) h5) h4) h3))⟩
/-- a target and what it binds -/
structure RG (gt : TG) (ρ : List B) (x : PyData) (st : List Stmt) (emb : τ → List B) (emc : σ → List B) (m : W (Out τ σ)) : Prop where
  run : ∀ (t : Rs) (P : Out τ σ → Rs → Prop) (D : Dk), m t P → (∀ o t', P o t' → endOf D emb emc o t') → DG M gt x ρ fun ρ' => JSs M st ρ' t D
theorem rg_one (i : Nat) {x : PyData} (h : RS M rest (ρ.set i (.d x)) emb emc m) : RG (M := M) (gName i) ρ x rest emb emc m := ⟨fun t P D z w => dg_name (h.run t P D z w)⟩
theorem rg_two (i j : Nat) {x : PyData} {k : PyData → PyData → W (Out τ σ)} (h : ∀ u v, RS M rest ((ρ.set i (.d u)).set j (.d v)) emb emc (k u v)) : RG (M := M) (gTup X.K 2 (gCons (gName i) (gCons (gName j) gNil))) ρ x rest emb emc (two k x) := ⟨fun t P D z n => by
  unfold two at z
  split at z
  · exact dg_two ((h _ _).run t P D z n)
  · exact z.elim⟩
theorem rg_three (i j l : Nat) {x : PyData} {k : PyData → PyData → PyData → W (Out τ σ)} (h : ∀ u v w, RS M rest (((ρ.set i (.d u)).set j (.d v)).set l (.d w)) emb emc (k u v w)) : RG (M := M) (gTup X.K 3 (gCons (gName i) (gCons (gName j) (gCons (gName l) gNil)))) ρ x rest emb emc (three k x) := ⟨fun t P D z n => by
  unfold three at z
  split at z
  · exact dg_three ((h _ _ _).run t P D z n)
  · exact z.elim⟩
/-- target = e -/
theorem rs_asg {gt : TG} {k : PyData → W (Out τ σ)} (hg : PG X tg gt) (ha : RD M e ρ f) (hk : ∀ y, RG (M := M) gt ρ y rest emb emc (k y)) (hs : swapsWithSole [tg] e pos.line X.env = pure false := by rfl) (hw : swappedStores [tg] e X.env = pure none := by rfl)
    (h1 : (assignEach [tg] X.env).map (·.2) = [assign tg X.env] := by rfl) : RS M (.Assign [tg] e pos :: rest) ρ emb emc (bnd f k) := ⟨fun t P D z w => jss_cons (js_asg hg ((ha.run t _ z).imp fun y t1 z1 => (hk y).run t1 P D z1 w) hs hw h1)⟩
/-! if -/
theorem rs_ifJ {ka kb : W (Out α σ)} {k : α → W (Out τ σ)} (hc : RT M c ρ tf) (ha : RS M body ρ eme emc ka) (hb : RS M other ρ eme emc kb) (hk : ∀ s, RS M rest (eme s) emb emc (k s)) : RS M (.If c body other pos :: rest) ρ emb emc (joi (ifW tf ka kb) k) := ⟨fun t P D z n => jss_if ((hc.run t _ z).imp fun b t1 z1 => by
  have key : ∀ (o : Out α σ) (t2 : Rs), (match o with | .nx s => k s | .ct s => ret (.ct s) | .bk s => ret (.bk s) | .rt b => ret (.rt b) : W (Out τ σ)) t2 P → endOf { D with nx := fun ρ' t' => JSs M rest ρ' t' D } eme emc o t2 := fun o t2 w => by
    cases o with
    | nx s => exact (hk s).run t2 P D w n
    | ct s => exact n _ _ w
    | bk s => exact n _ _ w
    | rt b => exact n _ _ w
  refine ⟨fun e => ?_, fun e => ?_⟩
  · subst e
    exact ha.run t1 _ _ z1 key
  · subst e
    exact hb.run t1 _ _ z1 key)⟩
/-- if c: body, where body never goes on -/
theorem rs_if0 {ka : W (Out Empty σ)} (hc : RT M c ρ tf) (ha : RS M body ρ nul emc ka) (hk : RS M rest ρ emb emc m) : RS M (.If c body [] pos :: rest) ρ emb emc (ifW tf (upO ka) m) := ⟨fun t P D z n => jss_if0 ((hc.run t _ z).imp fun b t1 z1 => by
  refine ⟨fun e => ?_, fun e => ?_⟩
  · subst e
    refine ha.run t1 _ _ z1 fun o t2 w => ?_
    cases o with
    | nx s => exact nomatch s
    | ct s => exact n _ _ w
    | bk s => exact n _ _ w
    | rt b => exact n _ _ w
  · subst e
    exact hk.run t1 P D z1 n)⟩
/-- if c: body else: other, where body never goes on -/
theorem rs_if1 {ka : W (Out Empty σ)} (hc : RT M c ρ tf) (ha : RS M body ρ nul emc ka) (hk : RS M (other ++ rest) ρ emb emc m) : True := trivial
/-! loops -/
theorem rs_for {gt : TG} {fb : α → PyData → W (Out α α)} {k : α → W (Out τ σ)} (s0 : α) (E : Ev X kk) (hp : PassesOwn (model X.prog X.w) X.A X.env X.xe) (hl : Le ρ (eme s0)) (hg : PG X tg gt) (hi : RI M tg it (eme s0) lf) (hb : ∀ s x, RG (M := M) gt (eme s) x body eme eme (fb s x)) (hk : ∀ s, RS M rest (eme s) emb emc (k s))
    (hs : ∀ x, foldedSetIterable it X.env x = pure x := by intro _; rfl) : RS M (.For tg it body [] pos :: rest) ρ emb emc (bnd lf fun xs => thn (forW fb xs s0) k) := ⟨fun t P D z n => jss_le hl (jss_cons (js_for hp E.calm hg ((hi.run t _ z).imp' fun xs t1 z1 => by
  have fin : ∀ (o : Sum α B) (t2 : Rs), (match o with | .inl s => k s | .inr b => ret (.rt b) : W (Out τ σ)) t2 P → (match o with | .inl s => JSs M rest (eme s) t2 D | .inr b => D.rt b t2) := fun o t2 w => by
    cases o with
    | inl s => exact (hk s).run t2 P D w n
    | inr b => exact n _ _ w
  refine ⟨fun i ρ' t' => ∃ s, ρ' = eme s ∧ forW fb (xs.drop i) s t' (fun o t2 => (match o with | .inl s => k s | .inr b => ret (.rt b) : W (Out τ σ)) t2 P), ⟨s0, rfl, z1⟩, fun i x ρ' t' ex ⟨s, es, w⟩ => ?_, fun ρ' t' ⟨s, es, w⟩ => ?_⟩
  · subst es
    have hx : xs.drop i = x :: xs.drop (i + 1) := by
      obtain ⟨hlt, e⟩ := List.getElem?_eq_some_iff.mp ex
      rw [List.drop_eq_getElem_cons hlt, e]
    rw [hx] at w
    refine (hb s x).run t' _ _ w fun o t2 w2 => ?_
    cases o with
    | nx s2 => exact ⟨s2, rfl, w2⟩
    | ct s2 => exact ⟨s2, rfl, w2⟩
    | bk s2 => exact fin (.inl s2) t2 w2
    | rt b => exact fin (.inr b) t2 w2
  · subst es
    rw [List.drop_length] at w
    exact fin (.inl s) t' w) hs))⟩
theorem rs_while {cw : α → W Bool} {fb : α → W (Out α α)} {k : α → W (Out τ σ)} (s0 : α) (hp : PassesOwn (model X.prog X.w) X.A X.env X.xe) (hl : Le ρ (eme s0)) (hc : ∀ s, RT M c (eme s) (cw s)) (hb : ∀ s, RS M body (eme s) eme eme (fb s)) (hk : ∀ s, RS M rest (eme s) emb emc (k s)) :
    RS M (.While c body [] pos :: rest) ρ emb emc (thn (whW cw fb s0) k) := ⟨fun t P D z n => by
  obtain ⟨m0, z⟩ := z
  have fin : ∀ (o : Sum α B) (t2 : Rs), (match o with | .inl s => k s | .inr b => ret (.rt b) : W (Out τ σ)) t2 P → (match o with | .inl s => JSs M rest (eme s) t2 D | .inr b => D.rt b t2) := fun o t2 w => by
    cases o with
    | inl s => exact (hk s).run t2 P D w n
    | inr b => exact n _ _ w
  refine jss_le hl (jss_cons (js_while hp (fun m ρ' t' => ∃ s, ρ' = eme s ∧ whN cw fb m s t' (fun o t2 => (match o with | .inl s => k s | .inr b => ret (.rt b) : W (Out τ σ)) t2 P)) m0 ⟨s0, rfl, z⟩ fun m ρ' t' ⟨s, es, w⟩ => ?_))
  subst es
  cases m with
  | zero => exact w.elim
  | succ m =>
    refine ((hc s).run t' _ w).imp fun b t1 w1 => ⟨fun e => ?_, fun e => ?_⟩
    · subst e
      refine (hb s).run t1 _ _ w1 fun o t2 w2 => ?_
      cases o with
      | nx s2 => exact ⟨m, Nat.lt_succ_self _, s2, rfl, w2⟩
      | ct s2 => exact ⟨m, Nat.lt_succ_self _, s2, rfl, w2⟩
      | bk s2 => exact fin (.inl s2) t2 w2
      | rt b => exact fin (.inr b) t2 w2
    · subst e
      exact fin (.inl s) t1 w1⟩
end
end Dw
end
section
set_option maxRecDepth 100000
set_option maxHeartbeats 4000000
namespace Dw
open PySem PySem.Spec PyProof.Rows L2 Dl
/-! ### comprehensions -/
section
variable {X : Cx} {Wo : WO} (M : Md X.K Wo)
structure RGe (gt : TG) (ρ : List B) (x : PyData) (scope : Scope) (elt : Expr) (m : W PyData) : Prop where
  run : ∀ (t : Rs) (P : PyData → Rs → Prop), m t P → DG M gt x ρ fun ρ2 => JDb M scope elt ρ2 t P
structure RGi (gt : TG) (ρ : List B) (x : PyData) (scope : Scope) (cond elt : Expr) (m : W (Option PyData)) : Prop where
  run : ∀ (t : Rs) (P : Option PyData → Rs → Prop), m t P → DG M gt x ρ fun ρ2 => JTb M scope cond ρ2 t fun b t2 => (b = true → JDb M scope elt ρ2 t2 fun y t3 => P (some y) t3) ∧ (b = false → P none t2)
end
def optW (c : W Bool) (m : W PyData) : W (Option PyData) := bnd c fun b => bif b then bnd m fun y => ret (some y) else ret none
def filO (f : PyData → W (Option PyData)) : List PyData → W (List PyData)
  | [] => ret []
  | x :: r => bnd (f x) fun o => match o with
    | some y => bnd (filO f r) fun ys => ret (y :: ys)
    | none => filO f r
def compO (it : W (List PyData)) (f : PyData → W (Option PyData)) : W (List PyData) := bnd it fun xs => need (xs.length ≤ 16777216) (filO f xs)
section
variable {X : Cx} {Wo : WO} {M : Md X.K Wo} {ρ : List B} {elt cond tg iter a b e : Expr} {pos : Pos} {scope : Scope} {own : List (Str × Nat)} {gt : TG} {lf : W (List PyData)} {kk : Nat}
theorem rge_one (i : Nat) {x : PyData} {m : W PyData} (h : ∀ (s : Shared) (H : Hp) (C : Addr) (cl : List (Str × Addr)) (fp : List Addr), RD (X := Blk X scope s H C cl fp) M elt (ρ.set i (.d x)) m) : RGe M (gName i) ρ x scope elt m := ⟨fun t P z => dg_name fun s H C cl fp => (h s H C cl fp).run t P z⟩
theorem rge_two (i j : Nat) {x : PyData} {k : PyData → PyData → W PyData} (h : ∀ u v (s : Shared) (H : Hp) (C : Addr) (cl : List (Str × Addr)) (fp : List Addr), RD (X := Blk X scope s H C cl fp) M elt ((ρ.set i (.d u)).set j (.d v)) (k u v)) : RGe M (gTup X.K 2 (gCons (gName i) (gCons (gName j) gNil))) ρ x scope elt (two k x) := ⟨fun t P z => by
  unfold two at z
  split at z
  · exact dg_two fun s H C cl fp => (h _ _ s H C cl fp).run t P z
  · exact z.elim⟩
theorem rge_three (i j l : Nat) {x : PyData} {k : PyData → PyData → PyData → W PyData} (h : ∀ u v w (s : Shared) (H : Hp) (C : Addr) (cl : List (Str × Addr)) (fp : List Addr), RD (X := Blk X scope s H C cl fp) M elt (((ρ.set i (.d u)).set j (.d v)).set l (.d w)) (k u v w)) : RGe M (gTup X.K 3 (gCons (gName i) (gCons (gName j) (gCons (gName l) gNil)))) ρ x scope elt (three k x) := ⟨fun t P z => by
  unfold three at z
  split at z
  · exact dg_three fun s H C cl fp => (h _ _ _ s H C cl fp).run t P z
  · exact z.elim⟩
theorem opt_run {ρ : List B} {c : W Bool} {m : W PyData} (hc : ∀ (s : Shared) (H : Hp) (C : Addr) (cl : List (Str × Addr)) (fp : List Addr), RT (X := Blk X scope s H C cl fp) M cond ρ c) (hm : ∀ (s : Shared) (H : Hp) (C : Addr) (cl : List (Str × Addr)) (fp : List Addr), RD (X := Blk X scope s H C cl fp) M elt ρ m)
    {t : Rs} {P : Option PyData → Rs → Prop} (z : optW c m t P) : JTb M scope cond ρ t fun b t2 => (b = true → JDb M scope elt ρ t2 fun y t3 => P (some y) t3) ∧ (b = false → P none t2) := fun s H C cl fp => ((hc s H C cl fp).run t _ z).imp fun b t2 z2 => ⟨fun e s H C cl fp => by
  subst e
  exact (hm s H C cl fp).run t2 _ z2, fun e => by
  subst e
  exact z2⟩
theorem rgi_one (i : Nat) {x : PyData} {c : W Bool} {m : W PyData} (hc : ∀ (s : Shared) (H : Hp) (C : Addr) (cl : List (Str × Addr)) (fp : List Addr), RT (X := Blk X scope s H C cl fp) M cond (ρ.set i (.d x)) c) (hm : ∀ (s : Shared) (H : Hp) (C : Addr) (cl : List (Str × Addr)) (fp : List Addr), RD (X := Blk X scope s H C cl fp) M elt (ρ.set i (.d x)) m) : RGi M (gName i) ρ x scope cond elt (optW c m) := ⟨fun t P z => dg_name (opt_run hc hm z)⟩
theorem rgi_two (i j : Nat) {x : PyData} {c : PyData → PyData → W Bool} {m : PyData → PyData → W PyData} (hc : ∀ u v (s : Shared) (H : Hp) (C : Addr) (cl : List (Str × Addr)) (fp : List Addr), RT (X := Blk X scope s H C cl fp) M cond ((ρ.set i (.d u)).set j (.d v)) (c u v)) (hm : ∀ u v (s : Shared) (H : Hp) (C : Addr) (cl : List (Str × Addr)) (fp : List Addr), RD (X := Blk X scope s H C cl fp) M elt ((ρ.set i (.d u)).set j (.d v)) (m u v)) : RGi M (gTup X.K 2 (gCons (gName i) (gCons (gName j) gNil))) ρ x scope cond elt (two (fun u v => optW (c u v) (m u v)) x) := ⟨fun t P z => by
  unfold two at z
  split at z
  · exact dg_two (opt_run (hc _ _) (hm _ _) z)
  · exact z.elim⟩
theorem rgi_three (i j l : Nat) {x : PyData} {c : PyData → PyData → PyData → W Bool} {m : PyData → PyData → PyData → W PyData} (hc : ∀ u v w (s : Shared) (H : Hp) (C : Addr) (cl : List (Str × Addr)) (fp : List Addr), RT (X := Blk X scope s H C cl fp) M cond (((ρ.set i (.d u)).set j (.d v)).set l (.d w)) (c u v w)) (hm : ∀ u v w (s : Shared) (H : Hp) (C : Addr) (cl : List (Str × Addr)) (fp : List Addr), RD (X := Blk X scope s H C cl fp) M elt (((ρ.set i (.d u)).set j (.d v)).set l (.d w)) (m u v w)) : RGi M (gTup X.K 3 (gCons (gName i) (gCons (gName j) (gCons (gName l) gNil)))) ρ x scope cond elt (three (fun u v w => optW (c u v w) (m u v w)) x) := ⟨fun t P z => by
  unfold three at z
  split at z
  · exact dg_three (opt_run (hc _ _ _) (hm _ _ _) z)
  · exact z.elim⟩
theorem DG.imp {K : PySem.W.Frag} {M : Md K Wo} {gt : TG} {x : PyData} {ρ : List B} {Q Q' : List B → Prop} (h : DG M gt x ρ Q) (i : ∀ r, Q r → Q' r) : DG M gt x ρ Q' := fun t G H σ v S d R r => h t G H σ v S d R fun σ' ρ' S' q => r σ' ρ' S' (i _ q)
theorem jdb_imp {ρ : List B} {t : Rs} {P P' : PyData → Rs → Prop} (h : JDb M scope e ρ t P) (i : ∀ x t', P x t' → P' x t') : JDb M scope e ρ t P' := fun s H C cl fp => (h s H C cl fp).imp i
theorem rl_comp {fe : PyData → W PyData} (E : Ev X kk) (hN : X.N.Nodup) (ok : BlkOk X.N X.env.scope scope own) (hw : Wipes gt (own.map (·.2)))
    (hg : ∀ (s : Shared) (H : Hp) (C : Addr) (cl : List (Str × Addr)) (fp : List Addr), PG (X.blk s H scope (compEnvC scope cl C X.env) fp) tg gt) (hi : RI M tg iter ρ lf) (he : ∀ x, RGe M gt (wipeB ρ (own.map (·.2))) x scope elt (fe x))
    (hs : ∀ x, foldedSetIterable iter X.env x = pure x := by intro _; rfl) : RL M (.ListComp elt [⟨tg, iter, [], 0⟩] scope pos) ρ (compW lf fe) := ⟨fun t P z => jl_comp E.calm hN ok hw hg ((hi.run t _ z).imp' fun xs t1 ⟨hlen, z1⟩ => by
  refine ⟨fun i acc t' => acc.length = i ∧ mapW fe (xs.drop i) t' fun r t2 => P (acc ++ r) t2, ⟨rfl, z1⟩, fun i x acc t' ex ⟨hl, w⟩ => ?_, fun acc t' ⟨hl, w⟩ => ?_⟩
  · obtain ⟨hlt, e⟩ := List.getElem?_eq_some_iff.mp ex
    have hx : xs.drop i = x :: xs.drop (i + 1) := by rw [List.drop_eq_getElem_cons hlt, e]
    rw [hx] at w
    refine DG.imp ((he x).run t' _ w) fun r h => jdb_imp h fun y t3 w3 => ⟨by omega, by rw [List.length_append, hl]; rfl, ?_⟩
    have e2 : (fun (r : List PyData) (t2 : Rs) => P (acc ++ [y] ++ r) t2) = fun r t2 => P (acc ++ y :: r) t2 := by
      funext r t2
      rw [List.append_assoc]
      rfl
    rw [e2]
    exact w3
  · rw [List.drop_length] at w
    have w2 : P (acc ++ []) t' := w
    rw [List.append_nil] at w2
    exact w2) hs⟩
theorem rl_compO {fe : PyData → W (Option PyData)} (E : Ev X kk) (hN : X.N.Nodup) (ok : BlkOk X.N X.env.scope scope own) (hw : Wipes gt (own.map (·.2)))
    (hg : ∀ (s : Shared) (H : Hp) (C : Addr) (cl : List (Str × Addr)) (fp : List Addr), PG (X.blk s H scope (compEnvC scope cl C X.env) fp) tg gt) (hi : RI M tg iter ρ lf) (he : ∀ x, RGi M gt (wipeB ρ (own.map (·.2))) x scope cond elt (fe x))
    (hs : ∀ x, foldedSetIterable iter X.env x = pure x := by intro _; rfl) : RL M (.ListComp elt [⟨tg, iter, [cond], 0⟩] scope pos) ρ (compO lf fe) := ⟨fun t P z => jl_compT E.calm hN ok hw hg ((hi.run t _ z).imp' fun xs t1 ⟨hlen, z1⟩ => by
  refine ⟨fun i acc t' => acc.length ≤ i ∧ filO fe (xs.drop i) t' fun r t2 => P (acc ++ r) t2, ⟨Nat.le_refl _, z1⟩, fun i x acc t' ex ⟨hl, w⟩ => ?_, fun acc t' ⟨hl, w⟩ => ?_⟩
  · obtain ⟨hlt, e⟩ := List.getElem?_eq_some_iff.mp ex
    have hx : xs.drop i = x :: xs.drop (i + 1) := by rw [List.drop_eq_getElem_cons hlt, e]
    rw [hx] at w
    refine DG.imp ((he x).run t' _ w) fun r h => fun s H C cl fp => (h s H C cl fp).imp fun b t2 ⟨h1, h2⟩ => ⟨fun eb => jdb_imp (h1 eb) fun y t3 w3 => ⟨by omega, by rw [List.length_append]; simp only [List.length_cons, List.length_nil]; omega, ?_⟩, fun eb => ⟨by omega, h2 eb⟩⟩
    have e2 : (fun (r : List PyData) (t2 : Rs) => P (acc ++ [y] ++ r) t2) = fun r t2 => P (acc ++ y :: r) t2 := by
      funext r t2
      rw [List.append_assoc]
      rfl
    rw [e2]
    exact w3
  · rw [List.drop_length] at w
    have w2 : P (acc ++ []) t' := w
    rw [List.append_nil] at w2
    exact w2) hs⟩
end
/-! ### lists of slots, changed in place -/
section
variable {X : Cx} {Wo : WO} {M : Md X.K Wo} {ρ : List B} {e a b : Expr} {pos cpos apos p q : Pos} {x : Str} {f g : W PyData} {kk : Nat} {τ σ : Type} {emb : τ → List B} {emc : σ → List B} {rest : List Stmt} {xs : List PyData}
theorem rd_ixO (i : Nat) (hb : RD M b ρ f) (hr : ρ[i]? = some (.own xs) := by rfl) (hp : PlainIx b := by intro _ _; rfl) (hN : X.N[i]? = some x := by rfl) (hv : Vis X.env.scope x := by first | exact Or.inl rfl | exact Or.inr (Or.inl rfl) | exact Or.inr (Or.inr rfl)) (hd : (x == ("__debug__" : Str)) = false := by decide) (hcd : (x == ("__classdict__" : Str)) = false := by decide) :
    RD M (.Subscript (.Name x p) b pos) ρ (bnd f fun y => oix (.list xs) y) := ⟨fun t P z => jd_ixO i hr ((hb.run t _ z).imp fun y t1 z1 => by
  cases y <;> first | exact z1.elim | skip
  rename_i j
  have z2 : (match atI xs j with | some z => ret z | none => bad) t1 P := z1
  cases e : atI xs j with
  | none => rw [e] at z2; exact z2.elim
  | some z => rw [e] at z2; exact ⟨j, z, rfl, e, z2⟩) hp hN hv hd hcd⟩
theorem rd_lenO (E : Ev X kk) (i : Nat) (hr : ρ[i]? = some (.own xs) := by rfl) (hg : Gl X (Str.ofString "len") := by rfl) (hN : X.N[i]? = some x := by rfl) (hv : Vis X.env.scope x := by first | exact Or.inl rfl | exact Or.inr (Or.inl rfl) | exact Or.inr (Or.inr rfl)) (hd : (x == ("__debug__" : Str)) = false := by decide) (hcd : (x == ("__classdict__" : Str)) = false := by decide)
    (h3 : starEach [.Name x p] X.env = (false, eval (.Name x p) X.env) :: starEach [] X.env := by rfl) : RD M (.Call (.Name (Str.ofString "len") q) [.Name x p] [] pos) ρ (need (xs.length ≤ 16777216) (ret (.int xs.length))) := ⟨fun t P z => jd_lenO i hr E.bu.len z.1 z.2 hg hN hv hd hcd h3⟩
section
variable {k : List PyData → W (Out τ σ)}
theorem rs_append (i : Nat) (ha : RD M e ρ f) (hk : ∀ y, RS M rest (ρ.set i (.own (xs ++ [y]))) emb emc (k (xs ++ [y]))) (hr : ρ[i]? = some (.own xs) := by rfl)
    (hN : X.N[i]? = some x := by rfl) (hv : Vis X.env.scope x := by first | exact Or.inl rfl | exact Or.inr (Or.inl rfl) | exact Or.inr (Or.inr rfl)) (hd : (x == ("__debug__" : Str)) = false := by decide) (hcd : (x == ("__classdict__" : Str)) = false := by decide)
    (hs : swapsWith (.Call (.Attribute (.Name x p) "append" apos) [e] [] cpos) none pos.line X.env = pure false := by rfl) (h3 : starEach [e] X.env = (false, eval e X.env) :: starEach [] X.env := by rfl)
    (h1 : attributeBase (.Name x p) "append" X.env (eval (.Name x p) X.env) = eval (.Name x p) X.env := by rfl)
    (h2 : ((((backTo cpos (starEach [e] X.env)).all fun x => !x.1) && (backToKw cpos (keywordEach [] X.env)).all fun x => x.1.isSome) && decide (([e].length + ([] : List Keyword).length + if ([] : List Keyword).isEmpty = true then 0 else 1) < 30)) = true := by rfl)
    (h4 : (apos.endLine == cpos.line) = true := by rfl) (h5 : ((backTo cpos (starEach [] X.env)).any fun x => x.1) = false := by rfl) : RS M (.Expr (.Call (.Attribute (.Name x p) "append" apos) [e] [] cpos) pos :: rest) ρ emb emc (bnd f fun y => need (xs.length < 16777216) (k (xs ++ [y]))) := ⟨fun t P D z n =>
  jss_cons (js_append i hr ((ha.run t _ z).imp fun y t1 z1 => ⟨z1.1, (hk y).run t1 P D z1.2 n⟩) hN hv hd hcd hs h3 h1 h2 h4 h5)⟩
def extW (f : W PyData) (xs : List PyData) (k : List PyData → W (Out τ σ)) : W (Out τ σ) := bnd f fun y => match y with
  | .list ys => need (xs.length + ys.length ≤ 16777216) (k (xs ++ ys))
  | _ => bad
theorem rs_extend (i : Nat) (ha : RD M e ρ f) (hk : ∀ ys, RS M rest (ρ.set i (.own (xs ++ ys))) emb emc (k (xs ++ ys))) (hr : ρ[i]? = some (.own xs) := by rfl)
    (hN : X.N[i]? = some x := by rfl) (hv : Vis X.env.scope x := by first | exact Or.inl rfl | exact Or.inr (Or.inl rfl) | exact Or.inr (Or.inr rfl)) (hd : (x == ("__debug__" : Str)) = false := by decide) (hcd : (x == ("__classdict__" : Str)) = false := by decide)
    (hs : swapsWith (.Call (.Attribute (.Name x p) "extend" apos) [e] [] cpos) none pos.line X.env = pure false := by rfl) (h3 : starEach [e] X.env = (false, eval e X.env) :: starEach [] X.env := by rfl)
    (h1 : attributeBase (.Name x p) "extend" X.env (eval (.Name x p) X.env) = eval (.Name x p) X.env := by rfl)
    (h2 : ((((backTo cpos (starEach [e] X.env)).all fun x => !x.1) && (backToKw cpos (keywordEach [] X.env)).all fun x => x.1.isSome) && decide (([e].length + ([] : List Keyword).length + if ([] : List Keyword).isEmpty = true then 0 else 1) < 30)) = true := by rfl)
    (h4 : (apos.endLine == cpos.line) = true := by rfl) (h5 : ((backTo cpos (starEach [] X.env)).any fun x => x.1) = false := by rfl) : RS M (.Expr (.Call (.Attribute (.Name x p) "extend" apos) [e] [] cpos) pos :: rest) ρ emb emc (extW f xs k) := ⟨fun t P D z n =>
  jss_cons (js_extend i hr ((ha.run t _ z).imp fun y t1 z1 => by
    cases y <;> first | exact z1.elim | skip
    rename_i ys
    exact ⟨ys, rfl, z1.1, (hk ys).run t1 P D z1.2 n⟩) hN hv hd hcd hs h3 h1 h2 h4 h5)⟩
end
end
/-! ### defs -/
section
variable {X : Cx} {Wo : WO} {M : Md X.K Wo} {ρ : List B} {body : List Stmt}
theorem fn_run (ρ : List B) {m : W (Out Empty Empty)} {t : Rs} {Q : B → Rs → Prop} (h : RS M body ρ nul nul m) (z : fnW m t Q) : JSs M body ρ t { nx := fun _ t' => Q (.d .none) t', rt := Q } := h.run t _ _ z fun o t' w => by
  cases o with
  | rt b => exact w
  | nx s => exact nomatch s
  | ct s => exact nomatch s
  | bk s => exact nomatch s
theorem fn_runU (ρ : List B) {emb : Unit → List B} {m : W (Out Unit Empty)} {t : Rs} {Q : B → Rs → Prop} (h : RS M body ρ emb nul m) (z : fnU m t Q) : JSs M body ρ t { nx := fun _ t' => Q (.d .none) t', rt := Q } := h.run t _ _ z fun o t' w => by
  cases o with
  | rt b => exact w
  | nx s => exact w
  | ct s => exact nomatch s
  | bk s => exact nomatch s
end
def arg1 (k : PyData → W B) : List B → W B
  | [.d a] => k a
  | _ => bad
def arg2 (k : PyData → PyData → W B) : List B → W B
  | [.d a, .d b] => k a b
  | _ => bad
def arg3 (k : PyData → PyData → PyData → W B) : List B → W B
  | [.d a, .d b, .d c] => k a b c
  | _ => bad
def arg4 (k : PyData → PyData → PyData → PyData → W B) : List B → W B
  | [.d a, .d b, .d c, .d d] => k a b c d
  | _ => bad
def arg5 (k : PyData → PyData → PyData → PyData → PyData → W B) : List B → W B
  | [.d a, .d b, .d c, .d d, .d e] => k a b c d e
  | _ => bad
def argR0 (k : W B) : List B → W B
  | [.rd] => k
  | _ => bad
def argR1 (k : PyData → W B) : List B → W B
  | [.rd, .d a] => k a
  | _ => bad
def argR2 (k : PyData → PyData → W B) : List B → W B
  | [.rd, .d a, .d b] => k a b
  | _ => bad
def argR3 (k : PyData → PyData → PyData → W B) : List B → W B
  | [.rd, .d a, .d b, .d c] => k a b c
  | _ => bad
def argR4 (k : PyData → PyData → PyData → PyData → W B) : List B → W B
  | [.rd, .d a, .d b, .d c, .d d] => k a b c d
  | _ => bad
section
variable {bs : List B} {t : Rs} {Q : B → Rs → Prop}
theorem arg1_of {k} (h : arg1 k bs t Q) : ∃ a, bs = [.d a] ∧ k a t Q := by unfold arg1 at h; split at h <;> first | exact ⟨_, rfl, h⟩ | exact h.elim
theorem arg2_of {k} (h : arg2 k bs t Q) : ∃ a b, bs = [.d a, .d b] ∧ k a b t Q := by unfold arg2 at h; split at h <;> first | exact ⟨_, _, rfl, h⟩ | exact h.elim
theorem arg3_of {k} (h : arg3 k bs t Q) : ∃ a b c, bs = [.d a, .d b, .d c] ∧ k a b c t Q := by unfold arg3 at h; split at h <;> first | exact ⟨_, _, _, rfl, h⟩ | exact h.elim
theorem arg4_of {k} (h : arg4 k bs t Q) : ∃ a b c d, bs = [.d a, .d b, .d c, .d d] ∧ k a b c d t Q := by unfold arg4 at h; split at h <;> first | exact ⟨_, _, _, _, rfl, h⟩ | exact h.elim
theorem arg5_of {k} (h : arg5 k bs t Q) : ∃ a b c d e, bs = [.d a, .d b, .d c, .d d, .d e] ∧ k a b c d e t Q := by unfold arg5 at h; split at h <;> first | exact ⟨_, _, _, _, _, rfl, h⟩ | exact h.elim
theorem argR0_of {k} (h : argR0 k bs t Q) : bs = [.rd] ∧ k t Q := by unfold argR0 at h; split at h <;> first | exact ⟨rfl, h⟩ | exact h.elim
theorem argR1_of {k} (h : argR1 k bs t Q) : ∃ a, bs = [.rd, .d a] ∧ k a t Q := by unfold argR1 at h; split at h <;> first | exact ⟨_, rfl, h⟩ | exact h.elim
theorem argR2_of {k} (h : argR2 k bs t Q) : ∃ a b, bs = [.rd, .d a, .d b] ∧ k a b t Q := by unfold argR2 at h; split at h <;> first | exact ⟨_, _, rfl, h⟩ | exact h.elim
theorem argR3_of {k} (h : argR3 k bs t Q) : ∃ a b c, bs = [.rd, .d a, .d b, .d c] ∧ k a b c t Q := by unfold argR3 at h; split at h <;> first | exact ⟨_, _, _, rfl, h⟩ | exact h.elim
theorem argR4_of {k} (h : argR4 k bs t Q) : ∃ a b c d, bs = [.rd, .d a, .d b, .d c, .d d] ∧ k a b c d t Q := by unfold argR4 at h; split at h <;> first | exact ⟨_, _, _, _, rfl, h⟩ | exact h.elim
end
end Dw
end
section
set_option maxRecDepth 100000
set_option maxHeartbeats 4000000
namespace Dz
open PySem PySem.Spec PyProof.Rows L2 Dl
/-- what is no part of the zip -/
theorem far_of {b n c : Nat} (h : c ∉ List.range' b (n + 3)) : c < b ∨ b + n + 2 < c := by
  rw [List.mem_range'_1] at h
  omega
theorem in_of {b n c : Nat} (h : c ∈ List.range' b (n + 3)) : b ≤ c ∧ c < b + (n + 3) := List.mem_range'_1.mp h
theorem in_cases {b n c : Nat} (h1 : b ≤ c) (h2 : c < b + (n + 3)) : c = b + n + 2 ∨ c = b + n + 1 ∨ c = b + n ∨ ∃ k, k < n ∧ c = b + k := by
  by_cases h : c < b + n
  · exact .inr (.inr (.inr ⟨c - b, by omega, by omega⟩))
  · omega
theorem lt_of_in {b n c z : Nat} (h : c < b + (n + 3)) (h2 : b + n + 2 < z) : c < z := by omega
/-- the walk over zip of the tuples ls, which hold rows, of m items each -/
def Itz (K : PySem.W.Frag) (ls : List Addr) (rows : List (List V)) (m : Nat) : It :=
  ⟨fun i H => i < m ∧ ∀ (k : Nat) (l : Addr) (r : List V), ls[k]? = some l → rows[k]? = some r → SqT K H l r,
    fun i H v H' => ∃ T, v = .ref T ∧ H T = none ∧ H' = upd H T (.tup (rows.map fun r => r.getD i .non)),
    fun i H => m ≤ i ∧ ∀ (k : Nat) (l : Addr) (r : List V), ls[k]? = some l → rows[k]? = some r → SqT K H l r⟩
theorem vals_mk : ∀ (rows : List V) (us : List Value), rows.length = us.length → (∀ (k : Nat) (r : V) (u : Value), rows[k]? = some r → us[k]? = some u → RelV r u) → Vals rows us
  | [], [], _, _ => .nil
  | r :: rs, u :: us, h, f => .cons (f 0 r u rfl rfl) (vals_mk rs us (by simpa using h) fun k r u a b => f (k + 1) r u a b)
  | [], u :: us, h, _ => by cases h
  | r :: rs, [], h, _ => by cases h
theorem turn_zn {P : Program} {w : World} {K : PySem.W.Frag} {x : Str} {tp : Pos} {b m : Nat} {ls : List Addr} {rows : List (List V)} (pos : 0 < ls.length) (few : ls.length ≤ 9) (hr : rows.length = ls.length) (hm : ∀ r ∈ rows, r.length = m) (lt : ∀ l ∈ ls, l < b) :
    Turn P w K (.Name x tp) (Itz K ls rows m) (List.range' b (ls.length + 3)) (b + ls.length + 2) (fun i h => Zs h b ls i) where
  mem := List.mem_range'_1.mpr ⟨by omega, by omega⟩
  obj := fun i h S c hc => by
    obtain ⟨c1, c2⟩ := in_of hc
    obtain ⟨f0, f1, hz, _⟩ := S.z
    obtain ⟨vs, _, hto⟩ := S.to
    rcases in_cases c1 c2 with e | e | e | ⟨k, hk, e⟩
    · subst e
      exact ⟨_, hz, fun v q => nomatch q⟩
    · subst e
      exact ⟨_, hto, fun v q => nomatch q⟩
    · subst e
      exact ⟨_, S.ti, fun v q => nomatch q⟩
    · subst e
      obtain ⟨o, ho, _, hd⟩ := S.it k _ (List.getElem?_eq_getElem hk)
      exact ⟨o, ho, fun v q => by rw [hd] at q; cases q⟩
  keep := fun i h h' S k => by
    obtain ⟨f0, f1, hz, hf⟩ := S.z
    obtain ⟨vs, hvs, hto⟩ := S.to
    have inn : ∀ c, b ≤ c → c < b + (ls.length + 3) → c ∈ List.range' b (ls.length + 3) := fun c p q => List.mem_range'_1.mpr ⟨p, q⟩
    exact ⟨⟨f0, f1, k _ (inn _ (by omega) (by omega)) _ hz, hf⟩, k _ (inn _ (by omega) (by omega)) _ S.ti, ⟨vs, hvs, k _ (inn _ (by omega) (by omega)) _ hto⟩, fun j l ej => by
      have hj : j < ls.length := (List.getElem?_eq_some_iff.mp ej).1
      exact (S.it j l ej).at fun o e => k _ (inn _ (by omega) (by omega)) o e⟩
  item := by
    intro X hP hw hK hc i pins s σ H E I hf S hg
    subst hP hw hK
    obtain ⟨him, hsq⟩ := hg
    have tups : ∀ k : Nat, ∃ its : List Value, ∀ (l : Addr) (r : List V), ls[k]? = some l → rows[k]? = some r → Vals r its ∧ s.heap.IsTuple l its.toArray := fun k => by
      cases el : ls[k]? with
      | none => exact ⟨[], fun l r h => by cases h⟩
      | some l =>
        cases er : rows[k]? with
        | none => exact ⟨[], fun l r _ h => by cases h⟩
        | some r =>
          obtain ⟨its, rv, p, _⟩ := I.tuple (hsq k l r el er)
          exact ⟨its, fun l' r' h1 h2 => by cases h1; cases h2; exact ⟨rv, p⟩⟩
    obtain ⟨its, hits⟩ := Classical.axiomOfChoice tups
    have rowAt : ∀ k, k < ls.length → ∃ l r, ls[k]? = some l ∧ rows[k]? = some r ∧ r.length = m := fun k hk => by
      have hk2 : k < rows.length := by omega
      exact ⟨ls[k], rows[k], List.getElem?_eq_getElem hk, List.getElem?_eq_getElem hk2, hm _ (List.getElem_mem hk2)⟩
    have hx : ∀ k : Nat, k < ls.length → ∃ u, ((List.range ls.length).map fun k => (its k).getD i .none)[k]? = some u ∧ (its k).toArray[i]? = some u := fun k hk => by
      obtain ⟨l, r, el, er, hrm⟩ := rowAt k hk
      obtain ⟨rv, _⟩ := hits k l r el er
      have hlen : i < (its k).length := by rw [← rv.length, hrm]; exact him
      refine ⟨(its k)[i], ?_, by simp [hlen]⟩
      simp [hk, hlen]
    have hzl : b + ls.length + 2 < s.heap.objs.size := by
      obtain ⟨f0, f1, hz, _⟩ := S.z
      exact Heap.lt_size hz
    refine next_item (arr := fun k => (its k).toArray) (xs := (List.range ls.length).map fun k => (its k).getD i .none) S pos (Nat.le_trans few (by decide)) (fun k l el => lt l (List.mem_of_getElem? el)) (fun k l el => ?_) hx (by simp) fun h' S' hT hsz hfar => ?_
    · have hk : k < ls.length := (List.getElem?_eq_some_iff.mp el).1
      obtain ⟨l', r, el', er, _⟩ := rowAt k hk
      rw [el] at el'
      cases el'
      exact (hits k l r el er).2
    have vals : Vals (rows.map fun r => r.getD i .non) ((List.range ls.length).map fun k => (its k).getD i .none) := vals_mk _ _ (by simp [hr]) fun k v u ev eu => by
      rw [List.getElem?_map] at ev eu
      have hk : k < ls.length := by
        by_cases q : k < ls.length
        · exact q
        · rw [List.getElem?_eq_none (by simp; omega)] at eu
          cases eu
      obtain ⟨l, r, el, er, hrm⟩ := rowAt k hk
      obtain ⟨rv, _⟩ := hits k l r el er
      rw [er] at ev
      rw [List.getElem?_range hk] at eu
      cases ev
      cases eu
      obtain ⟨z, ez⟩ : ∃ z, r[i]? = some z := ⟨r[i]'(by rw [hrm]; exact him), List.getElem?_eq_getElem _⟩
      obtain ⟨y, ey, ry⟩ := rv.get ez
      simp only [List.getD, ez, ey, Option.getD_some]
      exact ry
    have new : ObjOk X.prog X.w (upd H s.heap.objs.size (.tup (rows.map fun r => r.getD i .non))) h' s.heap.objs.size (.tup (rows.map fun r => r.getD i .non)) :=
      ⟨by rw [List.length_map, hr, sizeLine_eq]; omega, _, vals, ⟨_, hT, rfl, _, rfl⟩⟩
    have I1 : Inv X pins σ (upd H s.heap.objs.size (.tup (rows.map fun r => r.getD i .non))) { s with heap := h' } :=
      I.turnedNew (t' := s.toks) (ch := List.range' b (ls.length + 3)) (fun c o hb q => hfar c o (far_of hb) q) hf (Nat.le_refl _) new
    refine ⟨_, rfl, wpAny_pure ⟨.ref s.heap.objs.size, _, I1, rfl, ⟨_, rfl, I.hok.fresh (Nat.le_refl _), rfl⟩, S', fun c hcm => ?_⟩⟩
    have hlt : c < s.heap.objs.size := lt_of_in (in_of hcm).2 hzl
    rw [upd_ne (Nat.ne_of_lt hlt)]
    exact (hf c hcm).1
  done := by
    intro X hP hw hK hc i pins s σ H E I hf S hg
    subst hP hw hK
    obtain ⟨him, hsq⟩ := hg
    have hk2 : 0 < rows.length := by omega
    have el : ls[0]? = some ls[0] := List.getElem?_eq_getElem pos
    have er : rows[0]? = some rows[0] := List.getElem?_eq_getElem hk2
    obtain ⟨its, rv, p, _⟩ := I.tuple (hsq 0 _ _ el er)
    have hl0 : its.length = m := by rw [← rv.length]; exact hm _ (List.getElem_mem hk2)
    refine next_end (I.ok.hd hc) S el (show s.heap.IsTuple _ its.toArray from p) (by simp; omega) fun h' hfar => ⟨rfl, I.turnedL (t' := s.toks) (ch := List.range' b (ls.length + 3)) (fun c o hb q => hfar c o (far_of hb) q) hf⟩
  self := fun A i s Q E S h => iter_zn S h
end Dz
end
section
set_option maxRecDepth 100000
set_option maxHeartbeats 4000000
namespace Dz
open PySem PySem.Spec PyProof.Rows L2 Dl Dw
/-! ### zip(x, *ys) walked -/
theorem callWith_typeS {M : Model} {A : Around} {E : Value → Shared → Prop} {s : Shared} {pos : Pos} {T : String} {args : List (Bool × Sem Value)} {Q : Value → Shared → Prop} (hst : args.any (·.1) = true)
    (h : wpAny M A (evalArgs (.type T) true args []) (fun a z => wpAny M A (call (.type T) a.pos a.kw) Q E z) E s) : wpAny M A (callWith pos (.type T) [] args []) Q E s := by
  unfold callWith
  refine wpAny_bind (wpAny_holding (wpAny_mono h (fun a z hz => wpAny_bind (wpAny_standAt ?_)) fun _ _ q => q))
  simp only [hst, Bool.true_or]
  refine wpAny_bind (wpAny_pure ?_)
  refine wpAny_bind (wpAny_operateT (wpAny_mono hz (fun r y hr => ?_) fun _ _ q => q))
  exact wpAny_bind (wpAny_holding (wpAny_point (wpAny_pure hr)))
def iZipN (K : PySem.W.Frag) (ta : TA) : TI := fun σ H R => ta σ H fun vs H1 => ∃ (ls : List Addr) (rows : List (List V)) (m : Nat), vs = ls.map V.ref ∧ 0 < ls.length ∧ ls.length ≤ 9 ∧ rows.length = ls.length ∧ (∀ r ∈ rows, r.length = m) ∧
  (∀ (k : Nat) (l : Addr) (r : List V), ls[k]? = some l → rows[k]? = some r → SqT K H1 l r) ∧ R (Itz K ls rows m) H1
theorem vals_refs : ∀ {ls : List Addr} {us : List Value}, Vals (ls.map V.ref) us → us = ls.map Value.ref
  | [], _, .nil => rfl
  | l :: ls, _, .cons r h => by
    obtain rfl := (show _ = Value.ref l from r)
    rw [List.map_cons, vals_refs h]
theorem pi_zipS {X : Cx} {e : Expr} {es : List Expr} {ta : TA} {x : Str} {p tp pos : Pos} (hg : Gl X "zip") (hm : X.mg "zip" = none) (ha : PA X (e :: es) ta)
    (hs : starEach (e :: es) X.env = (false, eval e X.env) :: starEach es X.env := by rfl) (hst : (backTo pos (starEach es X.env)).any (·.1) = true := by rfl) :
    PI X (.Name x tp) (.Call (.Name "zip" p) (e :: es) [] pos) (iZipN X.K ta) := by
  refine ⟨fun pins s σ H R I h => ?_⟩
  have h1 := thn (ha.run pos pins s σ H _ I h) fun us s1 (z : AP X pins σ _ us s1) => z
  refine Call_ (ld_blt I hg hm PyProof.Rows.boot_zip ?_)
  rw [hs] at h1 ⊢
  refine callWith_typeS (by show (false || (backTo pos (starEach es X.env)).any (·.1)) = true; rw [hst]; rfl) (PySem.Calls.evalArgs_plain (wpAny_mono h1 (fun us s1 z => ?_) fun _ _ q => q))
  obtain ⟨vs, H1, I1, r1, ls, rows, m, ev, pos0, few, hr, hm2, hsq, q⟩ := z
  subst ev
  obtain rfl := vals_refs r1
  have rowAt : ∀ l ∈ ls, ∃ its, s1.heap.IsTuple l its ∧ l < s1.heap.objs.size := fun l hl => by
    obtain ⟨k, hk, e⟩ := List.getElem_of_mem hl
    have hk2 : k < rows.length := by omega
    obtain ⟨its, rv, p1, _⟩ := I1.tuple (hsq k l rows[k] (by rw [List.getElem?_eq_getElem hk, e]) (List.getElem?_eq_getElem hk2))
    obtain ⟨o, ho, _⟩ := id p1
    exact ⟨its.toArray, p1, Heap.lt_size ho⟩
  refine call_zn few (fun l hl => ⟨_, (rowAt l hl).choose_spec.1⟩) fun h' Z sz hk => iter_zn Z ?_
  have I2 : Inv X pins σ H1 { s1 with heap := h' } := I1.kept (t' := s1.toks) hk
  refine ⟨_, List.range' s1.heap.objs.size (ls.length + 3), _, _, H1, rfl, I2, turn_zn pos0 few hr hm2 fun l hl => (rowAt l hl).choose_spec.2, Z, fun c hc => ?_, q⟩
  have hle : s1.heap.objs.size ≤ c := (in_of hc).1
  exact I1.fpOk hle (I1.hok.fresh hle)
/-- the columns of rows of data -/
def cols (rows : List (List PyData)) (m : Nat) : List PyData := (List.range m).map fun i => .tuple (rows.map fun r => r.getD i .none)
theorem deAll_col {K : PySem.W.Frag} {G : Hp} {m i : Nat} (hi : i < m) : ∀ {vrows : List (List V)} {rows : List (List PyData)}, vrows.length = rows.length → (∀ (k : Nat) (v : List V) (r : List PyData), vrows[k]? = some v → rows[k]? = some r → DeAll K G v r ∧ r.length = m) →
    DeAll K G (vrows.map fun r => r.getD i .non) (rows.map fun r => r.getD i .none)
  | [], [], _, _ => .nil
  | v :: vs, r :: rs, h, f => by
    obtain ⟨d, hl⟩ := f 0 v r rfl rfl
    obtain ⟨z, ez⟩ : ∃ z, r[i]? = some z := ⟨r[i]'(by omega), List.getElem?_eq_getElem _⟩
    obtain ⟨u, eu, du⟩ := d.at_ ez
    refine .cons ?_ (deAll_col hi (by simpa using h) fun k v' r' a b => f (k + 1) v' r' a b)
    simp only [List.getD, ez, eu, Option.getD_some]
    exact du
  | [], r :: rs, h, _ => by cases h
  | v :: vs, [], h, _ => by cases h
theorem wk_zn {K : PySem.W.Frag} {Wo : WO} {M : Md K Wo} {G0 : Hp} {ls : List Addr} {vrows : List (List V)} {rows : List (List PyData)} {m : Nat} (hv : vrows.length = rows.length) (hl : ls.length = rows.length)
    (h : ∀ (k : Nat) (l : Addr) (v : List V) (r : List PyData), ls[k]? = some l → vrows[k]? = some v → rows[k]? = some r → SqT K G0 l v ∧ DeAll K G0 v r ∧ r.length = m) : Wk M G0 (Itz K ls vrows m) (cols rows m) := by
  have row : ∀ k l v, ls[k]? = some l → vrows[k]? = some v → ∃ r, rows[k]? = some r := fun k l v e1 e2 => by
    have : k < vrows.length := (List.getElem?_eq_some_iff.mp e2).1
    exact ⟨rows[k]'(by omega), List.getElem?_eq_getElem _⟩
  have len : (cols rows m).length = m := by simp [cols]
  refine ⟨fun i t G H e k hi => ⟨by rw [len] at hi; exact hi, fun j l v e1 e2 => ?_⟩, fun i t G H e k hi => ⟨by rw [len] at hi; exact hi, fun j l v e1 e2 => ?_⟩, fun i t G H x H' e k y hi => ?_⟩
  · obtain ⟨r, er⟩ := row j l v e1 e2
    exact sqt_up (e.trans k.sub) (h j l v r e1 e2 er).1
  · obtain ⟨r, er⟩ := row j l v e1 e2
    exact sqt_up (e.trans k.sub) (h j l v r e1 e2 er).1
  · rw [len] at hi
    obtain ⟨T, rfl, hT, rfl⟩ := y
    have st := k.lay (o := .tup (vrows.map fun r => r.getD i .non)) hT
    refine ⟨_, .tuple (rows.map fun r => r.getD i .none), st, by simp [cols, hi], .tup (.inl (.inl upd_same)) (deAll_col hi hv fun k' v r e1 e2 => ?_)⟩
    have hk : k' < ls.length := by
      have := (List.getElem?_eq_some_iff.mp e2).1
      omega
    obtain ⟨_, d, hlr⟩ := h k' ls[k'] v r (List.getElem?_eq_getElem hk) e1 e2
    exact ⟨DeAll.up (e.trans st.gg) _ _ d, hlr⟩
/-- rows of data -/
def rowsOf : List PyData → Option (List (List PyData))
  | [] => some []
  | .tuple r :: q => (rowsOf q).map (r :: ·)
  | _ => none
theorem rowsOf_some : ∀ {xs : List PyData} {rs : List (List PyData)}, rowsOf xs = some rs → xs = rs.map PyData.tuple
  | [], rs, h => by cases h; rfl
  | x :: r, rs, h => by
    cases x with
    | tuple b =>
      rw [rowsOf] at h
      cases e : rowsOf r with
      | none => rw [e] at h; cases h
      | some cs =>
        rw [e] at h
        cases h
        rw [List.map_cons, ← rowsOf_some e]
    | _ => cases h
theorem rowsOf_map : ∀ rs : List (List PyData), rowsOf (rs.map PyData.tuple) = some rs
  | [] => rfl
  | r :: rs => by rw [List.map_cons, rowsOf, rowsOf_map]; rfl
/-- zip(x, *ys): the columns -/
def zipS (f g : W PyData) : W (List PyData) := bnd f fun x => bnd g fun y => match x, y with
  | .tuple r, .tuple ys => match rowsOf ys with
    | some rs => need (rs.length ≤ 8 ∧ ∀ q ∈ rs, q.length = r.length) (Dw.ret (cols (r :: rs) r.length))
    | none => bad
  | _, _ => bad
section
variable {X : Cx} {Wo : WO} {M : Md X.K Wo} {ρ : List B} {a b : Expr} {pos p p2 tp : Pos} {f g : W PyData} {kk : Nat} {x : Str}
theorem rows_at {K : PySem.W.Frag} {G : Hp} : ∀ {vs : List V} {rs : List (List PyData)}, DeAll K G vs (rs.map PyData.tuple) → ∃ (ls : List Addr) (vr : List (List V)), vs = ls.map V.ref ∧ ls.length = rs.length ∧ vr.length = rs.length ∧ ∀ (k : Nat) (l : Addr) (v : List V) (r : List PyData), ls[k]? = some l → vr[k]? = some v → rs[k]? = some r → SqT K G l v ∧ DeAll K G v r
  | vs, [], h => by
    cases h
    exact ⟨[], [], rfl, rfl, rfl, fun k l v r e => by cases e⟩
  | vs, q :: rs, h => by
    rw [List.map_cons] at h
    cases h with
    | cons d h2 =>
      obtain ⟨a, ws, rfl, st, da⟩ := d.tupE
      obtain ⟨ls, vr, e1, e2, e3, e4⟩ := rows_at h2
      exact ⟨a :: ls, ws :: vr, by rw [List.map_cons, e1], by rw [List.length_cons, List.length_cons, e2], by rw [List.length_cons, List.length_cons, e3], fun k l v r h1 h2 h3 => by
        cases k with
        | zero =>
          cases h1
          cases h2
          cases h3
          exact ⟨st, da⟩
        | succ k => exact e4 k l v r h1 h2 h3⟩
theorem ri_zipS (E : Ev X kk) (ha : RD M a ρ f) (hb : RD M b ρ g) (hg : Gl X "zip" := by rfl) (hs : starEach [a, .Starred b p2] X.env = (false, eval a X.env) :: starEach [.Starred b p2] X.env := by rfl) (hst : (backTo pos (starEach [.Starred b p2] X.env)).any (·.1) = true := by rfl)
    (hs2 : starEach (.Starred b p2 :: []) X.env = (true, eval b X.env) :: starEach [] X.env := by rfl) : RI M (.Name x tp) (.Call (.Name "zip" p) [a, .Starred b p2] [] pos) ρ (zipS f g) := ⟨fun t P z σ G H S R r =>
  TiOf.of (pi_zipS hg E.bu.zip (pa_cons peT (StX.pa_star peT pa_nil hs2) hs) hs hst) ((ha.run t _ z) σ G H S _ fun G1 H1 v y t1 s1 d1 z1 => (hb.run t1 _ z1) σ G1 H1 (S.step s1) _ fun G2 H2 u w t2 s2 d2 z2 => by
    cases y <;> first | exact z2.elim | skip
    cases w <;> first | exact z2.elim | skip
    rename_i row ys
    have z3 : (match rowsOf ys with | some rs => need (rs.length ≤ 8 ∧ ∀ q ∈ rs, q.length = row.length) (Dw.ret (cols (row :: rs) row.length)) | none => bad) t2 P := z2
    cases e : rowsOf ys with
    | none => rw [e] at z3; exact z3.elim
    | some rs =>
      rw [e] at z3
      obtain rfl := rowsOf_some e
      obtain ⟨⟨few, hq⟩, zP⟩ := z3
      have k2 := ((S.step s1).step s2).ok
      obtain ⟨a2, ws, rfl, st, da⟩ := d2.tupE
      have d1' := De.up s2.gg _ _ d1
      obtain ⟨a1, w1, rfl, st1, da1⟩ := d1'.tupE
      obtain ⟨ls, vr, e1, e2, e3, e4⟩ := rows_at da
      refine ⟨a2, ws, rfl, .inl (sqt_up k2.sub st), ?_⟩
      have wk : Wk M G2 (Itz X.K (a1 :: ls) (w1 :: vr) row.length) (cols (row :: rs) row.length) := wk_zn (by simp [e3]) (by simp [e2]) fun k l v q h1 h2 h3 => by
        cases k with
        | zero =>
          cases h1
          cases h2
          cases h3
          exact ⟨st1, da1, rfl⟩
        | succ k =>
          have := e4 k l v q h1 h2 h3
          exact ⟨this.1, this.2, hq q (List.mem_of_getElem? h3)⟩
      refine ⟨a1 :: ls, w1 :: vr, row.length, by rw [e1]; simp, by simp, by simp; omega, by simp; omega, fun q hq2 => ?_, fun k l q h1 h2 => ?_, r G2 H2 _ _ t2 (s1.trans s2) wk zP⟩
      · rcases List.mem_cons.mp hq2 with rfl | hm
        · exact da1.length
        · obtain ⟨k, hk, ek⟩ := List.getElem_of_mem hm
          have hk2 : k < rs.length := by omega
          have hk3 : k < ls.length := by omega
          have := (e4 k ls[k] vr[k] rs[k] (List.getElem?_eq_getElem hk3) (List.getElem?_eq_getElem hk) (List.getElem?_eq_getElem hk2)).2.length
          rw [← ek, this]
          exact hq _ (List.getElem_mem hk2)
      · cases k with
        | zero =>
          cases h1
          cases h2
          exact sqt_up k2.sub st1
        | succ k =>
          have hk2 : k < rs.length := by
            have := (List.getElem?_eq_some_iff.mp h2).1
            simp at this
            omega
          exact sqt_up k2.sub (e4 k l q rs[k] h1 h2 (List.getElem?_eq_getElem hk2)).1)⟩
end
end Dz
end
section
set_option maxRecDepth 100000
set_option maxHeartbeats 4000000
namespace Dz
open PySem PySem.Spec PyProof.Rows L2 Dl Dw
/-! ### sum of a tuple of ints -/
def rSumT (K : PySem.W.Frag) : List V → Hp → VK → Prop := fun vs H Q => ∃ (a : Addr) (ns : List Int), vs = [V.ref a] ∧ SqT K H a (ns.map V.int) ∧ Q (.int ns.sum) H
theorem cr_sumT {X : Cx} (hc : X.calm = true) : CallR X (.builtin "sum") (rSumT X.K) := by
  intro pins s σ H vs us Q I r h
  obtain ⟨a, ns, rfl, hs, q⟩ := h
  obtain ⟨its, rv, hl, _⟩ := I.tuple hs
  rw [Vals.ref1 r]
  obtain ⟨xs, hx⟩ := rv.ints.allInts.items
  have hn : numsOf its.toArray.toList = ns := by rw [show its.toArray.toList = its from rfl, rv.ints.numsOf]
  rw [hx] at hn
  rw [nums_intItems] at hn
  refine PySem.W.ktm_sumG (I.ok.hd hc) (xs := xs) (by rw [← hx]; exact hl) fun h' tk t' hk => ?_
  rw [preSum_eq, List.take_of_length_le (by simp), hn]
  exact ⟨.int _, H, I.kept hk, ⟨_, rfl⟩, q⟩
def intsOf : List PyData → Option (List Int)
  | [] => some []
  | .int b :: r => (intsOf r).map (b :: ·)
  | _ => none
theorem intsOf_map : ∀ bs : List Int, intsOf (bs.map PyData.int) = some bs
  | [] => rfl
  | b :: bs => by rw [List.map_cons, intsOf, intsOf_map]; rfl
theorem intsOf_some : ∀ {xs : List PyData} {bs : List Int}, intsOf xs = some bs → xs = bs.map PyData.int
  | [], bs, h => by cases h; rfl
  | x :: r, bs, h => by
    cases x with
    | int b =>
      rw [intsOf] at h
      cases e : intsOf r with
      | none => rw [e] at h; cases h
      | some cs =>
        rw [e] at h
        cases h
        rw [List.map_cons, ← intsOf_some e]
    | _ => cases h
def osumT (x : PyData) : W PyData := match x with
  | .tuple xs => match intsOf xs with
    | some ns => Dw.ret (.int ns.sum)
    | none => bad
  | _ => bad
theorem boot_sum' : bootBuiltins (Str.ofString "sum") = some (.builtin "sum") := by decide +kernel
section
variable {X : Cx} {Wo : WO} {M : Md X.K Wo} {ρ : List B} {a b e : Expr} {pos p cpos apos : Pos} {f g : W PyData} {lf : W (List PyData)} {kk : Nat} {τ σ : Type} {emb : τ → List B} {emc : σ → List B} {rest : List Stmt}
theorem rd_sumT (E : Ev X kk) (ha : RD M a ρ f) (hs : starEach [a] X.env = (false, eval a X.env) :: starEach [] X.env := by rfl) (hg : Gl X (Str.ofString "sum") := by rfl) : RD M (.Call (.Name (Str.ofString "sum") p) [a] [] pos) ρ (op1 osumT f) := ⟨fun t P z =>
  jd_callB (cr_sumT E.calm) hg E.bu.sum boot_sum' (ja_one (ha.run t _ z) (fun x t1 z1 => by
    cases x <;> first | exact z1.elim | skip
    rename_i xs
    have z2 : (match intsOf xs with | some ns => Dw.ret (PyData.int ns.sum) | none => bad) t1 P := z1
    cases e : intsOf xs with
    | none => rw [e] at z2; exact z2.elim
    | some ns =>
      rw [e] at z2
      obtain rfl := intsOf_some e
      intro G H vs k ar Q q
      obtain ⟨v, rfl, d⟩ := arg1 ar
      obtain ⟨a1, ws, rfl, st, da⟩ := d.tupE
      exact ⟨a1, ns, rfl, by rw [← da.ints]; exact sqt_up k.sub st, keep k q (.int _) z2⟩) hs) (by decide) (by decide) hs rfl⟩
/-! ### a tuple many times -/
def rRep1 (K : PySem.W.Frag) : R2 := fun x y H Q => ∃ l xs, x = .ref l ∧ y = .int 1 ∧ SqT K H l xs ∧ xs ≠ [] ∧ Q (.ref l) H
theorem mul_one (l : Addr) (items : Array Value) (n : Nat) (dd : Option Addr) (sl : Array (Option Value)) (u : Tok) :
    Meets (Builtin.«tuple.__mul__» ⟨[.ref l, .int 1 u], []⟩) (fun _ R s => s.heap.get? l = some { cls := .type "tuple", dict := dd, data := .seq items n, slots := sl } ∧ R (.ok (.ret (Value.ref l))) s) :=
  .of_wp fun prog w A R s h => by
    obtain ⟨hp, g, d, tk, os⟩ := s
    obtain ⟨hl, h⟩ := h
    have f1 := AutoSeq1.idx_int
    wp_walk using wpAny_loadPart' hl
    exact ⟨_, rfl, h⟩
theorem op_rep1 : OpR X (binaryOp .Mult) (rRep1 X.K) := by
  intro pins s σ H x y v u Q I rx ry h
  obtain ⟨l, xs, rfl, rfl, hT, hne, q⟩ := h
  cases rx
  obtain ⟨t, rfl⟩ := ry
  obtain ⟨its, r, ⟨⟨cls, dd, data, sl⟩, ho, hc, n, hd⟩, hs⟩ := I.tuple hT
  simp only at hc hd
  subst hc hd
  refine wpAny_binaryOp_repeat_ref (T := "tuple") (U := "int") (by decide) ⟨_, ho, rfl⟩ (fun z => typeIs_int z 1 t) noFill_tuple_mul F.fills_int_mul F.slot_int_rmul repeat_tuple F.slot_int_index.lookup
    (call_meets F.slot_int_rmul (typeIs_int s 1 t) F.entry_int_rmul (F.args_int_rmul_2 _ _) (int_rmul_tuple 1 t l its.toArray n dd sl)
      ⟨ho, rfl, ⟨_, ho, rfl⟩, call_meets F.slot_tuple_mul ⟨_, ho, rfl⟩ F.entry_tuple_mul (F.args_tuple_mul_2 _ _) (mul_one l its.toArray n dd sl t) ⟨ho, ?_⟩⟩)
  exact ⟨.ref l, H, I, rfl, q⟩
def orepT : PyData → PyData → W PyData
  | .tuple xs, .int k => need (xs ≠ [] ∧ 1 ≤ k ∧ k ≤ 1000 ∧ xs.length ≤ 1000) (Dw.ret (.tuple (List.replicate k.toNat xs).flatten))
  | _, _ => bad
theorem DeAll.flat {K : PySem.W.Frag} {G : Hp} {vs : List V} {ds : List PyData} (h : DeAll K G vs ds) : ∀ n : Nat, DeAll K G (List.replicate n vs).flatten (List.replicate n ds).flatten
  | 0 => .nil
  | n + 1 => by
    rw [List.replicate_succ, List.replicate_succ, List.flatten_cons, List.flatten_cons]
    exact h.app (DeAll.flat h n)
theorem rd_repT (ha : RD M a ρ f) (hb : RD M b ρ g) : RD M (.BinOp a .Mult b pos) ρ (op2 orepT f g) := rd_bin (opr_or op_rep1 op_repT) (Ob.or fun x y t P z => by
  cases x <;> first | exact z.elim | skip
  cases y <;> first | exact z.elim | skip
  rename_i xs k
  obtain ⟨⟨hne, h1, h2, hz⟩, zP⟩ := z
  by_cases hk : k = 1
  · subst hk
    refine .inl fun G H v w o hv hw Q q => ?_
    obtain ⟨a1, vs, rfl, st, da⟩ := hv.tupE
    refine ⟨a1, vs, rfl, hw.intE, sqt_up o.sub st, fun e => hne (List.eq_nil_of_length_eq_zero (by rw [← da.length, e]; rfl)), ?_⟩
    have e1 : (List.replicate (1 : Int).toNat xs).flatten = xs := by simp
    rw [e1] at zP
    exact keep o q hv zP
  · refine .inr fun G H v w o hv hw Q q => ?_
    obtain ⟨a1, vs, rfl, st, da⟩ := hv.tupE
    refine ⟨a1, k, vs, rfl, hw.intE, sqt_up o.sub st, fun e => hne (List.eq_nil_of_length_eq_zero (by rw [← da.length, e]; rfl)), by omega, h2, by rw [da.length]; exact hz, fun p hp => ?_⟩
    have s := o.lay (o := .tup (List.replicate k.toNat vs).flatten) hp
    exact q _ _ _ _ _ s (.tup (.inl (.inl upd_same)) (DeAll.up s.gg _ _ (DeAll.flat da _))) zP) ha hb
/-! ### xs.index(x), xs a list of data -/
def idxD (x : PyData) : List PyData → Nat → Option Nat
  | [], _ => none
  | y :: r, i => if PyData.eqv y x then some i else idxD x r (i + 1)
theorem idxD_some {x : PyData} : ∀ {ys : List PyData} {i j : Nat}, idxD x ys i = some j → i ≤ j ∧ ∃ z, ys[j - i]? = some z ∧ PyData.eqv z x = true ∧ ∀ (m : Nat) (z' : PyData), m < j - i → ys[m]? = some z' → PyData.eqv z' x = false
  | [], i, j, h => by cases h
  | y :: r, i, j, h => by
    rw [idxD] at h
    by_cases e : PyData.eqv y x = true
    · rw [if_pos e] at h
      cases h
      exact ⟨Nat.le_refl _, y, by rw [Nat.sub_self]; rfl, e, fun m z' hm => absurd hm (by omega)⟩
    · rw [if_neg e] at h
      obtain ⟨h1, z, h2, h3, h4⟩ := idxD_some h
      refine ⟨by omega, z, ?_, h3, fun m z' hm ez => ?_⟩
      · rw [show j - i = (j - (i + 1)) + 1 by omega]
        exact h2
      · cases m with
        | zero =>
          cases ez
          simpa using e
        | succ m => exact h4 m z' (by omega) ez
def idxW (f g : W PyData) : W PyData := bnd f fun x => match x with
  | .list xs => bnd g fun y => match idxD y xs 0 with
    | some j => need (SeqAt.shaped (.list xs) = true ∧ SeqAt.shaped y = true) (Dw.ret (.int j))
    | none => bad
  | _ => bad
theorem rd_index (E : Ev X kk) (ha : RD M a ρ f) (hb : RD M b ρ g) (h3 : starEach [b] X.env = (false, eval b X.env) :: starEach [] X.env := by rfl)
    (h1 : attributeBase a "index" X.env (eval a X.env) = eval a X.env := by rfl)
    (h2 : ((((backTo cpos (starEach [b] X.env)).all fun x => !x.1) && (backToKw cpos (keywordEach [] X.env)).all fun x => x.1.isSome) && decide (([b].length + ([] : List Keyword).length + if ([] : List Keyword).isEmpty = true then 0 else 1) < 30)) = true := by rfl)
    (h4 : (apos.endLine == cpos.line) = true := by rfl) (h5 : ((backTo cpos (starEach [] X.env)).any fun x => x.1) = false := by rfl) : RD M (.Call (.Attribute a "index" apos) [b] [] cpos) ρ (idxW f g) := ⟨fun t P z =>
  jd_of (pe_bm PySem.F.plainAttrs_list PySem.F.slot_list_index PySem.F.type_list_index (mt_indexD E.u65) peT (pa_cons peT pa_nil h3) h1 h2 h4 h3 h5) fun σ G H S Q q => (ha.run t _ z) σ G H S _ fun G1 H1 v x t1 s1 d1 z1 => by
    cases x <;> first | exact z1.elim | skip
    rename_i xs
    obtain ⟨a1, ws, rfl, st, da⟩ := d1.lstE
    refine ⟨.inl ⟨rfl, ws, .inl (.inl ((S.step s1).ok.sub _ _ st))⟩, (hb.run t1 _ z1) σ G1 H1 (S.step s1) _ fun G2 H2 u y t2 s2 d2 z2 => ?_⟩
    have z3 : (match idxD y xs 0 with | some j => need (SeqAt.shaped (.list xs) = true ∧ SeqAt.shaped y = true) (Dw.ret (PyData.int j)) | none => bad) t2 P := z2
    cases e : idxD y xs 0 with
    | none => rw [e] at z3; exact z3.elim
    | some j =>
      rw [e] at z3
      obtain ⟨_, w, e1, e2, e3⟩ := idxD_some e
      have k2 := ((S.step s1).step s2).ok
      have d1' : De X.K G2 (.ref a1) (.list xs) := De.up s2.gg _ _ (.lst st da)
      exact ⟨a1, u, y, xs, j, w, rfl, rfl, De.dp _ _ (De.up k2.sub _ _ d1'), De.dp _ _ (De.up k2.sub _ _ d2), z3.1.1, z3.1.2, e1, e2, e3, q G2 H2 _ _ t2 (s1.trans s2) (.int _) z3.2⟩⟩
/-! ### x, y = a list; x, y, z = a list -/
def twoL {α : Type} (k : PyData → PyData → W α) : PyData → W α
  | .list [x, y] => k x y
  | _ => bad
def threeL {α : Type} (k : PyData → PyData → PyData → W α) : PyData → W α
  | .list [x, y, z] => k x y z
  | _ => bad
theorem rg_threeL (i j l : Nat) {x : PyData} {k : PyData → PyData → PyData → W (Out τ σ)} (h : ∀ u v w, RS M rest (((ρ.set i (.d u)).set j (.d v)).set l (.d w)) emb emc (k u v w)) : RG (M := M) (gUnl X.K 3 (gCons (gName i) (gCons (gName j) (gCons (gName l) gNil)))) ρ x rest emb emc (threeL k x) := ⟨fun t P D z n => by
  unfold threeL at z
  split at z
  · intro t0 G H σ v S d R r
    obtain ⟨a, vs, rfl, st, da⟩ := d.lstE
    cases da with
    | cons d1 da => cases da with
      | cons d2 da => cases da with
        | cons d3 da =>
          cases da
          exact ⟨a, _, rfl, .inl (.inl (S.ok.sub _ _ st)), rfl, _, _, rfl, _, _, rfl, _, _, rfl, rfl, r _ _ (((S.set d1).set d2).set d3) ((h _ _ _).run t P D z n)⟩
  · exact z.elim⟩
theorem rg_twoL (i j : Nat) {x : PyData} {k : PyData → PyData → W (Out τ σ)} (h : ∀ u v, RS M rest ((ρ.set i (.d u)).set j (.d v)) emb emc (k u v)) : RG (M := M) (gUnl X.K 2 (gCons (gName i) (gCons (gName j) gNil))) ρ x rest emb emc (twoL k x) := ⟨fun t P D z n => by
  unfold twoL at z
  split at z
  · intro t0 G H σ v S d R r
    obtain ⟨a, vs, rfl, st, da⟩ := d.lstE
    cases da with
    | cons d1 da => cases da with
      | cons d2 da =>
        cases da
        exact ⟨a, _, rfl, .inl (.inl (S.ok.sub _ _ st)), rfl, _, _, rfl, _, _, rfl, rfl, r _ _ ((S.set d1).set d2) ((h _ _).run t P D z n)⟩
  · exact z.elim⟩
end
/-! ### defs with a star -/
/-- a promise for any number of arguments -/
def spV (K : PySem.W.Frag) (Wo : WO) (S : List B → Rs → (B → Rs → Prop) → Prop) : Sp := fun vs H Q _ => ∃ (M : Md K Wo) (G : Hp) (bs : List B) (t : Rs) (P : B → Rs → Prop), Ok M t G H ∧ ArgAll M G vs bs ∧ bs.length ≤ 16777216 ∧ S bs t P ∧
  (∀ (G' H' : Hp) (v : V) (x : PyData) (t' : Rs), Stp M t' G H G' H' → De K G' v x → P (.d x) t' → Q v H') ∧
  (∀ (G' H' : Hp) (l : Addr) (ws : List V) (xs : List PyData) (t' : Rs), Stp M t' G H G' H' → H l = none → G' l = none → H' l = some (.lst ws) → DeAll K G' ws xs → P (.own xs) t' → Q (.ref l) H')
structure DefV (P : Program) (w : World) (K : PySem.W.Frag) (Wo : WO) (mg : Str → Option Value) (base : Heap) (k : Nat) (x : Str) (S : List B → Rs → (B → Rs → Prop) → Prop) : Prop where
  ex : ∃ f : Addr, FnR P w K mg base CX0 k f (spV K Wo S) ∧ mg x = some (.ref f) ∧ PySem.W.keepIn K (.ref f) = true
theorem DefV.mono {P : Program} {w : World} {K : PySem.W.Frag} {mg : Str → Option Value} {base : Heap} {Wo : WO} {k j : Nat} {x : Str} {S : List B → Rs → (B → Rs → Prop) → Prop} (D : DefV P w K Wo mg base k x S) (h : k ≤ j) : DefV P w K Wo mg base j x S := by
  obtain ⟨f, F, hm, kp⟩ := D.ex
  exact ⟨f, F.mono h, hm, kp⟩
/-- the star's tuple as data -/
def starArg (n : Nat) (m : List B → W B) : List B → W B := fun bs => bnd (match dsOf (bs.drop n) with
  | some xs => Dw.ret xs
  | none => bad) fun xs => need (bs.length ≤ 16777216 ∧ n ≤ bs.length) (m (bs.take n ++ [.d (.tuple xs)]))
section
variable {P : Program} {w : World} {K : PySem.W.Frag} {mg : Str → Option Value} {base : Heap}
theorem argAll_split {K : PySem.W.Frag} {Wo : WO} {M : Md K Wo} {G : Hp} : ∀ (n : Nat) {vs : List V} {bs : List B}, ArgAll M G vs bs → ArgAll M G (vs.take n) (bs.take n) ∧ ArgAll M G (vs.drop n) (bs.drop n)
  | 0, _, _, h => ⟨.nil, h⟩
  | n + 1, _, _, .nil => ⟨.nil, .nil⟩
  | n + 1, _, _, .cons a h => ⟨.cons a (argAll_split n h).1, (argAll_split n h).2⟩
theorem argAll_app {K : PySem.W.Frag} {Wo : WO} {M : Md K Wo} {G : Hp} : ∀ {vs ws : List V} {bs cs : List B}, ArgAll M G vs bs → ArgAll M G ws cs → ArgAll M G (vs ++ ws) (bs ++ cs)
  | _, _, _, _, .nil, h => h
  | _, _, _, _, .cons a r, h => .cons a (argAll_app r h)
theorem okV {Wo : WO} {x qual : Str} {st : Stmt} {f : Addr} {fd : FuncData} {N ps : List Str} {pv : Str} {k n : Nat} {m : List B → W B} (F : Fun K x qual st f fd) (Sc : FnScope N (ps ++ [pv]) (defScope st)) (hn : ps.length = n)
    (hb : ∀ (kV doc pm : Value) (an : Option Addr) (cdv ct : Value) (us rest : List Value), us.length = ps.length → bindArgs (PySem.W.fnOf x qual (defArgs st) (defBody st) (defScope st) .none kV doc pm an cdv ct) ⟨us ++ rest, []⟩ = (newTuple rest >>= fun t => pure (ps.zip us ++ [(pv, t)])))
    (body : ∀ (cdv : Value) (A : Around) (outer : List Env) (s : Shared) (H : Hp) (E : XK) (M : Md K Wo) (bs : List B) (t : Rs) (Pt : B → Rs → Prop), Room k (Xo P w K mg base N qual st f cdv A outer s H E).A → bs.length = n + 1 → m bs t Pt →
      JSs (X := Xo P w K mg base N qual st f cdv A outer s H E) M (defBody st) (bs ++ List.replicate (N.length - (n + 1)) .un) t { nx := fun _ t' => Pt (.d .none) t', rt := Pt }) : FnR P w K mg base CX0 (k + 1) f (spV K Wo (Sm (starArg n m))) := by
  obtain ⟨oc, od, kV, doc, pm, an, cdv, ct, osl, rfl, lk, hcd⟩ := F.ex
  have R := StX.fn_star (P := P) (w := w) (mg := mg) (base := base) (k := k) (sp := fun vs H Q _ => ∃ (M : Md K Wo) (G : Hp) (bs : List B) (t : Rs) (Pt : B → Rs → Prop), Ok M t G H ∧ ArgAll M G vs bs ∧ bs.length = n + 1 ∧ m bs t Pt ∧
      (∀ (G' H' : Hp) (v : V) (x : PyData) (t' : Rs), Stp M t' G H G' H' → De K G' v x → Pt (.d x) t' → Q v H') ∧
      (∀ (G' H' : Hp) (l : Addr) (ws : List V) (xs : List PyData) (t' : Rs), Stp M t' G H G' H' → H l = none → G' l = none → H' l = some (.lst ws) → DeAll K G' ws xs → Pt (.own xs) t' → Q (.ref l) H')) lk hcd Sc StX.cxUp_none (hb kV doc pm an cdv ct) fun A outer s H vs Q E hr ⟨M, G, bs, t, Pt, ok, a, hl, hS, q1, q2⟩ => ?_
  · refine FnR.imp R fun vs H Q E ⟨M, G, bs, t, Pt, ok, a, hlen, hS, q1, q2⟩ => ?_
    have hS' : (match dsOf (bs.drop n) with | some xs => Dw.ret xs | none => bad : W (List PyData)) t fun xs t1 => (bs.length ≤ 16777216 ∧ n ≤ bs.length) ∧ m (bs.take n ++ [.d (.tuple xs)]) t1 Pt := hS
    cases e : dsOf (bs.drop n) with
    | none => rw [e] at hS'; exact hS'.elim
    | some xs =>
      rw [e] at hS'
      obtain ⟨⟨_, hle⟩, hm⟩ := hS'
      have ex := dsOf_some e
      obtain ⟨a1, a2⟩ := argAll_split n a
      rw [ex] at a2
      have la := a.length
      refine ⟨vs.take n, vs.drop n, (List.take_append_drop n vs).symm, by rw [List.length_take, hn]; omega, line_of (by rw [List.length_drop]; omega), fun p hp => ?_⟩
      have s1 := ok.lay (o := .tup (vs.drop n)) hp
      have da := ArgAll.data a2
      refine ⟨M, _, bs.take n ++ [.d (.tuple xs)], t, Pt, ok.step s1, argAll_app (a1.up s1.gg) (.cons (.d (.tup (.inl (.inl upd_same)) (DeAll.up s1.gg _ _ da))) .nil), by rw [List.length_append, List.length_take]; simp; omega, hm, fun G' H' v y t' s' d p' => q1 G' H' v y t' (s1.trans s') d p', fun G' H' l ws ys t' s' h0 g e' d p' => q2 G' H' l ws ys t' (s1.trans s') (fresh_of s1 h0) g e' d p'⟩
  · refine ⟨_, (pssT (X := Xo P w K mg base N qual st f cdv A outer s H E)).nox, body cdv A outer s H E (M.at_ G H) bs t Pt hr hl hS (L2.start N vs) G H (sat_start ok a hl) _ ⟨fun σ' G' H' ρ' t' S' _ p => ?_, fun σ' G' H' ρ' t' _ _ p => p.elim, fun σ' G' H' ρ' t' _ _ p => p.elim, fun G' H' t' v x s' d p => ?_, fun G' H' t' l ws xs s' h0 g e d p => ?_⟩⟩
    · exact q1 G' H' .non .none t' ⟨S'.st.gg, S'.st.hh, S'.st.fr, S'.st.sub, S'.st.rd⟩ .non p
    · exact q1 G' H' v x t' ⟨s'.gg, s'.hh, s'.fr, s'.sub, s'.rd⟩ d p
    · exact q2 G' H' l ws xs t' ⟨s'.gg, s'.hh, s'.fr, s'.sub, s'.rd⟩ h0 g e d p
end
section
variable {X : Cx} {Wo : WO} {M : Md X.K Wo} {ρ : List B} {e : Expr} {es : List Expr} {p pos : Pos} {af : W (List B)} {kk : Nat}
theorem rd_callV {x : Str} {k : Nat} {m : List B → W B} (E : Ev X kk) (D : DefV X.prog X.w X.K Wo X.mg X.base k x (Sm m)) (ha : RA M (e :: es) ρ af) (hk : k ≤ kk := by decide) (hg : Gl X x := by rfl)
    (h2 : (x == ("__debug__" : Str)) = false := by decide) (h3 : starEach (e :: es) X.env = (false, eval e X.env) :: starEach es X.env := by rfl)
    (h4 : (backTo pos (starEach es X.env)).any (·.1) = false ∨ (backTo pos (starEach es X.env)).any (·.1) = true := by first | exact Or.inl rfl | exact Or.inr rfl) : RD M (.Call (.Name x p) (e :: es) [] pos) ρ (bnd (bnd af fun bs => need (bs.length ≤ 16777216) (m bs)) asD) := ⟨fun t P z => by
  obtain ⟨f, F, hm, kp⟩ := D.ex
  have pe : PE X (.Call (.Name x p) (e :: es) [] pos) (fun σ H Q => TaOf X (e :: es) σ H fun vs H1 => spV X.K Wo (Sm m) vs H1 Q E0) := by
    rcases h4 with h4 | h4
    · refine ⟨fun pins s σ H Q I h => ?_⟩
      refine wpAny_Call_Name_kw (ld_glob I hg hm ?_ h2)
      refine PySem.W.callWith_K (h₀ := X.base) I.ok.mod.kin kp (thn (paT.run pos pins s σ H _ I h) fun us s1 ⟨vs, H1, I1, r, q⟩ => ⟨I1.kIn, ?_⟩) h3 h4
      exact wpAny_call (run_fnR (F.mono hk) E.room pass0 I1 r q)
    · exact StX.pe_callS2 (F.mono hk) E.room kp hg hm pass0 paT h2 h3 h4
  refine jd_of pe fun σ G H S Q q => (ha.run t _ z) σ G H S _ fun G1 H1 vs bs t1 s1 a1 z1 => ?_
  refine ⟨M, G1, bs, t1, _, (S.step s1).ok, a1, z1.1, z1.2, fun G2 H2 v y t2 s2 d2 py => ?_, fun G2 H2 l ws xs t2 s2 n g e a py => ?_⟩
  · exact q G2 H2 v y t2 (s1.trans s2) d2 py
  · exact q (upd G2 l (.lst ws)) H2 (.ref l) (.list xs) t2 (s1.trans (s2.freeze n g e)) (.lst upd_same (DeAll.up (fun b u z => by
      rw [upd_ne (ne_of_none z g)]
      exact z) xs ws a)) py⟩
end
end Dz
end
section
set_option maxRecDepth 100000
set_option maxHeartbeats 4000000
namespace Dz
open PySem PySem.Spec PyProof.Rows L2 Dl Dw
/-! ### dicts with text keys, written once, held by a slot -/
def kvsOf (ks : List Str) (vs : List V) : List (Key × V) := (ks.zip vs).map fun p => (Sum.inr p.1, p.2)
theorem merge_app : ∀ (more acc : List (Key × V)), (acc.map (·.1) ++ more.map (·.1)).Nodup → mergeK acc more = acc ++ more
  | [], acc, _ => by rw [List.append_nil]; rfl
  | (k, v) :: r, acc, h => by
    have hk : (acc.any fun kv => decide (kv.1 = k)) = false := by
      rw [List.any_eq_false]
      intro x hx e
      rw [List.nodup_append] at h
      exact h.2.2 x.1 (List.mem_map.mpr ⟨x, hx, rfl⟩) k (by simp) (of_decide_eq_true e)
    have e1 : putK acc k v = acc ++ [(k, v)] := by
      unfold putK
      rw [hk]
      rfl
    show mergeK (putK acc k v) r = _
    rw [e1, merge_app r (acc ++ [(k, v)]) (by simpa using h), List.append_assoc]
    rfl
theorem keys_kvs : ∀ {ks : List Str} {vs : List V}, ks.length = vs.length → (kvsOf ks vs).map (·.1) = ks.map Sum.inr
  | [], [], _ => rfl
  | k :: ks, v :: vs, h => by
    have := keys_kvs (ks := ks) (vs := vs) (by simpa using h)
    show Sum.inr k :: (kvsOf ks vs).map (·.1) = _
    rw [this]
    rfl
theorem merge_kvs {ks : List Str} {vs : List V} (h : ks.length = vs.length) (nd : ks.Nodup) : mergeK [] (kvsOf ks vs) = kvsOf ks vs := by
  rw [merge_app _ _ (by
    rw [List.map_nil, List.nil_append, keys_kvs h]
    exact List.Pairwise.map _ (fun a b hab e => hab (Sum.inr.inj e)) nd)]
  rfl
def getP : List Str → List PyData → Str → Option PyData
  | k :: ks, d :: ds, s => if k = s then some d else getP ks ds s
  | _, _, _ => none
theorem val_kvs {K : PySem.W.Frag} {G : Hp} : ∀ {ks : List Str} {vs : List V} {ds : List PyData} {s : Str} {d : PyData}, DeAll K G vs ds → getP ks ds s = some d → ∃ v, valV (kvsOf ks vs) (Sum.inr s) = some v ∧ De K G v d
  | k :: ks, _, _, s, d, .cons (v := v) (vs := vs) h r, e => by
    rw [getP] at e
    by_cases hk : k = s
    · rw [if_pos hk] at e
      cases e
      exact ⟨v, valV_pos (by rw [hk]), h⟩
    · rw [if_neg hk] at e
      obtain ⟨u, e1, e2⟩ := val_kvs (ks := ks) r e
      exact ⟨u, by
        show valV ((Sum.inr k, v) :: kvsOf ks vs) _ = _
        rw [valV_neg (fun z => hk (Sum.inr.inj z))]
        exact e1, e2⟩
  | [], _, _, _, _, _, e => by cases e
  | _ :: _, _, _, _, _, .nil, e => by cases e
/-- a dict with these keys and values, locked -/
def dictIm (K : PySem.W.Frag) (ks : List Str) (ds : List PyData) : Im where
  R := fun _ G o => ∃ od vs, o = .frz od (.dK (kvsOf ks vs)) ∧ ks.length = vs.length ∧ DeAll K G vs ds
  up := fun e ⟨od, vs, h1, h2, h3⟩ => ⟨od, vs, h1, h2, DeAll.up e _ _ h3⟩
/-- the pairs of a display: keys written, values data -/
structure RP {X : Cx} {Wo : WO} (M : Md X.K Wo) (pos : Pos) (ks : List Str) (keys : List (Option Expr)) (values : List Expr) (ρ : List B) (f : W (List PyData)) : Prop where
  ex : ∃ trs, PPs X pos keys values trs ∧ ∀ (t : Rs) (P : List PyData → Rs → Prop), f t P → ∀ (σ : L2.St) (G H : Hp), Sat M t G H σ ρ → ∀ Q : List (V × V) → Hp → Prop,
    (∀ (G' H' : Hp) (vs : List V) (xs : List PyData) (t' : Rs), Stp M t' G H G' H' → DeAll X.K G' vs xs → ks.length = vs.length → P xs t' → Q ((ks.zip vs).map fun p => (.str p.1, p.2)) H') → tPairs trs σ H Q
  len : keys.length = ks.length
  len2 : values.length = ks.length
  all : keys.all (·.isSome) = true
section
variable {X : Cx} {Wo : WO} {M : Md X.K Wo} {ρ : List B} {a b e : Expr} {es : List Expr} {pos p cpos : Pos} {f g : W PyData} {lf : W (List PyData)} {kk : Nat} {τ σ : Type} {emb : τ → List B} {emc : σ → List B} {rest : List Stmt} {keys : List (Option Expr)} {ks : List Str}
theorem rp_nil : RP M pos [] [] [] ρ (Dw.ret []) := ⟨⟨[], pps_nil, fun t P z σ G H S Q q => q G H [] [] t S.ok.refl .nil rfl z⟩, rfl, rfl, rfl⟩
theorem rp_cons {k : Str} {j : Nat} (he : RD M e ρ f) (hr : RP M pos ks keys es ρ lf) : RP M pos (k :: ks) (some (.Constant (.str k) j p) :: keys) (e :: es) ρ (consA f lf) := by
  obtain ⟨trs, h1, h2⟩ := hr.ex
  refine ⟨⟨(tC (.str k), TeOf X e) :: trs, pps_cons pe_str peT h1, fun t P z σ G H S Q q => ?_⟩, by rw [List.length_cons, List.length_cons, hr.len], by rw [List.length_cons, List.length_cons, hr.len2], ?_⟩
  · exact (he.run t _ z) σ G H S _ fun G1 H1 v x t1 s1 d1 z1 => h2 t1 _ z1 σ G1 H1 (S.step s1) _ fun G2 H2 vs xs t2 s2 d2 hl z2 => q G2 H2 (v :: vs) (x :: xs) t2 (s1.trans s2) (.cons (De.up s2.gg _ _ d1) d2) (by rw [List.length_cons, List.length_cons, hl]) z2
  · rw [List.all_cons, hr.all]
    rfl
/-- an expression that gives a new object, which stays as it is -/
theorem _root_.Dl.Ok.lay' {K : PySem.W.Frag} {Wo : WO} {M : Md K Wo} {t : Rs} {G H : Hp} {p : Addr} {o : HO} (k : Ok M t G H) (g : G p = none) (n : p ≠ M.r) : Ok M t (upd G p o) (upd H p o) where
  sub := fun c u e => by
    by_cases hc : c = p
    · subst hc
      rw [upd_same] at e ⊢
      exact e
    · rw [upd_ne hc] at e ⊢
      exact k.sub c u e
  gr := by
    rw [upd_ne (Ne.symm n)]
    exact k.gr
  rd := by
    obtain ⟨o', q, w⟩ := k.rd
    refine ⟨o', by rw [upd_ne (Ne.symm n)]; exact q, M.up (fun c u e => ?_) w⟩
    rw [upd_ne (ne_of_none e g)]
    exact e
structure RM (e : Expr) (ρ : List B) {α : Type} (im : α → Im) (f : W α) : Prop where
  run : ∀ (t : Rs) (P : α → Rs → Prop), f t P → ∀ (σ : L2.St) (G H : Hp), Sat M t G H σ ρ → ∀ Q : VK, (∀ (G' H' : Hp) (l : Addr) (o : HO) (x : α) (t' : Rs), Stp M t' G H G' H' → G' l = some o → (im x).R l G' o → P x t' → Q (.ref l) H') → TeOf X e σ H Q
theorem rm_dict (nd : ks.Nodup) (h0 : ks ≠ []) (few : ks.length ≤ 15) (h : RP M pos ks keys es ρ lf) : RM (M := M) (.Dict keys es pos) ρ (dictIm X.K ks) lf := ⟨fun t P z σ G H S Q q => by
  obtain ⟨trs, h1, h2⟩ := h.ex
  have pe : PE X (.Dict keys es pos) (fun σ H Q => tDisp trs σ H fun v H1 => ∃ p u, v = .ref p ∧ H1 p = some u ∧ Mut (some u) ∧ ∀ od, Q v (upd H1 p (.frz od u))) := ⟨fun pins s σ H Q I w => by
    refine thn ((pe_disp h1 h.all (by rw [h.len, h.len2]) (fun z => h0 (List.eq_nil_of_length_eq_zero (by rw [← h.len, z]; rfl))) (by rw [h.len]; exact few)).run pins s σ H _ I w) fun v s1 ⟨x, H1, I1, r1, p, u, ev, hu, mu, q1⟩ => ?_
    obtain ⟨od, I2⟩ := I1.lock hu mu
    exact ⟨x, _, I2, r1, q1 od⟩⟩
  refine TeOf.of pe fun p hp => ?_
  have k0 := S.ok
  have s0 := k0.layO (o := .dK []) hp
  have gp : G p = none := none_of k0 hp
  have hpr : p ≠ M.r := S.ne_r hp
  refine h2 t P z σ G _ (S.step s0) _ fun G1 H1 vs xs t1 s1 d1 hl zP => ⟨s1.hh p _ hpr upd_same, kvsOf ks vs, ?_, ?_, p, .dK (kvsOf ks vs), rfl, ?_, trivial, fun od => ?_⟩
  · unfold kvsOf
    rw [List.map_map]
    rfl
  · unfold kvsOf
    rw [List.length_map, List.length_zip, hl, Nat.min_self, ← hl]
    exact few
  · rw [merge_kvs hl nd]
    exact upd_same
  · have s01 := s0.trans s1
    have g1 : G1 p = none := s1.fr p (by rw [upd_same]; simp) gp
    have e2 : upd (upd H1 p (.dK (mergeK [] (kvsOf ks vs)))) p (.frz od (.dK (kvsOf ks vs))) = upd H1 p (.frz od (.dK (kvsOf ks vs))) := by
      funext c
      by_cases hc : c = p
      · subst hc
        rw [upd_same, upd_same]
      · rw [upd_ne hc, upd_ne hc, upd_ne hc]
    rw [e2]
    have lay := (k0.step s01).lay' (p := p) (o := .frz od (.dK (kvsOf ks vs))) g1 hpr
    have up1 : Same G1 (upd G1 p (.frz od (.dK (kvsOf ks vs)))) := fun c o ec => by
      rw [upd_ne (ne_of_none ec g1)]
      exact ec
    refine q _ _ p _ xs t1 ⟨s01.gg.trans up1, fun c o nc ec => ?_, fun c ec gc => ?_, lay.sub, lay.rd⟩ upd_same ⟨od, vs, rfl, hl, DeAll.up up1 _ _ d1⟩ zP
    · rw [upd_ne (ne_of_none ec hp)]
      exact s01.hh c o nc ec
    · have hc : c ≠ p := fun z => ec (by rw [z]; exact hp)
      rw [upd_ne hc]
      exact s01.fr c ec gc⟩
/-- x = a new object -/
theorem rs_setM (i : Nat) {x : Str} {pos' : Pos} {α : Type} {im : α → Im} {mf : W α} {k : α → W (Out τ σ)} (hN : X.N.Nodup) (ha : RM (M := M) e ρ im mf) (hk : ∀ y, RS M rest (ρ.set i (.im (im y))) emb emc (k y)) (hi : X.N[i]? = some x := by rfl) (hx : L2.Loc X.env.scope x := by first | exact Or.inl rfl | exact Or.inr rfl) (hs : swapsWith e (some (.Name x pos')) pos.line X.env = pure false := by rfl)
    (hf : X.fn x = true ∨ X.env.scope.names.lookup x = some .local := by first | exact .inl rfl | exact .inr rfl) : RS M (.Assign [.Name x pos'] e pos :: rest) ρ emb emc (bnd mf k) := ⟨fun t P D z w => jss_cons (js_of (ps_set hN hi hx peT hs hf) fun σ G H S E F =>
  ha.run t _ z σ G H S _ fun G1 H1 l o y t1 s1 h r z1 => (F.mono s1.gg).nx _ G1 H1 _ t1 ((S.step s1).setI h r) (Same.refl _) ((hk y).run t1 P D z1 w))⟩
def dgetW (ks : List Str) (ds : List PyData) (f : W PyData) : W PyData := bnd f fun y => match y with
  | .str s => match getP ks ds s with
    | some d => Dw.ret d
    | none => bad
  | _ => bad
/-- x[e] of such a dict -/
theorem rd_dgetI (E : Ev X kk) (i : Nat) {x : Str} {ds : List PyData} (hb : RD M b ρ f) (hr : ρ[i]? = some (.im (dictIm X.K ks ds)) := by rfl) (hs : NoSl b := by intro _ _; rfl) (hN : X.N[i]? = some x := by rfl) (hv : Vis X.env.scope x := by first | exact Or.inl rfl | exact Or.inr (Or.inl rfl) | exact Or.inr (Or.inr rfl)) (hd : (x == ("__debug__" : Str)) = false := by decide) (hcd : (x == ("__classdict__" : Str)) = false := by decide) :
    RD M (.Subscript (.Name x p) b pos) ρ (dgetW ks ds f) := ⟨fun t P z => jd_of (pe_dget (by have := E.room.un; omega) (pv i hN hv hd hcd) peT hs) fun σ G H S Q q => by
  obtain ⟨l, o, e1, h, r⟩ := S.at_ i _ hr
  refine ⟨.ref l, e1, (hb.run t _ z) σ G H S _ fun G1 H1 v y t1 s1 d1 z1 => ?_⟩
  cases y <;> first | exact z1.elim | skip
  rename_i s
  have z2 : (match getP ks ds s with | some d => Dw.ret d | none => bad) t1 P := z1
  cases e : getP ks ds s with
  | none => rw [e] at z2; exact z2.elim
  | some d =>
    rw [e] at z2
    obtain ⟨od, vs, rfl, hl, da⟩ := r
    obtain ⟨u, eu, du⟩ := val_kvs (DeAll.up s1.gg _ _ da) e
    exact ⟨l, u, rfl, .inl ⟨_, Sum.inr s, .inr ⟨od, (S.step s1).ok.sub _ _ (s1.gg _ _ h)⟩, d1.strE, eu.symm⟩, q G1 H1 u d t1 s1 du z2⟩⟩
/-- for k in x, such a dict -/
theorem ri_dkeys (i : Nat) {x : Str} {tg : Expr} {ds : List PyData} (hr : ρ[i]? = some (.im (dictIm X.K ks ds)) := by rfl) (hN : X.N[i]? = some x := by rfl) (hv : Vis X.env.scope x := by first | exact Or.inl rfl | exact Or.inr (Or.inl rfl) | exact Or.inr (Or.inr rfl)) (hd : (x == ("__debug__" : Str)) = false := by decide) (hcd : (x == ("__classdict__" : Str)) = false := by decide) :
    RI M tg (.Name x p) ρ (Dw.ret (ks.map PyData.str)) := ⟨fun t P z σ G H S R r => TiOf.of (pi_keys (pv i hN hv hd hcd)) (by
  obtain ⟨l, o, e1, h, od, vs, rfl, hl, da⟩ := S.at_ i _ hr
  have len : (kvsOf ks vs).length = ks.length := by unfold kvsOf; rw [List.length_map, List.length_zip, ← hl, Nat.min_self]
  have wk : Wk M G (Itk l od (kvsOf ks vs)) (ks.map PyData.str) := by
    refine ⟨fun j t G' H' e k hj => ⟨k.sub _ _ (e _ _ h), by rw [len]; simpa using hj⟩, fun j t G' H' e k hj => ⟨k.sub _ _ (e _ _ h), by rw [len]; simpa using hj⟩, fun j t G' H' x H2 e k y hj => ?_⟩
    obtain ⟨rfl, k2, v, e2, rfl⟩ := y
    have hj2 : j < ks.length := by simpa using hj
    have hj3 : j < vs.length := by omega
    have e3 : (kvsOf ks vs)[j]? = some (Sum.inr ks[j], vs[j]) := by
      unfold kvsOf
      rw [List.getElem?_map, (List.getElem?_zip_eq_some (z := (ks[j], vs[j]))).mpr ⟨List.getElem?_eq_getElem hj2, List.getElem?_eq_getElem hj3⟩]
      rfl
    rw [e3] at e2
    cases e2
    exact ⟨G', .str ks[j], k.refl, by simp [hj2], .str _⟩
  exact ⟨.ref l, e1, l, od, rfl, .inl ⟨_, S.ok.sub _ _ h, r G H _ _ t S.ok.refl wk z⟩⟩)⟩
end
end Dz
end
section
set_option maxRecDepth 100000
set_option maxHeartbeats 4000000
namespace Dw
open PySem PySem.Spec PyProof.Rows L2 Dl Dz
def arg0 (k : W B) : List B → W B
  | [] => k
  | _ => bad
theorem arg0_of {k : W B} {bs : List B} {t : Rs} {Q : B → Rs → Prop} (h : arg0 k bs t Q) : bs = [] ∧ k t Q := by
  unfold arg0 at h
  split at h <;> first | exact ⟨rfl, h⟩ | exact h.elim
section
variable {X : Cx} {Wo : WO} {M : Md X.K Wo} {ρ : List B} {e a b : Expr} {pos cpos apos p q : Pos} {x : Str} {f g : W PyData} {kk : Nat} {τ σ : Type} {emb : τ → List B} {emc : σ → List B} {rest : List Stmt} {xs : List PyData}
theorem rs_app {k : PyData → W (Out τ σ)} (i : Nat) (ha : RD M e ρ f) (hk : ∀ y, RS M rest (ρ.set i (.own (xs ++ [y]))) emb emc (k y)) (hr : ρ[i]? = some (.own xs) := by rfl)
    (hN : X.N[i]? = some x := by rfl) (hv : Vis X.env.scope x := by first | exact Or.inl rfl | exact Or.inr (Or.inl rfl) | exact Or.inr (Or.inr rfl)) (hd : (x == ("__debug__" : Str)) = false := by decide) (hcd : (x == ("__classdict__" : Str)) = false := by decide)
    (hs : swapsWith (.Call (.Attribute (.Name x p) "append" apos) [e] [] cpos) none pos.line X.env = pure false := by rfl) (h3 : starEach [e] X.env = (false, eval e X.env) :: starEach [] X.env := by rfl)
    (h1 : attributeBase (.Name x p) "append" X.env (eval (.Name x p) X.env) = eval (.Name x p) X.env := by rfl)
    (h2 : ((((backTo cpos (starEach [e] X.env)).all fun x => !x.1) && (backToKw cpos (keywordEach [] X.env)).all fun x => x.1.isSome) && decide (([e].length + ([] : List Keyword).length + if ([] : List Keyword).isEmpty = true then 0 else 1) < 30)) = true := by rfl)
    (h4 : (apos.endLine == cpos.line) = true := by rfl) (h5 : ((backTo cpos (starEach [] X.env)).any fun x => x.1) = false := by rfl) : RS M (.Expr (.Call (.Attribute (.Name x p) "append" apos) [e] [] cpos) pos :: rest) ρ emb emc (bnd f fun y => need (xs.length < 16777216) (k y)) := ⟨fun t P D z n =>
  jss_cons (js_append i hr ((ha.run t _ z).imp fun y t1 z1 => ⟨z1.1, (hk y).run t1 P D z1.2 n⟩) hN hv hd hcd hs h3 h1 h2 h4 h5)⟩
end
section
variable {X : Cx} {Wo : WO} {M : Md X.K Wo} {ρ : List B} {elt cond tg iter a b e : Expr} {pos spos py p : Pos} {y : Str} {scope : Scope} {own : List (Str × Nat)} {gt : TG} {lf : W (List PyData)} {kk : Nat} {τ σ : Type} {emb : τ → List B} {emc : σ → List B} {rest : List Stmt}
/-- y = [elt for ..], where the list goes to the name ahead of the block's end -/
theorem rs_setC (i : Nat) {fe : PyData → W PyData} {k : List PyData → W (Out τ σ)} (E : Ev X kk) (hN : X.N.Nodup) (ok : BlkOk X.N X.env.scope scope own) (hw : Wipes gt (own.map (·.2)))
    (hg : ∀ (s : Shared) (H : Hp) (C : Addr) (cl : List (Str × Addr)) (fp : List Addr), PG (X.blk s H scope (compEnvC scope cl C X.env) fp) tg gt) (hi : RI M tg iter ρ lf) (he : ∀ x, RGe M gt (wipeB ρ (own.map (·.2))) x scope elt (fe x))
    (hk : ∀ ys, RS M rest (ρ.set i (.own ys)) emb emc (k ys))
    (hk0 : X.env.scope.kind = .function := by rfl) (hyl : X.env.scope.names.lookup y = some .local := by rfl) (hl : (py.line == pos.line) = true := by rfl) (hy0 : (scope.names.any fun (n, k) => n == y && (k == .local || k == .cell)) = false := by rfl)
    (hy : X.N[i]? = some y := by rfl) (hs : ∀ x, foldedSetIterable iter X.env x = pure x := by intro _; rfl) : RS M (.Assign [.Name y py] (.ListComp elt [⟨tg, iter, [], 0⟩] scope pos) spos :: rest) ρ emb emc (bnd (compW lf fe) k) := ⟨fun t P D z n =>
  jss_cons (js_comp i E.calm hN ok hw hg (sw_true hk0 hyl hl hy0) ((hi.run t _ z).imp' fun xs t1 ⟨hlen, z1⟩ => by
  refine ⟨fun i acc t' => acc.length = i ∧ mapW fe (xs.drop i) t' fun r t2 => k (acc ++ r) t2 P, ⟨rfl, z1⟩, fun i x acc t' ex ⟨hl, w⟩ => ?_, fun acc t' ⟨hl, w⟩ => ?_⟩
  · obtain ⟨hlt, e⟩ := List.getElem?_eq_some_iff.mp ex
    have hx : xs.drop i = x :: xs.drop (i + 1) := by rw [List.drop_eq_getElem_cons hlt, e]
    rw [hx] at w
    refine DG.imp ((he x).run t' _ w) fun r h => jdb_imp h fun y t3 w3 => ⟨by omega, by rw [List.length_append, hl]; rfl, ?_⟩
    have e2 : (fun (r : List PyData) (t2 : Rs) => k (acc ++ [y] ++ r) t2 P) = fun r t2 => k (acc ++ y :: r) t2 P := by
      funext r t2
      rw [List.append_assoc]
      rfl
    rw [e2]
    exact w3
  · rw [List.drop_length] at w
    have w2 : k (acc ++ []) t' P := w
    rw [List.append_nil] at w2
    exact (hk acc).run t' P D w2 n) hy hyl hs)⟩
theorem rs_setCO (i : Nat) {fe : PyData → W (Option PyData)} {k : List PyData → W (Out τ σ)} (E : Ev X kk) (hN : X.N.Nodup) (ok : BlkOk X.N X.env.scope scope own) (hw : Wipes gt (own.map (·.2)))
    (hg : ∀ (s : Shared) (H : Hp) (C : Addr) (cl : List (Str × Addr)) (fp : List Addr), PG (X.blk s H scope (compEnvC scope cl C X.env) fp) tg gt) (hi : RI M tg iter ρ lf) (he : ∀ x, RGi M gt (wipeB ρ (own.map (·.2))) x scope cond elt (fe x))
    (hk : ∀ ys, RS M rest (ρ.set i (.own ys)) emb emc (k ys))
    (hk0 : X.env.scope.kind = .function := by rfl) (hyl : X.env.scope.names.lookup y = some .local := by rfl) (hl : (py.line == pos.line) = true := by rfl) (hy0 : (scope.names.any fun (n, k) => n == y && (k == .local || k == .cell)) = false := by rfl)
    (hy : X.N[i]? = some y := by rfl) (hs : ∀ x, foldedSetIterable iter X.env x = pure x := by intro _; rfl) : RS M (.Assign [.Name y py] (.ListComp elt [⟨tg, iter, [cond], 0⟩] scope pos) spos :: rest) ρ emb emc (bnd (compO lf fe) k) := ⟨fun t P D z n =>
  jss_cons (js_compT i E.calm hN ok hw hg (sw_true hk0 hyl hl hy0) ((hi.run t _ z).imp' fun xs t1 ⟨hlen, z1⟩ => by
  refine ⟨fun i acc t' => acc.length ≤ i ∧ filO fe (xs.drop i) t' fun r t2 => k (acc ++ r) t2 P, ⟨Nat.le_refl _, z1⟩, fun i x acc t' ex ⟨hl, w⟩ => ?_, fun acc t' ⟨hl, w⟩ => ?_⟩
  · obtain ⟨hlt, e⟩ := List.getElem?_eq_some_iff.mp ex
    have hx : xs.drop i = x :: xs.drop (i + 1) := by rw [List.drop_eq_getElem_cons hlt, e]
    rw [hx] at w
    refine DG.imp ((he x).run t' _ w) fun r h => fun s H C cl fp => (h s H C cl fp).imp fun b t2 ⟨h1, h2⟩ => ⟨fun eb => jdb_imp (h1 eb) fun y t3 w3 => ⟨by omega, by rw [List.length_append]; simp only [List.length_cons, List.length_nil]; omega, ?_⟩, fun eb => ⟨by omega, h2 eb⟩⟩
    have e2 : (fun (r : List PyData) (t2 : Rs) => k (acc ++ [y] ++ r) t2 P) = fun r t2 => k (acc ++ y :: r) t2 P := by
      funext r t2
      rw [List.append_assoc]
      rfl
    rw [e2]
    exact w3
  · rw [List.drop_length] at w
    have w2 : k (acc ++ []) t' P := w
    rw [List.append_nil] at w2
    exact (hk acc).run t' P D w2 n) hy hyl hs)⟩
theorem rd_call0 {x : Str} {k : Nat} {m : List B → W B} (E : Ev X kk) (D : Def X.prog X.w X.K Wo X.mg X.base k x 0 (Sm m)) (hk : k ≤ kk := by decide) (hg : Gl X x := by rfl) (h2 : (x == ("__debug__" : Str)) = false := by decide) :
    RD M (.Call (.Name x p) [] [] pos) ρ (bnd (callN 0 m (ret [])) asD) := ⟨fun t P z => by
  obtain ⟨fa, fd, ps, F, hm, kp, hb⟩ := D.ex
  refine jd_of (pe_call0 F (E.room.mono hk) hg hm kp hb .nil pass0 h2) fun σ G H S Q q => ?_
  refine ⟨M, G, [], t, _, S.ok, .nil, rfl, z.2, fun G2 H2 v z t2 s2 d2 py => ?_, fun G2 H2 l ws xs t2 s2 n g e a py => ?_⟩
  · exact q G2 H2 v z t2 s2 d2 py
  · exact q (upd G2 l (.lst ws)) H2 (.ref l) (.list xs) t2 (s2.freeze n g e) (.lst upd_same (DeAll.up (fun b u z => by
      rw [upd_ne (ne_of_none z g)]
      exact z) xs ws a)) py⟩
end
def neS (f g : W PyData) : W Bool := bnd f fun x => match x with
  | .str y => bnd g fun z => match z with
    | .str u => ret (!decide (y = u))
    | _ => bad
  | _ => bad
section
variable {X : Cx} {Wo : WO} {M : Md X.K Wo} {ρ : List B} {a b : Expr} {pos : Pos} {f g : W PyData}
theorem rt_neS' (ha : RD M a ρ f) (hb : RD M b ρ g) : RT M (.Compare a [.NotEq] [b] pos) ρ (neS f g) := ⟨fun t P z => jt_neS ((ha.run t _ z).imp fun x t1 z1 => by
  cases x <;> first | exact z1.elim | skip
  refine ⟨_, rfl, (hb.run t1 _ z1).imp fun y t2 z2 => ?_⟩
  cases y <;> first | exact z2.elim | skip
  exact ⟨_, rfl, z2⟩)⟩
end
/-! ### mirrors, applied -/
section
variable {α β γ τ σ : Type} {t : Rs}
theorem bnd_ap (m : W α) (k : α → W β) (P : β → Rs → Prop) : bnd m k t P = m t fun a t1 => k a t1 P := id rfl
theorem ret_ap (a : α) (P : α → Rs → Prop) : ret a t P = P a t := id rfl
theorem need_ap (c : Prop) (m : W α) (P : α → Rs → Prop) : need c m t P = (c ∧ m t P) := id rfl
theorem op1_ap (o : PyData → W PyData) (f : W PyData) (P : PyData → Rs → Prop) : op1 o f t P = f t fun x t1 => o x t1 P := id rfl
theorem op2_ap (o : PyData → PyData → W PyData) (f g : W PyData) (P : PyData → Rs → Prop) : op2 o f g t P = f t fun x t1 => g t1 fun y t2 => o x y t2 P := id rfl
theorem dA_ap (f : W PyData) (g : W (List B)) (P : List B → Rs → Prop) : dA f g t P = f t fun x t1 => g t1 fun bs t2 => P (.d x :: bs) t2 := id rfl
theorem rdA_ap (g : W (List B)) (P : List B → Rs → Prop) : rdA g t P = g t fun bs t1 => P (.rd :: bs) t1 := id rfl
theorem callN_ap (n : Nat) (m : List B → W B) (f : W (List B)) (P : B → Rs → Prop) : callN n m f t P = f t fun bs t1 => bs.length = n ∧ m bs t1 P := id rfl
theorem asD_d (x : PyData) (P : PyData → Rs → Prop) : asD (.d x) t P = P x t := id rfl
theorem asD_own (xs : List PyData) (P : PyData → Rs → Prop) : asD (.own xs) t P = P (.list xs) t := id rfl
theorem asO_own (xs : List PyData) (P : List PyData → Rs → Prop) : asO (.own xs) t P = P xs t := id rfl
theorem asB_b (b : Bool) (P : Bool → Rs → Prop) : asB (.bool b) t P = P b t := id rfl
theorem asT_ap (x : PyData) (P : Bool → Rs → Prop) : asT x t P = (strOk x ∧ P (truD x) t) := id rfl
theorem froz_ap (f : W (List PyData)) (P : PyData → Rs → Prop) : froz f t P = f t fun xs t1 => P (.list xs) t1 := id rfl
theorem disp_ap (af : W (List B)) (k : List PyData → W α) (P : α → Rs → Prop) : disp af k t P = af t fun bs t1 => (match dsOf bs with | some xs => need (xs.length ≤ 16777216) (k xs) | none => bad) t1 P := id rfl
theorem ifW_ap (c : W Bool) (f g : W α) (P : α → Rs → Prop) : ifW c f g t P = c t fun b t1 => (bif b then f else g) t1 P := id rfl
theorem andT_ap (f g : W Bool) (P : Bool → Rs → Prop) : andT f g t P = f t fun b t1 => (bif b then g else ret false) t1 P := id rfl
theorem orT_ap (f g : W Bool) (P : Bool → Rs → Prop) : orT f g t P = f t fun b t1 => (bif b then ret true else g) t1 P := id rfl
theorem notT_ap (f : W Bool) (P : Bool → Rs → Prop) : notT f t P = f t fun b t1 => P (!b) t1 := id rfl
theorem andW_b (f g : W PyData) (P : PyData → Rs → Prop) : andW f g t P = f t fun x t1 => (match x with | .bool b => bif b then g else ret (PyData.bool false) | _ => bad) t1 P := id rfl
theorem orW_b (f g : W PyData) (P : PyData → Rs → Prop) : orW f g t P = f t fun x t1 => (match x with | .bool b => bif b then ret (PyData.bool true) else g | _ => bad) t1 P := id rfl
theorem thn_ap (m : W (Sum α B)) (k : α → W (Out τ σ)) (P : Out τ σ → Rs → Prop) : thn m k t P = m t fun o t1 => (match o with | .inl s => k s | .inr b => ret (.rt b)) t1 P := id rfl
theorem joi_ap (m : W (Out α σ)) (k : α → W (Out τ σ)) (P : Out τ σ → Rs → Prop) : joi m k t P = m t fun o t1 => (match o with | .nx s => k s | .ct s => ret (.ct s) | .bk s => ret (.bk s) | .rt b => ret (.rt b)) t1 P := id rfl
theorem upO_ap (m : W (Out Empty σ)) : (upO m : W (Out τ σ)) = joi m fun s => nomatch s := id rfl
theorem fnW_ap (m : W (Out Empty Empty)) (P : B → Rs → Prop) : fnW m t P = m t fun o t1 => (match o with | .rt b => ret b | .nx s => nomatch s | .ct s => nomatch s | .bk s => nomatch s) t1 P := id rfl
theorem fnU_ap (m : W (Out Unit Empty)) (P : B → Rs → Prop) : fnU m t P = m t fun o t1 => (match o with | .rt b => ret b | .nx _ => ret (.d .none) | .ct s => nomatch s | .bk s => nomatch s) t1 P := id rfl
theorem compW_ap (it : W (List PyData)) (f : PyData → W PyData) (P : List PyData → Rs → Prop) : compW it f t P = it t fun xs t1 => xs.length ≤ 16777216 ∧ mapW f xs t1 P := id rfl
theorem compO_ap (it : W (List PyData)) (f : PyData → W (Option PyData)) (P : List PyData → Rs → Prop) : compO it f t P = it t fun xs t1 => xs.length ≤ 16777216 ∧ filO f xs t1 P := id rfl
theorem optW_ap (c : W Bool) (m : W PyData) (P : Option PyData → Rs → Prop) : optW c m t P = c t fun b t1 => (bif b then bnd m fun y => ret (some y) else ret none) t1 P := id rfl
theorem itL_ap (f : W PyData) (P : List PyData → Rs → Prop) : itL f t P = f t fun x t1 => (match x with | .list xs => ret xs | _ => bad) t1 P := id rfl
theorem itT_ap (f : W PyData) (P : List PyData → Rs → Prop) : itT f t P = f t fun x t1 => (match x with | .tuple xs => ret xs | _ => bad) t1 P := id rfl
theorem itS_ap (f : W PyData) (P : List PyData → Rs → Prop) : itS f t P = f t fun x t1 => (match x with | .str z => ret (sgnD z) | _ => bad) t1 P := id rfl
theorem rng1_ap (f : W PyData) (P : List PyData → Rs → Prop) : rng1 f t P = f t fun x t1 => (match x with | .int j => need (inRng j) (ret (rngD 0 j.toNat)) | _ => bad) t1 P := id rfl
theorem rng2_ap (f g : W PyData) (P : List PyData → Rs → Prop) : rng2 f g t P = f t fun x t1 => (match x with | .int i => (bnd g fun y => match y with | .int j => need (inRng i ∧ inRng j) (ret (rngD i (j - i).toNat)) | _ => bad) | _ => bad) t1 P := id rfl
theorem slT_ap (f : W PyData) (lo hi : W (Option Int)) (P : PyData → Rs → Prop) : slT f lo hi t P = f t fun x t1 => (match x with | .tuple xs => bnd lo fun l => bnd hi fun u => ret (PyData.tuple (cutD xs l u)) | _ => bad) t1 P := id rfl
theorem slL_ap (f : W PyData) (lo hi : W (Option Int)) (P : List PyData → Rs → Prop) : slL f lo hi t P = f t fun x t1 => (match x with | .list xs => bnd lo fun l => bnd hi fun u => ret (cutD xs l u) | _ => bad) t1 P := id rfl
theorem oN_ap (P : Option Int → Rs → Prop) : oN t P = P none t := id rfl
theorem oS_ap (f : W PyData) (P : Option Int → Rs → Prop) : oS f t P = f t fun x t1 => (match x with | .int i => ret (some i) | _ => bad) t1 P := id rfl
theorem consA_ap (f : W PyData) (g : W (List PyData)) (P : List PyData → Rs → Prop) : consA f g t P = f t fun x t1 => g t1 fun xs t2 => P (x :: xs) t2 := id rfl
theorem catL_ap (f g : W PyData) (P : List PyData → Rs → Prop) : catL f g t P = f t fun x t1 => (match x with | .list xs => (bnd g fun y => match y with | .list ys => need (xs.length + ys.length ≤ 16777216) (ret (xs ++ ys)) | _ => bad) | _ => bad) t1 P := id rfl
theorem two_ap (k : PyData → PyData → W α) (x y : PyData) : two k (.tuple [x, y]) = k x y := id rfl
theorem three_ap (k : PyData → PyData → PyData → W α) (x y z : PyData) : three k (.tuple [x, y, z]) = k x y z := id rfl
theorem twoL_ap (k : PyData → PyData → W α) (x y : PyData) : twoL k (.list [x, y]) = k x y := id rfl
theorem threeL_ap (k : PyData → PyData → PyData → W α) (x y z : PyData) : threeL k (.list [x, y, z]) = k x y z := id rfl
theorem oadd_i (i j : Int) (P : PyData → Rs → Prop) : oadd (.int i) (.int j) t P = P (.int (i + j)) t := id rfl
theorem osub_i (i j : Int) (P : PyData → Rs → Prop) : osub (.int i) (.int j) t P = P (.int (i - j)) t := id rfl
theorem omul_i (i j : Int) (P : PyData → Rs → Prop) : omul (.int i) (.int j) t P = (CMul i j ∧ P (.int (i * j)) t) := id rfl
theorem ofdiv_i (i j : Int) (P : PyData → Rs → Prop) : ofdiv (.int i) (.int j) t P = (CDivN i j ∧ P (.int (i.fdiv j)) t) := id rfl
theorem omod_i (i j : Int) (P : PyData → Rs → Prop) : omod (.int i) (.int j) t P = (j ≠ 0 ∧ P (.int (i.fmod j)) t) := id rfl
theorem oneg_i (i : Int) (P : PyData → Rs → Prop) : oneg (.int i) t P = P (.int (-i)) t := id rfl
theorem olt_i (i j : Int) (P : PyData → Rs → Prop) : olt (.int i) (.int j) t P = P (.bool (decide (i < j))) t := id rfl
theorem ole_i (i j : Int) (P : PyData → Rs → Prop) : ole (.int i) (.int j) t P = P (.bool (decide (i ≤ j))) t := id rfl
theorem ogt_i (i j : Int) (P : PyData → Rs → Prop) : ogt (.int i) (.int j) t P = P (.bool (decide (i > j))) t := id rfl
theorem oge_i (i j : Int) (P : PyData → Rs → Prop) : oge (.int i) (.int j) t P = P (.bool (decide (i ≥ j))) t := id rfl
theorem onot_b (b : Bool) (P : PyData → Rs → Prop) : onot (.bool b) t P = P (.bool (!b)) t := id rfl
theorem oeq_ap (x y : PyData) (P : PyData → Rs → Prop) : oeq x y t P = ((SeqAt.shaped x = true ∧ SeqAt.shaped y = true) ∧ P (.bool (PyData.eqv x y)) t) := id rfl
theorem one_ap (x y : PyData) (P : PyData → Rs → Prop) : one_ x y t P = ((SeqAt.shaped x = true ∧ SeqAt.shaped y = true) ∧ P (.bool (!PyData.eqv x y)) t) := id rfl
theorem oisi_ap (T : String) (x : PyData) (P : PyData → Rs → Prop) : oisi T x t P = P (.bool (isiD T x)) t := id rfl
theorem orepr_ap (x : PyData) (P : PyData → Rs → Prop) : orepr x t P = ((Fin x ∧ sz x ≤ 55000 ∧ x.depth ≤ 60) ∧ P (.str x.shown) t) := id rfl
theorem otup_l (xs : List PyData) (P : PyData → Rs → Prop) : otup (.list xs) t P = P (.tuple xs) t := id rfl
theorem otup_t (xs : List PyData) (P : PyData → Rs → Prop) : otup (.tuple xs) t P = P (.tuple xs) t := id rfl
theorem oint_i (i : Int) (P : PyData → Rs → Prop) : oint (.int i) t P = P (.int i) t := id rfl
theorem olen_t (xs : List PyData) (P : PyData → Rs → Prop) : olen (.tuple xs) t P = (xs.length ≤ 16777216 ∧ P (.int (xs.length : Nat)) t) := id rfl
theorem olen_l (xs : List PyData) (P : PyData → Rs → Prop) : olen (.list xs) t P = (xs.length ≤ 16777216 ∧ P (.int (xs.length : Nat)) t) := id rfl
theorem neS_ap (f g : W PyData) (P : Bool → Rs → Prop) : neS f g t P = f t fun x t1 => (match x with | .str y => (bnd g fun z => match z with | .str u => ret (!decide (y = u)) | _ => bad) | _ => bad) t1 P := id rfl
theorem arg0_ap (k : W B) : arg0 k [] = k := id rfl
theorem arg1_ap (k : PyData → W B) (a : PyData) : arg1 k [.d a] = k a := id rfl
theorem arg2_ap (k : PyData → PyData → W B) (a b : PyData) : arg2 k [.d a, .d b] = k a b := id rfl
theorem arg3_ap (k : PyData → PyData → PyData → W B) (a b c : PyData) : arg3 k [.d a, .d b, .d c] = k a b c := id rfl
theorem arg4_ap (k : PyData → PyData → PyData → PyData → W B) (a b c d : PyData) : arg4 k [.d a, .d b, .d c, .d d] = k a b c d := id rfl
theorem arg5_ap (k : PyData → PyData → PyData → PyData → PyData → W B) (a b c d e : PyData) : arg5 k [.d a, .d b, .d c, .d d, .d e] = k a b c d e := id rfl
theorem argR0_ap (k : W B) : argR0 k [.rd] = k := id rfl
theorem argR1_ap (k : PyData → W B) (a : PyData) : argR1 k [.rd, .d a] = k a := id rfl
theorem argR2_ap (k : PyData → PyData → W B) (a b : PyData) : argR2 k [.rd, .d a, .d b] = k a b := id rfl
theorem argR3_ap (k : PyData → PyData → PyData → W B) (a b c : PyData) : argR3 k [.rd, .d a, .d b, .d c] = k a b c := id rfl
theorem argR4_ap (k : PyData → PyData → PyData → PyData → W B) (a b c d : PyData) : argR4 k [.rd, .d a, .d b, .d c, .d d] = k a b c d := id rfl
end
theorem cond_t {α : Sort _} (a b : α) : (bif true then a else b) = a := id rfl
theorem cond_f {α : Sort _} (a b : α) : (bif false then a else b) = b := id rfl
/-! ### the reader's room -/
def Fr (n : Nat) (t : Rs) : Prop := t.ns.length ≤ 63 ∧ 0 ≤ t.draws ∧ t.draws + n < 1000000000000
theorem Fr.mono {n m : Nat} {t : Rs} (h : Fr n t) (e : m ≤ n) : Fr m t := ⟨h.1, h.2.1, by have := h.2.2; omega⟩
def drawW : List B → W B := fun bs t Q => ∃ m : Int, bs = [.rd, .d (.int m)] ∧ 0 < m ∧ m < 1073741824 ∧ t.ns.length ≤ 63 ∧ 0 ≤ t.draws ∧ t.draws < 1000000000000 ∧ ∀ (i : Int) (t' : Rs), 0 ≤ i → i < m → t'.ns = t.ns → t'.draws = t.draws + 1 → Q (.d (.int i)) t'
theorem draw_ap {n : Nat} {m : Int} {t : Rs} {P : B → Rs → Prop} (h : Fr (n + 1) t) (h0 : 0 < m) (h1 : m < 1073741824) (q : ∀ (i : Int) (t' : Rs), 0 ≤ i → i < m → Fr n t' → P (.d (.int i)) t') : drawW [.rd, .d (.int m)] t P :=
  ⟨m, rfl, h0, h1, h.1, h.2.1, by have := h.2.2; omega, fun i t' a b c d => q i t' a b ⟨by rw [c]; exact h.1, by have := h.2.1; omega, by have := h.2.2; omega⟩⟩
/-! ### places -/
theorem oixL {xs : List PyData} {i : Int} {t : Rs} {P : PyData → Rs → Prop} (h : 0 ≤ i) (h2 : i < xs.length) (q : ∀ (j : Nat) (z : PyData), i = j → xs[j]? = some z → P z t) : oix (.list xs) (.int i) t P := by
  obtain ⟨j, rfl⟩ : ∃ j : Nat, i = (j : Int) := ⟨i.toNat, (Int.toNat_of_nonneg h).symm⟩
  have hj : j < xs.length := by omega
  have e : atI xs (j : Int) = some xs[j] := atI_nat (List.getElem?_eq_getElem hj)
  show (match atI xs (j : Int) with | some z => ret z | none => bad) t P
  rw [e]
  exact q j _ rfl (List.getElem?_eq_getElem hj)
theorem oixT {xs : List PyData} {i : Int} {t : Rs} {P : PyData → Rs → Prop} (h : 0 ≤ i) (h2 : i < xs.length) (q : ∀ (j : Nat) (z : PyData), i = j → xs[j]? = some z → P z t) : oix (.tuple xs) (.int i) t P := by
  obtain ⟨j, rfl⟩ : ∃ j : Nat, i = (j : Int) := ⟨i.toNat, (Int.toNat_of_nonneg h).symm⟩
  have hj : j < xs.length := by omega
  have e : atI xs (j : Int) = some xs[j] := atI_nat (List.getElem?_eq_getElem hj)
  show (match atI xs (j : Int) with | some z => ret z | none => bad) t P
  rw [e]
  exact q j _ rfl (List.getElem?_eq_getElem hj)
theorem oixTn {xs : List PyData} {j : Nat} {z : PyData} {t : Rs} {P : PyData → Rs → Prop} (e : xs[j]? = some z) (q : P z t) : oix (.tuple xs) (.int (j : Int)) t P := by
  show (match atI xs (j : Int) with | some z => ret z | none => bad) t P
  rw [atI_nat e]
  exact q
theorem oixLn {xs : List PyData} {j : Nat} {z : PyData} {t : Rs} {P : PyData → Rs → Prop} (e : xs[j]? = some z) (q : P z t) : oix (.list xs) (.int (j : Int)) t P := by
  show (match atI xs (j : Int) with | some z => ret z | none => bad) t P
  rw [atI_nat e]
  exact q
/-- a place that is known -/
theorem oixT0 {xs : List PyData} {i : Int} {z : PyData} {t : Rs} {P : PyData → Rs → Prop} (e : atI xs i = some z) (q : P z t) : oix (.tuple xs) (.int i) t P := by
  show (match atI xs i with | some z => ret z | none => bad) t P
  rw [e]
  exact q
theorem oixL0 {xs : List PyData} {i : Int} {z : PyData} {t : Rs} {P : PyData → Rs → Prop} (e : atI xs i = some z) (q : P z t) : oix (.list xs) (.int i) t P := by
  show (match atI xs i with | some z => ret z | none => bad) t P
  rw [e]
  exact q
theorem oix_pick {xs : List PyData} {i : Int} {t : Rs} {P : PyData → Rs → Prop} (h : 0 ≤ i) (h2 : i < xs.length) (q : ∀ z ∈ xs, P z t) : oix (.list xs) (.int i) t P := oixL h h2 fun j z _ e => q z (List.mem_of_getElem? e)
/-! ### loops -/
theorem for_inv {σ : Type} {f : σ → PyData → W (Out σ σ)} (I : List PyData → σ → Rs → Prop) {P : Sum σ B → Rs → Prop} (step : ∀ x r s t, I (x :: r) s t → f s x t fun o t' => match o with | .nx s' => I r s' t' | .ct s' => I r s' t' | .bk s' => P (.inl s') t' | .rt b => P (.inr b) t')
    (fin : ∀ s t, I [] s t → P (.inl s) t) (mono : ∀ x s t (Q Q' : Out σ σ → Rs → Prop), (∀ o t', Q o t' → Q' o t') → f s x t Q → f s x t Q') : ∀ (xs : List PyData) (s : σ) (t : Rs), I xs s t → forW f xs s t P
  | [], s, t, h => fin s t h
  | x :: r, s, t, h => by
    show f s x t fun o t1 => (match o with | .nx s' => forW f r s' | .ct s' => forW f r s' | .bk s' => ret (.inl s') | .rt b => ret (.inr b)) t1 P
    refine mono x s t _ _ (fun o t' w => ?_) (step x r s t h)
    cases o with
    | nx s' => exact for_inv I step fin mono r s' t' w
    | ct s' => exact for_inv I step fin mono r s' t' w
    | bk s' => exact w
    | rt b => exact w
/-- a loop: each turn is shown for whatever is wished behind it -/
theorem for_cps {σ : Type} {f : σ → PyData → W (Out σ σ)} (I : List PyData → σ → Rs → Prop) {P : Sum σ B → Rs → Prop} (step : ∀ x r s t, I (x :: r) s t → ∀ Q : Out σ σ → Rs → Prop, (∀ s' t', I r s' t' → Q (.nx s') t') → f s x t Q)
    (fin : ∀ s t, I [] s t → P (.inl s) t) : ∀ (xs : List PyData) (s : σ) (t : Rs), I xs s t → forW f xs s t P
  | [], s, t, h => fin s t h
  | x :: r, s, t, h => step x r s t h _ fun s' t' w => for_cps I step fin r s' t' w
theorem map_cps {f : PyData → W PyData} (I : List PyData → List PyData → Rs → Prop) (step : ∀ x r acc t, I (x :: r) acc t → ∀ Q : PyData → Rs → Prop, (∀ y t', I r (acc ++ [y]) t' → Q y t') → f x t Q) :
    ∀ (xs acc : List PyData) (t : Rs) (P : List PyData → Rs → Prop), I xs acc t → (∀ ys t', I [] (acc ++ ys) t' → P ys t') → mapW f xs t P
  | [], acc, t, P, h, q => q [] t (by rw [List.append_nil]; exact h)
  | x :: r, acc, t, P, h, q => step x r acc t h _ fun y t' w => map_cps I step r (acc ++ [y]) t' _ w fun ys t2 z => q (y :: ys) t2 (by rw [List.append_assoc] at z; exact z)
theorem map_fun {f : PyData → W PyData} {g : PyData → PyData} {t : Rs} : ∀ {xs : List PyData} {P : List PyData → Rs → Prop}, (∀ x ∈ xs, ∀ Q : PyData → Rs → Prop, Q (g x) t → f x t Q) → P (xs.map g) t → mapW f xs t P
  | [], P, _, q => q
  | x :: r, P, h, q => h x (List.mem_cons_self ..) _ (map_fun (fun y hy => h y (List.mem_cons_of_mem _ hy)) q)
theorem fil_fun {f : PyData → W (Option PyData)} {g : PyData → Option PyData} {t : Rs} : ∀ {xs : List PyData} {P : List PyData → Rs → Prop}, (∀ x ∈ xs, ∀ Q : Option PyData → Rs → Prop, Q (g x) t → f x t Q) → P (xs.filterMap g) t → filO f xs t P
  | [], P, _, q => q
  | x :: r, P, h, q => h x (List.mem_cons_self ..) _ (by
    rw [List.filterMap_cons] at q
    cases e : g x with
    | none =>
      rw [e] at q
      exact fil_fun (fun y hy => h y (List.mem_cons_of_mem _ hy)) q
    | some y =>
      rw [e] at q
      exact fil_fun (P := fun ys t => P (y :: ys) t) (fun y hy => h y (List.mem_cons_of_mem _ hy)) q)
end Dw
end
section
set_option maxRecDepth 100000
set_option maxHeartbeats 4000000
namespace Dz
open PySem PySem.Spec PyProof.Rows L2 Dl Dw
/-! ### the order of tuples of ints -/
def lexI : List Int → List Int → Bool
  | [], [] => false
  | [], _ :: _ => true
  | _ :: _, [] => false
  | x :: a, y :: b => if x = y then lexI a b else decide (x < y)
theorem lexI_irr : ∀ a, lexI a a = false
  | [] => rfl
  | x :: a => by rw [lexI, if_pos rfl, lexI_irr a]
theorem lexI_asym : ∀ a b, lexI a b = true → lexI b a = false
  | [], [], h => by cases h
  | [], _ :: _, _ => rfl
  | _ :: _, [], h => by cases h
  | x :: a, y :: b, h => by
    rw [lexI] at h ⊢
    by_cases e : x = y
    · rw [if_pos e] at h
      rw [if_pos e.symm]
      exact lexI_asym a b h
    · rw [if_neg e, decide_eq_true_eq] at h
      rw [if_neg (Ne.symm e), decide_eq_false_iff_not]
      omega
theorem lexI_tot : ∀ a b, lexI a b = false → lexI b a = false → a = b
  | [], [], _, _ => rfl
  | [], _ :: _, h, _ => by cases h
  | _ :: _, [], _, h => by cases h
  | x :: a, y :: b, h, h2 => by
    rw [lexI] at h h2
    by_cases e : x = y
    · rw [if_pos e] at h
      rw [if_pos e.symm] at h2
      rw [e, lexI_tot a b h h2]
    · rw [if_neg e, decide_eq_false_iff_not] at h
      rw [if_neg (Ne.symm e), decide_eq_false_iff_not] at h2
      omega
theorem lexI_tr : ∀ a b c, lexI b a = false → lexI c b = false → lexI c a = false
  | [], [], [], _, _ => rfl
  | [], [], _ :: _, _, h => h
  | [], _ :: _, [], _, h => by cases h
  | [], _ :: _, _ :: _, _, _ => rfl
  | _ :: _, [], _, h, _ => by cases h
  | _ :: _, _ :: _, [], _, h => by cases h
  | x :: a, y :: b, z :: c, h, h2 => by
    rw [lexI] at h h2 ⊢
    by_cases e : y = x <;> by_cases e2 : z = y
    · rw [if_pos e] at h
      rw [if_pos e2] at h2
      rw [if_pos (e2.trans e)]
      exact lexI_tr a b c h h2
    · rw [if_neg e2, decide_eq_false_iff_not] at h2
      rw [if_neg (fun z => e2 (z.trans e.symm)), decide_eq_false_iff_not]
      omega
    · rw [if_neg e, decide_eq_false_iff_not] at h
      rw [if_neg (fun z => e (e2.symm.trans z)), decide_eq_false_iff_not]
      omega
    · rw [if_neg e, decide_eq_false_iff_not] at h
      rw [if_neg e2, decide_eq_false_iff_not] at h2
      by_cases e3 : z = x
      · omega
      · rw [if_neg e3, decide_eq_false_iff_not]
        omega
/-- sorted, without duplicates -/
def insI (x : List Int) : List (List Int) → List (List Int)
  | [] => [x]
  | y :: r => if lexI x y = true then x :: y :: r else if x = y then y :: r else y :: insI x r
def sdd (nss : List (List Int)) : List (List Int) := nss.foldr insI []
abbrev Asc (l : List (List Int)) : Prop := l.Pairwise fun a b => lexI a b = true
theorem mem_insI {x z : List Int} : ∀ {l : List (List Int)}, z ∈ insI x l ↔ z = x ∨ z ∈ l
  | [] => by simp [insI]
  | y :: r => by
    rw [insI]
    split
    · simp
    · split
      · rename_i h e
        subst e
        simp
      · rw [List.mem_cons, mem_insI, List.mem_cons]
        constructor
        · rintro (h | h | h)
          · exact .inr (.inl h)
          · exact .inl h
          · exact .inr (.inr h)
        · rintro (h | h | h)
          · exact .inr (.inl h)
          · exact .inl h
          · exact .inr (.inr h)
theorem lexI_trans {a b c : List Int} (h : lexI a b = true) (h2 : lexI b c = true) : lexI a c = true := by
  cases e : lexI a c with
  | true => rfl
  | false =>
    have := lexI_tr b c a (lexI_asym _ _ h2) e
    rw [h] at this
    cases this
theorem asc_insI {x : List Int} : ∀ {l : List (List Int)}, Asc l → Asc (insI x l)
  | [], _ => List.pairwise_singleton _ _
  | y :: r, h => by
    obtain ⟨h1, h2⟩ := List.pairwise_cons.mp h
    rw [insI]
    split
    · rename_i e
      refine List.pairwise_cons.mpr ⟨fun z hz => ?_, h⟩
      rcases List.mem_cons.mp hz with rfl | hz
      · exact e
      · exact lexI_trans e (h1 z hz)
    · split
      · exact h
      · rename_i e e2
        refine List.pairwise_cons.mpr ⟨fun z hz => ?_, asc_insI h2⟩
        rcases mem_insI.mp hz with rfl | hz
        · cases e3 : lexI y z with
          | true => rfl
          | false => exact absurd (lexI_tot _ _ (by simpa using e) e3) e2
        · exact h1 z hz
theorem mem_sdd {z : List Int} : ∀ {l : List (List Int)}, z ∈ sdd l ↔ z ∈ l
  | [] => by simp [sdd]
  | y :: r => by
    show z ∈ insI y (sdd r) ↔ _
    rw [mem_insI, mem_sdd, List.mem_cons]
theorem asc_sdd : ∀ l : List (List Int), Asc (sdd l)
  | [] => List.Pairwise.nil
  | y :: r => asc_insI (asc_sdd r)
theorem asc_uniq : ∀ {a b : List (List Int)}, Asc a → Asc b → (∀ x, x ∈ a ↔ x ∈ b) → a = b
  | [], [], _, _, _ => rfl
  | [], y :: b, _, _, h => absurd ((h y).mpr (List.mem_cons_self ..)) (by simp)
  | x :: a, [], _, _, h => absurd ((h x).mp (List.mem_cons_self ..)) (by simp)
  | x :: a, y :: b, ha, hb, h => by
    obtain ⟨h1, h2⟩ := List.pairwise_cons.mp ha
    obtain ⟨h3, h4⟩ := List.pairwise_cons.mp hb
    have e : x = y := by
      rcases List.mem_cons.mp ((h x).mp (List.mem_cons_self ..)) with e | m1
      · exact e
      · rcases List.mem_cons.mp ((h y).mpr (List.mem_cons_self ..)) with e | m2
        · exact e.symm
        · have := lexI_asym _ _ (h3 x m1)
          rw [h1 y m2] at this
          cases this
    subst e
    have nx : x ∉ a := fun m => by
      have := h1 x m
      rw [lexI_irr] at this
      cases this
    have ny : x ∉ b := fun m => by
      have := h3 x m
      rw [lexI_irr] at this
      cases this
    rw [asc_uniq h2 h4 fun z => ?_]
    constructor
    · intro m
      rcases List.mem_cons.mp ((h z).mp (List.mem_cons_of_mem _ m)) with e | m2
      · subst e
        exact absurd m nx
      · exact m2
    · intro m
      rcases List.mem_cons.mp ((h z).mpr (List.mem_cons_of_mem _ m)) with e | m2
      · subst e
        exact absurd m ny
      · exact m2
/-! ### sorted of a set of tuples of ints -/
def IsInts (h : Heap) (v : Value) (ns : List Int) : Prop := ∃ a o its n, v = .ref a ∧ h.get? a = some o ∧ o.cls = .type "tuple" ∧ o.data = .seq its n ∧ IntsAre its.toList ns
theorem IsInts.keeps {h h' : Heap} {v : Value} {ns : List Int} (p : IsInts h v ns) (k : ∀ b o, h.get? b = some o → o.cls = .type "tuple" → h'.get? b = some o) : IsInts h' v ns := by
  obtain ⟨a, o, its, n, e, ho, hc, hd, hi⟩ := p
  exact ⟨a, o, its, n, e, k _ _ ho hc, hc, hd, hi⟩
theorem ints_uniq : ∀ {vs : List Value} {a b : List Int}, IntsAre vs a → IntsAre vs b → a = b
  | _, _, _, .nil, .nil => rfl
  | _, _, _, .cons x t r, .cons _ _ r2 => by rw [ints_uniq r r2]
theorem IsInts.uniq {h : Heap} {v : Value} {a b : List Int} (p : IsInts h v a) (q : IsInts h v b) : a = b := by
  obtain ⟨x, o, its, n, e, ho, hc, hd, hi⟩ := p
  obtain ⟨x', o', its', n', e', ho', hc', hd', hi'⟩ := q
  subst e
  cases e'
  rw [ho] at ho'
  cases ho'
  rw [hd] at hd'
  cases hd'
  exact ints_uniq hi hi'
section
variable {prog : Program} {w : World} {A : Around} {E : Value → Shared → Prop} {s : Shared}
theorem kat_ints {R : Bool → Shared → Prop} : ∀ {xs ys : List Value} {a b : List Int} (i : Nat), IntsAre xs a → IntsAre ys b → R (lexI a b) s → PySem.W.KatLex prog w A true (decide (a.length < b.length)) R (xs.zip ys) i s
  | _, _, _, _, i, .nil, .nil, h => PySem.W.kat_nil h
  | _, _, _, y :: b, i, .nil, .cons _ u r, h => PySem.W.kat_nil (by
    have e : lexI [] (y :: b) = decide (([] : List Int).length < (y :: b).length) := by simp [lexI]
    rw [← e]
    exact h)
  | _, _, _, _, i, .cons x t r, .nil, h => PySem.W.kat_nil h
  | _, _, x :: a, y :: b, i, .cons _ t r, .cons _ u r2, h => by
    refine PySem.W.kat_cons (SeqAt.EqAt.int_int x t y u prog w _ _ ?_)
    refine PySem.W.kat_go (fun e1 => ?_) (fun e1 => ?_)
    · have ex : x = y := by simpa using e1
      refine PySem.W.kat_yes ?_
      rw [show decide ((x :: a).length < (y :: b).length) = decide (a.length < b.length) from by simp]
      refine kat_ints (i + 1) r r2 ?_
      rw [lexI, if_pos ex] at h
      exact h
    · have ex : ¬ x = y := by simpa using e1
      rw [lexI, if_neg ex] at h
      cases i with
      | zero => exact PySem.W.kat_no (oneLt_int h)
      | succ i => exact PySem.W.kat_no (PySem.W.kat_one _ _ (PyProof.Rows.lt_int h))
theorem swo_lexI (k : Value → List Int) : SrtO.Swo fun v u => lexI (k v) (k u) := ⟨fun x y h => lexI_asym _ _ h, fun x y z h1 h2 => lexI_tr _ _ _ h1 h2⟩
theorem ints_cmp {vs : List Value} {k : Value → List Int} (hp : ∀ v ∈ vs, IsInts s.heap v (k v)) : SrtO.Cmp prog w A s (tuples' true) (fun p => p.1 ∈ vs) (SrtO.lt2 fun v u => lexI (k v) (k u)) := by
  intro p q hm hm'
  have h1 := hp _ hm
  have h2 := hp _ hm'
  show wpAny (model prog w) A (keyLt' (tuples' true) p.1 q.1) (fun r s' => s' = s ∧ r = lexI (k p.1) (k q.1)) (fun _ _ => False) s
  generalize k p.1 = x at h1 ⊢
  generalize k q.1 = y at h2 ⊢
  obtain ⟨a, o, t, n, e, ho, hc, hd, hi⟩ := h1
  obtain ⟨a', o', t', n', e', ho', hc', hd', hi'⟩ := h2
  rw [e, e']
  refine PySem.W.kat_lt ho hd ho' hd' ?_
  have l1 : t.size = x.length := by rw [← Array.length_toList]; exact hi.length
  have l2 : t'.size = y.length := by rw [← Array.length_toList]; exact hi'.length
  rw [l1, l2]
  exact kat_ints 0 hi hi' ⟨rfl, rfl⟩
theorem firstsI {h : Heap} {k : Value → List Int} : ∀ {vs : List Value}, (∀ v ∈ vs, IsInts h v (k v) ∧ k v ≠ []) → ∃ fs : List Value, PySem.W.KatTups h vs fs ∧ fs.length = vs.length ∧ ∀ f ∈ fs, ∃ x t, f = Value.int x t
  | [], _ => ⟨[], PySem.W.KatTups.nil, rfl, fun _ hm => by simp at hm⟩
  | v :: vs, hp => by
    obtain ⟨fs, h1, h2, h3⟩ := firstsI (vs := vs) fun v' hm => hp v' (List.mem_cons_of_mem _ hm)
    obtain ⟨⟨a, o, its, n, e, ho, hc, hd, hi⟩, ne⟩ := hp v (List.mem_cons_self ..)
    subst e
    generalize k (.ref a) = ns at hi ne
    obtain ⟨x, t, r, el⟩ : ∃ x t r, its.toList = Value.int x t :: r := by
      generalize its.toList = l at hi
      cases hi with
      | nil => exact absurd rfl ne
      | cons x t r => exact ⟨x, t, _, rfl⟩
    have e0 : its[0]? = some (Value.int x t) := by
      rw [← Array.getElem?_toList, el]
      rfl
    refine ⟨.int x t :: fs, PySem.W.KatTups.cons ho hc hd e0 h1, by rw [List.length_cons, List.length_cons, h2], fun f hm => ?_⟩
    rcases List.mem_cons.mp hm with rfl | hm
    · exact ⟨x, t, rfl⟩
    · exact h3 f hm
theorem ints_sortableO {a : Addr} {vs : List Value} {k : Value → List Int} (h0 : 0 < vs.length) (hp : ∀ v ∈ vs, IsInts s.heap v (k v) ∧ k v ≠ []) (ha : ∀ o, s.heap.get? a = some o → o.cls ≠ .type "tuple") : SrtO.SortableO prog w A s a vs fun v u => lexI (k v) (k u) := by
  intro h' keep
  have hp' : ∀ v ∈ vs, IsInts h' v (k v) ∧ k v ≠ [] := fun v hm => ⟨(hp v hm).1.keeps fun b o e c => keep b o (fun z => by subst z; exact ha o e c) e, (hp v hm).2⟩
  obtain ⟨fs, h1, h2, h3⟩ := firstsI hp'
  refine ⟨tuples' true, fun Q E hq => ?_, ints_cmp fun v hv => (hp' v hv).1⟩
  refine PySem.W.kat_kind (T := .type "int") h1 (by omega) (fun f hm => ?_) (by rfl) ?_
  · obtain ⟨x, t, rfl⟩ := h3 f hm
    exact PySem.W.Looks.now
  · have e : (Value.type "int" != Value.type "tuple") = true := by first | decide +kernel | rfl | decide
    rw [e]
    exact hq
end
section
variable {P : Program} {w : World} {A : Around} {E : Value → Shared → Prop} {s : Shared}
theorem isT_ints {h : Heap} {k : List Int} {b : Addr} (x : IsT P w h k b) : IsInts h (.ref b) k := by
  obtain ⟨o, its, n, ho, hc, hd, hi⟩ := x
  exact ⟨b, o, its, n, rfl, ho, hc, hd, ints_of_items hi⟩
theorem sorted_setI {a : Addr} {L : List (Addr × List Int)} {es : Array (Int × Value)} {ep : Nat} {t : SetTable} {Q : Value → Shared → Prop} (R : SetTR P w s.heap a L es ep t) (hh : A.handled = none) (ne : ∀ p ∈ L, p.2 ≠ []) {k : Value → List Int} (hk : ∀ p ∈ L, k (.ref p.1) = p.2)
    (hQ : ∀ s' p (out : List Value) (c : Nat), (∀ b o, s.heap.get? b = some o → s'.heap.get? b = some o) → s'.gens = s.gens → s'.os = s.os → s.heap.objs.size ≤ p → s'.heap.get? p = some (seqObj "list" out.toArray c) → out.Perm (L.map fun q => Value.ref q.1) → SrtO.Srtd (fun v u => lexI (k v) (k u)) out → Q (.ref p) s') :
    wpAny (model P w) A (call (.builtin "sorted") [.ref a]) Q E s := by
  obtain ⟨ob, h1, h2, h3⟩ := R.ob
  have few := R.few
  have sz := R.size
  refine Calls.call_function_entry kind_sorted plain_sorted entry_sorted (args_sorted1 _) ?_
  unfold Builtin.«sorted»
  refine wpAny_bind (m := checkCount "sorted" 1 1 _) (wpAny_pure ?_)
  refine wpAny_bind (collect_set (A := A.in1) hh ⟨ob, h1, h2.1, h3⟩ R.fits (by unfold scanBound; omega) R.tab.ris R.led fun s1 vs k1 z1 g1 o1 pm => ?_)
  have rows : es.toList.map (·.2) = L.map fun q => Value.ref q.1 := by
    rw [R.rows]
    unfold L2.rowsOf
    rw [List.map_map] <;> rfl
  rw [rows] at pm
  have fit : vs.length ≤ sizeLine := by
    rw [pm.length_eq, List.length_map, sizeLine_eq]
    omega
  refine wpAny_bind (wpAny_newList ?_ fit)
  have at1 : (s1.heap.push (seqObj "list" vs.toArray 0)).get? s1.heap.objs.size = some (seqObj "list" vs.toArray 0) := Heap.get?_push_size _ rfl
  have pairs : ∀ v ∈ vs, IsInts (s1.heap.push (seqObj "list" vs.toArray 0)) v (k v) ∧ k v ≠ [] := fun v hv => by
    obtain ⟨q, hq, rfl⟩ := List.mem_map.mp (pm.mem_iff.mp hv)
    rw [hk q hq]
    exact ⟨isT_ints (P := P) (w := w) (isT_keep (R.tup q hq) fun b u e => Heap.get?_push_of_some _ (k1 b u e)), ne q hq⟩
  refine wpAny_bind (wpAny_holding (wpAny_call_entry slot_list_sort ⟨_, at1, rfl⟩ entry_list_sort (SrtO.list_sort_ord (swo_lexI k) (s := { s1 with heap := s1.heap.push (seqObj "list" vs.toArray 0) }) at1 fit (fun h2 => ints_sortableO (s := { s1 with heap := s1.heap.push (seqObj "list" vs.toArray 0) }) (by omega) pairs fun o e => ?_) fun out hs ho => ⟨_, rfl, ?_⟩) (args_list_sort _)))
  · have e' : some o = some (seqObj "list" vs.toArray 0) := e.symm.trans at1
    cases e'
    intro c
    exact absurd (Value.type.inj c) (by decide)
  · obtain ⟨c, hc⟩ := sortedHeap_at (vs := vs) (out := out.toArray) at1
    refine wpAny_pure ⟨_, rfl, hQ _ s1.heap.objs.size out c (fun b u e => ?_) g1 o1 z1 hc (ho.perm.trans pm) hs⟩
    have e1 := k1 b u e
    have lt := Heap.lt_size e1
    show (sortedHeap (s1.heap.push (seqObj "list" vs.toArray 0)) s1.heap.objs.size vs out.toArray).get? b = some u
    rw [sortedHeap_old (Nat.ne_of_lt lt) (by rw [size_push']; exact Nat.lt_succ_of_lt lt)]
    exact Heap.get?_push_of_some _ e1
end
def rSortedI (K : PySem.W.Frag) (P : Program) (w : World) : List V → Hp → VK → Prop := fun vs H Q => ∃ (a : Addr) (L : List (Addr × List Int)), vs = [V.ref a] ∧ H a = some (SetTO P w a L) ∧ (∀ p ∈ L, SqT K H p.1 (p.2.map V.int) ∧ p.2 ≠ []) ∧
  ∀ (L2 : List (Addr × List Int)) (p : Addr), (∀ q ∈ L2, q ∈ L) → Asc (L2.map (·.2)) → (∀ x, x ∈ L2.map (·.2) ↔ x ∈ L.map (·.2)) → L2.length < 64 → H p = none → Q (.ref p) (upd H p (.lst (L2.map fun q => V.ref q.1)))
section
variable {X : Cx}
theorem cr_sortedI (hc : X.calm = true) : CallR X (.builtin "sorted") (rSortedI X.K X.prog X.w) := by
  intro pins s σ H vs us Q I r h
  obtain ⟨a, L, rfl, ha, hk, q⟩ := h
  have R0 : SetT0 X.prog X.w s.heap a L := (I.hok a _ ha).1
  obtain ⟨es, ep, t, R⟩ := R0.full fun p hp => I.isT (hk p hp).1
  rw [Vals.ref1 r]
  have hI : ∀ p ∈ L, IsInts s.heap (.ref p.1) p.2 := fun p hp => isT_ints (I.isT (hk p hp).1)
  let k : Value → List Int := fun v => open Classical in if h : ∃ ns, IsInts s.heap v ns then h.choose else []
  have hkk : ∀ p ∈ L, k (.ref p.1) = p.2 := fun p hp => by
    have ex : ∃ ns, IsInts s.heap (.ref p.1) ns := ⟨_, hI p hp⟩
    show (open Classical in if h : ∃ ns, IsInts s.heap (.ref p.1) ns then h.choose else []) = _
    rw [dif_pos ex]
    exact ex.choose_spec.uniq (hI p hp)
  refine sorted_setI R (I.ok.hd hc) (fun p hp => (hk p hp).2) hkk fun s2 p out c k2 g o hp hg perm srt => ?_
  obtain ⟨L2, rfl, sub, len⟩ := perm_map_out _ perm
  have few := R.few
  have fresh : H p = none := I.hok.fresh hp
  have J : Inv X pins σ (upd H p (.lst (L2.map fun q => V.ref q.1))) { s with heap := s2.heap, gens := s2.gens, drawn := s2.drawn, toks := s2.toks } :=
    I.call (ch := []) (Un.laid k2 hp fresh) (I.hok.laid k2 hp ⟨by rw [List.length_map, sizeLine_eq]; omega, _, c, vals_of_refs L2, hg⟩) (by rw [g]; exact I.bare) fun _ z => nomatch z
  have e : s2 = { s with heap := s2.heap, gens := s2.gens, drawn := s2.drawn, toks := s2.toks } := by
    cases s2
    cases s
    cases o
    rfl
  rw [e]
  have em : (L2.map fun q => Value.ref q.1).map k = L2.map (·.2) := by
    rw [List.map_map]
    exact List.map_congr_left fun q hq => hkk q (sub q hq)
  have em2 : (L.map fun q => Value.ref q.1).map k = L.map (·.2) := by
    rw [List.map_map]
    exact List.map_congr_left fun q hq => hkk q hq
  have pm2 : (L2.map (·.2)).Perm (L.map (·.2)) := by
    have := perm.map k
    rwa [em, em2] at this
  have nd : (L2.map (·.2)).Nodup := pm2.nodup_iff.mpr R.nd
  have asc : Asc (L2.map (·.2)) := by
    have h1 : ((L2.map fun q => Value.ref q.1).map k).Pairwise fun a b => lexI b a = false := List.pairwise_map.mpr srt
    rw [em] at h1
    refine (h1.and nd).imp fun {a b} h => ?_
    cases e : lexI a b with
    | true => rfl
    | false => exact absurd (lexI_tot _ _ e h.1) h.2
  exact ⟨.ref p, _, J, rfl, q L2 p sub asc (fun x => pm2.mem_iff) (by omega) fresh⟩
end
/-- lists of tuples of ints -/
def intRows : List PyData → Option (List (List Int))
  | [] => some []
  | .tuple r :: q => match intsOf r with
    | some ns => (intRows q).map (ns :: ·)
    | none => none
  | _ => none
abbrev iRow (ns : List Int) : PyData := .tuple (ns.map .int)
theorem intRows_map : ∀ nss : List (List Int), intRows (nss.map iRow) = some nss
  | [] => rfl
  | ns :: nss => by
    rw [List.map_cons, intRows, intsOf_map, intRows_map]
    rfl
theorem intRows_some : ∀ {xs : List PyData} {nss : List (List Int)}, intRows xs = some nss → xs = nss.map iRow
  | [], _, h => by cases h; rfl
  | x :: q, nss, h => by
    cases x with
    | tuple r =>
      rw [intRows] at h
      cases e : intsOf r with
      | none => rw [e] at h; cases h
      | some ns =>
        rw [e] at h
        cases e2 : intRows q with
        | none => rw [e2] at h; cases h
        | some ms =>
          rw [e2] at h
          cases h
          rw [List.map_cons, ← intRows_some e2, intsOf_some e]
    | _ => cases h
/-- sorted(set(xs)) of a list of tuples of ints -/
def sdW (f : W PyData) : W (List PyData) := bnd f fun x => match x with
  | .list xs => match intRows xs with
    | some nss => need (nss.length < 64 ∧ ∀ ns ∈ nss, ns ≠ []) (Dw.ret ((sdd nss).map iRow))
    | none => bad
  | _ => bad
section
variable {X : Cx} {Wo : WO} {M : Md X.K Wo} {ρ : List B} {e : Expr} {f : W PyData} {kk : Nat} {pos pos2 p1 p2 : Pos}
theorem rl_sortedSet (E : Ev X kk) (ha : RD M e ρ f) (hg1 : Gl X "sorted" := by rfl) (hg2 : Gl X "set" := by rfl) (h3 : starEach [e] X.env = (false, eval e X.env) :: starEach [] X.env := by rfl)
    (h4 : starEach [.Call (.Name "set" p2) [e] [] pos2] X.env = (false, eval (.Call (.Name "set" p2) [e] [] pos2) X.env) :: starEach [] X.env := by rfl) : RL M (.Call (.Name "sorted" p1) [.Call (.Name "set" p2) [e] [] pos2] [] pos) ρ (sdW f) := ⟨fun t P z =>
  jl_of (pe_callB (cr_sortedI E.calm) hg1 E.bu.sorted boot_sorted' (pa_cons (pe_callTy (cr_setOfT E.calm (by have := E.room.un; omega)) hg2 E.bu.set boot_set' (pa_cons peT pa_nil h3) (by decide) (by decide) h3 rfl) pa_nil h4) (by decide) (by decide) h4 rfl) fun σ G H S Q q =>
    (ha.run t _ z) σ G H S _ fun G1 H1 v x t1 s1 d1 z1 => by
      cases x <;> first | exact z1.elim | skip
      rename_i xs
      have z2 : (match intRows xs with | some nss => need (nss.length < 64 ∧ ∀ ns ∈ nss, ns ≠ []) (Dw.ret ((sdd nss).map iRow)) | none => bad) t1 P := z1
      cases en : intRows xs with
      | none => rw [en] at z2; exact z2.elim
      | some nss =>
      rw [en] at z2
      obtain rfl := intRows_some en
      obtain ⟨⟨few, ne⟩, p⟩ := z2
      obtain ⟨l, ws, rfl, st, da⟩ := d1.lstE
      obtain ⟨ks, rfl, e2, e3⟩ := rows_of da
      have k1 := (S.step s1).ok
      have hlen : ks.length = nss.length := by rw [← e2, List.length_map]
      refine ⟨l, ks, rfl, .inl (.inl (k1.sub _ _ st)), fun p hp => sqt_up k1.sub (e3 p hp), by omega, fun a L ha sub sub' => ?_⟩
      have s2 := k1.layO (o := SetTO X.prog X.w a L) ha
      have k2 := k1.step s2
      have in2 : ∀ q ∈ L, q.2 ∈ nss := fun q hq => by
        rw [← e2]
        exact List.mem_map.mpr ⟨q, sub q hq, rfl⟩
      refine ⟨a, L, rfl, upd_same, fun p hp => ⟨sqt_up s2.sub (e3 p (sub p hp)), ne _ (in2 p hp)⟩, fun L2 p2 sub2 asc mem len2 hp2 => ?_⟩
      have s3 := k2.layO (o := .lst (L2.map fun q => V.ref q.1)) hp2
      have eq : L2.map (·.2) = sdd nss := asc_uniq asc (asc_sdd nss) fun x => by
        rw [mem x, mem_sdd]
        constructor
        · intro h
          obtain ⟨q, hq, rfl⟩ := List.mem_map.mp h
          exact in2 q hq
        · intro h
          rw [← e2] at h
          obtain ⟨q, hq, rfl⟩ := List.mem_map.mp h
          exact sub' q hq
      have p' : P ((L2.map (·.2)).map fun ns => .tuple (ns.map PyData.int)) t1 := by
        rw [eq]
        exact p
      exact q G1 _ p2 _ _ t1 (s1.trans (s2.trans s3)) (fresh_of (s1.trans s2) hp2) (none_of k2 hp2) upd_same (rows_back L2 fun r hr => e3 r (sub r (sub2 r hr))) p'⟩
end
end Dz
end
section
set_option maxRecDepth 100000
set_option maxHeartbeats 4000000
namespace Dz
open PySem PySem.Spec PyProof.Rows L2 Dl Dw
section
variable {X : Cx} {Wo : WO} {M : Md X.K Wo} {ρ : List B} {e a b o tg : Expr} {es : List Expr} {f g : W PyData} {lf : W (List PyData)} {kk : Nat} {pos cpos apos p q : Pos} {x y : Str} {τ σ : Type} {emb : τ → List B} {emc : σ → List B} {rest : List Stmt} {xs : List PyData}
/-! ### texts -/
def strsOf : List PyData → Option (List Str)
  | [] => some []
  | .str b :: r => (strsOf r).map (b :: ·)
  | _ => none
theorem strsOf_map : ∀ bs : List Str, strsOf (bs.map PyData.str) = some bs
  | [] => rfl
  | b :: bs => by rw [List.map_cons, strsOf, strsOf_map]; rfl
theorem strsOf_some : ∀ {xs : List PyData} {bs : List Str}, strsOf xs = some bs → xs = bs.map PyData.str
  | [], bs, h => by cases h; rfl
  | x :: r, bs, h => by
    cases x with
    | str b =>
      rw [strsOf] at h
      cases e : strsOf r with
      | none => rw [e] at h; cases h
      | some cs =>
        rw [e] at h
        cases h
        rw [List.map_cons, ← strsOf_some e]
    | _ => cases h
def joinD (a : Str) (xs : List PyData) : W PyData := match strsOf xs with
  | some ss => need ((ss.map (·.length)).sum + ss.length * a.length ≤ 16777216) (Dw.ret (.str (Txt.join a ss)))
  | none => bad
def joinW (f g : W PyData) : W PyData := bnd f fun x => match x with
  | .str a => bnd g fun y => match y with
    | .list xs => joinD a xs
    | .tuple xs => joinD a xs
    | _ => bad
  | _ => bad
theorem joinD_of {a : Str} {xs : List PyData} {t : Rs} {P : PyData → Rs → Prop} (h : joinD a xs t P) : ∃ ss, xs = ss.map PyData.str ∧ (ss.map (·.length)).sum + ss.length * a.length ≤ 16777216 ∧ P (.str (Txt.join a ss)) t := by
  unfold joinD at h
  cases e : strsOf xs with
  | none => rw [e] at h; exact h.elim
  | some ss => rw [e] at h; exact ⟨ss, strsOf_some e, h.1, h.2⟩
theorem rd_join (_E : Ev X kk) (ha : RD M o ρ f) (hb : RD M e ρ g) (hs : starEach [e] X.env = [(false, eval e X.env)] := by rfl) (hbase : attributeBase o "join" X.env (eval o X.env) = eval o X.env := by rfl) (hline : (apos.endLine == pos.line) = true := by rfl) :
    RD M (.Call (.Attribute o "join" apos) [e] [] pos) ρ (joinW f g) := ⟨fun t P z => jd_of (pe_join peT peT hs hbase hline) fun σ G H S Q q => (ha.run t _ z) σ G H S _ fun G1 H1 v x t1 s1 d1 z1 => by
  cases x <;> first | exact z1.elim | skip
  rename_i a
  obtain rfl := d1.strE
  refine ⟨⟨a, rfl⟩, (hb.run t1 _ z1) σ G1 H1 (S.step s1) _ fun G2 H2 w y t2 s2 d2 z2 => ?_⟩
  cases y <;> first | exact z2.elim | skip
  · obtain ⟨ss, rfl, hl, p⟩ := joinD_of z2
    obtain ⟨l, vs, rfl, st, da⟩ := d2.lstE
    obtain rfl := da.strs
    exact ⟨a, l, ss, rfl, rfl, .inl (.inl (.inl (((S.step s1).step s2).ok.sub _ _ st))), hl, q G2 H2 _ _ t2 (s1.trans s2) (.str _) p⟩
  · obtain ⟨ss, rfl, hl, p⟩ := joinD_of z2
    obtain ⟨l, vs, rfl, st, da⟩ := d2.tupE
    obtain rfl := da.strs
    exact ⟨a, l, ss, rfl, rfl, .inr (sqt_up ((S.step s1).step s2).ok.sub st), hl, q G2 H2 _ _ t2 (s1.trans s2) (.str _) p⟩⟩
/-- {x} in an f-string -/
def ofmt : PyData → W PyData
  | .str y => need (y.length ≤ 16777216) (Dw.ret (.str y))
  | .int i => need (i.natAbs.log2 < 1920) (Dw.ret (.str (Str.ofString (toString i))))
  | _ => bad
theorem rd_fmt (ha : RD M e ρ f) : RD M (.FormattedValue e (-1) none pos) ρ (op1 ofmt f) := ⟨fun t P z => jd_of (pe_fmt peT) fun σ G H S Q q => (ha.run t _ z) σ G H S _ fun G1 H1 v x t1 s1 d1 z1 => by
  cases x <;> first | exact z1.elim | skip
  · rename_i i
    obtain rfl := d1.intE
    exact .inr ⟨i, rfl, z1.1, q G1 H1 _ _ t1 s1 (.str _) z1.2⟩
  · rename_i y
    obtain rfl := d1.strE
    exact .inl ⟨y, rfl, line_of z1.1, q G1 H1 _ _ t1 s1 (.str _) z1.2⟩⟩
def jsW : List (W PyData) → Str → W PyData
  | [], acc => Dw.ret (.str acc)
  | f :: r, acc => bnd f fun x => match x with
    | .str y => need ((acc ++ y).length ≤ 16777216) (jsW r (acc ++ y))
    | _ => bad
inductive RJ (M : Md X.K Wo) (ρ : List B) : List Expr → List (W PyData) → Prop
  | nil : RJ M ρ [] []
  | cons {e : Expr} {f : W PyData} {es : List Expr} {fs : List (W PyData)} : RD M e ρ f → RJ M ρ es fs → RJ M ρ (e :: es) (f :: fs)
theorem RJ.pj {fs : List (W PyData)} (h : RJ M ρ es fs) : PJ X es (es.map (TeOf X)) := by
  induction h with
  | nil => exact .nil
  | cons _ _ ih => exact .cons peT ih
theorem RJ.run {fs : List (W PyData)} (h : RJ M ρ es fs) : ∀ (acc : Str) (t : Rs) (P : PyData → Rs → Prop), jsW fs acc t P → ∀ (σ : L2.St) (G H : Hp), Sat M t G H σ ρ → ∀ Q : Str → Hp → Prop,
    (∀ (G' H' : Hp) (u : Str) (t' : Rs), Stp M t' G H G' H' → P (.str u) t' → Q u H') → tJs (es.map (TeOf X)) acc σ H Q := by
  induction h with
  | nil => exact fun acc t P z σ G H S Q q => q G H acc t S.ok.refl z
  | cons he _ ih =>
    intro acc t P z σ G H S Q q
    refine (he.run t _ z) σ G H S _ fun G1 H1 v x t1 s1 d1 z1 => ?_
    cases x <;> first | exact z1.elim | skip
    rename_i y
    obtain rfl := d1.strE
    exact ⟨y, rfl, line_of z1.1, ih (acc ++ y) t1 P z1.2 σ G1 H1 (S.step s1) Q fun G2 H2 u t2 s2 p => q G2 H2 u t2 (s1.trans s2) p⟩
theorem rd_fstr {v1 v2 : Expr} {fs : List (W PyData)} (h : RJ M ρ (v1 :: v2 :: es) fs) : RD M (.JoinedStr (v1 :: v2 :: es) pos) ρ (jsW fs Str.empty) := ⟨fun t P z => jd_of (pe_joined h.pj) fun σ G H S Q q =>
  h.run Str.empty t P z σ G H S _ fun G1 H1 u t1 s1 p => q G1 H1 _ _ t1 s1 (.str u) p⟩
/-- texts that are the same -/
def eqSW (f g : W PyData) : W PyData := bnd f fun x => match x with
  | .str y => bnd g fun z => match z with
    | .str u => Dw.ret (.bool (decide (y = u)))
    | _ => bad
  | _ => bad
theorem rd_eqS (ha : RD M a ρ f) (hb : RD M b ρ g) : RD M (.Compare a [.Eq] [b] pos) ρ (eqSW f g) := ⟨fun t P z => jd_cmp op_eq (nomark _) ((ha.run t _ z).imp fun x t1 z1 => by
  cases x <;> first | exact z1.elim | skip
  rename_i y
  refine (hb.run t1 _ z1).imp fun z t2 z2 => ?_
  cases z <;> first | exact z2.elim | skip
  rename_i u
  intro G H v w k hv hw Q r
  rw [hv.strE, hw.strE]
  have e3 : (decide (V.str y = V.str u)) = decide (y = u) := by
    by_cases hy : y = u
    · rw [decide_eq_true hy, decide_eq_true (by rw [hy])]
    · rw [decide_eq_false hy, decide_eq_false (fun z => hy (V.str.inj z))]
  exact ⟨rfl, by rw [e3]; exact keep k r (.bl _) z2⟩)⟩
/-! ### lists of slots -/
def popW {α : Type} (xs : List PyData) (k : List PyData → PyData → W α) : W α := match xs.getLast? with
  | some y => k xs.dropLast y
  | none => bad
theorem rs_popTo {gt : TG} {k : List PyData → PyData → W (Out τ σ)} (i : Nat) (hg : PG X tg gt) (hk : ∀ ys y, RG (M := M) gt (ρ.set i (.own ys)) y rest emb emc (k ys y)) (hr : ρ[i]? = some (.own xs) := by rfl)
    (hN : X.N[i]? = some x := by rfl) (hv : Vis X.env.scope x := by first | exact Or.inl rfl | exact Or.inr (Or.inl rfl) | exact Or.inr (Or.inr rfl)) (hd : (x == ("__debug__" : Str)) = false := by decide) (hcd : (x == ("__classdict__" : Str)) = false := by decide)
    (hs : swapsWithSole [tg] (.Call (.Attribute (.Name x p) "pop" apos) [] [] cpos) pos.line X.env = pure false := by rfl) (hw : swappedStores [tg] (.Call (.Attribute (.Name x p) "pop" apos) [] [] cpos) X.env = pure none := by rfl)
    (ha : (assignEach [tg] X.env).map (·.2) = [assign tg X.env] := by rfl)
    (h1 : attributeBase (.Name x p) "pop" X.env (eval (.Name x p) X.env) = eval (.Name x p) X.env := by rfl) (h4 : (apos.endLine == cpos.line) = true := by rfl) : RS M (.Assign [tg] (.Call (.Attribute (.Name x p) "pop" apos) [] [] cpos) pos :: rest) ρ emb emc (popW xs k) := ⟨fun t P D z n => by
  unfold popW at z
  cases e : xs.getLast? with
  | none => rw [e] at z; exact z.elim
  | some y =>
    rw [e] at z
    have ex : xs.dropLast ++ [y] = xs := by
      rcases List.eq_nil_or_concat xs with h | ⟨l, b, h⟩
      · subst h
        cases e
      · subst h
        simp at e ⊢
        exact e.symm
    exact jss_cons (js_popTo i (xs := xs.dropLast) (y := y) (by rw [hr, ex]) hg ((hk xs.dropLast y).run t P D z n) hN hv hd hcd hs hw ha h1 h4)⟩
def popAtW {α : Type} (xs : List PyData) (y : PyData) (k : List PyData → W α) : W α := match y with
  | .int j => match seqIndex? j xs.length with
    | some n => need (-(2 ^ 63) ≤ j ∧ j < 2 ^ 63 ∧ n < xs.length) (k (xs.eraseIdx n))
    | none => bad
  | _ => bad
theorem rs_popAt {k : List PyData → W (Out τ σ)} (i : Nat) (he : RD M e ρ f) (hk : ∀ ys, RS M rest (ρ.set i (.own ys)) emb emc (k ys)) (hr : ρ[i]? = some (.own xs) := by rfl)
    (hN : X.N[i]? = some x := by rfl) (hv : Vis X.env.scope x := by first | exact Or.inl rfl | exact Or.inr (Or.inl rfl) | exact Or.inr (Or.inr rfl)) (hd : (x == ("__debug__" : Str)) = false := by decide) (hcd : (x == ("__classdict__" : Str)) = false := by decide)
    (hs : swapsWith (.Call (.Attribute (.Name x p) "pop" apos) [e] [] cpos) none pos.line X.env = pure false := by rfl) (h3 : starEach [e] X.env = (false, eval e X.env) :: starEach [] X.env := by rfl)
    (h1 : attributeBase (.Name x p) "pop" X.env (eval (.Name x p) X.env) = eval (.Name x p) X.env := by rfl)
    (h2 : ((((backTo cpos (starEach [e] X.env)).all fun x => !x.1) && (backToKw cpos (keywordEach [] X.env)).all fun x => x.1.isSome) && decide (([e].length + ([] : List Keyword).length + if ([] : List Keyword).isEmpty = true then 0 else 1) < 30)) = true := by rfl)
    (h4 : (apos.endLine == cpos.line) = true := by rfl) (h5 : ((backTo cpos (starEach [] X.env)).any fun x => x.1) = false := by rfl) : RS M (.Expr (.Call (.Attribute (.Name x p) "pop" apos) [e] [] cpos) pos :: rest) ρ emb emc (bnd f fun y => popAtW xs y k) := ⟨fun t P D z n =>
  jss_cons (js_popAt i hr ((he.run t _ z).imp fun y t1 z1 => by
    cases y <;> first | exact z1.elim | skip
    rename_i j
    have z2 : (match seqIndex? j xs.length with | some n => need (-(2 ^ 63) ≤ j ∧ j < 2 ^ 63 ∧ n < xs.length) (k (xs.eraseIdx n)) | none => bad) t1 P := z1
    cases ej : seqIndex? j xs.length with
    | none => rw [ej] at z2; exact z2.elim
    | some m =>
      rw [ej] at z2
      obtain ⟨⟨b1, b2, b3⟩, w⟩ := z2
      exact ⟨j, m, xs[m], rfl, b1, b2, ej, List.getElem?_eq_getElem b3, (hk _).run t1 P D w n⟩) hN hv hd hcd hs h3 h1 h2 h4 h5)⟩
/-- x, y = e, a new list -/
theorem rs_parL (i j : Nat) {px py pt pt2 : Pos} {kt ku : Nat} {k : PyData → List PyData → W (Out τ σ)} (E : Ev X kk) (hN : X.N.Nodup) (ha : RD M a ρ f) (hb : RL M b ρ lf) (hk : ∀ u v, RS M rest ((ρ.set i (.d u)).set j (.own v)) emb emc (k u v)) (hij : i ≠ j := by decide)
    (hw : swappedStores [.Tuple [.Name x px, .Name y py] kt pt] (.Tuple [a, b] ku pt2) X.env = pure (some [x, y]) := by rfl)
    (hi : X.N[i]? = some x := by rfl) (hj : X.N[j]? = some y := by rfl) (hx : X.env.scope.names.lookup x = some .local := by rfl) (hy : X.env.scope.names.lookup y = some .local := by rfl)
    (hs : swapsWithSole [.Tuple [.Name x px, .Name y py] kt pt] (.Tuple [a, b] ku pt2) pos.line X.env = pure false := by rfl)
    (h3 : starEach [a, b] X.env = (false, eval a X.env) :: starEach [b] X.env := by rfl) (h4 : starEach [b] X.env = (false, eval b X.env) :: starEach [] X.env := by rfl) :
    RS M (.Assign [.Tuple [.Name x px, .Name y py] kt pt] (.Tuple [a, b] ku pt2) pos :: rest) ρ emb emc (bnd f fun u => bnd lf fun v => k u v) := ⟨fun t P D z w =>
  jss_cons (js_of (ps_par E.calm hN hi hj hij hx hy (pa_cons peT (pa_cons peT pa_nil h4) h3) hw hs) fun σ G H S E' F =>
    (ha.run t _ z) σ G H S _ fun G1 H1 v x t1 s1 d1 z1 => (hb.run t1 _ z1) σ G1 H1 (S.step s1) _ fun G2 H2 l ws xs t2 s2 n g e da z2 =>
      ⟨v, .ref l, rfl, F.nx _ G2 H2 _ t2 ((((S.step s1).step s2).set (De.up s2.gg _ _ d1)).setL (S.ne_r (fresh_of s1 n)) g e (fresh_of S.st (fresh_of s1 n)) da fun j' ys ne e' => by
        by_cases hji : i = j'
        · subst hji
          have hl : i < ρ.length := by
            by_cases q : i < ρ.length
            · exact q
            · rw [List.getElem?_eq_none (by rw [List.length_set]; omega)] at e'
              cases e'
          rw [List.getElem?_set_self hl] at e'
          cases e'
        · rw [List.getElem?_set_ne hji] at e' ⊢
          exact (S.step s1).fresh n e') (s1.trans s2).gg ((hk _ _).run t2 P D z2 w)⟩)⟩
end
end Dz
end
section
set_option maxRecDepth 100000
set_option maxHeartbeats 4000000
namespace Dz
open PySem PySem.Spec PyProof.Rows L2 Dl Dw
section
variable {X : Cx} {Wo : WO} {M : Md X.K Wo} {ρ : List B} {e a b o tg : Expr} {es : List Expr} {f g : W PyData} {lf : W (List PyData)} {kk : Nat} {pos cpos apos p q : Pos} {x y : Str} {τ σ : Type} {emb : τ → List B} {emc : σ → List B} {rest : List Stmt} {xs : List PyData}
/-- x, y = a new list, e -/
theorem rs_parLD (i j : Nat) {px py pt pt2 : Pos} {kt ku : Nat} {k : List PyData → PyData → W (Out τ σ)} (E : Ev X kk) (hN : X.N.Nodup) (ha : RL M a ρ lf) (hb : RD M b ρ g) (hk : ∀ u v, RS M rest ((ρ.set i (.own u)).set j (.d v)) emb emc (k u v)) (hij : i ≠ j := by decide)
    (hw : swappedStores [.Tuple [.Name x px, .Name y py] kt pt] (.Tuple [a, b] ku pt2) X.env = pure (some [x, y]) := by rfl)
    (hi : X.N[i]? = some x := by rfl) (hj : X.N[j]? = some y := by rfl) (hx : X.env.scope.names.lookup x = some .local := by rfl) (hy : X.env.scope.names.lookup y = some .local := by rfl)
    (hs : swapsWithSole [.Tuple [.Name x px, .Name y py] kt pt] (.Tuple [a, b] ku pt2) pos.line X.env = pure false := by rfl)
    (h3 : starEach [a, b] X.env = (false, eval a X.env) :: starEach [b] X.env := by rfl) (h4 : starEach [b] X.env = (false, eval b X.env) :: starEach [] X.env := by rfl) :
    RS M (.Assign [.Tuple [.Name x px, .Name y py] kt pt] (.Tuple [a, b] ku pt2) pos :: rest) ρ emb emc (bnd lf fun u => bnd g fun v => k u v) := ⟨fun t P D z w =>
  jss_cons (js_of (ps_par E.calm hN hi hj hij hx hy (pa_cons peT (pa_cons peT pa_nil h4) h3) hw hs) fun σ G H S E' F =>
    (ha.run t _ z) σ G H S _ fun G1 H1 l ws xs t1 s1 n g e da z1 => (hb.run t1 _ z1) σ G1 H1 (S.step s1) _ fun G2 H2 v x t2 s2 d2 z2 => by
      have hlr : l ≠ M.r := S.ne_r n
      have S1 := (S.step s1).setL (i := i) hlr g e (fresh_of S.st n) da fun j' ys ne e' => S.fresh n (by exact e') |> fun h => h
      have S2 := (S1.step s2).set (i := j) d2
      exact ⟨.ref l, v, rfl, F.nx _ G2 H2 _ t2 S2 (s1.trans s2).gg ((hk _ _).run t2 P D z2 w)⟩)⟩
/-! ### tuple(text), tuple(range) -/
theorem cr_tupStr (hc : X.calm = true) : CallR X (.type "tuple") (fun vs H Q => ∃ z : Str, vs = [.str z] ∧ z.length ≤ 16777216 ∧ ∀ p, H p = none → Q (.ref p) (upd H p (.tup (z.cps.toList.map fun c => V.str ⟨#[c]⟩)))) := by
  intro pins s σ H vs us Q I r h
  obtain ⟨z, rfl, hl, q⟩ := h
  cases r with
  | cons r1 r2 =>
    cases r2
    obtain ⟨t, rfl⟩ := r1
    refine call_tuple_str (I.ok.hd hc) z t (fun h' tk acc hk hi => ?_) (by rw [sizeLine_eq]; exact hl)
    have I1 : Inv X pins σ H { s with heap := h', toks := tk } := I.kept hk
    have hv : Vals (z.cps.toList.map fun c => V.str ⟨#[c]⟩) acc.toList := by
      have hz : acc.toList.length = z.cps.toList.length := by rw [Array.length_toList, Array.length_toList]; exact hi.1
      have e1 : (z.cps.toList.map fun c => V.str ⟨#[c]⟩) = (List.range acc.toList.length).map fun j => V.str ⟨#[z.cps.toList.getD j 0]⟩ := by
        rw [hz]
        refine List.ext_getElem (by simp) fun n h1 h2 => ?_
        have hn : n < z.cps.toList.length := by simpa using h1
        simp only [List.getElem_map, List.getElem_range, List.getD, List.getElem?_eq_getElem hn, Option.getD_some]
      rw [e1]
      refine vals_of_get acc.toList _ fun j u hj => ?_
      obtain ⟨c, tk', hc, rfl⟩ := hi.2 j u (by rw [← hj, Array.getElem?_toList])
      refine ⟨tk', ?_⟩
      have : z.cps.toList[j]? = some c := by rw [Array.getElem?_toList]; exact hc
      simp only [List.getD, this, Option.getD_some]
    have I2 : Inv X pins σ (upd H h'.objs.size (.tup (z.cps.toList.map fun c => V.str ⟨#[c]⟩))) { s with heap := h'.push { cls := .type "tuple", data := .seq acc }, toks := tk } :=
      I1.laid (t' := tk) (fun b o e => Heap.get?_push_of_some _ e) (Nat.le_refl _) (show ObjOk X.prog X.w _ _ _ (.tup _) from ⟨by rw [List.length_map, sizeLine_eq]; exact hl, acc.toList, hv, IsTup.new _ _⟩)
    exact ⟨.ref h'.objs.size, _, I2, rfl, q _ (I1.hok.fresh (Nat.le_refl _))⟩
def otupS : PyData → W PyData
  | .str z => need (z.length ≤ 16777216) (Dw.ret (.tuple (sgnD z)))
  | _ => bad
theorem sgn_all {K : PySem.W.Frag} {G : Hp} (z : Str) : DeAll K G (z.cps.toList.map fun c => V.str ⟨#[c]⟩) (sgnD z) := by
  unfold sgnD
  generalize z.cps.toList = l
  induction l with
  | nil => exact .nil
  | cons c l ih => exact .cons (.str _) ih
theorem rd_tupS (E : Ev X kk) (ha : RD M a ρ f) (hs : starEach [a] X.env = (false, eval a X.env) :: starEach [] X.env := by rfl) (hg : Gl X (Str.ofString "tuple") := by rfl) : RD M (.Call (.Name (Str.ofString "tuple") p) [a] [] pos) ρ (op1 otupS f) := ⟨fun t P z =>
  jd_callTy (cr_tupStr E.calm) hg E.bu.tuple boot_tuple' (ja_one (ha.run t _ z) (fun x t1 z1 => by
    cases x <;> first | exact z1.elim | skip
    rename_i y
    intro G H vs k ar Q q
    obtain ⟨v, rfl, d⟩ := arg1 ar
    refine ⟨y, by rw [d.strE], z1.1, fun p hp => ?_⟩
    have st := k.lay (o := .tup (y.cps.toList.map fun c => V.str ⟨#[c]⟩)) hp
    exact q _ _ _ _ _ st (.tup (.inl (.inl upd_same)) (sgn_all y)) z1.2) hs) (by decide) (by decide) hs rfl⟩
def tupRngW (f g : W PyData) : W PyData := bnd f fun x => match x with
  | .int i => bnd g fun y => match y with
    | .int j => need (RgOk i j) (Dw.ret (.tuple (rngD i (j - i).toNat)))
    | _ => bad
  | _ => bad
theorem rg_all {K : PySem.W.Frag} {G : Hp} (i j : Int) : DeAll K G (rgV i j) (rngD i (j - i).toNat) := by
  unfold rgV rngD
  generalize List.range (j - i).toNat = l
  induction l with
  | nil => exact .nil
  | cons c l ih => exact .cons (.int _) ih
theorem rd_tupRng2 {p2 pos2 : Pos} (E : Ev X kk) (ha : RD M a ρ f) (hb : RD M b ρ g) (hg : Gl X "tuple" := by rfl) (hg2 : Gl X "range" := by rfl) (na : starEach [a, b] X.env = (false, eval a X.env) :: starEach [b] X.env := by rfl)
    (nb : starEach [b] X.env = (false, eval b X.env) :: starEach [] X.env := by rfl) (hp : (backTo pos2 (starEach [b] X.env)).any (·.1) = false := by rfl)
    (nc : starEach [.Call (.Name "range" p2) [a, b] [] pos2] X.env = (false, eval (.Call (.Name "range" p2) [a, b] [] pos2) X.env) :: starEach [] X.env := by rfl) :
    RD M (.Call (.Name "tuple" p) [.Call (.Name "range" p2) [a, b] [] pos2] [] pos) ρ (tupRngW f g) := ⟨fun t P z => jd_of (pe_tupRg E.calm hg E.bu.tuple (prg_2 hg2 E.bu.range peT peT na nb hp) nc) fun σ G H S Q q => (ha.run t _ z) σ G H S _ fun G1 H1 v x t1 s1 d1 z1 => by
  cases x <;> first | exact z1.elim | skip
  rename_i i
  obtain rfl := d1.intE
  refine (hb.run t1 _ z1) σ G1 H1 (S.step s1) _ fun G2 H2 w y t2 s2 d2 z2 => ?_
  cases y <;> first | exact z2.elim | skip
  rename_i j
  obtain rfl := d2.intE
  refine ⟨i, j, rfl, rfl, z2.1, fun p hp => ?_⟩
  have st := ((S.step s1).step s2).ok.lay (o := .tup (rgV i j)) hp
  exact q _ _ _ _ _ ((s1.trans s2).trans st) (.tup (.inl (.inl upd_same)) (rg_all i j)) z2.2⟩
end
/-! ### enumerate(tuple) -/
theorem meets_enumerate_newT (l : Addr) (items : Array Value) (n : Nat) (dct : Option Addr) (sl : Array (Option Value)) :
    Meets (Builtin.«enumerate.__new__» ⟨[.type "enumerate", .ref l], []⟩) (fun _ R s => s.heap.get? l = some { cls := .type "tuple", dict := dct, data := .seq items n, slots := sl } ∧
      R (.ok (.ret (.ref (s.heap.push { cls := .type "tuple_iterator", data := .fields #[.ref l, .int 0 0] }).objs.size)))
        { s with heap := (s.heap.push { cls := .type "tuple_iterator", data := .fields #[.ref l, .int 0 0] }).push { cls := .type "enumerate", data := .fields #[.none, .bool false, .ref s.heap.objs.size, rawInt 0, .none, .none] } }) :=
  .of_wp fun prog w A R s h => by
    obtain ⟨hp, g, d, tk, os⟩ := s; obtain ⟨hl, h⟩ := h
    have hsub := sub_enumerate
    have hL : Heap.IsTuple (Shared.heap ⟨hp, g, d, tk, os⟩) l items := ⟨_, hl, rfl, n, rfl⟩
    wp_walk using AutoSeq1.wpAny_loadPart' hl
    refine wpAny_stack_any fun st => wpAny_pure ?_
    split
    · rename_i c _ _ _ _ _
      cases (c == Value.type "enumerate")
      · wp_walk using AutoSeq1.wpAny_loadPart' hl, wpAny_pyIter_tuple hL
        exact ⟨_, rfl, h⟩
      · wp_walk using AutoSeq1.wpAny_loadPart' hl, wpAny_pyIter_tuple hL
        exact ⟨_, rfl, h⟩
    · wp_walk using AutoSeq1.wpAny_loadPart' hl, wpAny_pyIter_tuple hL
      exact ⟨_, rfl, h⟩
section
variable {prog : Program} {w : World} {A : Around} {E : Value → Shared → Prop} {s : Shared}
theorem call_enumerate_tup {l : Addr} {items : Array Value} {Q : Value → Shared → Prop} (hL : s.heap.IsTuple l items)
    (hwish : ∀ h', IsEnum h' (s.heap.objs.size + 1) s.heap.objs.size 0 .none → h'.IsTupleIter s.heap.objs.size l 0 → h'.objs.size = s.heap.objs.size + 2 → (∀ b o, s.heap.get? b = some o → h'.get? b = some o) → Q (.ref (s.heap.objs.size + 1)) { s with heap := h' }) :
    wpAny (model prog w) A (call (.type "enumerate") [.ref l]) Q E s := by
  obtain ⟨⟨c, dct, dt, sl⟩, hl, hc, n, hd⟩ := hL
  obtain rfl : c = .type "tuple" := hc
  obtain rfl : dt = .seq items n := hd
  refine callType_new F.called_enumerate (by decide) (F.typeCall_enumerate_1 _) (F.newCall_enumerate_1 _) (fun obj => F.args_object_init_2 obj _) F.entry_enumerate_new (meets_enumerate_newT l items n dct sl) ⟨hl, ?_⟩
  generalize e1 : s.heap.push { cls := .type "tuple_iterator", data := .fields #[.ref l, .int 0 0] } = g1
  have hz : g1.objs.size = s.heap.objs.size + 1 := by rw [← e1]; exact Heap.size_push ..
  have it1 : g1.get? s.heap.objs.size = some { cls := .type "tuple_iterator", data := .fields #[.ref l, .int 0 0] } := by rw [← e1]; exact Heap.get?_push_size _ rfl
  have k1 : ∀ b o, s.heap.get? b = some o → g1.get? b = some o := fun b o x => by rw [← e1]; exact Heap.get?_push_of_some _ x
  show _ ∧ _
  rw [hz]
  have he : IsEnum (g1.push { cls := .type "enumerate", data := .fields #[.none, .bool false, .ref s.heap.objs.size, rawInt 0, .none, .none] }) (s.heap.objs.size + 1) s.heap.objs.size 0 .none := by
    rw [← hz]
    exact Heap.get?_push_size _ rfl
  exact ⟨⟨_, he, rfl⟩, hwish _ he ⟨_, Heap.get?_push_of_some _ it1, rfl, rfl⟩ (by rw [Heap.size_push, hz]) fun b o x => Heap.get?_push_of_some _ (k1 b o x)⟩
end
/-- the tuple at a, each item in a new pair -/
def Itu (K : PySem.W.Frag) (a : Addr) (xs : List V) : It :=
  ⟨fun i H => SqT K H a xs ∧ ∃ x : V, xs[i]? = some x, fun i H v H' => ∃ T x, v = .ref T ∧ H T = none ∧ H' = upd H T (.tup [.int (i : Nat), x]) ∧ xs[i]? = some x, fun i H => SqT K H a xs ∧ xs.length ≤ i⟩
theorem turn_enumT {P : Program} {w : World} {K : PySem.W.Frag} {elts : List Expr} {kk : Nat} {tpos : Pos} (a e it : Addr) (xs : List V) :
    Turn P w K (.Tuple elts kk tpos) (Itu K a xs) [e, it] e (fun i h => (∃ old, IsEnum h e it ((i : Nat) : Int) old) ∧ h.IsTupleIter it a i ∧ e ≠ it) where
  mem := by simp
  obj := fun i h st b hb => by
    obtain ⟨⟨old, he⟩, ⟨o, ho, hc, hd⟩, _⟩ := st
    have e' : b = e ∨ b = it := by simpa using hb
    rcases e' with z | z
    · subst z
      exact ⟨_, he, fun v q => nomatch q⟩
    · subst z
      exact ⟨o, ho, fun v q => by rw [hd] at q; cases q⟩
  keep := fun i h h' st k => let ⟨⟨old, he⟩, hi, hne⟩ := st; ⟨⟨old, k e (by simp) _ he⟩, hi.at fun o q => k it (by simp) o q, hne⟩
  item := by
    intro X hP hw hK hc i pins s σ H E I hf st hg
    subst hP hw hK
    obtain ⟨⟨old, he⟩, hit, hne⟩ := st
    obtain ⟨hq, x, hx⟩ := hg
    obtain ⟨its, rv, p, hz⟩ := I.tuple hq
    have hil : i < its.toArray.size := by
      have := (List.getElem?_eq_some_iff.mp hx).1
      rw [List.size_toArray, ← rv.length]
      exact this
    obtain ⟨ot, hot, hct, _⟩ := id p
    obtain ⟨oi, hoi, hci, _⟩ := id hit
    have nai : a ≠ it := fun z => by
      subst z
      rw [hot] at hoi
      cases hoi
      rw [hct] at hci
      exact absurd (Value.type.inj hci) (by decide)
    have nae : e ≠ a := fun z => by
      subst z
      have he2 : s.heap.get? e = _ := he
      rw [hot] at he2
      cases he2
      exact absurd (Value.type.inj hct) (by decide)
    have hel : e < s.heap.objs.size := Heap.lt_size he
    have hitl : it < s.heap.objs.size := Heap.lt_size hoi
    refine wpAny_pyNext_enum_itemD (Draws.tuple (A := X.A.in1) (I.ok.hd hc) it a nai its.toArray) he ⟨hit, p⟩ hil hne (by simp [hne, nae]) fun u h' tk hu ho hst hT hsz hk => ?_
    obtain ⟨hit', _⟩ := hst
    have ru : RelV x u := by
      obtain ⟨u', hu', ru⟩ := rv.get hx
      have : its.toArray[i]? = some u := hu
      rw [List.getElem?_toArray, hu'] at this
      cases this
      exact ru
    refine ⟨_, rfl, wpAny_letOwnedTupleGo_enum (s := { s with heap := h', toks := tk + 1 }) ho fun h'' he' sb => ?_⟩
    have hT2 : h''.get? s.heap.objs.size = some { cls := .type "tuple", data := .seq #[.int i tk, u] } := (sb.2 _ (Nat.ne_of_gt hel)).trans hT
    have new : ObjOk X.prog X.w (upd H s.heap.objs.size (.tup [.int (i : Nat), x])) h'' s.heap.objs.size (.tup [.int (i : Nat), x]) :=
      ⟨by show 2 ≤ sizeLine; decide, [.int i tk, u], .cons ⟨_, rfl⟩ (.cons ru .nil), ⟨_, hT2, rfl, _, rfl⟩⟩
    have I1 : Inv X pins σ (upd H s.heap.objs.size (.tup [.int (i : Nat), x])) { s with heap := h'', toks := tk + 1 } :=
      I.turnedNew (ch := [e, it]) (fun b ob hb q => (sb.2 b (fun z => hb (by simp [z]))).trans (hk b ob (fun z => hb (by simp [z])) (fun z => hb (by simp [z])) q)) hf (Nat.le_refl _) new
    refine ⟨.ref s.heap.objs.size, _, I1, rfl, ⟨_, x, rfl, I.hok.fresh (Nat.le_refl _), rfl, hx⟩, ⟨⟨u, ?_⟩, hit'.at fun o q => (sb.2 it (Ne.symm hne)).trans q, hne⟩, fun b hb => ?_⟩
    · have e1 : ((i + 1 : Nat) : Int) = (i : Int) + 1 := by omega
      rw [e1]
      exact he'
    · have hb' : b < s.heap.objs.size := by
        have e' : b = e ∨ b = it := by simpa using hb
        rcases e' with z | z <;> (subst z; assumption)
      rw [upd_ne (Nat.ne_of_lt hb')]
      exact (hf b hb).1
  done := by
    intro X hP hw hK hc i pins s σ H E I hf st hg
    subst hP hw hK
    obtain ⟨⟨old, he⟩, hit, hne⟩ := st
    obtain ⟨hq, hx⟩ := hg
    obtain ⟨its, rv, p, hz⟩ := I.tuple hq
    obtain ⟨ot, hot, hct, _⟩ := id p
    obtain ⟨oi, hoi, hci, _⟩ := id hit
    have nai : a ≠ it := fun z => by
      subst z
      rw [hot] at hoi
      cases hoi
      rw [hct] at hci
      exact absurd (Value.type.inj hci) (by decide)
    obtain ⟨f0, f1, f2, f3, f4, f5⟩ := hf it (by simp)
    have hn : its.toArray[i]? = none := by
      rw [List.getElem?_toArray]
      exact List.getElem?_eq_none (by rw [← rv.length]; exact hx)
    have D : Draws X.prog X.w X.A.in1 it [it, a] i (fun _ _ => True) (fun j h => j = i ∧ h.IsTupleIter it a i ∧ h.IsTuple a its.toArray) :=
      { live := fun _ _ st => let ⟨o, ho, _⟩ := st.2.1; ⟨o, ho⟩
        frame := fun _ _ _ st hk => ⟨st.1, st.2.1.at fun o e => hk it (by simp) o e, st.2.2.at fun o e => hk a (by simp) o e⟩
        item := fun j s Q E hj st _ => absurd st.1 (Nat.ne_of_lt hj)
        done := fun s Q E st hE => RZ.nextOf_tuple_end (I.ok.hd hc) st.2.1 st.2.2 hn fun h' e hs he => hE h' e (fun b o nb x => hs b o nb x) he }
    refine wpAny_pyNext_enum_endD D he ⟨rfl, hit, p⟩ fun h' eb => ⟨rfl, I.turned (t' := s.toks) (fun b o hb q => eb b o hb q) f0 f1 f3 f4 f5⟩
  self := fun A i s Q E st h => let ⟨⟨_, he⟩, _⟩ := st; wpAny_pyIter_enum he h
def iEnumT (K : PySem.W.Frag) (ta : TA) : TI := fun σ H R => ta σ H fun vs H1 => ∃ a xs, vs = [.ref a] ∧ SqT K H1 a xs ∧ R (Itu K a xs) H1
theorem pi_enumT {X : Cx} {e : Expr} {ta : TA} {p pos tpos : Pos} {elts : List Expr} {kk : Nat} (hg : Gl X "enumerate") (hm : X.mg "enumerate" = none) (ha : PA X [e] ta) (hs : starEach [e] X.env = [(false, eval e X.env)] := by rfl) :
    PI X (.Tuple elts kk tpos) (.Call (.Name "enumerate" p) [e] [] pos) (iEnumT X.K ta) := by
  refine ⟨fun pins s σ H R I h => ?_⟩
  refine Call_ (ld_blt I hg hm boot_enumerate (PyProof.Rows.callWith_type1 (thn (ha.run pos pins s σ H _ I h) fun us s1 ⟨vs, H1, I1, r1, q1⟩ => ?_) hs rfl))
  obtain ⟨a, xs, ex, hq, q⟩ := q1
  subst ex
  cases r1 with
  | cons r rr =>
    cases rr
    cases r
    obtain ⟨its, rv, p', hz⟩ := I1.tuple hq
    refine call_enumerate_tup p' fun h' he hit hsz hk => wpAny_pyIter_enum he ?_
    have I2 : Inv X pins σ H1 { s1 with heap := h' } := I1.kept (t' := s1.toks) hk
    refine ⟨s1.heap.objs.size + 1, [s1.heap.objs.size + 1, s1.heap.objs.size], _, _, H1, rfl, I2, turn_enumT a (s1.heap.objs.size + 1) s1.heap.objs.size xs, ⟨⟨.none, he⟩, hit, Nat.succ_ne_self _⟩, fun b hb => ?_, q⟩
    have e' : b = s1.heap.objs.size + 1 ∨ b = s1.heap.objs.size := by simpa using hb
    have hle : s1.heap.objs.size ≤ b := by
      rcases e' with z | z
      · rw [z]; exact Nat.le_add_right _ _
      · rw [z]; exact Nat.le_refl _
    exact I1.fpOk hle (I1.hok.fresh hle)
def enumD (xs : List PyData) : List PyData := (List.range xs.length).map fun i => .tuple [.int (i : Nat), xs.getD i .none]
theorem wk_enum {K : PySem.W.Frag} {Wo : WO} {M : Md K Wo} {G0 : Hp} {a : Addr} {vs : List V} {xs : List PyData} (h : SqT K G0 a vs) (d : DeAll K G0 vs xs) : Wk M G0 (Itu K a vs) (enumD xs) := by
  have len : (enumD xs).length = vs.length := by simp [enumD, d.length]
  refine ⟨fun i t G H e k hi => ⟨sqt_up (e.trans k.sub) h, by omega⟩, fun i t G H e k hi => ⟨sqt_up (e.trans k.sub) h, vs[i]'(by omega), List.getElem?_eq_getElem _⟩, fun i t G H x H' e k y hi => ?_⟩
  obtain ⟨T, u, rfl, hT, rfl, hu⟩ := y
  have hi2 : i < vs.length := by omega
  obtain ⟨z, ez, dz⟩ := d.ofV hu
  have st := k.lay (o := .tup [.int (i : Nat), u]) hT
  refine ⟨_, .tuple [.int (i : Nat), z], st, ?_, .tup (.inl (.inl upd_same)) (.cons (.int _) (.cons (De.up (e.trans st.gg) _ _ dz) .nil))⟩
  have hi3 : i < xs.length := by rw [← d.length]; exact hi2
  have ez2 : xs[i] = z := by rw [List.getElem?_eq_getElem hi3] at ez; exact Option.some.inj ez
  simp [enumD, hi3, List.getD, ez2]
def enumW (f : W PyData) : W (List PyData) := bnd f fun x => match x with
  | .tuple xs => Dw.ret (enumD xs)
  | _ => bad
section
variable {X : Cx} {Wo : WO} {M : Md X.K Wo} {ρ : List B} {e : Expr} {f : W PyData} {kn : Nat} {pos p tpos : Pos} {elts : List Expr} {kk : Nat}
theorem ri_enumT (E : Ev X kn) (ha : RD M e ρ f) (hg : Gl X "enumerate" := by rfl) (hs : starEach [e] X.env = (false, eval e X.env) :: starEach [] X.env := by rfl) (hs2 : starEach [e] X.env = [(false, eval e X.env)] := by rfl) :
    RI M (.Tuple elts kk tpos) (.Call (.Name "enumerate" p) [e] [] pos) ρ (enumW f) := ⟨fun t P z σ G H S R r =>
  TiOf.of (pi_enumT hg E.bu.enum (pa_cons peT pa_nil hs) hs2) ((ha.run t _ z) σ G H S _ fun G1 H1 v x t1 s1 d1 z1 => by
    cases x <;> first | exact z1.elim | skip
    rename_i xs
    obtain ⟨a, ws, rfl, st, da⟩ := d1.tupE
    exact ⟨a, ws, rfl, sqt_up (S.step s1).ok.sub st, r G1 H1 _ _ t1 s1 (wk_enum st da) z1⟩)⟩
end
/-! ### xs.extend(e) -/
def extV {τ σ : Type} (f : W PyData) (xs : List PyData) (k : List PyData → W (Out τ σ)) : W (Out τ σ) := bnd f fun y => match y with
  | .list ys => need (xs.length + ys.length ≤ 16777216) (k ys)
  | _ => bad
section
variable {X : Cx} {Wo : WO} {M : Md X.K Wo} {ρ : List B} {e : Expr} {f : W PyData} {pos cpos apos p : Pos} {x : Str} {τ σ : Type} {emb : τ → List B} {emc : σ → List B} {rest : List Stmt} {xs : List PyData}
theorem rs_ext {k : List PyData → W (Out τ σ)} (i : Nat) (ha : RD M e ρ f) (hk : ∀ ys, RS M rest (ρ.set i (.own (xs ++ ys))) emb emc (k ys)) (hr : ρ[i]? = some (.own xs) := by rfl)
    (hN : X.N[i]? = some x := by rfl) (hv : Vis X.env.scope x := by first | exact Or.inl rfl | exact Or.inr (Or.inl rfl) | exact Or.inr (Or.inr rfl)) (hd : (x == ("__debug__" : Str)) = false := by decide) (hcd : (x == ("__classdict__" : Str)) = false := by decide)
    (hs : swapsWith (.Call (.Attribute (.Name x p) "extend" apos) [e] [] cpos) none pos.line X.env = pure false := by rfl) (h3 : starEach [e] X.env = (false, eval e X.env) :: starEach [] X.env := by rfl)
    (h1 : attributeBase (.Name x p) "extend" X.env (eval (.Name x p) X.env) = eval (.Name x p) X.env := by rfl)
    (h2 : ((((backTo cpos (starEach [e] X.env)).all fun x => !x.1) && (backToKw cpos (keywordEach [] X.env)).all fun x => x.1.isSome) && decide (([e].length + ([] : List Keyword).length + if ([] : List Keyword).isEmpty = true then 0 else 1) < 30)) = true := by rfl)
    (h4 : (apos.endLine == cpos.line) = true := by rfl) (h5 : ((backTo cpos (starEach [] X.env)).any fun x => x.1) = false := by rfl) : RS M (.Expr (.Call (.Attribute (.Name x p) "extend" apos) [e] [] cpos) pos :: rest) ρ emb emc (extV f xs k) := ⟨fun t P D z n =>
  jss_cons (js_extend i hr ((ha.run t _ z).imp fun y t1 z1 => by
    cases y <;> first | exact z1.elim | skip
    rename_i ys
    exact ⟨ys, rfl, z1.1, (hk ys).run t1 P D z1.2 n⟩) hN hv hd hcd hs h3 h1 h2 h4 h5)⟩
end
section
variable {X : Cx} {Wo : WO} {M : Md X.K Wo} {ρ : List B} {e a b tg : Expr} {es : List Expr} {f g : W PyData} {af : W (List B)} {lf : W (List PyData)} {kk : Nat} {pos st : Pos} {x y : Str} {τ σ : Type} {emb : τ → List B} {emc : σ → List B} {rest : List Stmt}
/-- a star in a display -/
theorem ra_star (he : RD M e ρ f) (hs : RA M es ρ af) (h : starEach (.Starred e st :: es) X.env = (true, eval e X.env) :: starEach es X.env := by rfl) : RA M (.Starred e st :: es) ρ (starD f af) := ⟨fun t P z => ja_star ((he.run t _ z).imp fun x t1 z1 => by
  cases x <;> first | exact z1.elim | skip
  · exact ⟨_, .inr rfl, hs.run t1 _ z1⟩
  · exact ⟨_, .inl rfl, hs.run t1 _ z1⟩) h⟩
/-- x, y = e, a new list; the names may be cells -/
theorem rs_parLg (i j : Nat) {pt2 : Pos} {ku : Nat} {k : PyData → List PyData → W (Out τ σ)} (hg : PG X tg (gTup X.K 2 (gCons (gName i) (gCons (gName j) gNil)))) (ha : RD M a ρ f) (hb : RL M b ρ lf) (hk : ∀ u v, RS M rest ((ρ.set i (.d u)).set j (.own v)) emb emc (k u v)) (hij : i ≠ j := by decide)
    (hs : swapsWithSole [tg] (.Tuple [a, b] ku pt2) pos.line X.env = pure false := by rfl) (hw : swappedStores [tg] (.Tuple [a, b] ku pt2) X.env = pure none := by rfl) (h1 : (assignEach [tg] X.env).map (·.2) = [assign tg X.env] := by rfl)
    (h3 : starEach [a, b] X.env = (false, eval a X.env) :: starEach [b] X.env := by rfl) (h4 : starEach [b] X.env = (false, eval b X.env) :: starEach [] X.env := by rfl) :
    RS M (.Assign [tg] (.Tuple [a, b] ku pt2) pos :: rest) ρ emb emc (bnd f fun u => bnd lf fun v => k u v) := ⟨fun t P D z w =>
  jss_cons (js_of (ps_asg (pe_tup (pa_cons peT (pa_cons peT pa_nil h4) h3)) hg hs hw h1) fun σ G H S E' F =>
    (ha.run t _ z) σ G H S _ fun G1 H1 v x t1 s1 d1 z1 => (hb.run t1 _ z1) σ G1 H1 (S.step s1) _ fun G2 H2 l ws xs t2 s2 n g e da z2 =>
      ⟨by show 2 ≤ sizeLine; decide, fun p hp => ⟨p, [v, .ref l], rfl, .inl (.inl upd_same), rfl, _, _, rfl, _, _, rfl, rfl, by
        have S2 := (S.step s1).step s2
        have s3 := S2.ok.layO (o := .tup [v, .ref l]) hp
        have S3 := S2.step s3
        have e3 : (upd H2 p (.tup [v, .ref l])) l = some (.lst ws) := by
          rw [upd_ne (ne_of_none e hp)]
          exact e
        exact F.nx _ G2 _ _ t2 ((S3.set (De.up s2.gg _ _ d1)).setL (S.ne_r (fresh_of s1 n)) g e3 (fresh_of S.st (fresh_of s1 n)) da fun j' ys ne e' => by
          by_cases hji : i = j'
          · subst hji
            have hl : i < ρ.length := by
              by_cases q : i < ρ.length
              · exact q
              · rw [List.getElem?_eq_none (by rw [List.length_set]; omega)] at e'
                cases e'
            rw [List.getElem?_set_self hl] at e'
            cases e'
          · rw [List.getElem?_set_ne hji] at e' ⊢
            exact (S.step s1).fresh n e') (s1.trans s2).gg ((hk _ _).run t2 P D z2 w)⟩⟩)⟩
/-- x, y = a new list, e; the names may be cells -/
theorem rs_parLDg (i j : Nat) {pt2 : Pos} {ku : Nat} {k : List PyData → PyData → W (Out τ σ)} (hg : PG X tg (gTup X.K 2 (gCons (gName i) (gCons (gName j) gNil)))) (ha : RL M a ρ lf) (hb : RD M b ρ g) (hk : ∀ u v, RS M rest ((ρ.set i (.own u)).set j (.d v)) emb emc (k u v)) (hij : i ≠ j := by decide)
    (hs : swapsWithSole [tg] (.Tuple [a, b] ku pt2) pos.line X.env = pure false := by rfl) (hw : swappedStores [tg] (.Tuple [a, b] ku pt2) X.env = pure none := by rfl) (h1 : (assignEach [tg] X.env).map (·.2) = [assign tg X.env] := by rfl)
    (h3 : starEach [a, b] X.env = (false, eval a X.env) :: starEach [b] X.env := by rfl) (h4 : starEach [b] X.env = (false, eval b X.env) :: starEach [] X.env := by rfl) :
    RS M (.Assign [tg] (.Tuple [a, b] ku pt2) pos :: rest) ρ emb emc (bnd lf fun u => bnd g fun v => k u v) := ⟨fun t P D z w =>
  jss_cons (js_of (ps_asg (pe_tup (pa_cons peT (pa_cons peT pa_nil h4) h3)) hg hs hw h1) fun σ G H S E' F =>
    (ha.run t _ z) σ G H S _ fun G1 H1 l ws xs t1 s1 n g e da z1 => (hb.run t1 _ z1) σ G1 H1 (S.step s1) _ fun G2 H2 v x t2 s2 d2 z2 =>
      ⟨by show 2 ≤ sizeLine; decide, fun p hp => ⟨p, [.ref l, v], rfl, .inl (.inl upd_same), rfl, _, _, rfl, _, _, rfl, rfl, by
        have S1 := (S.step s1).setL (i := i) (S.ne_r n) g e (fresh_of S.st n) da fun j' ys ne e' => S.fresh n (by exact e') |> fun h => h
        have S2 := S1.step s2
        have s3 := S2.ok.layO (o := .tup [.ref l, v]) hp
        exact F.nx _ G2 _ _ t2 ((S2.step s3).set (i := j) d2) (s1.trans s2).gg ((hk _ _).run t2 P D z2 w)⟩⟩)⟩
theorem rl_call0 {x : Str} {p : Pos} {k : Nat} {m : List B → W B} (E : Ev X kk) (D : Def X.prog X.w X.K Wo X.mg X.base k x 0 (Sm m)) (hk : k ≤ kk := by decide) (hg : Gl X x := by rfl) (h2 : (x == ("__debug__" : Str)) = false := by decide) :
    RL M (.Call (.Name x p) [] [] pos) ρ (bnd (callN 0 m (Dw.ret [])) asO) := ⟨fun t P z => jl_call0 (D.imp (S' := fun bs t Q => m bs t Q) fun bs t Q z => z) E.room hk hg (by
  have z2 : m [] t (fun b t2 => asO b t2 P) := z.2
  have e : (fun b t2 => asO b t2 P) = fun b t2 => ∃ y, b = .own y ∧ P y t2 := by
    funext b t2
    refine propext ⟨fun w => ?_, fun ⟨y, ey, py⟩ => by subst ey; exact py⟩
    cases b <;> first | exact ⟨_, rfl, w⟩ | exact w.elim
  rw [e] at z2
  exact z2) h2⟩
end
end Dz
end
section
set_option maxRecDepth 100000
set_option maxHeartbeats 4000000
namespace K09
open PySem PySem.Spec PyProof.Rows L2 Dl Dw Dz
def topS (i : Nat) : Stmt := PySem.Challenge.pw_ownrights_k09_texts_written.main.body.getD i (.Pass ⟨0, 0, 0, 0⟩)
abbrev s_is_integer : Stmt := topS 1
theorem sc_is_integer : FnScope ["thing"] ["thing"] (defScope s_is_integer) := ⟨rfl, rfl, rfl, by decide +kernel, rfl, by decide +kernel, by decide +kernel⟩
abbrev s__inner_parts : Stmt := topS 3
theorem sc__inner_parts : FnScope ["path", "part", "at"] ["path", "part"] (defScope s__inner_parts) := ⟨rfl, rfl, rfl, by decide +kernel, rfl, by decide +kernel, by decide +kernel⟩
abbrev s_parts_of : Stmt := topS 4
theorem sc_parts_of : FnScope ["expression", "found", "waiting", "path", "part"] ["expression"] (defScope s_parts_of) := ⟨rfl, rfl, rfl, by decide +kernel, rfl, by decide +kernel, by decide +kernel⟩
abbrev s__head_text : Stmt := topS 6
theorem sc__head_text : FnScope ["part"] ["part"] (defScope s__head_text) := ⟨rfl, rfl, rfl, by decide +kernel, rfl, by decide +kernel, by decide +kernel⟩
abbrev s_expression_text : Stmt := topS 7
theorem sc_expression_text : FnScope ["expression", "path", "part"] ["expression"] (defScope s_expression_text) := ⟨rfl, rfl, rfl, by decide +kernel, rfl, by decide +kernel, by decide +kernel⟩
abbrev s_sum_text : Stmt := topS 8
theorem sc_sum_text : FnScope ["one", "number"] ["one"] (defScope s_sum_text) := ⟨rfl, rfl, rfl, by decide +kernel, rfl, by decide +kernel, by decide +kernel⟩
abbrev s_sums_text : Stmt := topS 9
theorem sc_sums_text : FnScope ["sums", "one"] ["sums"] (defScope s_sums_text) := ⟨rfl, rfl, rfl, by decide +kernel, rfl, by decide +kernel, by decide +kernel⟩
abbrev s_store_text : Stmt := topS 10
theorem sc_store_text : FnScope ["store", "items", "rules", "hands", "lines", "hand", "deeds", "name", "low", "high", "rule", "deed", "one"] ["store"] (defScope s_store_text) := ⟨rfl, rfl, rfl, by decide +kernel, rfl, by decide +kernel, by decide +kernel⟩
abbrev s__law_reader : Stmt := topS 12
theorem sc__law_reader : FnScope ["_law_script"] ["_law_script"] (defScope s__law_reader) := ⟨rfl, rfl, rfl, by decide +kernel, rfl, by decide +kernel, by decide +kernel⟩
abbrev s__law_draw : Stmt := topS 13
theorem sc__law_draw : FnScope ["_law_reader_here", "_law_many", "_law_found", "_law_cell", "_law_once"] ["_law_reader_here", "_law_many"] (defScope s__law_draw) := ⟨rfl, rfl, rfl, by decide +kernel, rfl, by decide +kernel, by decide +kernel⟩
abbrev s__law_leaf : Stmt := topS 14
theorem sc__law_leaf : FnScope ["_law_reader_here", "_law_slots_here"] ["_law_reader_here", "_law_slots_here"] (defScope s__law_leaf) := ⟨rfl, rfl, rfl, by decide +kernel, rfl, by decide +kernel, by decide +kernel⟩
abbrev s__law_number : Stmt := topS 15
theorem sc__law_number : FnScope ["_law_reader_here", "_law_slots_here", "_law_deep", "_law_way", "_law_one"] ["_law_reader_here", "_law_slots_here", "_law_deep"] (defScope s__law_number) := ⟨rfl, rfl, rfl, by decide +kernel, rfl, by decide +kernel, by decide +kernel⟩
abbrev s__law_condition : Stmt := topS 16
theorem sc__law_condition : FnScope ["_law_reader_here", "_law_slots_here", "_law_deep", "_law_way", "_law_one"] ["_law_reader_here", "_law_slots_here", "_law_deep"] (defScope s__law_condition) := ⟨rfl, rfl, rfl, by decide +kernel, rfl, by decide +kernel, by decide +kernel⟩
abbrev s__law_random_items : Stmt := topS 17
theorem sc__law_random_items : FnScope ["_law_reader_here", "_law_found", "_law_slot", "_law_low"] ["_law_reader_here"] (defScope s__law_random_items) := ⟨rfl, rfl, rfl, by decide +kernel, rfl, by decide +kernel, by decide +kernel⟩
abbrev s__law_slots : Stmt := topS 18
theorem sc__law_slots : FnScope ["_law_entries", "_law_entry"] ["_law_entries"] (defScope s__law_slots) := ⟨rfl, rfl, rfl, by decide +kernel, rfl, by decide +kernel, by decide +kernel⟩
abbrev s__law_random_sum : Stmt := topS 19
theorem sc__law_random_sum : FnScope ["_law_reader_here", "_law_many", "_law_k"] ["_law_reader_here", "_law_many"] (defScope s__law_random_sum) := ⟨rfl, rfl, rfl, by decide +kernel, rfl, by decide +kernel, by decide +kernel⟩
abbrev s__law_random_store : Stmt := topS 20
theorem sc__law_random_store : FnScope ["_law_reader_here", "_law_entries", "_law_found", "_law_some", "_law_hand", "_law_names", "_law_k", "_law_name"] ["_law_reader_here"] (defScope s__law_random_store) := ⟨rfl, rfl, rfl, by decide +kernel, rfl, by decide +kernel, by decide +kernel⟩
abbrev s__law_fixed_stores : Stmt := topS 21
theorem sc__law_fixed_stores : FnScope ["_law_till", "_law_rules", "_law_hands_now", "_law_two", "_law_odd"] [] (defScope s__law_fixed_stores) := ⟨rfl, rfl, rfl, by decide +kernel, rfl, by decide +kernel, by decide +kernel⟩
abbrev s__law_words : Stmt := topS 22
theorem sc__law_words : FnScope ["_law_item", "_law_found", "_law_part"] ["_law_item"] (defScope s__law_words) := ⟨rfl, rfl, rfl, by decide +kernel, rfl, by decide +kernel, by decide +kernel⟩
abbrev s__law_sum_text : Stmt := topS 23
theorem sc__law_sum_text : FnScope ["_law_one", "_law_number_here"] ["_law_one"] (defScope s__law_sum_text) := ⟨rfl, rfl, rfl, by decide +kernel, rfl, by decide +kernel, by decide +kernel⟩
abbrev s__law_store_text : Stmt := topS 24
theorem sc__law_store_text : FnScope ["_law_till", "_law_rows", "_law_hand", "_law_some", "_law_slot", "_law_low", "_law_high", "_law_item", "_law_name", "_law_one"] ["_law_till"] (defScope s__law_store_text) := ⟨rfl, rfl, rfl, by decide +kernel, rfl, by decide +kernel, by decide +kernel⟩
abbrev s__law_loose : Stmt := topS 25
theorem sc__law_loose : FnScope ["_law_reader_here", "_law_far", "_law_entries", "_law_some", "_law_lot"] ["_law_reader_here"] (defScope s__law_loose) := ⟨rfl, rfl, rfl, by decide +kernel, rfl, by decide +kernel, by decide +kernel⟩
abbrev s__law_sums_text : Stmt := topS 26
theorem sc__law_sums_text : FnScope ["_law_lot", "_law_one"] ["_law_lot"] (defScope s__law_sums_text) := ⟨rfl, rfl, rfl, by decide +kernel, rfl, by decide +kernel, by decide +kernel⟩
abbrev s_law : Stmt := topS 27
theorem sc_law : FnScope ["_law_script", "_law_reader_here", "_law_lots", "_law_signs", "_law_turn", "_law_wide", "_law_till", "_law_saved", "_law_item", "_law_many", "_law_lot", "_law_twelve", "_law_long_now", "_law_a", "_law_b", "_law_great", "_law_far", "_law_other", "_law_k", "_law_sign", "_law_one"] ["_law_script"] (defScope s_law) := ⟨rfl, rfl, rfl, by decide +kernel, rfl, by decide +kernel, by decide +kernel⟩
end K09
end
section
set_option maxRecDepth 100000
set_option maxHeartbeats 4000000
namespace Dl
open PySem PySem.Spec PyProof.Rows L2
/-- the built-ins are still what they are -/
structure Bu (mg : Str → Option Value) : Prop where
  isi : mg "isinstance" = none
  int : mg "int" = none
  bool : mg "bool" = none
  str : mg "str" = none
  tuple : mg "tuple" = none
  list : mg "list" = none
  len : mg "len" = none
  all : mg "all" = none
  range : mg "range" = none
  sorted : mg "sorted" = none
  set : mg "set" = none
  repr : mg "repr" = none
theorem boot_all : bootBuiltins (Str.ofString "all") = some (.builtin "all") := by decide +kernel
theorem boot_tuple : bootBuiltins (Str.ofString "tuple") = some (.type "tuple") := by decide +kernel
theorem boot_list : bootBuiltins (Str.ofString "list") = some (.type "list") := by decide +kernel
theorem boot_bool : bootBuiltins (Str.ofString "bool") = some (.type "bool") := by decide +kernel
theorem boot_str : bootBuiltins (Str.ofString "str") = some (.type "str") := by decide +kernel
theorem boot_repr : bootBuiltins (Str.ofString "repr") = some (.builtin "repr") := by decide +kernel
theorem boot_int' : bootBuiltins (Str.ofString "int") = some (.type "int") := by decide +kernel
section
variable {X : Cx} {Wo : WO} {M : Md X.K Wo} {ρ : List B} {t : Rs} {e : Expr} {P : PyData → Rs → Prop} {pos p : Pos}
theorem jd_len (u : Bu X.mg) (h : JD M e ρ t fun x t1 => ∃ n, lenD x = some n ∧ n ≤ 16777216 ∧ P (.int n) t1) (hg : Gl X (Str.ofString "len") := by rfl)
    (h3 : starEach [e] X.env = (false, eval e X.env) :: starEach [] X.env := by rfl) : JD M (.Call (.Name (Str.ofString "len") p) [e] [] pos) ρ t P :=
  jd_callB call_len hg u.len PySem.boot_len (ja_cons (h.imp fun x _ ⟨n, a, b, c⟩ => ja_nil (cn_len a b c)) h3) (h3 := h3)
theorem jd_intc (u : Bu X.mg) (h : JD M e ρ t fun x t1 => ∃ i, x = .int i ∧ P (.int i) t1) (hg : Gl X (Str.ofString "int") := by rfl)
    (h3 : starEach [e] X.env = (false, eval e X.env) :: starEach [] X.env := by rfl) : JD M (.Call (.Name (Str.ofString "int") p) [e] [] pos) ρ t P :=
  jd_callTy call_int1 hg u.int boot_int' (ja_cons (h.imp fun x _ ⟨n, a, c⟩ => ja_nil (by subst a; exact cn_int c)) h3) (h3 := h3)
theorem jd_tupc (u : Bu X.mg) (h : JD M e ρ t fun x t1 => ∃ xs, (x = .list xs ∨ x = .tuple xs) ∧ P (.tuple xs) t1) (hg : Gl X (Str.ofString "tuple") := by rfl)
    (h3 : starEach [e] X.env = (false, eval e X.env) :: starEach [] X.env := by rfl) : JD M (.Call (.Name (Str.ofString "tuple") p) [e] [] pos) ρ t P :=
  jd_callTy call_tuple_of hg u.tuple boot_tuple (ja_cons (h.imp fun x _ ⟨n, a, c⟩ => ja_nil (cn_tuple a c)) h3) (h3 := h3)
theorem jl_listc {P : List PyData → Rs → Prop} (u : Bu X.mg) (h : JD M e ρ t fun x t1 => ∃ xs, (x = .list xs ∨ x = .tuple xs) ∧ P xs t1) (hg : Gl X (Str.ofString "list") := by rfl)
    (h3 : starEach [e] X.env = (false, eval e X.env) :: starEach [] X.env := by rfl) : JL M (.Call (.Name (Str.ofString "list") p) [e] [] pos) ρ t P :=
  jl_callTy call_list_of hg u.list boot_list (ja_cons (h.imp fun x _ ⟨n, a, c⟩ => ja_nil (cn_list a c)) h3) (h3 := h3)
theorem jd_all (u : Bu X.mg) (hc : X.calm = true) (h : JD M e ρ t fun x t1 => ∃ bs : List Bool, x = .list (bs.map PyData.bool) ∧ P (.bool (bs.all id)) t1) (hg : Gl X (Str.ofString "all") := by rfl)
    (h3 : starEach [e] X.env = (false, eval e X.env) :: starEach [] X.env := by rfl) : JD M (.Call (.Name (Str.ofString "all") p) [e] [] pos) ρ t P :=
  jd_callB (cr_all hc) hg u.all boot_all (ja_cons (h.imp fun x _ ⟨n, a, c⟩ => ja_nil (by subst a; exact cn_all c)) h3) (h3 := h3)
end
abbrev JL.toD {X : Cx} {Wo : WO} {M : Md X.K Wo} {ρ : List B} {t : Rs} {e : Expr} {P : PyData → Rs → Prop} (h : JL M e ρ t fun xs t' => P (.list xs) t') : JD M e ρ t P := DL.toD h
theorem fmod_pos {i j : Int} (h : 0 < j) : 0 ≤ i.fmod j ∧ i.fmod j < j := by
  rw [Int.fmod_eq_emod_of_nonneg _ (by omega)]
  exact ⟨Int.emod_nonneg _ (by omega), Int.emod_lt_of_pos _ h⟩
end Dl
namespace K09
open PySem PySem.Spec PyProof.Rows L2 Dl

local macro_rules | `(tactic| walk_at "nm") => `(tactic| first | refine jd_name 0 rfl ?_ | refine jd_name 1 rfl ?_ | refine jd_name 2 rfl ?_ | refine jd_name 3 rfl ?_ | refine jd_name 4 rfl ?_ | refine jd_name 5 rfl ?_ | refine jd_name 6 rfl ?_ | refine jd_name 7 rfl ?_ | refine jd_name 8 rfl ?_ | refine jd_name 9 rfl ?_ | refine jd_name 10 rfl ?_ | refine jd_name 11 rfl ?_ | refine jd_name 12 rfl ?_ | refine jd_name 13 rfl ?_)
local macro_rules | `(tactic| walk_at "sub") => `(tactic| fail)
local macro_rules | `(tactic| walk_at "call") => `(tactic| first | refine jd_len (by assumption) ?_ | refine jd_intc (by assumption) ?_ | refine jd_tupc (by assumption) ?_)
local macro_rules | `(tactic| walk_at "cmp") => `(tactic| first | refine jd_eq (by assumption) ?_ | refine jd_ne (by assumption) ?_)
local macro_rules | `(tactic| walk_at "cmpT") => `(tactic| first | refine jt_eq (by assumption) ?_ | refine jt_ne (by assumption) ?_)
local macro_rules | `(tactic| walk_at "callT") => `(tactic| refine jt_val ?_)
local macro_rules | `(tactic| walk_at "je") => `(tactic| first
  | with_reducible refine ⟨_, rfl, ?_⟩
  | (refine g_name ?_; walk_at "nm") | refine jd_int ?_ | refine jd_str ?_
  | (refine g_args ?_; refine ja_cons ?_) | refine ja_nil ?_ | refine jd_tup ?_
  | (refine g_call ?_; walk_at "call") | (refine g_sub ?_; walk_at "sub")
  | refine jd_add ?_ | refine jd_sub ?_ | refine jd_mul ?_ | refine jd_fdiv ?_ | refine jd_mod ?_ | refine jd_pow ?_
  | refine jt_lt ?_ | refine jt_le ?_ | refine jt_gt ?_ | refine jt_ge ?_ | refine jt_isN ?_ | refine jt_notN ?_ | refine jt_not ?_ | refine jw_and ?_ | refine jw_or ?_ | refine jw_and1 ?_ | refine jw_or1 ?_
  | (refine g_cmpT ?_; walk_at "cmpT") | (refine g_callT ?_; walk_at "callT")
  | refine jd_lt ?_ | refine jd_le ?_ | refine jd_gt ?_ | refine jd_ge ?_ | refine jd_isN ?_ | refine jd_notN ?_ | (refine g_cmp ?_; walk_at "cmp")
  | refine jd_bl ?_ | refine jd_non ?_
  | refine jd_if ?_ | refine jd_and ?_ | refine jd_or ?_ | refine jd_one ?_ | refine jd_not ?_ | refine jd_neg ?_
  | refine jo_none ?_ | refine jo_some ?_
  | refine jss_nil ?_ | refine jss_ret ?_ | refine jss_if0 ?_ | refine jss_if ?_ | refine jt_bop ?_
  | with_reducible refine And.intro (by assumption) ?_ | refine And.intro (show List.length _ = _ from rfl) ?_ | refine And.intro (Or.inl (by decide)) ?_ | refine And.intro (by decide : _ ≠ _) ?_ | refine And.intro ⟨by decide, by decide⟩ ?_ | refine And.intro ⟨by decide, by decide, by decide⟩ ?_
  | (dsimp only; first | refine jss_nil ?_ | refine jss_ret ?_))
local macro_rules | `(tactic| walk_at "sub") => `(tactic| first | refine jd_rdC 0 rfl ?_ | refine jd_rdN 0 (Or.inl rfl) rfl ?_ | refine jd_rdN 0 (Or.inr (Or.inl rfl)) rfl ?_ | refine jd_rdN 0 (Or.inr (Or.inr rfl)) rfl ?_)
local macro_rules | `(tactic| walk_at "rs") => `(tactic| first | refine jss_rdSet 0 (Or.inl rfl) rfl ?_ | refine jss_rdSet 0 (Or.inr (Or.inl rfl)) rfl ?_ | refine jss_rdSet 0 (Or.inr (Or.inr rfl)) rfl ?_)
section
variable {P : Program} {w : World} {K : PySem.W.Frag} {mg : Str → Option Value} {base : Heap}
/-- a draw below m: any number may come -/
abbrev S_draw : List B → Rs → (B → Rs → Prop) → Prop := fun bs t Q => ∃ m : Int, bs = [.rd, .d (.int m)] ∧ 0 < m ∧ m < 1073741824 ∧ t.ns.length ≤ 63 ∧ 0 ≤ t.draws ∧ t.draws < 1000000000000 ∧
  ∀ (i : Int) (t' : Rs), 0 ≤ i → i < m → t'.ns = t.ns → t'.draws = t.draws + 1 → Q (.d (.int i)) t'
theorem ok_draw {f : Addr} {fd : FuncData} {k : Nat} (F : Fun K "_law_draw" "_law_draw" s__law_draw f fd) (u : Bu mg) : FnOk P w K mg base CX0 (k + 1) f fd ["_law_reader_here", "_law_many"] (spD K W4 2 S_draw) :=
  okD F sc__law_draw rfl fun cdv A outer s H E M bs t Q hr hl h => by
    obtain ⟨m, rfl, m0, m1, hn, d0, d1, q⟩ := h
    have nd := sc__law_draw.nd
    have step3 : ∀ t1 : Rs, t1.ns = t.ns → t1.draws = t.draws + 1 → ∀ i : Int, 0 ≤ i → i < m → Q (.d (.int i)) t1 := fun t1 e1 e2 i a b => q i t1 a b e1 e2
    have mn : m ≠ 0 := by omega
    have mc : ∀ i, CDivN i m := fun i => ⟨by omega, by omega⟩
    walk_at "rs"
    repeat walk_at "je"
    refine ⟨fun h1 => ?_, fun h1 => ?_⟩
    · refine jss_set 2 nd ?_
      repeat walk_at "je"
      walk_at "rs"
      repeat walk_at "je"
      refine ⟨mc _, ?_⟩
      repeat walk_at "je"
      exact step3 _ (by rfl) (by rfl) _ (fmod_pos m0).1 (fmod_pos m0).2
    · refine jss_set 3 nd ?_
      have tail : ∀ (cell : Int) (t2 : Rs), t2.ns = t.ns → t2.draws = t.draws + 1 → JSs M (X := Xo P w K mg base ["_law_reader_here", "_law_many", "_law_found", "_law_cell", "_law_once"] "_law_draw" s__law_draw f cdv A outer s H E) ((defBody s__law_draw).drop 6) [.rd, .d (.int m), .un, .d (.int cell), .un] t2 { nx := fun _ t' => Q (.d .none) t', rt := Q } := by
        intro cell t2 e1 e2
        have ed : t2.fld 3 = t.draws + 1 := e2
        refine jss_set 4 nd ?_
        repeat walk_at "je"
        rw [ed]
        have hc := fmod_pos (i := cell) (j := 2147483543) (by decide)
        refine ⟨⟨by decide, by decide, by omega⟩, ?_⟩
        repeat walk_at "je"
        rw [ed]
        have hd := fmod_pos (i := (cell.fmod 2147483543 + 7607 * (t.draws + 1) + 11) ^ (5 : Int).toNat) (j := 2147483629) (by decide)
        refine ⟨⟨by decide, by decide, by omega⟩, ?_⟩
        repeat walk_at "je"
        exact step3 _ (by exact e1) (by exact e2) _ (fmod_pos m0).1 (fmod_pos m0).2
      have rest : ∀ (cell : Int) (t1 : Rs), t1.ns = t.ns → t1.draws = t.draws + 1 → JSs M (X := Xo P w K mg base ["_law_reader_here", "_law_many", "_law_found", "_law_cell", "_law_once"] "_law_draw" s__law_draw f cdv A outer s H E) ((defBody s__law_draw).drop 4) [.rd, .d (.int m), .un, .d (.int cell), .un] t1 { nx := fun _ t' => Q (.d .none) t', rt := Q } := by
        intro cell t1 e1 e2
        walk_at "rs"
        repeat walk_at "je"
        refine ⟨fun h2 => ?_, fun h2 => ⟨fun z => (by cases z), fun _ => tail _ _ e1 e2⟩⟩
        repeat walk_at "je"
        refine ⟨by rw [List.length_map]; show t1.ns.length ≤ _; rw [e1]; omega, ?_⟩
        repeat walk_at "je"
        refine ⟨fun h3 => ?_, fun h3 => tail _ _ e1 e2⟩
        walk_at "rs"
        repeat walk_at "je"
        refine ⟨mc _, ?_⟩
        repeat walk_at "je"
        exact step3 _ (by exact e1) (by exact e2) _ (fmod_pos m0).1 (fmod_pos m0).2
      repeat walk_at "je"
      refine JL.toD (jl_lst ?_)
      repeat walk_at "je"
      refine ⟨[], rfl, by decide, shaped_ints _, by decide +kernel, fun h2 => ?_, fun h2 => rest 47 _ (by rfl) (by rfl)⟩
      have hne : t.ns ≠ [] := fun z => by
        have h2' : (!PyData.eqv (.list (t.ns.map PyData.int)) (.list [])) = true := h2
        rw [z] at h2'
        revert h2'
        decide +kernel
      have hpos : 0 < t.ns.length := List.length_pos_iff.mpr hne
      have hb := fmod_pos (i := t.nxt) (j := (t.ns.length : Int)) (by omega)
      refine jss_set 3 nd ?_
      refine jd_ixL ?_
      repeat walk_at "je"
      refine ⟨by rw [List.length_map]; show t.ns.length ≤ _; omega, ?_⟩
      obtain ⟨j, ej⟩ : ∃ j : Nat, t.nxt.fmod (t.ns.length : Int) = (j : Int) := ⟨_, (Int.toNat_of_nonneg hb.1).symm⟩
      have hj : j < t.ns.length := by omega
      refine ⟨_, rfl, by rw [List.length_map]; show ((t.ns.length : Nat) : Int) ≠ 0; omega, (t.nxt.fmod (t.ns.length : Int)), .int t.ns[j], ?_, ?_, ?_⟩
      · rw [List.length_map]
        rfl
      · rw [ej]
        refine atI_nat ?_
        show (t.ns.map PyData.int)[j]? = _
        rw [List.getElem?_map, List.getElem?_eq_getElem hj]
        rfl
      · repeat walk_at "je"
        exact rest _ _ (by rfl) (by rfl)
end
end K09
namespace K09
open PySem PySem.Spec PyProof.Rows L2 Dl Dw Dz
abbrev m_l_draw : List B → W B := drawW
end K09
end
section
set_option maxRecDepth 100000
set_option maxHeartbeats 4000000
namespace Dw
open PySem PySem.Spec PyProof.Rows L2 Dl
section
variable {X : Cx} {Wo : WO} {M : Md X.K Wo} {ρ : List B} {t : Rs} {e a : Expr} {pos p : Pos} {k kk : Nat} {f : W PyData}
/-! repr again, for long texts -/
def oreprL (x : PyData) : W PyData := need (Fin x ∧ x.shown.length ≤ 16000000 ∧ x.depth ≤ 60) (ret (.str x.shown))
theorem jd_reprL {P : PyData → Rs → Prop} (hr : Room k X.A) (hg0 : X.A.guards = some []) (hm : X.mg "repr" = none) (h : JD M e ρ t fun y t1 => Fin y ∧ y.shown.length ≤ 16000000 ∧ y.depth ≤ 60 ∧ P (.str y.shown) t1) (hg : Gl X "repr" := by rfl)
    (h3 : starEach [e] X.env = (false, eval e X.env) :: starEach [] X.env := by rfl) : JD M (.Call (.Name "repr" p) [e] [] pos) ρ t P :=
  jd_of (pe_callB (cr_repr hr hg0) hg hm (by decide +kernel) (pa_cons peT pa_nil h3) (by decide) (by decide) h3 rfl) fun σ G H S Q q => h σ G H S _ fun G1 H1 v y t1 s1 d1 ⟨fy, sy, dy, p1⟩ => by
    refine ⟨v, y, rfl, De.dp _ _ (De.up (S.step s1).ok.sub _ _ d1), Fin.show_ y fy, Fin.noD y fy, by omega, ?_, fun i e => ?_, q G1 H1 _ _ t1 s1 (.str _) p1⟩
    · rw [sizeLine_eq]
      omega
    · subst e
      have f1 : i.natAbs < 2 ^ 256 := fy
      by_cases z : i.natAbs = 0
      · rw [z]
        decide
      · have := (Nat.log2_lt z).mpr f1
        omega
theorem rd_reprL (E : Ev X kk) (hg0 : X.A.guards = some []) (ha : RD M a ρ f) (hs : starEach [a] X.env = (false, eval a X.env) :: starEach [] X.env := by rfl) (hg : Gl X "repr" := by rfl) : RD M (.Call (.Name "repr" p) [a] [] pos) ρ (op1 oreprL f) := ⟨fun t P z =>
  jd_reprL E.room hg0 E.bu.repr ((ha.run t _ z).imp fun x t1 z1 => ⟨z1.1.1, z1.1.2.1, z1.1.2.2, z1.2⟩) hg hs⟩
theorem oreprL_ap (x : PyData) (P : PyData → Rs → Prop) : oreprL x t P = ((Fin x ∧ x.shown.length ≤ 16000000 ∧ x.depth ≤ 60) ∧ P (.str x.shown) t) := id rfl
theorem oreprL_s {y : Str} {P : PyData → Rs → Prop} (h : ∀ c ∈ y.cps.toList, c < 128) (hl : y.length ≤ 1500000) (q : P (.str (PyData.str y).shown) t) : oreprL (.str y) t P := by
  rw [oreprL_ap]
  refine ⟨⟨h, ?_, ?_⟩, q⟩
  · simp only [PyData.shown]
    have := StrLaws.reprText_len y fun c hc => Nat.lt_of_lt_of_le (h c hc) (by decide)
    omega
  · simp [PyData.depth]
theorem oreprL_d {x : PyData} {P : PyData → Rs → Prop} (h : Fin x) (hs : sz x ≤ 50000) (hd : x.depth ≤ 60) (q : P (.str x.shown) t) : oreprL x t P := by
  rw [oreprL_ap]
  have := Fin.len x h
  exact ⟨⟨h, by omega, hd⟩, q⟩
end
end Dw
end
section
set_option maxRecDepth 100000
set_option maxHeartbeats 4000000
namespace K09
open PySem PySem.Spec PyProof.Rows L2 Dl Dw Dz
open Dw (ret)
section
variable {P : Program} {w : World} {K : PySem.W.Frag} {mg : Str → Option Value} {base : Heap}


/-- is_integer -/
def m_is_integer : List B → W B := arg1 fun thing1 => fnW (
  bnd (andW (op1 (oisi "int") (ret thing1)) (op1 onot (op1 (oisi "bool") (ret thing1)))) fun x => ret (.rt (.d x)))
theorem ok_is_integer {Wo : WO} {f : Addr} {fd : FuncData} (F : Fun K "is_integer" "is_integer" s_is_integer f fd) (u : Bb mg) : FnOk P w K mg base CX0 1 f fd ["thing"] (spD K Wo 1 (Sm m_is_integer)) :=
  okD F sc_is_integer rfl fun cdv A outer s H E M bs t Q hr hl h => by
    obtain ⟨thing1, rfl, h0⟩ := arg1_of h
    have nd := sc_is_integer.nd
    have ev : Ev (Xo P w K mg base ["thing"] "is_integer" s_is_integer f cdv A outer s H E) (0) := ⟨rfl, hr, u⟩
    exact fn_run [.d thing1] (rs_ret (rd_and (rd_isInt ev (rd_nm 0)) (rd_one (rd_not (rd_isBool ev (rd_nm 0)))))) h0
/-- _inner_parts -/
def m__inner_parts : List B → W B := arg2 fun path1 part2 => fnW (
  ifW (orT (bnd (bnd (callN 1 m_is_integer (dA (ret part2) (ret []))) asD) asT) (bnd (op2 oeq (op2 oix (ret part2) (ret (.int 0))) (ret (.str "item"))) asB)) (upO (bnd (disp (ret []) ret) fun x => ret (.rt (.own x)))) (
  bnd (compW (rng2 (ret (.int 1)) (op1 olen (ret part2))) fun at3 => disp (dA (disp (starD (ret path1) (dA (ret at3) (ret []))) fun xs => ret (.tuple xs)) (dA (op2 oix (ret part2) (ret at3)) (ret []))) fun xs => ret (.tuple xs)) fun x => ret (.rt (.own x))))
theorem ok__inner_parts {Wo : WO} {f : Addr} {fd : FuncData} (F : Fun K "_inner_parts" "_inner_parts" s__inner_parts f fd) (u : Bb mg) (D_is_integer : Def P w K Wo mg base 1 "is_integer" 1 (Sm m_is_integer)) : FnOk P w K mg base CX0 2 f fd ["path", "part"] (spD K Wo 2 (Sm m__inner_parts)) :=
  okD F sc__inner_parts rfl fun cdv A outer s H E M bs t Q hr hl h => by
    obtain ⟨path1, part2, rfl, h0⟩ := arg2_of h
    have nd := sc__inner_parts.nd
    have ev : Ev (Xo P w K mg base ["path", "part", "at"] "_inner_parts" s__inner_parts f cdv A outer s H E) (1) := ⟨rfl, hr, u⟩
    exact fn_run [.d path1, .d part2, .un] (rs_if0 (rt_v (rv_or (rt_tru (rd_call ev D_is_integer (ra_cons (rd_nm 1) ra_nil))) (rv_one (rt_eq ev (rd_ix (rd_nm 1) rd_int) rd_str)))) (rs_retL (rl_lst ra_nil)) (
  rs_retL (rl_comp (own := [("at", 2)]) (gt := gName 2) ev nd (blkOk_by (N := ["path", "part", "at"]) (sc := defScope s__inner_parts) (by decide +kernel)) wipes1 (fun _ _ _ _ _ => pg_name (i := 2) nd rfl (by first | exact Or.inl rfl | exact Or.inr rfl)) (ri_r2 ev rd_int (rd_len ev (rd_nm 1))) (fun at3 => rge_one 2 (fun _ _ _ _ _ => rd_tup (ra_cons (rd_tup (ra_star (rd_nm 0) (ra_cons (rd_nm 2) ra_nil))) (ra_cons (rd_ix (rd_nm 1) (rd_nm 2)) ra_nil))))))) h0
/-- parts_of -/
def m_parts_of : List B → W B := arg1 fun expression1 => fnW (
  bnd (disp (ret []) ret) fun found2 =>
  bnd (disp (dA (disp (dA (disp (ret []) fun xs => ret (.tuple xs)) (dA (ret expression1) (ret []))) fun xs => ret (.tuple xs)) (ret [])) ret) fun waiting3 =>
  thn (whW (σ := List PyData × List PyData) (fun s4 => ret (!(s4.2).isEmpty)) (fun s4 =>
  popW s4.2 fun ys6 => two fun path7 part8 =>
  bnd (disp (dA (ret path7) (dA (ret part8) (ret []))) fun xs => ret (.tuple xs)) fun y9 => need ((s4.1).length < 16777216) (
  extV (froz (revL (bnd (callN 2 m__inner_parts (dA (ret path7) (dA (ret part8) (ret [])))) asD))) ys6 fun ys10 =>
  ret (.nx ((s4.1 ++ [y9]), (ys6 ++ ys10))))) (found2, waiting3)) fun s5 =>
  bnd (op1 otup (ret (.list s5.1))) fun x => ret (.rt (.d x)))
theorem ok_parts_of {Wo : WO} {f : Addr} {fd : FuncData} (F : Fun K "parts_of" "parts_of" s_parts_of f fd) (u : Bb mg) (D__inner_parts : Def P w K Wo mg base 2 "_inner_parts" 2 (Sm m__inner_parts)) : FnOk P w K mg base CX0 3 f fd ["expression"] (spD K Wo 1 (Sm m_parts_of)) :=
  okD F sc_parts_of rfl fun cdv A outer s H E M bs t Q hr hl h => by
    obtain ⟨expression1, rfl, h0⟩ := arg1_of h
    have nd := sc_parts_of.nd
    have ev : Ev (Xo P w K mg base ["expression", "found", "waiting", "path", "part"] "parts_of" s_parts_of f cdv A outer s H E) (2) := ⟨rfl, hr, u⟩
    exact fn_run [.d expression1, .un, .un, .un, .un] (rs_setL 1 nd (rl_lst ra_nil) fun found2 =>
  rs_setL 2 nd (rl_lst (ra_cons (rd_tup (ra_cons (rd_tup ra_nil) (ra_cons (rd_nm 0) ra_nil))) ra_nil)) fun waiting3 =>
  rs_while (eme := fun s4 : List PyData × List PyData => [.d expression1, .own s4.1, .own s4.2, .un, .un]) (found2, waiting3) PassesOwn.never (.same (.same (.same (.same (.same .nil))))) (fun s4 => rt_own 2) (fun s4 =>
  rs_popTo 2 (pg_tup (by rfl) (pgs_cons (pg_name (i := 3) nd rfl (by first | exact Or.inl rfl | exact Or.inr rfl)) (pgs_cons (pg_name (i := 4) nd rfl (by first | exact Or.inl rfl | exact Or.inr rfl)) pgs_nil))) fun ys6 _ => rg_two 3 4 fun path7 part8 =>
  rs_app 1 (rd_tup (ra_cons (rd_nm 3) (ra_cons (rd_nm 4) ra_nil))) fun y9 =>
  rs_ext 2 (rd_l (rl_revL (rd_call ev D__inner_parts (ra_cons (rd_nm 3) (ra_cons (rd_nm 4) ra_nil))))) fun ys10 =>
  rs_nil (s := ((s4.1 ++ [y9]), (ys6 ++ ys10))) (.same (.same (.same (.un (.un .nil)))))) fun s5 =>
  rs_fz 1 (rs_ret (rd_tupc ev (rd_nm 1)))) h0
/-- _head_text -/
def m__head_text : List B → W B := arg1 fun part1 => fnW (
  ifW (bnd (bnd (callN 1 m_is_integer (dA (ret part1) (ret []))) asD) asT) (upO (bnd (op1 ostr (ret part1)) fun x => ret (.rt (.d x)))) (
  bnd (ifW (bnd (op2 oeq (op2 oix (ret part1) (ret (.int 0))) (ret (.str "item"))) asB) (jsW [ret (.str "item "), op1 ofmt (op2 oix (ret part1) (ret (.int 1)))] Str.empty) (op2 oix (ret part1) (ret (.int 0)))) fun x => ret (.rt (.d x))))
theorem ok__head_text {Wo : WO} {f : Addr} {fd : FuncData} (F : Fun K "_head_text" "_head_text" s__head_text f fd) (u : Bb mg) (D_is_integer : Def P w K Wo mg base 1 "is_integer" 1 (Sm m_is_integer)) : FnOk P w K mg base CX0 2 f fd ["part"] (spD K Wo 1 (Sm m__head_text)) :=
  okD F sc__head_text rfl fun cdv A outer s H E M bs t Q hr hl h => by
    obtain ⟨part1, rfl, h0⟩ := arg1_of h
    have nd := sc__head_text.nd
    have ev : Ev (Xo P w K mg base ["part"] "_head_text" s__head_text f cdv A outer s H E) (1) := ⟨rfl, hr, u⟩
    exact fn_run [.d part1] (rs_if0 (rt_tru (rd_call ev D_is_integer (ra_cons (rd_nm 0) ra_nil))) (rs_ret (rd_strc ev (rd_nm 0))) (
  rs_ret (rd_if (rt_eq ev (rd_ix (rd_nm 0) rd_int) rd_str) (rd_fstr (RJ.cons rd_str (RJ.cons (rd_fmt (rd_ix (rd_nm 0) rd_int)) RJ.nil))) (rd_ix (rd_nm 0) rd_int)))) h0
/-- expression_text -/
def m_expression_text : List B → W B := arg1 fun expression1 => fnW (
  bnd (joinW (ret (.str " ")) (froz (compW (itT (bnd (callN 1 m_parts_of (dA (ret expression1) (ret []))) asD)) (two fun path2 part3 => bnd (callN 1 m__head_text (dA (ret part3) (ret []))) asD)))) fun x => ret (.rt (.d x)))
theorem ok_expression_text {Wo : WO} {f : Addr} {fd : FuncData} (F : Fun K "expression_text" "expression_text" s_expression_text f fd) (u : Bb mg) (D__head_text : Def P w K Wo mg base 2 "_head_text" 1 (Sm m__head_text)) (D_parts_of : Def P w K Wo mg base 3 "parts_of" 1 (Sm m_parts_of)) : FnOk P w K mg base CX0 4 f fd ["expression"] (spD K Wo 1 (Sm m_expression_text)) :=
  okD F sc_expression_text rfl fun cdv A outer s H E M bs t Q hr hl h => by
    obtain ⟨expression1, rfl, h0⟩ := arg1_of h
    have nd := sc_expression_text.nd
    have ev : Ev (Xo P w K mg base ["expression", "path", "part"] "expression_text" s_expression_text f cdv A outer s H E) (3) := ⟨rfl, hr, u⟩
    exact fn_run [.d expression1, .un, .un] (rs_ret (rd_join ev rd_str (rd_l (rl_comp (own := [("path", 1), ("part", 2)]) (gt := gTup _ 2 (gCons (gName 1) (gCons (gName 2) (gNil)))) ev nd (blkOk_by (N := ["expression", "path", "part"]) (sc := defScope s_expression_text) (by decide +kernel)) (wipes2 (by decide)) (fun _ _ _ _ _ => pg_tup (by rfl) (pgs_cons (pg_name (i := 1) nd rfl (by first | exact Or.inl rfl | exact Or.inr rfl)) (pgs_cons (pg_name (i := 2) nd rfl (by first | exact Or.inl rfl | exact Or.inr rfl)) pgs_nil))) (ri_T (rd_call ev D_parts_of (ra_cons (rd_nm 0) ra_nil))) (fun _ => rge_two 1 2 (fun path2 part3 _ _ _ _ _ => rd_call ev.blk D__head_text (ra_cons (rd_nm 2) ra_nil))))))) h0
/-- sum_text -/
def m_sum_text : List B → W B := arg1 fun one1 => fnW (
  bnd (joinW (ret (.str ",")) (froz (compW (itT (ret one1)) fun number2 => op1 ostr (ret number2)))) fun x => ret (.rt (.d x)))
theorem ok_sum_text {Wo : WO} {f : Addr} {fd : FuncData} (F : Fun K "sum_text" "sum_text" s_sum_text f fd) (u : Bb mg) : FnOk P w K mg base CX0 1 f fd ["one"] (spD K Wo 1 (Sm m_sum_text)) :=
  okD F sc_sum_text rfl fun cdv A outer s H E M bs t Q hr hl h => by
    obtain ⟨one1, rfl, h0⟩ := arg1_of h
    have nd := sc_sum_text.nd
    have ev : Ev (Xo P w K mg base ["one", "number"] "sum_text" s_sum_text f cdv A outer s H E) (0) := ⟨rfl, hr, u⟩
    exact fn_run [.d one1, .un] (rs_ret (rd_join ev rd_str (rd_l (rl_comp (own := [("number", 1)]) (gt := gName 1) ev nd (blkOk_by (N := ["one", "number"]) (sc := defScope s_sum_text) (by decide +kernel)) wipes1 (fun _ _ _ _ _ => pg_name (i := 1) nd rfl (by first | exact Or.inl rfl | exact Or.inr rfl)) (ri_T (rd_nm 0)) (fun number2 => rge_one 1 (fun _ _ _ _ _ => rd_strc ev.blk (rd_nm 1))))))) h0
/-- sums_text -/
def m_sums_text : List B → W B := arg1 fun sums1 => fnW (
  bnd (ifW (bnd (ret sums1) asT) (joinW (ret (.str ";")) (froz (compW (itT (ret sums1)) fun one2 => bnd (callN 1 m_sum_text (dA (ret one2) (ret []))) asD))) (ret (.str "-"))) fun x => ret (.rt (.d x)))
theorem ok_sums_text {Wo : WO} {f : Addr} {fd : FuncData} (F : Fun K "sums_text" "sums_text" s_sums_text f fd) (u : Bb mg) (D_sum_text : Def P w K Wo mg base 1 "sum_text" 1 (Sm m_sum_text)) : FnOk P w K mg base CX0 2 f fd ["sums"] (spD K Wo 1 (Sm m_sums_text)) :=
  okD F sc_sums_text rfl fun cdv A outer s H E M bs t Q hr hl h => by
    obtain ⟨sums1, rfl, h0⟩ := arg1_of h
    have nd := sc_sums_text.nd
    have ev : Ev (Xo P w K mg base ["sums", "one"] "sums_text" s_sums_text f cdv A outer s H E) (1) := ⟨rfl, hr, u⟩
    exact fn_run [.d sums1, .un] (rs_ret (rd_if (rt_tru (rd_nm 0)) (rd_join ev rd_str (rd_l (rl_comp (own := [("one", 1)]) (gt := gName 1) ev nd (blkOk_by (N := ["sums", "one"]) (sc := defScope s_sums_text) (by decide +kernel)) wipes1 (fun _ _ _ _ _ => pg_name (i := 1) nd rfl (by first | exact Or.inl rfl | exact Or.inr rfl)) (ri_T (rd_nm 0)) (fun one2 => rge_one 1 (fun _ _ _ _ _ => rd_call ev.blk D_sum_text (ra_cons (rd_nm 1) ra_nil)))))) rd_str)) h0
/-- store_text -/
def m_store_text : List B → W B := arg1 fun store1 => fnW (
  bnd (ret store1) (three fun items2 rules3 hands4 =>
  bnd (compW (itT (ret items2)) (three fun name5 low6 high7 => jsW [ret (.str "item "), op1 ofmt (ret name5), ret (.str " "), op1 ofmt (ret low6), ret (.str " "), op1 ofmt (ret high7)] Str.empty)) fun lines8 =>
  extV (froz (compW (itT (ret rules3)) fun rule9 => jsW [ret (.str "rule "), op1 ofmt (bnd (callN 1 m_expression_text (dA (ret rule9) (ret []))) asD)] Str.empty)) lines8 fun ys10 =>
  bnd (itT (ret hands4)) fun xs19 => thn (forW (σ := List PyData) (fun s11 => two fun hand13 deeds14 =>
  bnd (jsW [ret (.str "hand "), op1 ofmt (ret hand13)] Str.empty) fun y15 => need ((s11).length < 16777216) (
  extV (froz (compW (itT (ret deeds14)) (two fun deed16 one17 => jsW [ret (.str "deed "), op1 ofmt (ret deed16), ret (.str " "), op1 ofmt (bnd (callN 1 m_sum_text (dA (ret one17) (ret []))) asD)] Str.empty))) (s11 ++ [y15]) fun ys18 =>
  ret (.nx ((s11 ++ [y15]) ++ ys18)))) xs19 (lines8 ++ ys10)) fun s12 =>
  bnd (joinW (ret (.str "\n")) (ret (.list s12))) fun x => ret (.rt (.d x))))
theorem ok_store_text {Wo : WO} {f : Addr} {fd : FuncData} (F : Fun K "store_text" "store_text" s_store_text f fd) (u : Bb mg) (D_expression_text : Def P w K Wo mg base 4 "expression_text" 1 (Sm m_expression_text)) (D_sum_text : Def P w K Wo mg base 1 "sum_text" 1 (Sm m_sum_text)) : FnOk P w K mg base CX0 5 f fd ["store"] (spD K Wo 1 (Sm m_store_text)) :=
  okD F sc_store_text rfl fun cdv A outer s H E M bs t Q hr hl h => by
    obtain ⟨store1, rfl, h0⟩ := arg1_of h
    have nd := sc_store_text.nd
    have ev : Ev (Xo P w K mg base ["store", "items", "rules", "hands", "lines", "hand", "deeds", "name", "low", "high", "rule", "deed", "one"] "store_text" s_store_text f cdv A outer s H E) (4) := ⟨rfl, hr, u⟩
    exact fn_run [.d store1, .un, .un, .un, .un, .un, .un, .un, .un, .un, .un, .un, .un] (rs_asg (pg_tup (by rfl) (pgs_cons (pg_name (i := 1) nd rfl (by first | exact Or.inl rfl | exact Or.inr rfl)) (pgs_cons (pg_name (i := 2) nd rfl (by first | exact Or.inl rfl | exact Or.inr rfl)) (pgs_cons (pg_name (i := 3) nd rfl (by first | exact Or.inl rfl | exact Or.inr rfl)) pgs_nil)))) (rd_nm 0) fun _ => rg_three 1 2 3 fun items2 rules3 hands4 =>
  rs_setC 4 (own := [("name", 7), ("low", 8), ("high", 9)]) (gt := gTup _ 3 (gCons (gName 7) (gCons (gName 8) (gCons (gName 9) (gNil))))) ev nd (blkOk_by (N := ["store", "items", "rules", "hands", "lines", "hand", "deeds", "name", "low", "high", "rule", "deed", "one"]) (sc := defScope s_store_text) (by decide +kernel)) (wipes3 (by decide) (by decide) (by decide)) (fun _ _ _ _ _ => pg_tup (by rfl) (pgs_cons (pg_name (i := 7) nd rfl (by first | exact Or.inl rfl | exact Or.inr rfl)) (pgs_cons (pg_name (i := 8) nd rfl (by first | exact Or.inl rfl | exact Or.inr rfl)) (pgs_cons (pg_name (i := 9) nd rfl (by first | exact Or.inl rfl | exact Or.inr rfl)) pgs_nil)))) (ri_T (rd_nm 1)) (fun _ => rge_three 7 8 9 (fun name5 low6 high7 _ _ _ _ _ => rd_fstr (RJ.cons rd_str (RJ.cons (rd_fmt (rd_nm 7)) (RJ.cons rd_str (RJ.cons (rd_fmt (rd_nm 8)) (RJ.cons rd_str (RJ.cons (rd_fmt (rd_nm 9)) RJ.nil)))))))) fun lines8 =>
  rs_ext 4 (rd_l (rl_comp (own := [("rule", 10)]) (gt := gName 10) ev nd (blkOk_by (N := ["store", "items", "rules", "hands", "lines", "hand", "deeds", "name", "low", "high", "rule", "deed", "one"]) (sc := defScope s_store_text) (by decide +kernel)) wipes1 (fun _ _ _ _ _ => pg_name (i := 10) nd rfl (by first | exact Or.inl rfl | exact Or.inr rfl)) (ri_T (rd_nm 2)) (fun rule9 => rge_one 10 (fun _ _ _ _ _ => rd_fstr (RJ.cons rd_str (RJ.cons (rd_fmt (rd_call ev.blk D_expression_text (ra_cons (rd_nm 10) ra_nil))) RJ.nil)))))) fun ys10 =>
  rs_for (eme := fun s11 : List PyData => [.d store1, .d items2, .d rules3, .d hands4, .own s11, .un, .un, .un, .un, .un, .un, .un, .un]) (lines8 ++ ys10) ev PassesOwn.never (.same (.same (.same (.same (.same (.same (.same (.same (.same (.same (.same (.same (.same .nil))))))))))))) (pg_tup (by rfl) (pgs_cons (pg_name (i := 5) nd rfl (by first | exact Or.inl rfl | exact Or.inr rfl)) (pgs_cons (pg_name (i := 6) nd rfl (by first | exact Or.inl rfl | exact Or.inr rfl)) pgs_nil))) (ri_T (rd_nm 3)) (fun s11 _ => rg_two 5 6 fun hand13 deeds14 =>
  rs_app 4 (rd_fstr (RJ.cons rd_str (RJ.cons (rd_fmt (rd_nm 5)) RJ.nil))) fun y15 =>
  rs_ext 4 (rd_l (rl_comp (own := [("deed", 11), ("one", 12)]) (gt := gTup _ 2 (gCons (gName 11) (gCons (gName 12) (gNil)))) ev nd (blkOk_by (N := ["store", "items", "rules", "hands", "lines", "hand", "deeds", "name", "low", "high", "rule", "deed", "one"]) (sc := defScope s_store_text) (by decide +kernel)) (wipes2 (by decide)) (fun _ _ _ _ _ => pg_tup (by rfl) (pgs_cons (pg_name (i := 11) nd rfl (by first | exact Or.inl rfl | exact Or.inr rfl)) (pgs_cons (pg_name (i := 12) nd rfl (by first | exact Or.inl rfl | exact Or.inr rfl)) pgs_nil))) (ri_T (rd_nm 6)) (fun _ => rge_two 11 12 (fun deed16 one17 _ _ _ _ _ => rd_fstr (RJ.cons rd_str (RJ.cons (rd_fmt (rd_nm 11)) (RJ.cons rd_str (RJ.cons (rd_fmt (rd_call ev.blk D_sum_text (ra_cons (rd_nm 12) ra_nil))) RJ.nil)))))))) fun ys18 =>
  rs_nil (s := ((s11 ++ [y15]) ++ ys18)) (.same (.same (.same (.same (.same (.un (.un (.same (.same (.same (.same (.same (.same .nil)))))))))))))) fun s12 =>
  rs_fz 4 (rs_ret (rd_join ev rd_str (rd_nm 4)))) h0
/-- law: leaf -/
def m_l_leaf : List B → W B := argR1 fun slots_here1 => fnW (
  ifW (bnd (op2 oeq (bnd (callN 2 m_l_draw (rdA (dA (ret (.int 3)) (ret [])))) asD) (ret (.int 0))) asB) (upO (bnd (op2 oix (froz (disp (dA (ret (.int 0)) (dA (ret (.int 1)) (dA (ret (.int 2)) (dA (op1 oneg (ret (.int 1))) (dA (ret (.int 3)) (dA (op1 oneg (ret (.int 7))) (dA (ret (.int 12)) (dA (ret (.int 1)) (ret []))))))))) ret)) (bnd (callN 2 m_l_draw (rdA (dA (ret (.int 8)) (ret [])))) asD)) fun x => ret (.rt (.d x)))) (
  bnd (disp (dA (ret (.str "item")) (dA (op2 oix (ret slots_here1) (bnd (callN 2 m_l_draw (rdA (dA (op1 olen (ret slots_here1)) (ret [])))) asD)) (ret []))) fun xs => ret (.tuple xs)) fun x => ret (.rt (.d x))))
theorem ok_l_leaf {Wo : WO} {f : Addr} {fd : FuncData} (F : Fun K "_law_leaf" "_law_leaf" s__law_leaf f fd) (u : Bb mg) (D_l_draw : Def P w K Wo mg base 1 "_law_draw" 2 (Sm m_l_draw)) : FnOk P w K mg base CX0 2 f fd ["_law_reader_here", "_law_slots_here"] (spD K Wo 2 (Sm m_l_leaf)) :=
  okD F sc__law_leaf rfl fun cdv A outer s H E M bs t Q hr hl h => by
    obtain ⟨slots_here1, rfl, h0⟩ := argR1_of h
    have nd := sc__law_leaf.nd
    have ev : Ev (Xo P w K mg base ["_law_reader_here", "_law_slots_here"] "_law_leaf" s__law_leaf f cdv A outer s H E) (1) := ⟨rfl, hr, u⟩
    exact fn_run [.rd, .d slots_here1] (rs_if0 (rt_eq ev (rd_call ev D_l_draw (ra_rd 0 (ra_cons rd_int ra_nil))) rd_int) (rs_ret (rd_ix (rd_l (rl_lst (ra_cons rd_int (ra_cons rd_int (ra_cons rd_int (ra_cons (rd_neg rd_int) (ra_cons rd_int (ra_cons (rd_neg rd_int) (ra_cons rd_int (ra_cons rd_int ra_nil)))))))))) (rd_call ev D_l_draw (ra_rd 0 (ra_cons rd_int ra_nil))))) (
  rs_ret (rd_tup (ra_cons rd_str (ra_cons (rd_ix (rd_nm 1) (rd_call ev D_l_draw (ra_rd 0 (ra_cons (rd_len ev (rd_nm 1)) ra_nil)))) ra_nil))))) h0
/-- law: number -/
def m_l_number : Nat → List B → W B
  | 0, _ => bad
  | n + 1, bs => argR2 (fun slots_here1 deep2 => fnW (
  bnd (bnd (callN 2 m_l_draw (rdA (dA (ret (.int 4)) (ret [])))) asD) fun way3 =>
  ifW (orT (bnd (op2 olt (ret deep2) (ret (.int 1))) asB) (bnd (op2 oeq (ret way3) (ret (.int 0))) asB)) (upO (bnd (bnd (callN 2 m_l_leaf (rdA (dA (ret slots_here1) (ret [])))) asD) fun x => ret (.rt (.d x)))) (
  bnd (bnd (callN 3 (m_l_number n) (rdA (dA (ret slots_here1) (dA (op2 osub (ret deep2) (ret (.int 1))) (ret []))))) asD) fun one4 =>
  bnd (disp (dA (op2 oix (froz (disp (dA (ret (.str "+")) (dA (ret (.str "-")) (dA (ret (.str "*")) (ret [])))) ret)) (op2 osub (ret way3) (ret (.int 1)))) (dA (ret one4) (dA (bnd (callN 3 (m_l_number n) (rdA (dA (ret slots_here1) (dA (op2 osub (ret deep2) (ret (.int 1))) (ret []))))) asD) (ret [])))) fun xs => ret (.tuple xs)) fun x => ret (.rt (.d x))))) bs
theorem ok_l_number {Wo : WO} {f : Addr} {fd : FuncData} (F : Fun K "_law_number" "_law_number" s__law_number f fd) (u : Bb mg) (D_l_draw : Def P w K Wo mg base 1 "_law_draw" 2 (Sm m_l_draw)) (D_l_leaf : Def P w K Wo mg base 2 "_law_leaf" 2 (Sm m_l_leaf)) (hm : mg "_law_number" = some (.ref f)) (hb : Binds K fd ["_law_reader_here", "_law_slots_here", "_law_deep"] []) : ∀ n, FnOk P w K mg base CX0 (3 + n) f fd ["_law_reader_here", "_law_slots_here", "_law_deep"] (spD K Wo 3 (Sm (m_l_number n)))
  | 0 => okD F sc__law_number rfl fun cdv A outer s H E M bs t Q hr hl h => h.elim
  | n + 1 => okD F sc__law_number rfl fun cdv A outer s H E M bs t Q hr hl h => by
    have D_l_number := Dl.Fun.def_ F (ok_l_number (Wo := Wo) F u D_l_draw D_l_leaf hm hb n) hm hb
    obtain ⟨slots_here1, deep2, rfl, h0⟩ := argR2_of h
    have nd := sc__law_number.nd
    have ev : Ev (Xo P w K mg base ["_law_reader_here", "_law_slots_here", "_law_deep", "_law_way", "_law_one"] "_law_number" s__law_number f cdv A outer s H E) (3 + n) := ⟨rfl, hr, u⟩
    exact fn_run [.rd, .d slots_here1, .d deep2, .un, .un] (rs_set 3 nd (rd_call ev D_l_draw (ra_rd 0 (ra_cons rd_int ra_nil)) (by omega)) fun way3 =>
  rs_if0 (rt_v (rv_or (rt_lt (rd_nm 2) rd_int) (rv_one (rt_eq ev (rd_nm 3) rd_int)))) (rs_ret (rd_call ev D_l_leaf (ra_rd 0 (ra_cons (rd_nm 1) ra_nil)) (by omega))) (
  rs_set 4 nd (rd_call ev D_l_number (ra_rd 0 (ra_cons (rd_nm 1) (ra_cons (rd_sub (rd_nm 2) rd_int) ra_nil))) (by omega)) fun one4 =>
  rs_ret (rd_tup (ra_cons (rd_ix (rd_l (rl_lst (ra_cons rd_str (ra_cons rd_str (ra_cons rd_str ra_nil))))) (rd_sub (rd_nm 3) rd_int)) (ra_cons (rd_nm 4) (ra_cons (rd_call ev D_l_number (ra_rd 0 (ra_cons (rd_nm 1) (ra_cons (rd_sub (rd_nm 2) rd_int) ra_nil))) (by omega)) ra_nil)))))) h0
/-- law: condition -/
def m_l_condition : Nat → List B → W B
  | 0, _ => bad
  | n + 1, bs => argR2 (fun slots_here1 deep2 => fnW (
  bnd (bnd (callN 2 m_l_draw (rdA (dA (ret (.int 6)) (ret [])))) asD) fun way3 =>
  ifW (orT (bnd (op2 olt (ret deep2) (ret (.int 1))) asB) (bnd (op2 olt (ret way3) (ret (.int 2))) asB)) (upO (bnd (disp (dA (op2 oix (froz (disp (dA (ret (.str "=")) (dA (ret (.str "<")) (ret []))) ret)) (op2 ofdiv (ret way3) (ret (.int 3)))) (dA (bnd (callN 2 m_l_leaf (rdA (dA (ret slots_here1) (ret [])))) asD) (dA (bnd (callN 3 (m_l_number 4) (rdA (dA (ret slots_here1) (dA (op2 osub (ret deep2) (ret (.int 1))) (ret []))))) asD) (ret [])))) fun xs => ret (.tuple xs)) fun x => ret (.rt (.d x)))) (
  bnd (bnd (callN 3 (m_l_condition n) (rdA (dA (ret slots_here1) (dA (op2 osub (ret deep2) (ret (.int 1))) (ret []))))) asD) fun one4 =>
  ifW (bnd (op2 olt (ret way3) (ret (.int 4))) asB) (upO (bnd (disp (dA (ret (.str "not")) (dA (ret one4) (ret []))) fun xs => ret (.tuple xs)) fun x => ret (.rt (.d x)))) (
  bnd (disp (dA (op2 oix (froz (disp (dA (ret (.str "and")) (dA (ret (.str "or")) (ret []))) ret)) (op2 osub (ret way3) (ret (.int 4)))) (dA (ret one4) (dA (bnd (callN 3 (m_l_condition n) (rdA (dA (ret slots_here1) (dA (ret (.int 0)) (ret []))))) asD) (ret [])))) fun xs => ret (.tuple xs)) fun x => ret (.rt (.d x)))))) bs
theorem ok_l_condition {Wo : WO} {f : Addr} {fd : FuncData} (F : Fun K "_law_condition" "_law_condition" s__law_condition f fd) (u : Bb mg) (D_l_draw : Def P w K Wo mg base 1 "_law_draw" 2 (Sm m_l_draw)) (D_l_leaf : Def P w K Wo mg base 2 "_law_leaf" 2 (Sm m_l_leaf)) (D_l_number : Def P w K Wo mg base 7 "_law_number" 3 (Sm (m_l_number 4))) (hm : mg "_law_condition" = some (.ref f)) (hb : Binds K fd ["_law_reader_here", "_law_slots_here", "_law_deep"] []) : ∀ n, FnOk P w K mg base CX0 (8 + n) f fd ["_law_reader_here", "_law_slots_here", "_law_deep"] (spD K Wo 3 (Sm (m_l_condition n)))
  | 0 => okD F sc__law_condition rfl fun cdv A outer s H E M bs t Q hr hl h => h.elim
  | n + 1 => okD F sc__law_condition rfl fun cdv A outer s H E M bs t Q hr hl h => by
    have D_l_condition := Dl.Fun.def_ F (ok_l_condition (Wo := Wo) F u D_l_draw D_l_leaf D_l_number hm hb n) hm hb
    obtain ⟨slots_here1, deep2, rfl, h0⟩ := argR2_of h
    have nd := sc__law_condition.nd
    have ev : Ev (Xo P w K mg base ["_law_reader_here", "_law_slots_here", "_law_deep", "_law_way", "_law_one"] "_law_condition" s__law_condition f cdv A outer s H E) (8 + n) := ⟨rfl, hr, u⟩
    exact fn_run [.rd, .d slots_here1, .d deep2, .un, .un] (rs_set 3 nd (rd_call ev D_l_draw (ra_rd 0 (ra_cons rd_int ra_nil)) (by omega)) fun way3 =>
  rs_if0 (rt_v (rv_or (rt_lt (rd_nm 2) rd_int) (rv_one (rt_lt (rd_nm 3) rd_int)))) (rs_ret (rd_tup (ra_cons (rd_ix (rd_l (rl_lst (ra_cons rd_str (ra_cons rd_str ra_nil)))) (rd_fdiv (rd_nm 3) rd_int)) (ra_cons (rd_call ev D_l_leaf (ra_rd 0 (ra_cons (rd_nm 1) ra_nil)) (by omega)) (ra_cons (rd_call ev D_l_number (ra_rd 0 (ra_cons (rd_nm 1) (ra_cons (rd_sub (rd_nm 2) rd_int) ra_nil))) (by omega)) ra_nil))))) (
  rs_set 4 nd (rd_call ev D_l_condition (ra_rd 0 (ra_cons (rd_nm 1) (ra_cons (rd_sub (rd_nm 2) rd_int) ra_nil))) (by omega)) fun one4 =>
  rs_if0 (rt_lt (rd_nm 3) rd_int) (rs_ret (rd_tup (ra_cons rd_str (ra_cons (rd_nm 4) ra_nil)))) (
  rs_ret (rd_tup (ra_cons (rd_ix (rd_l (rl_lst (ra_cons rd_str (ra_cons rd_str ra_nil)))) (rd_sub (rd_nm 3) rd_int)) (ra_cons (rd_nm 4) (ra_cons (rd_call ev D_l_condition (ra_rd 0 (ra_cons (rd_nm 1) (ra_cons rd_int ra_nil))) (by omega)) ra_nil))))))) h0
/-- law: random_items -/
def m_l_random_items : List B → W B := argR0 (fnW (
  bnd (disp (ret []) ret) fun found1 =>
  bnd (itT (op2 oix (froz (disp (dA (disp (dA (ret (.str "a")) (ret [])) fun xs => ret (.tuple xs)) (dA (disp (dA (ret (.str "coins")) (ret [])) fun xs => ret (.tuple xs)) (dA (disp (dA (ret (.str "item")) (dA (ret (.str "not")) (ret []))) fun xs => ret (.tuple xs)) (dA (disp (dA (ret (.str "cards")) (dA (ret (.str "coins")) (ret []))) fun xs => ret (.tuple xs)) (dA (disp (dA (ret (.str "zzzzzzzz")) (ret [])) fun xs => ret (.tuple xs)) (ret [])))))) ret)) (bnd (callN 2 m_l_draw (rdA (dA (ret (.int 5)) (ret [])))) asD))) fun xs7 => thn (forW (σ := List PyData) (fun s2 slot4 =>
  bnd (op2 osub (bnd (callN 2 m_l_draw (rdA (dA (ret (.int 4)) (ret [])))) asD) (ret (.int 2))) fun low5 =>
  bnd (disp (dA (ret slot4) (dA (ret low5) (dA (op2 oadd (ret low5) (bnd (callN 2 m_l_draw (rdA (dA (ret (.int 5)) (ret [])))) asD)) (ret [])))) fun xs => ret (.tuple xs)) fun y6 => need ((s2).length < 16777216) (
  ret (.nx (s2 ++ [y6])))) xs7 found1) fun s3 =>
  bnd (op1 otup (ret (.list s3))) fun x => ret (.rt (.d x))))
theorem ok_l_random_items {Wo : WO} {f : Addr} {fd : FuncData} (F : Fun K "_law_random_items" "_law_random_items" s__law_random_items f fd) (u : Bb mg) (D_l_draw : Def P w K Wo mg base 1 "_law_draw" 2 (Sm m_l_draw)) : FnOk P w K mg base CX0 2 f fd ["_law_reader_here"] (spD K Wo 1 (Sm m_l_random_items)) :=
  okD F sc__law_random_items rfl fun cdv A outer s H E M bs t Q hr hl h => by
    obtain ⟨rfl, h0⟩ := argR0_of h
    have nd := sc__law_random_items.nd
    have ev : Ev (Xo P w K mg base ["_law_reader_here", "_law_found", "_law_slot", "_law_low"] "_law_random_items" s__law_random_items f cdv A outer s H E) (1) := ⟨rfl, hr, u⟩
    exact fn_run [.rd, .un, .un, .un] (rs_setL 1 nd (rl_lst ra_nil) fun found1 =>
  rs_for (eme := fun s2 : List PyData => [.rd, .own s2, .un, .un]) found1 ev PassesOwn.never (.same (.same (.same (.same .nil)))) (pg_name (i := 2) nd rfl (by first | exact Or.inl rfl | exact Or.inr rfl)) (ri_T (rd_ix (rd_l (rl_lst (ra_cons (rd_tup (ra_cons rd_str ra_nil)) (ra_cons (rd_tup (ra_cons rd_str ra_nil)) (ra_cons (rd_tup (ra_cons rd_str (ra_cons rd_str ra_nil))) (ra_cons (rd_tup (ra_cons rd_str (ra_cons rd_str ra_nil))) (ra_cons (rd_tup (ra_cons rd_str ra_nil)) ra_nil))))))) (rd_call ev D_l_draw (ra_rd 0 (ra_cons rd_int ra_nil))))) (fun s2 slot4 => rg_one 2 (
  rs_set 3 nd (rd_sub (rd_call ev D_l_draw (ra_rd 0 (ra_cons rd_int ra_nil))) rd_int) fun low5 =>
  rs_app 1 (rd_tup (ra_cons (rd_nm 2) (ra_cons (rd_nm 3) (ra_cons (rd_add (rd_nm 3) (rd_call ev D_l_draw (ra_rd 0 (ra_cons rd_int ra_nil)))) ra_nil)))) fun y6 =>
  rs_nil (s := (s2 ++ [y6])) (.same (.same (.un (.un .nil)))))) fun s3 =>
  rs_fz 1 (rs_ret (rd_tupc ev (rd_nm 1)))) h0
/-- law: slots -/
def m_l_slots : List B → W B := arg1 fun entries1 => fnW (
  bnd (op1 otup (froz (compW (itT (ret entries1)) fun entry2 => op2 oix (ret entry2) (ret (.int 0))))) fun x => ret (.rt (.d x)))
theorem ok_l_slots {Wo : WO} {f : Addr} {fd : FuncData} (F : Fun K "_law_slots" "_law_slots" s__law_slots f fd) (u : Bb mg) : FnOk P w K mg base CX0 1 f fd ["_law_entries"] (spD K Wo 1 (Sm m_l_slots)) :=
  okD F sc__law_slots rfl fun cdv A outer s H E M bs t Q hr hl h => by
    obtain ⟨entries1, rfl, h0⟩ := arg1_of h
    have nd := sc__law_slots.nd
    have ev : Ev (Xo P w K mg base ["_law_entries", "_law_entry"] "_law_slots" s__law_slots f cdv A outer s H E) (0) := ⟨rfl, hr, u⟩
    exact fn_run [.d entries1, .un] (rs_ret (rd_tupc ev (rd_l (rl_comp (own := [("_law_entry", 1)]) (gt := gName 1) ev nd (blkOk_by (N := ["_law_entries", "_law_entry"]) (sc := defScope s__law_slots) (by decide +kernel)) wipes1 (fun _ _ _ _ _ => pg_name (i := 1) nd rfl (by first | exact Or.inl rfl | exact Or.inr rfl)) (ri_T (rd_nm 0)) (fun entry2 => rge_one 1 (fun _ _ _ _ _ => rd_ix (rd_nm 1) rd_int)))))) h0
/-- law: random_sum -/
def m_l_random_sum : List B → W B := argR1 fun many1 => fnW (
  bnd (op1 otup (froz (compW (rng1 (ret many1)) fun k2 => op2 oix (froz (disp (dA (ret (.int 0)) (dA (ret (.int 1)) (dA (op1 oneg (ret (.int 1))) (dA (ret (.int 2)) (dA (op1 oneg (ret (.int 2))) (dA (ret (.int 12)) (dA (op1 oneg (ret (.int 12))) (ret [])))))))) ret)) (bnd (callN 2 m_l_draw (rdA (dA (ret (.int 7)) (ret [])))) asD)))) fun x => ret (.rt (.d x)))
theorem ok_l_random_sum {Wo : WO} {f : Addr} {fd : FuncData} (F : Fun K "_law_random_sum" "_law_random_sum" s__law_random_sum f fd) (u : Bb mg) (D_l_draw : Def P w K Wo mg base 1 "_law_draw" 2 (Sm m_l_draw)) : FnOk P w K mg base CX0 2 f fd ["_law_reader_here", "_law_many"] (spD K Wo 2 (Sm m_l_random_sum)) :=
  okD F sc__law_random_sum rfl fun cdv A outer s H E M bs t Q hr hl h => by
    obtain ⟨many1, rfl, h0⟩ := argR1_of h
    have nd := sc__law_random_sum.nd
    have ev : Ev (Xo P w K mg base ["_law_reader_here", "_law_many", "_law_k"] "_law_random_sum" s__law_random_sum f cdv A outer s H E) (1) := ⟨rfl, hr, u⟩
    exact fn_run [.rd, .d many1, .un] (rs_ret (rd_tupc ev (rd_l (rl_comp (own := [("_law_k", 2)]) (gt := gName 2) ev nd (blkOk_by (N := ["_law_reader_here", "_law_many", "_law_k"]) (sc := defScope s__law_random_sum) (by decide +kernel)) wipes1 (fun _ _ _ _ _ => pg_name (i := 2) nd rfl (by first | exact Or.inl rfl | exact Or.inr rfl)) (ri_r1 ev (rd_nm 1)) (fun k2 => rge_one 2 (fun _ _ _ _ _ => rd_ix (rd_l (rl_lst (ra_cons rd_int (ra_cons rd_int (ra_cons (rd_neg rd_int) (ra_cons rd_int (ra_cons (rd_neg rd_int) (ra_cons rd_int (ra_cons (rd_neg rd_int) ra_nil))))))))) (rd_call ev.blk D_l_draw (ra_rd 0 (ra_cons rd_int ra_nil))))))))) h0
/-- law: random_store -/
def m_l_random_store : List B → W B := argR0 (fnW (
  bnd (bnd (callN 1 m_l_random_items (rdA (ret []))) asD) fun entries1 => bnd (disp (ret []) ret) fun found2 =>
  bnd (compW (rng1 (bnd (callN 2 m_l_draw (rdA (dA (ret (.int 3)) (ret [])))) asD)) fun k3 => bnd (callN 3 (m_l_condition 4) (rdA (dA (bnd (callN 1 m_l_slots (dA (ret entries1) (ret []))) asD) (dA (ret (.int 2)) (ret []))))) asD) fun some4 =>
  bnd (itT (op2 oix (froz (disp (dA (disp (dA (ret (.str "ann")) (dA (ret (.str "bob")) (ret []))) fun xs => ret (.tuple xs)) (dA (disp (dA (ret (.str "ann")) (ret [])) fun xs => ret (.tuple xs)) (dA (disp (dA (ret (.str "and")) (dA (ret (.str "item")) (dA (ret (.str "zz")) (ret [])))) fun xs => ret (.tuple xs)) (dA (disp (dA (ret (.str "a")) (dA (ret (.str "b")) (dA (ret (.str "c")) (ret [])))) fun xs => ret (.tuple xs)) (ret []))))) ret)) (bnd (callN 2 m_l_draw (rdA (dA (ret (.int 4)) (ret [])))) asD))) fun xs16 => thn (forW (σ := List PyData) (fun s5 hand7 =>
  bnd (disp (dA (ret (.str "give")) (dA (ret (.str "item")) (dA (ret (.str "put")) (dA (ret (.str "take")) (ret []))))) ret) fun names8 =>
  thn (whW (σ := List PyData) (fun s9 => bnd (op2 ogt (need ((s9).length ≤ 16777216) (ret (.int (s9).length))) (ret (.int 3))) asB) (fun s9 =>
  bnd (bnd (callN 2 m_l_draw (rdA (dA (ret (.int 4)) (ret [])))) asD) fun y12 => popAtW s9 y12 fun ys11 =>
  ret (.nx ys11)) names8) fun s10 =>
  bnd (slL (ret (.list s10)) (oS (bnd (callN 2 m_l_draw (rdA (dA (ret (.int 4)) (ret [])))) asD)) oN) fun names13 =>
  bnd (disp (dA (ret hand7) (dA (op1 otup (froz (compW (itL (ret (.list names13))) fun name14 => disp (dA (ret name14) (dA (bnd (callN 2 m_l_random_sum (rdA (dA (op1 olen (ret entries1)) (ret [])))) asD) (ret []))) fun xs => ret (.tuple xs)))) (ret []))) fun xs => ret (.tuple xs)) fun y15 => need ((s5).length < 16777216) (
  ret (.nx (s5 ++ [y15])))) xs16 found2) fun s6 =>
  bnd (disp (dA (ret entries1) (dA (op1 otup (ret (.list some4))) (dA (op1 otup (ret (.list s6))) (ret [])))) fun xs => ret (.tuple xs)) fun x => ret (.rt (.d x))))
theorem ok_l_random_store {Wo : WO} {f : Addr} {fd : FuncData} (F : Fun K "_law_random_store" "_law_random_store" s__law_random_store f fd) (u : Bb mg) (D_l_random_items : Def P w K Wo mg base 2 "_law_random_items" 1 (Sm m_l_random_items)) (D_l_condition : Def P w K Wo mg base 12 "_law_condition" 3 (Sm (m_l_condition 4))) (D_l_draw : Def P w K Wo mg base 1 "_law_draw" 2 (Sm m_l_draw)) (D_l_slots : Def P w K Wo mg base 1 "_law_slots" 1 (Sm m_l_slots)) (D_l_random_sum : Def P w K Wo mg base 2 "_law_random_sum" 2 (Sm m_l_random_sum)) : FnOk P w K mg base CX0 13 f fd ["_law_reader_here"] (spD K Wo 1 (Sm m_l_random_store)) :=
  okD F sc__law_random_store rfl fun cdv A outer s H E M bs t Q hr hl h => by
    obtain ⟨rfl, h0⟩ := argR0_of h
    have nd := sc__law_random_store.nd
    have ev : Ev (Xo P w K mg base ["_law_reader_here", "_law_entries", "_law_found", "_law_some", "_law_hand", "_law_names", "_law_k", "_law_name"] "_law_random_store" s__law_random_store f cdv A outer s H E) (12) := ⟨rfl, hr, u⟩
    exact fn_run [.rd, .un, .un, .un, .un, .un, .un, .un] (rs_parLg 1 2 (pg_tup (by rfl) (pgs_cons (pg_name (i := 1) nd rfl (by first | exact Or.inl rfl | exact Or.inr rfl)) (pgs_cons (pg_name (i := 2) nd rfl (by first | exact Or.inl rfl | exact Or.inr rfl)) pgs_nil))) (rd_call ev D_l_random_items (ra_rd 0 ra_nil)) (rl_lst ra_nil) fun entries1 found2 =>
  rs_setC 3 (own := [("_law_k", 6)]) (gt := gName 6) ev nd (blkOk_by (N := ["_law_reader_here", "_law_entries", "_law_found", "_law_some", "_law_hand", "_law_names", "_law_k", "_law_name"]) (sc := defScope s__law_random_store) (by decide +kernel)) wipes1 (fun _ _ _ _ _ => pg_name (i := 6) nd rfl (by first | exact Or.inl rfl | exact Or.inr rfl)) (ri_r1 ev (rd_call ev D_l_draw (ra_rd 0 (ra_cons rd_int ra_nil)))) (fun k3 => rge_one 6 (fun _ _ _ _ _ => rd_call ev.blk D_l_condition (ra_rd 0 (ra_cons (rd_call ev.blk D_l_slots (ra_cons (rd_nm 1) ra_nil)) (ra_cons rd_int ra_nil))))) fun some4 =>
  rs_fz 3 (rs_for (eme := fun s5 : List PyData => [.rd, .d entries1, .own s5, .d (.list some4), .un, .un, .un, .un]) found2 ev PassesOwn.never (.same (.same (.same (.same (.same (.same (.same (.same .nil)))))))) (pg_name (i := 4) nd rfl (by first | exact Or.inl rfl | exact Or.inr rfl)) (ri_T (rd_ix (rd_l (rl_lst (ra_cons (rd_tup (ra_cons rd_str (ra_cons rd_str ra_nil))) (ra_cons (rd_tup (ra_cons rd_str ra_nil)) (ra_cons (rd_tup (ra_cons rd_str (ra_cons rd_str (ra_cons rd_str ra_nil)))) (ra_cons (rd_tup (ra_cons rd_str (ra_cons rd_str (ra_cons rd_str ra_nil)))) ra_nil)))))) (rd_call ev D_l_draw (ra_rd 0 (ra_cons rd_int ra_nil))))) (fun s5 hand7 => rg_one 4 (
  rs_setL 5 nd (rl_lst (ra_cons rd_str (ra_cons rd_str (ra_cons rd_str (ra_cons rd_str ra_nil))))) fun names8 =>
  rs_while (eme := fun s9 : List PyData => [.rd, .d entries1, .own s5, .d (.list some4), .d hand7, .own s9, .un, .un]) names8 PassesOwn.never (.same (.same (.same (.same (.same (.same (.same (.same .nil)))))))) (fun s9 => rt_gt (rd_lenO ev 5) rd_int) (fun s9 =>
  rs_popAt 5 (rd_call ev D_l_draw (ra_rd 0 (ra_cons rd_int ra_nil))) fun ys11 =>
  rs_nil (s := ys11) (.same (.same (.same (.same (.same (.same (.same (.same .nil))))))))) fun s10 =>
  rs_fz 5 (rs_setL 5 nd (rl_slL (rd_nm 5) (ro_some (rd_call ev D_l_draw (ra_rd 0 (ra_cons rd_int ra_nil)))) ro_none) fun names13 =>
  rs_fz 5 (rs_app 2 (rd_tup (ra_cons (rd_nm 4) (ra_cons (rd_tupc ev (rd_l (rl_comp (own := [("_law_name", 7)]) (gt := gName 7) ev nd (blkOk_by (N := ["_law_reader_here", "_law_entries", "_law_found", "_law_some", "_law_hand", "_law_names", "_law_k", "_law_name"]) (sc := defScope s__law_random_store) (by decide +kernel)) wipes1 (fun _ _ _ _ _ => pg_name (i := 7) nd rfl (by first | exact Or.inl rfl | exact Or.inr rfl)) (ri_L (rd_nm 5)) (fun name14 => rge_one 7 (fun _ _ _ _ _ => rd_tup (ra_cons (rd_nm 7) (ra_cons (rd_call ev.blk D_l_random_sum (ra_rd 0 (ra_cons (rd_len ev.blk (rd_nm 1)) ra_nil))) ra_nil))))))) ra_nil))) fun y15 =>
  rs_nil (s := (s5 ++ [y15])) (.same (.same (.same (.same (.un (.un (.same (.same .nil)))))))))))) fun s6 =>
  rs_fz 2 (rs_ret (rd_tup (ra_cons (rd_nm 1) (ra_cons (rd_tupc ev (rd_nm 3)) (ra_cons (rd_tupc ev (rd_nm 2)) ra_nil))))))) h0
/-- law: fixed_stores -/
def m_l_fixed_stores : List B → W B := arg0 (fnW (
  bnd (disp (dA (disp (dA (disp (dA (ret (.str "coins")) (dA (ret (.int 0)) (dA (ret (.int 4)) (ret [])))) fun xs => ret (.tuple xs)) (ret [])) fun xs => ret (.tuple xs)) (dA (disp (ret []) fun xs => ret (.tuple xs)) (dA (disp (dA (disp (dA (ret (.str "ann")) (dA (disp (dA (disp (dA (ret (.str "put")) (dA (disp (dA (ret (.int 1)) (ret [])) fun xs => ret (.tuple xs)) (ret []))) fun xs => ret (.tuple xs)) (dA (disp (dA (ret (.str "take")) (dA (disp (dA (op1 oneg (ret (.int 1))) (ret [])) fun xs => ret (.tuple xs)) (ret []))) fun xs => ret (.tuple xs)) (ret []))) fun xs => ret (.tuple xs)) (ret []))) fun xs => ret (.tuple xs)) (dA (disp (dA (ret (.str "bob")) (dA (disp (dA (disp (dA (ret (.str "take")) (dA (disp (dA (op1 oneg (ret (.int 1))) (ret [])) fun xs => ret (.tuple xs)) (ret []))) fun xs => ret (.tuple xs)) (ret [])) fun xs => ret (.tuple xs)) (ret []))) fun xs => ret (.tuple xs)) (ret []))) fun xs => ret (.tuple xs)) (ret [])))) fun xs => ret (.tuple xs)) fun till1 =>
  bnd (disp (dA (disp (dA (ret (.str "<")) (dA (disp (dA (ret (.str "item")) (dA (ret (.str "a")) (ret []))) fun xs => ret (.tuple xs)) (dA (disp (dA (ret (.str "item")) (dA (ret (.str "b")) (ret []))) fun xs => ret (.tuple xs)) (ret [])))) fun xs => ret (.tuple xs)) (dA (disp (dA (ret (.str "not")) (dA (disp (dA (ret (.str "=")) (dA (disp (dA (ret (.str "*")) (dA (disp (dA (ret (.str "item")) (dA (ret (.str "a")) (ret []))) fun xs => ret (.tuple xs)) (dA (ret (.int 2)) (ret [])))) fun xs => ret (.tuple xs)) (dA (ret (.int 3)) (ret [])))) fun xs => ret (.tuple xs)) (ret []))) fun xs => ret (.tuple xs)) (ret []))) fun xs => ret (.tuple xs)) fun rules2 =>
  bnd (disp (dA (disp (dA (ret (.str "x")) (dA (disp (dA (disp (dA (ret (.str "d")) (dA (disp (dA (ret (.int 1)) (dA (op1 oneg (ret (.int 1))) (ret []))) fun xs => ret (.tuple xs)) (ret []))) fun xs => ret (.tuple xs)) (dA (disp (dA (ret (.str "e")) (dA (disp (dA (ret (.int 0)) (dA (ret (.int 2)) (ret []))) fun xs => ret (.tuple xs)) (ret []))) fun xs => ret (.tuple xs)) (ret []))) fun xs => ret (.tuple xs)) (ret []))) fun xs => ret (.tuple xs)) (dA (disp (dA (ret (.str "y")) (dA (disp (ret []) fun xs => ret (.tuple xs)) (ret []))) fun xs => ret (.tuple xs)) (dA (disp (dA (ret (.str "z")) (dA (disp (dA (disp (dA (ret (.str "d")) (dA (disp (dA (ret (.int 0)) (dA (ret (.int 0)) (ret []))) fun xs => ret (.tuple xs)) (ret []))) fun xs => ret (.tuple xs)) (ret [])) fun xs => ret (.tuple xs)) (ret []))) fun xs => ret (.tuple xs)) (ret [])))) fun xs => ret (.tuple xs)) fun hands_now3 =>
  bnd (disp (dA (disp (dA (disp (dA (ret (.str "a")) (dA (op1 oneg (ret (.int 1))) (dA (ret (.int 2)) (ret [])))) fun xs => ret (.tuple xs)) (dA (disp (dA (ret (.str "b")) (dA (ret (.int 0)) (dA (ret (.int 3)) (ret [])))) fun xs => ret (.tuple xs)) (ret []))) fun xs => ret (.tuple xs)) (dA (ret rules2) (dA (ret hands_now3) (ret [])))) fun xs => ret (.tuple xs)) fun two4 =>
  bnd (disp (dA (disp (dA (disp (dA (ret (.str "hand")) (dA (op1 oneg (ret (.int 12))) (dA (op1 oneg (ret (.int 10))) (ret [])))) fun xs => ret (.tuple xs)) (dA (disp (dA (ret (.str "rule")) (dA (ret (.int 12)) (dA (ret (.int 12)) (ret [])))) fun xs => ret (.tuple xs)) (ret []))) fun xs => ret (.tuple xs)) (dA (disp (dA (disp (dA (ret (.str "=")) (dA (ret (.int 1)) (dA (ret (.int 1)) (ret [])))) fun xs => ret (.tuple xs)) (ret [])) fun xs => ret (.tuple xs)) (dA (disp (dA (disp (dA (ret (.str "deed")) (dA (disp (dA (disp (dA (ret (.str "item")) (dA (disp (dA (op1 oneg (ret (.int 12))) (dA (ret (.int 0)) (ret []))) fun xs => ret (.tuple xs)) (ret []))) fun xs => ret (.tuple xs)) (dA (disp (dA (ret (.str "rule")) (dA (disp (dA (ret (.int 12)) (dA (ret (.int 1)) (ret []))) fun xs => ret (.tuple xs)) (ret []))) fun xs => ret (.tuple xs)) (ret []))) fun xs => ret (.tuple xs)) (ret []))) fun xs => ret (.tuple xs)) (ret [])) fun xs => ret (.tuple xs)) (ret [])))) fun xs => ret (.tuple xs)) fun odd5 =>
  bnd (disp (dA (ret till1) (dA (disp (dA (op2 oix (ret till1) (ret (.int 0))) (dA (disp (dA (disp (dA (ret (.str "<")) (dA (disp (dA (ret (.str "item")) (dA (ret (.str "coins")) (ret []))) fun xs => ret (.tuple xs)) (dA (ret (.int 4)) (ret [])))) fun xs => ret (.tuple xs)) (ret [])) fun xs => ret (.tuple xs)) (dA (slT (op2 oix (ret till1) (ret (.int 2))) oN (oS (ret (.int 1)))) (ret [])))) fun xs => ret (.tuple xs)) (dA (ret two4) (dA (ret odd5) (dA (disp (dA (disp (dA (disp (dA (ret (.str "a")) (dA (ret (.int 0)) (dA (ret (.int 0)) (ret [])))) fun xs => ret (.tuple xs)) (ret [])) fun xs => ret (.tuple xs)) (dA (disp (ret []) fun xs => ret (.tuple xs)) (dA (disp (dA (disp (dA (ret (.str "a")) (dA (disp (ret []) fun xs => ret (.tuple xs)) (ret []))) fun xs => ret (.tuple xs)) (ret [])) fun xs => ret (.tuple xs)) (ret [])))) fun xs => ret (.tuple xs)) (ret [])))))) ret) fun x => ret (.rt (.own x))))
theorem ok_l_fixed_stores {Wo : WO} {f : Addr} {fd : FuncData} (F : Fun K "_law_fixed_stores" "_law_fixed_stores" s__law_fixed_stores f fd) (u : Bb mg) : FnOk P w K mg base CX0 1 f fd [] (spD K Wo 0 (Sm m_l_fixed_stores)) :=
  okD F sc__law_fixed_stores rfl fun cdv A outer s H E M bs t Q hr hl h => by
    obtain ⟨rfl, h0⟩ := arg0_of h
    have nd := sc__law_fixed_stores.nd
    have ev : Ev (Xo P w K mg base ["_law_till", "_law_rules", "_law_hands_now", "_law_two", "_law_odd"] "_law_fixed_stores" s__law_fixed_stores f cdv A outer s H E) (0) := ⟨rfl, hr, u⟩
    exact fn_run [.un, .un, .un, .un, .un] (rs_set 0 nd (rd_tup (ra_cons (rd_tup (ra_cons (rd_tup (ra_cons rd_str (ra_cons rd_int (ra_cons rd_int ra_nil)))) ra_nil)) (ra_cons (rd_tup ra_nil) (ra_cons (rd_tup (ra_cons (rd_tup (ra_cons rd_str (ra_cons (rd_tup (ra_cons (rd_tup (ra_cons rd_str (ra_cons (rd_tup (ra_cons rd_int ra_nil)) ra_nil))) (ra_cons (rd_tup (ra_cons rd_str (ra_cons (rd_tup (ra_cons (rd_neg rd_int) ra_nil)) ra_nil))) ra_nil))) ra_nil))) (ra_cons (rd_tup (ra_cons rd_str (ra_cons (rd_tup (ra_cons (rd_tup (ra_cons rd_str (ra_cons (rd_tup (ra_cons (rd_neg rd_int) ra_nil)) ra_nil))) ra_nil)) ra_nil))) ra_nil))) ra_nil)))) fun till1 =>
  rs_set 1 nd (rd_tup (ra_cons (rd_tup (ra_cons rd_str (ra_cons (rd_tup (ra_cons rd_str (ra_cons rd_str ra_nil))) (ra_cons (rd_tup (ra_cons rd_str (ra_cons rd_str ra_nil))) ra_nil)))) (ra_cons (rd_tup (ra_cons rd_str (ra_cons (rd_tup (ra_cons rd_str (ra_cons (rd_tup (ra_cons rd_str (ra_cons (rd_tup (ra_cons rd_str (ra_cons rd_str ra_nil))) (ra_cons rd_int ra_nil)))) (ra_cons rd_int ra_nil)))) ra_nil))) ra_nil))) fun rules2 =>
  rs_set 2 nd (rd_tup (ra_cons (rd_tup (ra_cons rd_str (ra_cons (rd_tup (ra_cons (rd_tup (ra_cons rd_str (ra_cons (rd_tup (ra_cons rd_int (ra_cons (rd_neg rd_int) ra_nil))) ra_nil))) (ra_cons (rd_tup (ra_cons rd_str (ra_cons (rd_tup (ra_cons rd_int (ra_cons rd_int ra_nil))) ra_nil))) ra_nil))) ra_nil))) (ra_cons (rd_tup (ra_cons rd_str (ra_cons (rd_tup ra_nil) ra_nil))) (ra_cons (rd_tup (ra_cons rd_str (ra_cons (rd_tup (ra_cons (rd_tup (ra_cons rd_str (ra_cons (rd_tup (ra_cons rd_int (ra_cons rd_int ra_nil))) ra_nil))) ra_nil)) ra_nil))) ra_nil)))) fun hands_now3 =>
  rs_set 3 nd (rd_tup (ra_cons (rd_tup (ra_cons (rd_tup (ra_cons rd_str (ra_cons (rd_neg rd_int) (ra_cons rd_int ra_nil)))) (ra_cons (rd_tup (ra_cons rd_str (ra_cons rd_int (ra_cons rd_int ra_nil)))) ra_nil))) (ra_cons (rd_nm 1) (ra_cons (rd_nm 2) ra_nil)))) fun two4 =>
  rs_set 4 nd (rd_tup (ra_cons (rd_tup (ra_cons (rd_tup (ra_cons rd_str (ra_cons (rd_neg rd_int) (ra_cons (rd_neg rd_int) ra_nil)))) (ra_cons (rd_tup (ra_cons rd_str (ra_cons rd_int (ra_cons rd_int ra_nil)))) ra_nil))) (ra_cons (rd_tup (ra_cons (rd_tup (ra_cons rd_str (ra_cons rd_int (ra_cons rd_int ra_nil)))) ra_nil)) (ra_cons (rd_tup (ra_cons (rd_tup (ra_cons rd_str (ra_cons (rd_tup (ra_cons (rd_tup (ra_cons rd_str (ra_cons (rd_tup (ra_cons (rd_neg rd_int) (ra_cons rd_int ra_nil))) ra_nil))) (ra_cons (rd_tup (ra_cons rd_str (ra_cons (rd_tup (ra_cons rd_int (ra_cons rd_int ra_nil))) ra_nil))) ra_nil))) ra_nil))) ra_nil)) ra_nil)))) fun odd5 =>
  rs_retL (rl_lst (ra_cons (rd_nm 0) (ra_cons (rd_tup (ra_cons (rd_ix (rd_nm 0) rd_int) (ra_cons (rd_tup (ra_cons (rd_tup (ra_cons rd_str (ra_cons (rd_tup (ra_cons rd_str (ra_cons rd_str ra_nil))) (ra_cons rd_int ra_nil)))) ra_nil)) (ra_cons (rd_slT (rd_ix (rd_nm 0) rd_int) ro_none (ro_some rd_int)) ra_nil)))) (ra_cons (rd_nm 3) (ra_cons (rd_nm 4) (ra_cons (rd_tup (ra_cons (rd_tup (ra_cons (rd_tup (ra_cons rd_str (ra_cons rd_int (ra_cons rd_int ra_nil)))) ra_nil)) (ra_cons (rd_tup ra_nil) (ra_cons (rd_tup (ra_cons (rd_tup (ra_cons rd_str (ra_cons (rd_tup ra_nil) ra_nil))) ra_nil)) ra_nil)))) ra_nil))))))) h0
/-- law: words -/
def m_l_words : Nat → List B → W B
  | 0, _ => bad
  | n + 1, bs => arg1 (fun item1 => fnW (
  ifW (notT (bnd (op1 (oisi "tuple") (ret item1)) asT)) (upO (bnd (disp (dA (op1 ostr (ret item1)) (ret [])) ret) fun x => ret (.rt (.own x)))) (
  ifW (bnd (op2 oeq (op2 oix (ret item1) (ret (.int 0))) (ret (.str "item"))) asB) (upO (bnd (bnd (ret item1) asL) fun x => ret (.rt (.own x)))) (
  bnd (disp (dA (op2 oix (ret item1) (ret (.int 0))) (ret [])) ret) fun found2 =>
  bnd (itT (slT (ret item1) (oS (ret (.int 1))) oN)) fun xs7 => thn (forW (σ := List PyData) (fun s3 part5 =>
  extV (bnd (callN 1 (m_l_words n) (dA (ret part5) (ret []))) asD) s3 fun ys6 =>
  ret (.nx (s3 ++ ys6))) xs7 found2) fun s4 =>
  ret (.rt (.own s4)))))) bs
theorem ok_l_words {Wo : WO} {f : Addr} {fd : FuncData} (F : Fun K "_law_words" "_law_words" s__law_words f fd) (u : Bb mg) (hm : mg "_law_words" = some (.ref f)) (hb : Binds K fd ["_law_item"] []) : ∀ n, FnOk P w K mg base CX0 (1 + n) f fd ["_law_item"] (spD K Wo 1 (Sm (m_l_words n)))
  | 0 => okD F sc__law_words rfl fun cdv A outer s H E M bs t Q hr hl h => h.elim
  | n + 1 => okD F sc__law_words rfl fun cdv A outer s H E M bs t Q hr hl h => by
    have D_l_words := Dl.Fun.def_ F (ok_l_words (Wo := Wo) F u hm hb n) hm hb
    obtain ⟨item1, rfl, h0⟩ := arg1_of h
    have nd := sc__law_words.nd
    have ev : Ev (Xo P w K mg base ["_law_item", "_law_found", "_law_part"] "_law_words" s__law_words f cdv A outer s H E) (1 + n) := ⟨rfl, hr, u⟩
    exact fn_run [.d item1, .un, .un] (rs_if0 (rt_not (rt_tru (rd_isTup ev (rd_nm 0)))) (rs_retL (rl_lst (ra_cons (rd_strc ev (rd_nm 0)) ra_nil))) (
  rs_if0 (rt_eq ev (rd_ix (rd_nm 0) rd_int) rd_str) (rs_retL (rl_listc ev (rd_nm 0))) (
  rs_setL 1 nd (rl_lst (ra_cons (rd_ix (rd_nm 0) rd_int) ra_nil)) fun found2 =>
  rs_for (eme := fun s3 : List PyData => [.d item1, .own s3, .un]) found2 ev PassesOwn.never (.same (.same (.same .nil))) (pg_name (i := 2) nd rfl (by first | exact Or.inl rfl | exact Or.inr rfl)) (ri_T (rd_slT (rd_nm 0) (ro_some rd_int) ro_none)) (fun s3 part5 => rg_one 2 (
  rs_ext 1 (rd_call ev D_l_words (ra_cons (rd_nm 2) ra_nil) (by omega)) fun ys6 =>
  rs_nil (s := (s3 ++ ys6)) (.same (.same (.un .nil))))) fun s4 =>
  rs_retO 1))) h0
/-- law: sum_text -/
def m_l_sum_text : List B → W B := arg1 fun one1 => fnW (
  bnd (joinW (ret (.str ",")) (froz (compW (itT (ret one1)) fun number_here2 => op1 ostr (ret number_here2)))) fun x => ret (.rt (.d x)))
theorem ok_l_sum_text {Wo : WO} {f : Addr} {fd : FuncData} (F : Fun K "_law_sum_text" "_law_sum_text" s__law_sum_text f fd) (u : Bb mg) : FnOk P w K mg base CX0 1 f fd ["_law_one"] (spD K Wo 1 (Sm m_l_sum_text)) :=
  okD F sc__law_sum_text rfl fun cdv A outer s H E M bs t Q hr hl h => by
    obtain ⟨one1, rfl, h0⟩ := arg1_of h
    have nd := sc__law_sum_text.nd
    have ev : Ev (Xo P w K mg base ["_law_one", "_law_number_here"] "_law_sum_text" s__law_sum_text f cdv A outer s H E) (0) := ⟨rfl, hr, u⟩
    exact fn_run [.d one1, .un] (rs_ret (rd_join ev rd_str (rd_l (rl_comp (own := [("_law_number_here", 1)]) (gt := gName 1) ev nd (blkOk_by (N := ["_law_one", "_law_number_here"]) (sc := defScope s__law_sum_text) (by decide +kernel)) wipes1 (fun _ _ _ _ _ => pg_name (i := 1) nd rfl (by first | exact Or.inl rfl | exact Or.inr rfl)) (ri_T (rd_nm 0)) (fun number_here2 => rge_one 1 (fun _ _ _ _ _ => rd_strc ev.blk (rd_nm 1))))))) h0
/-- law: store_text -/
def m_l_store_text : List B → W B := arg1 fun till1 => fnW (
  bnd (compW (itT (op2 oix (ret till1) (ret (.int 0)))) (three fun slot2 low3 high4 => op2 ocatS (op2 ocatS (op2 ocatS (op2 ocatS (op2 ocatS (ret (.str "item ")) (ret slot2)) (ret (.str " "))) (op1 ostr (ret low3))) (ret (.str " "))) (op1 ostr (ret high4)))) fun rows5 =>
  bnd (froz (catL (ret (.list rows5)) (froz (compW (itT (op2 oix (ret till1) (ret (.int 1)))) fun item7 => op2 ocatS (ret (.str "rule ")) (joinW (ret (.str " ")) (bnd (callN 1 (m_l_words 12) (dA (ret item7) (ret []))) asD)))))) fun rows6 =>
  bnd (itT (op2 oix (ret till1) (ret (.int 2)))) fun xs15 => thn (forW (σ := PyData) (fun s8 => two fun hand10 some11 =>
  bnd (froz (catL (froz (catL (ret s8) (froz (disp (dA (op2 ocatS (ret (.str "hand ")) (ret hand10)) (ret [])) ret)))) (froz (compW (itT (ret some11)) (two fun name13 one14 => op2 ocatS (op2 ocatS (op2 ocatS (ret (.str "deed ")) (ret name13)) (ret (.str " "))) (bnd (callN 1 m_l_sum_text (dA (ret one14) (ret []))) asD)))))) fun rows12 =>
  ret (.nx rows12)) xs15 rows6) fun s9 =>
  bnd (joinW (ret (.str "\n")) (ret s9)) fun x => ret (.rt (.d x)))
theorem ok_l_store_text {Wo : WO} {f : Addr} {fd : FuncData} (F : Fun K "_law_store_text" "_law_store_text" s__law_store_text f fd) (u : Bb mg) (D_l_words : Def P w K Wo mg base 13 "_law_words" 1 (Sm (m_l_words 12))) (D_l_sum_text : Def P w K Wo mg base 1 "_law_sum_text" 1 (Sm m_l_sum_text)) : FnOk P w K mg base CX0 14 f fd ["_law_till"] (spD K Wo 1 (Sm m_l_store_text)) :=
  okD F sc__law_store_text rfl fun cdv A outer s H E M bs t Q hr hl h => by
    obtain ⟨till1, rfl, h0⟩ := arg1_of h
    have nd := sc__law_store_text.nd
    have ev : Ev (Xo P w K mg base ["_law_till", "_law_rows", "_law_hand", "_law_some", "_law_slot", "_law_low", "_law_high", "_law_item", "_law_name", "_law_one"] "_law_store_text" s__law_store_text f cdv A outer s H E) (13) := ⟨rfl, hr, u⟩
    exact fn_run [.d till1, .un, .un, .un, .un, .un, .un, .un, .un, .un] (rs_setC 1 (own := [("_law_slot", 4), ("_law_low", 5), ("_law_high", 6)]) (gt := gTup _ 3 (gCons (gName 4) (gCons (gName 5) (gCons (gName 6) (gNil))))) ev nd (blkOk_by (N := ["_law_till", "_law_rows", "_law_hand", "_law_some", "_law_slot", "_law_low", "_law_high", "_law_item", "_law_name", "_law_one"]) (sc := defScope s__law_store_text) (by decide +kernel)) (wipes3 (by decide) (by decide) (by decide)) (fun _ _ _ _ _ => pg_tup (by rfl) (pgs_cons (pg_name (i := 4) nd rfl (by first | exact Or.inl rfl | exact Or.inr rfl)) (pgs_cons (pg_name (i := 5) nd rfl (by first | exact Or.inl rfl | exact Or.inr rfl)) (pgs_cons (pg_name (i := 6) nd rfl (by first | exact Or.inl rfl | exact Or.inr rfl)) pgs_nil)))) (ri_T (rd_ix (rd_nm 0) rd_int)) (fun _ => rge_three 4 5 6 (fun slot2 low3 high4 _ _ _ _ _ => rd_catS (rd_catS (rd_catS (rd_catS (rd_catS rd_str (rd_nm 4)) rd_str) (rd_strc ev.blk (rd_nm 5))) rd_str) (rd_strc ev.blk (rd_nm 6)))) fun rows5 =>
  rs_fz 1 (rs_set 1 nd (rd_l (rl_cat (rd_nm 1) (rd_l (rl_comp (own := [("_law_item", 7)]) (gt := gName 7) ev nd (blkOk_by (N := ["_law_till", "_law_rows", "_law_hand", "_law_some", "_law_slot", "_law_low", "_law_high", "_law_item", "_law_name", "_law_one"]) (sc := defScope s__law_store_text) (by decide +kernel)) wipes1 (fun _ _ _ _ _ => pg_name (i := 7) nd rfl (by first | exact Or.inl rfl | exact Or.inr rfl)) (ri_T (rd_ix (rd_nm 0) rd_int)) (fun item7 => rge_one 7 (fun _ _ _ _ _ => rd_catS rd_str (rd_join ev.blk rd_str (rd_call ev.blk D_l_words (ra_cons (rd_nm 7) ra_nil))))))))) fun rows6 =>
  rs_for (eme := fun s8 : PyData => [.d till1, .d s8, .un, .un, .un, .un, .un, .un, .un, .un]) rows6 ev PassesOwn.never (.same (.same (.same (.same (.same (.same (.same (.same (.same (.same .nil)))))))))) (pg_tup (by rfl) (pgs_cons (pg_name (i := 2) nd rfl (by first | exact Or.inl rfl | exact Or.inr rfl)) (pgs_cons (pg_name (i := 3) nd rfl (by first | exact Or.inl rfl | exact Or.inr rfl)) pgs_nil))) (ri_T (rd_ix (rd_nm 0) rd_int)) (fun s8 _ => rg_two 2 3 fun hand10 some11 =>
  rs_set 1 nd (rd_l (rl_cat (rd_l (rl_cat (rd_nm 1) (rd_l (rl_lst (ra_cons (rd_catS rd_str (rd_nm 2)) ra_nil))))) (rd_l (rl_comp (own := [("_law_name", 8), ("_law_one", 9)]) (gt := gTup _ 2 (gCons (gName 8) (gCons (gName 9) (gNil)))) ev nd (blkOk_by (N := ["_law_till", "_law_rows", "_law_hand", "_law_some", "_law_slot", "_law_low", "_law_high", "_law_item", "_law_name", "_law_one"]) (sc := defScope s__law_store_text) (by decide +kernel)) (wipes2 (by decide)) (fun _ _ _ _ _ => pg_tup (by rfl) (pgs_cons (pg_name (i := 8) nd rfl (by first | exact Or.inl rfl | exact Or.inr rfl)) (pgs_cons (pg_name (i := 9) nd rfl (by first | exact Or.inl rfl | exact Or.inr rfl)) pgs_nil))) (ri_T (rd_nm 3)) (fun _ => rge_two 8 9 (fun name13 one14 _ _ _ _ _ => rd_catS (rd_catS (rd_catS rd_str (rd_nm 8)) rd_str) (rd_call ev.blk D_l_sum_text (ra_cons (rd_nm 9) ra_nil)))))))) fun rows12 =>
  rs_nil (s := rows12) (.same (.same (.un (.un (.same (.same (.same (.same (.same (.same .nil))))))))))) fun s9 =>
  rs_ret (rd_join ev rd_str (rd_nm 1)))) h0
/-- law: loose -/
def m_l_loose : List B → W B := argR0 (fnW (
  bnd (op2 opow (ret (.int 10)) (ret (.int 59))) fun far1 =>
  bnd (froz (slL (froz (disp (dA (disp (dA (ret (.str "pay")) (dA (ret (.int 3)) (dA (ret (.int 1)) (ret [])))) fun xs => ret (.tuple xs)) (dA (disp (dA (ret (.str "field")) (dA (op1 oneg (ret far1)) (dA (ret far1) (ret [])))) fun xs => ret (.tuple xs)) (dA (disp (dA (ret (.str "age")) (dA (ret (.int 0)) (dA (op1 oneg (ret (.int 7))) (ret [])))) fun xs => ret (.tuple xs)) (dA (disp (dA (ret (.str "pay")) (dA (ret (.int 0)) (dA (ret (.int 0)) (ret [])))) fun xs => ret (.tuple xs)) (ret []))))) ret)) (oS (bnd (callN 2 m_l_draw (rdA (dA (ret (.int 3)) (ret [])))) asD)) oN)) fun entries2 =>
  bnd (froz (disp (dA (disp (dA (ret (.str "=")) (dA (disp (dA (ret (.str "item")) (dA (ret (.str "x")) (ret []))) fun xs => ret (.tuple xs)) (dA (op1 oneg (ret far1)) (ret [])))) fun xs => ret (.tuple xs)) (dA (disp (dA (ret (.str "not")) (dA (disp (dA (ret (.str "<")) (dA (disp (dA (ret (.str "item")) (dA (ret (.str "nobody")) (ret []))) fun xs => ret (.tuple xs)) (dA (ret (.int 1)) (ret [])))) fun xs => ret (.tuple xs)) (ret []))) fun xs => ret (.tuple xs)) (dA (disp (dA (ret (.str "or")) (dA (disp (dA (ret (.str "=")) (dA (ret (.int 1)) (dA (ret (.int 1)) (ret [])))) fun xs => ret (.tuple xs)) (dA (disp (dA (ret (.str "=")) (dA (ret (.int 0)) (dA (ret (.int 0)) (ret [])))) fun xs => ret (.tuple xs)) (ret [])))) fun xs => ret (.tuple xs)) (ret [])))) ret)) fun some3 =>
  bnd (froz (disp (dA (disp (dA (ret (.str "rule")) (dA (disp (dA (disp (dA (ret (.str "hand")) (dA (disp (dA (ret (.int 1)) (dA (ret (.int 2)) (ret []))) fun xs => ret (.tuple xs)) (ret []))) fun xs => ret (.tuple xs)) (dA (disp (dA (ret (.str "deed")) (dA (disp (dA (ret (.int 0)) (ret [])) fun xs => ret (.tuple xs)) (ret []))) fun xs => ret (.tuple xs)) (ret []))) fun xs => ret (.tuple xs)) (ret []))) fun xs => ret (.tuple xs)) (dA (disp (dA (ret (.str "a")) (dA (disp (ret []) fun xs => ret (.tuple xs)) (ret []))) fun xs => ret (.tuple xs)) (dA (disp (dA (ret (.str "rule")) (dA (disp (dA (disp (dA (ret (.str "z")) (dA (disp (dA (ret far1) (dA (op1 oneg (ret far1)) (dA (ret (.int 0)) (ret [])))) fun xs => ret (.tuple xs)) (ret []))) fun xs => ret (.tuple xs)) (dA (disp (dA (ret (.str "b")) (dA (disp (dA (op1 oneg (ret (.int 7))) (ret [])) fun xs => ret (.tuple xs)) (ret []))) fun xs => ret (.tuple xs)) (ret []))) fun xs => ret (.tuple xs)) (ret []))) fun xs => ret (.tuple xs)) (ret [])))) ret)) fun lot4 =>
  bnd (disp (dA (op1 otup (ret entries2)) (dA (op1 otup (froz (slL (ret some3) (oS (bnd (callN 2 m_l_draw (rdA (dA (ret (.int 4)) (ret [])))) asD)) oN))) (dA (op1 otup (froz (slL (ret lot4) (oS (bnd (callN 2 m_l_draw (rdA (dA (ret (.int 3)) (ret [])))) asD)) oN))) (ret [])))) fun xs => ret (.tuple xs)) fun x => ret (.rt (.d x))))
theorem ok_l_loose {Wo : WO} {f : Addr} {fd : FuncData} (F : Fun K "_law_loose" "_law_loose" s__law_loose f fd) (u : Bb mg) (D_l_draw : Def P w K Wo mg base 1 "_law_draw" 2 (Sm m_l_draw)) : FnOk P w K mg base CX0 2 f fd ["_law_reader_here"] (spD K Wo 1 (Sm m_l_loose)) :=
  okD F sc__law_loose rfl fun cdv A outer s H E M bs t Q hr hl h => by
    obtain ⟨rfl, h0⟩ := argR0_of h
    have nd := sc__law_loose.nd
    have ev : Ev (Xo P w K mg base ["_law_reader_here", "_law_far", "_law_entries", "_law_some", "_law_lot"] "_law_loose" s__law_loose f cdv A outer s H E) (1) := ⟨rfl, hr, u⟩
    exact fn_run [.rd, .un, .un, .un, .un] (rs_set 1 nd (rd_pow rd_int rd_int) fun far1 =>
  rs_set 2 nd (rd_l (rl_slL (rd_l (rl_lst (ra_cons (rd_tup (ra_cons rd_str (ra_cons rd_int (ra_cons rd_int ra_nil)))) (ra_cons (rd_tup (ra_cons rd_str (ra_cons (rd_neg (rd_nm 1)) (ra_cons (rd_nm 1) ra_nil)))) (ra_cons (rd_tup (ra_cons rd_str (ra_cons rd_int (ra_cons (rd_neg rd_int) ra_nil)))) (ra_cons (rd_tup (ra_cons rd_str (ra_cons rd_int (ra_cons rd_int ra_nil)))) ra_nil)))))) (ro_some (rd_call ev D_l_draw (ra_rd 0 (ra_cons rd_int ra_nil)))) ro_none)) fun entries2 =>
  rs_set 3 nd (rd_l (rl_lst (ra_cons (rd_tup (ra_cons rd_str (ra_cons (rd_tup (ra_cons rd_str (ra_cons rd_str ra_nil))) (ra_cons (rd_neg (rd_nm 1)) ra_nil)))) (ra_cons (rd_tup (ra_cons rd_str (ra_cons (rd_tup (ra_cons rd_str (ra_cons (rd_tup (ra_cons rd_str (ra_cons rd_str ra_nil))) (ra_cons rd_int ra_nil)))) ra_nil))) (ra_cons (rd_tup (ra_cons rd_str (ra_cons (rd_tup (ra_cons rd_str (ra_cons rd_int (ra_cons rd_int ra_nil)))) (ra_cons (rd_tup (ra_cons rd_str (ra_cons rd_int (ra_cons rd_int ra_nil)))) ra_nil)))) ra_nil))))) fun some3 =>
  rs_set 4 nd (rd_l (rl_lst (ra_cons (rd_tup (ra_cons rd_str (ra_cons (rd_tup (ra_cons (rd_tup (ra_cons rd_str (ra_cons (rd_tup (ra_cons rd_int (ra_cons rd_int ra_nil))) ra_nil))) (ra_cons (rd_tup (ra_cons rd_str (ra_cons (rd_tup (ra_cons rd_int ra_nil)) ra_nil))) ra_nil))) ra_nil))) (ra_cons (rd_tup (ra_cons rd_str (ra_cons (rd_tup ra_nil) ra_nil))) (ra_cons (rd_tup (ra_cons rd_str (ra_cons (rd_tup (ra_cons (rd_tup (ra_cons rd_str (ra_cons (rd_tup (ra_cons (rd_nm 1) (ra_cons (rd_neg (rd_nm 1)) (ra_cons rd_int ra_nil)))) ra_nil))) (ra_cons (rd_tup (ra_cons rd_str (ra_cons (rd_tup (ra_cons (rd_neg rd_int) ra_nil)) ra_nil))) ra_nil))) ra_nil))) ra_nil))))) fun lot4 =>
  rs_ret (rd_tup (ra_cons (rd_tupc ev (rd_nm 2)) (ra_cons (rd_tupc ev (rd_l (rl_slL (rd_nm 3) (ro_some (rd_call ev D_l_draw (ra_rd 0 (ra_cons rd_int ra_nil)))) ro_none))) (ra_cons (rd_tupc ev (rd_l (rl_slL (rd_nm 4) (ro_some (rd_call ev D_l_draw (ra_rd 0 (ra_cons rd_int ra_nil)))) ro_none))) ra_nil))))) h0
/-- law: sums_text -/
def m_l_sums_text : List B → W B := arg1 fun lot1 => fnW (
  bnd (ifW (bnd (op2 one_ (ret lot1) (disp (ret []) fun xs => ret (.tuple xs))) asB) (joinW (ret (.str ";")) (froz (compW (itT (ret lot1)) fun one2 => bnd (callN 1 m_l_sum_text (dA (ret one2) (ret []))) asD))) (ret (.str "-"))) fun x => ret (.rt (.d x)))
theorem ok_l_sums_text {Wo : WO} {f : Addr} {fd : FuncData} (F : Fun K "_law_sums_text" "_law_sums_text" s__law_sums_text f fd) (u : Bb mg) (D_l_sum_text : Def P w K Wo mg base 1 "_law_sum_text" 1 (Sm m_l_sum_text)) : FnOk P w K mg base CX0 2 f fd ["_law_lot"] (spD K Wo 1 (Sm m_l_sums_text)) :=
  okD F sc__law_sums_text rfl fun cdv A outer s H E M bs t Q hr hl h => by
    obtain ⟨lot1, rfl, h0⟩ := arg1_of h
    have nd := sc__law_sums_text.nd
    have ev : Ev (Xo P w K mg base ["_law_lot", "_law_one"] "_law_sums_text" s__law_sums_text f cdv A outer s H E) (1) := ⟨rfl, hr, u⟩
    exact fn_run [.d lot1, .un] (rs_ret (rd_if (rt_ne ev (rd_nm 0) (rd_tup ra_nil)) (rd_join ev rd_str (rd_l (rl_comp (own := [("_law_one", 1)]) (gt := gName 1) ev nd (blkOk_by (N := ["_law_lot", "_law_one"]) (sc := defScope s__law_sums_text) (by decide +kernel)) wipes1 (fun _ _ _ _ _ => pg_name (i := 1) nd rfl (by first | exact Or.inl rfl | exact Or.inr rfl)) (ri_T (rd_nm 0)) (fun one2 => rge_one 1 (fun _ _ _ _ _ => rd_call ev.blk D_l_sum_text (ra_cons (rd_nm 1) ra_nil)))))) rd_str)) h0
/-- law -/
def m_law : W (Out Empty Empty) :=
  bnd (bnd (callN 0 m_l_fixed_stores (ret [])) asO) fun lots1 => bnd (op1 otupS (ret (.str "abcdefghijkl"))) fun signs2 =>
  bnd (rng1 (ret (.int 6))) fun xs38 => thn (forW (σ := List PyData) (fun s3 turn5 =>
  bnd (ifW (bnd (op2 oeq (op2 omod (op1 oint (ret turn5)) (ret (.int 2))) (ret (.int 0))) asB) (bnd (callN 1 m_l_random_store (rdA (ret []))) asD) (bnd (callN 1 m_l_loose (rdA (ret []))) asD)) fun y6 => need ((s3).length < 16777216) (
  ret (.nx (s3 ++ [y6])))) xs38 lots1) fun s4 =>
  bnd (op1 otup (froz (compW (enumW (ret signs2)) (two fun k8 sign9 => disp (dA (ret sign9) (dA (op1 otup (froz (compW (itT (ret signs2)) fun other10 => disp (dA (ret other10) (dA (disp (dA (ret k8) (dA (ret (.int 0)) (ret []))) fun xs => ret (.tuple xs)) (ret []))) fun xs => ret (.tuple xs)))) (ret []))) fun xs => ret (.tuple xs))))) fun wide7 =>
  bnd (disp (dA (op1 otup (froz (compW (enumW (ret signs2)) (two fun k11 sign12 => disp (dA (ret sign12) (dA (ret (.int 0)) (dA (ret k11) (ret [])))) fun xs => ret (.tuple xs))))) (dA (op2 orepT (disp (dA (disp (dA (ret (.str "=")) (dA (ret (.int 1)) (dA (ret (.int 2)) (ret [])))) fun xs => ret (.tuple xs)) (ret [])) fun xs => ret (.tuple xs)) (ret (.int 12))) (dA (ret wide7) (ret [])))) fun xs => ret (.tuple xs)) fun y13 => need ((s4).length < 16777216) (
  bnd (itL (ret (.list (s4 ++ [y13])))) fun xs37 => thn (forW (σ := Unit) (fun s14 till16 =>
  bnd (op1 oreprL (ret till16)) fun saved17 =>
  ifW (orT (neS (op1 oreprL (bnd (callN 1 m_store_text (dA (ret till16) (ret []))) asD)) (op1 oreprL (bnd (callN 1 m_l_store_text (dA (ret till16) (ret []))) asD))) (neS (op1 oreprL (ret till16)) (ret saved17))) (upO (bnd (ret (.bool false)) fun x => ret (.rt (.d x)))) (
  ret (.nx ()))) xs37 ()) fun s15 =>
  bnd (rng1 (ret (.int 14))) fun xs36 => thn (forW (σ := Unit) (fun s18 turn20 =>
  bnd (bnd (callN 3 (m_l_number 4) (rdA (dA (disp (dA (ret (.str "item")) (dA (ret (.str "pay")) (dA (ret (.str "x")) (ret [])))) fun xs => ret (.tuple xs)) (dA (ret (.int 2)) (ret []))))) asD) fun item21 =>
  joi (α := PyData) (ifW (bnd (op2 oeq (op2 omod (op1 oint (ret turn20)) (ret (.int 2))) (ret (.int 1))) asB) (bnd (bnd (callN 3 (m_l_condition 4) (rdA (dA (disp (dA (ret (.str "item")) (dA (ret (.str "pay")) (dA (ret (.str "x")) (ret [])))) fun xs => ret (.tuple xs)) (dA (ret (.int 2)) (ret []))))) asD) fun item23 =>
  ret (.nx item23)) (ret (.nx item21))) fun s22 =>
  bnd (op1 oreprL (ret s22)) fun saved24 =>
  ifW (orT (neS (op1 oreprL (bnd (callN 1 m_expression_text (dA (ret s22) (ret []))) asD)) (op1 oreprL (joinW (ret (.str " ")) (bnd (callN 1 (m_l_words 12) (dA (ret s22) (ret []))) asD)))) (neS (op1 oreprL (ret s22)) (ret saved24))) (upO (bnd (ret (.bool false)) fun x => ret (.rt (.d x)))) (
  bnd (op2 oadd (ret (.int 1)) (bnd (callN 2 m_l_draw (rdA (dA (ret (.int 2)) (ret [])))) asD)) fun many25 =>
  bnd (op1 otup (froz (sdW (froz (compW (rng1 (bnd (callN 2 m_l_draw (rdA (dA (ret (.int 7)) (ret [])))) asD)) fun k27 => bnd (callN 2 m_l_random_sum (rdA (dA (ret many25) (ret [])))) asD))))) fun lot26 =>
  ifW (neS (op1 oreprL (bnd (callN 1 m_sums_text (dA (ret lot26) (ret []))) asD)) (op1 oreprL (bnd (callN 1 m_l_sums_text (dA (ret lot26) (ret []))) asD))) (upO (bnd (ret (.bool false)) fun x => ret (.rt (.d x)))) (
  ifW (bnd (op2 one_ (froz (compO (itT (ret lot26)) fun one28 => optW (neS (bnd (callN 1 m_sum_text (dA (ret one28) (ret []))) asD) (bnd (callN 1 m_l_sum_text (dA (ret one28) (ret []))) asD)) (ret one28))) (froz (disp (ret []) ret))) asB) (upO (bnd (ret (.bool false)) fun x => ret (.rt (.d x)))) (
  ret (.nx ()))))) xs36 ()) fun s19 =>
  bnd (op1 otup (froz (compW (rng1 (ret (.int 12))) fun k29 => disp (dA (ret k29) (dA (op1 oneg (ret k29)) (ret []))) fun xs => ret (.tuple xs)))) fun twelve30 => bnd (tupRngW (op1 oneg (ret (.int 6))) (ret (.int 6))) fun long_now31 => 
  ifW (bnd (op2 one_ (froz (disp (dA (bnd (callN 1 m_sums_text (dA (ret twelve30) (ret []))) asD) (dA (bnd (callN 1 m_sum_text (dA (ret long_now31) (ret []))) asD) (ret []))) ret)) (froz (disp (dA (bnd (callN 1 m_l_sums_text (dA (ret twelve30) (ret []))) asD) (dA (bnd (callN 1 m_l_sum_text (dA (ret long_now31) (ret []))) asD) (ret []))) ret))) asB) (upO (bnd (ret (.bool false)) fun x => ret (.rt (.d x)))) (
  bnd (disp (dA (disp (dA (ret (.str "item")) (dA (ret (.str "a")) (ret []))) fun xs => ret (.tuple xs)) (dA (disp (dA (ret (.str "item")) (dA (ret (.str "b")) (ret []))) fun xs => ret (.tuple xs)) (ret []))) fun xs => ret (.tuple xs)) (two fun a32 b33 =>
  bnd (disp (dA (ret (.str "and")) (dA (disp (dA (ret (.str "<")) (dA (disp (dA (ret (.str "+")) (dA (ret a32) (dA (ret b33) (ret [])))) fun xs => ret (.tuple xs)) (dA (disp (dA (ret (.str "*")) (dA (ret a32) (dA (ret b33) (ret [])))) fun xs => ret (.tuple xs)) (ret [])))) fun xs => ret (.tuple xs)) (dA (disp (dA (ret (.str "=")) (dA (disp (dA (ret (.str "-")) (dA (ret a32) (dA (ret b33) (ret [])))) fun xs => ret (.tuple xs)) (dA (disp (dA (ret (.str "+")) (dA (ret b33) (dA (ret a32) (ret [])))) fun xs => ret (.tuple xs)) (ret [])))) fun xs => ret (.tuple xs)) (ret [])))) fun xs => ret (.tuple xs)) fun great34 =>
  ifW (neS (bnd (callN 1 m_expression_text (dA (ret great34) (ret []))) asD) (joinW (ret (.str " ")) (bnd (callN 1 (m_l_words 12) (dA (ret great34) (ret []))) asD))) (upO (bnd (ret (.bool false)) fun x => ret (.rt (.d x)))) (
  bnd (disp (dA (op2 opow (ret (.int 10)) (ret (.int 59))) (dA (op1 oneg (op2 opow (ret (.int 10)) (ret (.int 59)))) (dA (ret (.int 0)) (ret [])))) fun xs => ret (.tuple xs)) fun far35 =>
  ifW (bnd (op2 one_ (froz (disp (dA (bnd (callN 1 m_sum_text (dA (ret far35) (ret []))) asD) (dA (bnd (callN 1 m_sums_text (dA (disp (dA (ret far35) (ret [])) fun xs => ret (.tuple xs)) (ret []))) asD) (ret []))) ret)) (froz (disp (dA (bnd (callN 1 m_l_sum_text (dA (ret far35) (ret []))) asD) (dA (bnd (callN 1 m_l_sum_text (dA (ret far35) (ret []))) asD) (ret []))) ret))) asB) (upO (bnd (ret (.bool false)) fun x => ret (.rt (.d x)))) (
  bnd (andW (eqSW (bnd (callN 1 m_expression_text (dA (op1 oneg (ret (.int 7))) (ret []))) asD) (ret (.str "-7"))) (andW (eqSW (bnd (callN 1 m_expression_text (dA (disp (dA (ret (.str "item")) (dA (ret (.str "item")) (ret []))) fun xs => ret (.tuple xs)) (ret []))) asD) (ret (.str "item item"))) (eqSW (bnd (callN 1 m_sums_text (dA (disp (ret []) fun xs => ret (.tuple xs)) (ret []))) asD) (ret (.str "-"))))) fun x => ret (.rt (.d x)))))))
theorem ok_law {Wo : WO} (u : Bb mg) (D_l_fixed_stores : Def P w K Wo mg base 1 "_law_fixed_stores" 0 (Sm m_l_fixed_stores)) (D_l_number : Def P w K Wo mg base 7 "_law_number" 3 (Sm (m_l_number 4))) (D_expression_text : Def P w K Wo mg base 4 "expression_text" 1 (Sm m_expression_text)) (D_l_condition : Def P w K Wo mg base 12 "_law_condition" 3 (Sm (m_l_condition 4))) (D_l_draw : Def P w K Wo mg base 1 "_law_draw" 2 (Sm m_l_draw)) (D_sums_text : Def P w K Wo mg base 2 "sums_text" 1 (Sm m_sums_text)) (D_sum_text : Def P w K Wo mg base 1 "sum_text" 1 (Sm m_sum_text)) (D_l_sums_text : Def P w K Wo mg base 2 "_law_sums_text" 1 (Sm m_l_sums_text)) (D_l_sum_text : Def P w K Wo mg base 1 "_law_sum_text" 1 (Sm m_l_sum_text)) (D_l_words : Def P w K Wo mg base 13 "_law_words" 1 (Sm (m_l_words 12))) (D_l_random_store : Def P w K Wo mg base 13 "_law_random_store" 1 (Sm m_l_random_store)) (D_l_loose : Def P w K Wo mg base 2 "_law_loose" 1 (Sm m_l_loose)) (D_store_text : Def P w K Wo mg base 5 "store_text" 1 (Sm m_store_text)) (D_l_store_text : Def P w K Wo mg base 14 "_law_store_text" 1 (Sm m_l_store_text)) (D_l_random_sum : Def P w K Wo mg base 2 "_law_random_sum" 2 (Sm m_l_random_sum)) {f : Addr} {cdv : Value} {A : Around} {outer : List Env} {s : Shared} {H : Hp} {E : XK} {M : Md K Wo} (hr : Room 14 (Xo P w K mg base ["_law_script", "_law_reader_here", "_law_lots", "_law_signs", "_law_turn", "_law_wide", "_law_till", "_law_saved", "_law_item", "_law_many", "_law_lot", "_law_twelve", "_law_long_now", "_law_a", "_law_b", "_law_great", "_law_far", "_law_other", "_law_k", "_law_sign", "_law_one"] "law" s_law f cdv A outer s H E).A) (hg : (Xo P w K mg base ["_law_script", "_law_reader_here", "_law_lots", "_law_signs", "_law_turn", "_law_wide", "_law_till", "_law_saved", "_law_item", "_law_many", "_law_lot", "_law_twelve", "_law_long_now", "_law_a", "_law_b", "_law_great", "_law_far", "_law_other", "_law_k", "_law_sign", "_law_one"] "law" s_law f cdv A outer s H E).A.guards = some []) : RS (X := Xo P w K mg base ["_law_script", "_law_reader_here", "_law_lots", "_law_signs", "_law_turn", "_law_wide", "_law_till", "_law_saved", "_law_item", "_law_many", "_law_lot", "_law_twelve", "_law_long_now", "_law_a", "_law_b", "_law_great", "_law_far", "_law_other", "_law_k", "_law_sign", "_law_one"] "law" s_law f cdv A outer s H E) M ((defBody s_law).drop 1) [.un, .rd, .un, .un, .un, .un, .un, .un, .un, .un, .un, .un, .un, .un, .un, .un, .un, .un, .un, .un, .un] nul nul m_law := by
  have nd := sc_law.nd
  have ev : Ev (Xo P w K mg base ["_law_script", "_law_reader_here", "_law_lots", "_law_signs", "_law_turn", "_law_wide", "_law_till", "_law_saved", "_law_item", "_law_many", "_law_lot", "_law_twelve", "_law_long_now", "_law_a", "_law_b", "_law_great", "_law_far", "_law_other", "_law_k", "_law_sign", "_law_one"] "law" s_law f cdv A outer s H E) 14 := ⟨rfl, hr, u⟩
  exact rs_parLDg 2 3 (pg_tup (by rfl) (pgs_cons (pg_name (i := 2) nd rfl (by first | exact Or.inl rfl | exact Or.inr rfl)) (pgs_cons (pg_name (i := 3) nd rfl (by first | exact Or.inl rfl | exact Or.inr rfl)) pgs_nil))) (rl_call0 ev D_l_fixed_stores) (rd_tupS ev rd_str) fun lots1 signs2 =>
  rs_for (eme := fun s3 : List PyData => [.un, .rd, .own s3, .d signs2, .un, .un, .un, .un, .un, .un, .un, .un, .un, .un, .un, .un, .un, .un, .un, .un, .un]) lots1 ev PassesOwn.never (.same (.same (.same (.same (.same (.same (.same (.same (.same (.same (.same (.same (.same (.same (.same (.same (.same (.same (.same (.same (.same .nil))))))))))))))))))))) (pg_name (i := 4) nd rfl (by first | exact Or.inl rfl | exact Or.inr rfl)) (ri_r1 ev rd_int) (fun s3 turn5 => rg_one 4 (
  rs_app 2 (rd_if (rt_eq ev (rd_mod (rd_intc ev (rd_nm 4)) rd_int) rd_int) (rd_call ev D_l_random_store (ra_rd 1 ra_nil)) (rd_call ev D_l_loose (ra_rd 1 ra_nil))) fun y6 =>
  rs_nil (s := (s3 ++ [y6])) (.same (.same (.same (.same (.un (.same (.same (.same (.same (.same (.same (.same (.same (.same (.same (.same (.same (.same (.same (.same (.same .nil))))))))))))))))))))))) fun s4 =>
  rs_set 5 nd (rd_tupc ev (rd_l (rl_comp (own := [("_law_k", 18), ("_law_sign", 19)]) (gt := gTup _ 2 (gCons (gName 18) (gCons (gName 19) (gNil)))) ev nd (blkOk_by (N := ["_law_script", "_law_reader_here", "_law_lots", "_law_signs", "_law_turn", "_law_wide", "_law_till", "_law_saved", "_law_item", "_law_many", "_law_lot", "_law_twelve", "_law_long_now", "_law_a", "_law_b", "_law_great", "_law_far", "_law_other", "_law_k", "_law_sign", "_law_one"]) (sc := defScope s_law) (by decide +kernel)) (wipes2 (by decide)) (fun _ _ _ _ _ => pg_tup (by rfl) (pgs_cons (pg_name (i := 18) nd rfl (by first | exact Or.inl rfl | exact Or.inr rfl)) (pgs_cons (pg_name (i := 19) nd rfl (by first | exact Or.inl rfl | exact Or.inr rfl)) pgs_nil))) (ri_enumT ev (rd_nm 3)) (fun _ => rge_two 18 19 (fun k8 sign9 _ _ _ _ _ => rd_tup (ra_cons (rd_nm 19) (ra_cons (rd_tupc ev.blk (rd_l (rl_comp (own := [("_law_other", 17)]) (gt := gName 17) ev.blk nd (blkOk_by (N := ["_law_script", "_law_reader_here", "_law_lots", "_law_signs", "_law_turn", "_law_wide", "_law_till", "_law_saved", "_law_item", "_law_many", "_law_lot", "_law_twelve", "_law_long_now", "_law_a", "_law_b", "_law_great", "_law_far", "_law_other", "_law_k", "_law_sign", "_law_one"]) (sc := ({ kind := ScopeKind.function, names := [(Str.ofString ".0", NameKind.«local»), (Str.ofString "_law_k", NameKind.cell), (Str.ofString "_law_sign", NameKind.«local»), (Str.ofString "tuple", NameKind.globalImplicit), (Str.ofString "_law_signs", NameKind.cell)], isGenerator := false, isCoroutine := false } : Scope)) (by decide +kernel)) wipes1 (fun _ _ _ _ _ => pg_name (i := 17) nd rfl (by first | exact Or.inl rfl | exact Or.inr rfl)) (ri_T (rd_nm 3)) (fun other10 => rge_one 17 (fun _ _ _ _ _ => rd_tup (ra_cons (rd_nm 17) (ra_cons (rd_tup (ra_cons (rd_nm 18) (ra_cons rd_int ra_nil))) ra_nil))))))) ra_nil))))))) fun wide7 =>
  rs_app 2 (rd_tup (ra_cons (rd_tupc ev (rd_l (rl_comp (own := [("_law_k", 18), ("_law_sign", 19)]) (gt := gTup _ 2 (gCons (gName 18) (gCons (gName 19) (gNil)))) ev nd (blkOk_by (N := ["_law_script", "_law_reader_here", "_law_lots", "_law_signs", "_law_turn", "_law_wide", "_law_till", "_law_saved", "_law_item", "_law_many", "_law_lot", "_law_twelve", "_law_long_now", "_law_a", "_law_b", "_law_great", "_law_far", "_law_other", "_law_k", "_law_sign", "_law_one"]) (sc := defScope s_law) (by decide +kernel)) (wipes2 (by decide)) (fun _ _ _ _ _ => pg_tup (by rfl) (pgs_cons (pg_name (i := 18) nd rfl (by first | exact Or.inl rfl | exact Or.inr rfl)) (pgs_cons (pg_name (i := 19) nd rfl (by first | exact Or.inl rfl | exact Or.inr rfl)) pgs_nil))) (ri_enumT ev (rd_nm 3)) (fun _ => rge_two 18 19 (fun k11 sign12 _ _ _ _ _ => rd_tup (ra_cons (rd_nm 19) (ra_cons rd_int (ra_cons (rd_nm 18) ra_nil)))))))) (ra_cons (rd_repT (rd_tup (ra_cons (rd_tup (ra_cons rd_str (ra_cons rd_int (ra_cons rd_int ra_nil)))) ra_nil)) rd_int) (ra_cons (rd_nm 5) ra_nil)))) fun y13 =>
  rs_fz 2 (rs_for (eme := fun s14 : Unit => [.un, .rd, .d (.list (s4 ++ [y13])), .d signs2, .un, .d wide7, .un, .un, .un, .un, .un, .un, .un, .un, .un, .un, .un, .un, .un, .un, .un]) () ev PassesOwn.never (.same (.same (.same (.same (.same (.same (.same (.same (.same (.same (.same (.same (.same (.same (.same (.same (.same (.same (.same (.same (.same .nil))))))))))))))))))))) (pg_name (i := 6) nd rfl (by first | exact Or.inl rfl | exact Or.inr rfl)) (ri_L (rd_nm 2)) (fun s14 till16 => rg_one 6 (
  rs_set 7 nd (rd_reprL ev hg (rd_nm 6)) fun saved17 =>
  rs_if0 (rt_v (rv_or (rt_neS' (rd_reprL ev hg (rd_call ev D_store_text (ra_cons (rd_nm 6) ra_nil))) (rd_reprL ev hg (rd_call ev D_l_store_text (ra_cons (rd_nm 6) ra_nil)))) (rv_one (rt_neS' (rd_reprL ev hg (rd_nm 6)) (rd_nm 7))))) (rs_ret rd_bl) (
  rs_nil (s := ()) (.same (.same (.same (.same (.same (.same (.un (.un (.same (.same (.same (.same (.same (.same (.same (.same (.same (.same (.same (.same (.same .nil)))))))))))))))))))))))) fun s15 =>
  rs_for (eme := fun s18 : Unit => [.un, .rd, .d (.list (s4 ++ [y13])), .d signs2, .un, .d wide7, .un, .un, .un, .un, .un, .un, .un, .un, .un, .un, .un, .un, .un, .un, .un]) () ev PassesOwn.never (.same (.same (.same (.same (.same (.same (.same (.same (.same (.same (.same (.same (.same (.same (.same (.same (.same (.same (.same (.same (.same .nil))))))))))))))))))))) (pg_name (i := 4) nd rfl (by first | exact Or.inl rfl | exact Or.inr rfl)) (ri_r1 ev rd_int) (fun s18 turn20 => rg_one 4 (
  rs_set 8 nd (rd_call ev D_l_number (ra_rd 1 (ra_cons (rd_tup (ra_cons rd_str (ra_cons rd_str (ra_cons rd_str ra_nil)))) (ra_cons rd_int ra_nil)))) fun item21 =>
  rs_ifJ (eme := fun s22 : PyData => [.un, .rd, .d (.list (s4 ++ [y13])), .d signs2, .d turn20, .d wide7, .un, .un, .d s22, .un, .un, .un, .un, .un, .un, .un, .un, .un, .un, .un, .un]) (rt_eq ev (rd_mod (rd_intc ev (rd_nm 4)) rd_int) rd_int) (rs_set 8 nd (rd_call ev D_l_condition (ra_rd 1 (ra_cons (rd_tup (ra_cons rd_str (ra_cons rd_str (ra_cons rd_str ra_nil)))) (ra_cons rd_int ra_nil)))) fun item23 =>
  rs_nil (s := item23) (.same (.same (.same (.same (.same (.same (.same (.same (.same (.same (.same (.same (.same (.same (.same (.same (.same (.same (.same (.same (.same .nil)))))))))))))))))))))) (rs_nil (s := item21) (.same (.same (.same (.same (.same (.same (.same (.same (.same (.same (.same (.same (.same (.same (.same (.same (.same (.same (.same (.same (.same .nil)))))))))))))))))))))) fun s22 =>
  rs_set 7 nd (rd_reprL ev hg (rd_nm 8)) fun saved24 =>
  rs_if0 (rt_v (rv_or (rt_neS' (rd_reprL ev hg (rd_call ev D_expression_text (ra_cons (rd_nm 8) ra_nil))) (rd_reprL ev hg (rd_join ev rd_str (rd_call ev D_l_words (ra_cons (rd_nm 8) ra_nil))))) (rv_one (rt_neS' (rd_reprL ev hg (rd_nm 8)) (rd_nm 7))))) (rs_ret rd_bl) (
  rs_set 9 nd (rd_add rd_int (rd_call ev D_l_draw (ra_rd 1 (ra_cons rd_int ra_nil)))) fun many25 =>
  rs_set 10 nd (rd_tupc ev (rd_l (rl_sortedSet ev (rd_l (rl_comp (own := [("_law_k", 18)]) (gt := gName 18) ev nd (blkOk_by (N := ["_law_script", "_law_reader_here", "_law_lots", "_law_signs", "_law_turn", "_law_wide", "_law_till", "_law_saved", "_law_item", "_law_many", "_law_lot", "_law_twelve", "_law_long_now", "_law_a", "_law_b", "_law_great", "_law_far", "_law_other", "_law_k", "_law_sign", "_law_one"]) (sc := defScope s_law) (by decide +kernel)) wipes1 (fun _ _ _ _ _ => pg_name (i := 18) nd rfl (by first | exact Or.inl rfl | exact Or.inr rfl)) (ri_r1 ev (rd_call ev D_l_draw (ra_rd 1 (ra_cons rd_int ra_nil)))) (fun k27 => rge_one 18 (fun _ _ _ _ _ => rd_call ev.blk D_l_random_sum (ra_rd 1 (ra_cons (rd_nm 9) ra_nil))))))))) fun lot26 =>
  rs_if0 (rt_neS' (rd_reprL ev hg (rd_call ev D_sums_text (ra_cons (rd_nm 10) ra_nil))) (rd_reprL ev hg (rd_call ev D_l_sums_text (ra_cons (rd_nm 10) ra_nil)))) (rs_ret rd_bl) (
  rs_if0 (rt_ne ev (rd_l (rl_compO (own := [("_law_one", 20)]) (gt := gName 20) ev nd (blkOk_by (N := ["_law_script", "_law_reader_here", "_law_lots", "_law_signs", "_law_turn", "_law_wide", "_law_till", "_law_saved", "_law_item", "_law_many", "_law_lot", "_law_twelve", "_law_long_now", "_law_a", "_law_b", "_law_great", "_law_far", "_law_other", "_law_k", "_law_sign", "_law_one"]) (sc := defScope s_law) (by decide +kernel)) wipes1 (fun _ _ _ _ _ => pg_name (i := 20) nd rfl (by first | exact Or.inl rfl | exact Or.inr rfl)) (ri_T (rd_nm 10)) (fun one28 => rgi_one 20 (fun _ _ _ _ _ => rt_neS' (rd_call ev.blk D_sum_text (ra_cons (rd_nm 20) ra_nil)) (rd_call ev.blk D_l_sum_text (ra_cons (rd_nm 20) ra_nil))) (fun _ _ _ _ _ => rd_nm 20)))) (rd_l (rl_lst ra_nil))) (rs_ret rd_bl) (
  rs_nil (s := ()) (.same (.same (.same (.same (.un (.same (.same (.un (.un (.un (.un (.same (.same (.same (.same (.same (.same (.same (.same (.same (.same .nil)))))))))))))))))))))))))) fun s19 =>
  rs_par 11 12 ev nd (rd_tupc ev (rd_l (rl_comp (own := [("_law_k", 18)]) (gt := gName 18) ev nd (blkOk_by (N := ["_law_script", "_law_reader_here", "_law_lots", "_law_signs", "_law_turn", "_law_wide", "_law_till", "_law_saved", "_law_item", "_law_many", "_law_lot", "_law_twelve", "_law_long_now", "_law_a", "_law_b", "_law_great", "_law_far", "_law_other", "_law_k", "_law_sign", "_law_one"]) (sc := defScope s_law) (by decide +kernel)) wipes1 (fun _ _ _ _ _ => pg_name (i := 18) nd rfl (by first | exact Or.inl rfl | exact Or.inr rfl)) (ri_r1 ev rd_int) (fun k29 => rge_one 18 (fun _ _ _ _ _ => rd_tup (ra_cons (rd_nm 18) (ra_cons (rd_neg (rd_nm 18)) ra_nil))))))) (rd_tupRng2 ev (rd_neg rd_int) rd_int) fun twelve30 long_now31 =>
  rs_if0 (rt_ne ev (rd_l (rl_lst (ra_cons (rd_call ev D_sums_text (ra_cons (rd_nm 11) ra_nil)) (ra_cons (rd_call ev D_sum_text (ra_cons (rd_nm 12) ra_nil)) ra_nil)))) (rd_l (rl_lst (ra_cons (rd_call ev D_l_sums_text (ra_cons (rd_nm 11) ra_nil)) (ra_cons (rd_call ev D_l_sum_text (ra_cons (rd_nm 12) ra_nil)) ra_nil))))) (rs_ret rd_bl) (
  rs_asg (pg_tup (by rfl) (pgs_cons (pg_name (i := 13) nd rfl (by first | exact Or.inl rfl | exact Or.inr rfl)) (pgs_cons (pg_name (i := 14) nd rfl (by first | exact Or.inl rfl | exact Or.inr rfl)) pgs_nil))) (rd_tup (ra_cons (rd_tup (ra_cons rd_str (ra_cons rd_str ra_nil))) (ra_cons (rd_tup (ra_cons rd_str (ra_cons rd_str ra_nil))) ra_nil))) fun _ => rg_two 13 14 fun a32 b33 =>
  rs_set 15 nd (rd_tup (ra_cons rd_str (ra_cons (rd_tup (ra_cons rd_str (ra_cons (rd_tup (ra_cons rd_str (ra_cons (rd_nm 13) (ra_cons (rd_nm 14) ra_nil)))) (ra_cons (rd_tup (ra_cons rd_str (ra_cons (rd_nm 13) (ra_cons (rd_nm 14) ra_nil)))) ra_nil)))) (ra_cons (rd_tup (ra_cons rd_str (ra_cons (rd_tup (ra_cons rd_str (ra_cons (rd_nm 13) (ra_cons (rd_nm 14) ra_nil)))) (ra_cons (rd_tup (ra_cons rd_str (ra_cons (rd_nm 14) (ra_cons (rd_nm 13) ra_nil)))) ra_nil)))) ra_nil)))) fun great34 =>
  rs_if0 (rt_neS' (rd_call ev D_expression_text (ra_cons (rd_nm 15) ra_nil)) (rd_join ev rd_str (rd_call ev D_l_words (ra_cons (rd_nm 15) ra_nil)))) (rs_ret rd_bl) (
  rs_set 16 nd (rd_tup (ra_cons (rd_pow rd_int rd_int) (ra_cons (rd_neg (rd_pow rd_int rd_int)) (ra_cons rd_int ra_nil)))) fun far35 =>
  rs_if0 (rt_ne ev (rd_l (rl_lst (ra_cons (rd_call ev D_sum_text (ra_cons (rd_nm 16) ra_nil)) (ra_cons (rd_call ev D_sums_text (ra_cons (rd_tup (ra_cons (rd_nm 16) ra_nil)) ra_nil)) ra_nil)))) (rd_l (rl_lst (ra_cons (rd_call ev D_l_sum_text (ra_cons (rd_nm 16) ra_nil)) (ra_cons (rd_call ev D_l_sum_text (ra_cons (rd_nm 16) ra_nil)) ra_nil))))) (rs_ret rd_bl) (
  rs_ret (rd_and (rd_eqS (rd_call ev D_expression_text (ra_cons (rd_neg rd_int) ra_nil)) rd_str) (rd_and (rd_eqS (rd_call ev D_expression_text (ra_cons (rd_tup (ra_cons rd_str (ra_cons rd_str ra_nil))) ra_nil)) rd_str) (rd_one (rd_eqS (rd_call ev D_sums_text (ra_cons (rd_tup ra_nil) ra_nil)) rd_str))))))))
end
end K09
end
section
set_option maxRecDepth 100000
set_option maxHeartbeats 4000000
namespace K09
open PySem PySem.Spec PyProof.Rows L2 Dl Dw Dz
open Dw (ret)
theorem wsh_0 : SeqAt.shaped (.str ("item" : Str)) = true := by decide +kernel
theorem wst_0 : strOk (.str ("item" : Str)) = True := eq_true (by show ("item" : Str).length ≤ 16777216; decide +kernel)
theorem weq_0_0 : (("item" : Str) == ("item" : Str)) = true := by decide +kernel
theorem weq_0_1 : (("item" : Str) == ("+" : Str)) = false := by decide +kernel
theorem wne_0_1 : (("item" : Str) = ("+" : Str)) = False := eq_false (by decide +kernel)
theorem weq_0_2 : (("item" : Str) == ("-" : Str)) = false := by decide +kernel
theorem wne_0_2 : (("item" : Str) = ("-" : Str)) = False := eq_false (by decide +kernel)
theorem weq_0_3 : (("item" : Str) == ("*" : Str)) = false := by decide +kernel
theorem wne_0_3 : (("item" : Str) = ("*" : Str)) = False := eq_false (by decide +kernel)
theorem weq_0_4 : (("item" : Str) == ("not" : Str)) = false := by decide +kernel
theorem wne_0_4 : (("item" : Str) = ("not" : Str)) = False := eq_false (by decide +kernel)
theorem weq_0_5 : (("item" : Str) == ("and" : Str)) = false := by decide +kernel
theorem wne_0_5 : (("item" : Str) = ("and" : Str)) = False := eq_false (by decide +kernel)
theorem weq_0_6 : (("item" : Str) == ("or" : Str)) = false := by decide +kernel
theorem wne_0_6 : (("item" : Str) = ("or" : Str)) = False := eq_false (by decide +kernel)
theorem weq_0_7 : (("item" : Str) == ("=" : Str)) = false := by decide +kernel
theorem wne_0_7 : (("item" : Str) = ("=" : Str)) = False := eq_false (by decide +kernel)
theorem weq_0_8 : (("item" : Str) == ("<" : Str)) = false := by decide +kernel
theorem wne_0_8 : (("item" : Str) = ("<" : Str)) = False := eq_false (by decide +kernel)
theorem wsh_1 : SeqAt.shaped (.str ("+" : Str)) = true := by decide +kernel
theorem wst_1 : strOk (.str ("+" : Str)) = True := eq_true (by show ("+" : Str).length ≤ 16777216; decide +kernel)
theorem weq_1_0 : (("+" : Str) == ("item" : Str)) = false := by decide +kernel
theorem wne_1_0 : (("+" : Str) = ("item" : Str)) = False := eq_false (by decide +kernel)
theorem weq_1_1 : (("+" : Str) == ("+" : Str)) = true := by decide +kernel
theorem weq_1_2 : (("+" : Str) == ("-" : Str)) = false := by decide +kernel
theorem wne_1_2 : (("+" : Str) = ("-" : Str)) = False := eq_false (by decide +kernel)
theorem weq_1_3 : (("+" : Str) == ("*" : Str)) = false := by decide +kernel
theorem wne_1_3 : (("+" : Str) = ("*" : Str)) = False := eq_false (by decide +kernel)
theorem weq_1_4 : (("+" : Str) == ("not" : Str)) = false := by decide +kernel
theorem wne_1_4 : (("+" : Str) = ("not" : Str)) = False := eq_false (by decide +kernel)
theorem weq_1_5 : (("+" : Str) == ("and" : Str)) = false := by decide +kernel
theorem wne_1_5 : (("+" : Str) = ("and" : Str)) = False := eq_false (by decide +kernel)
theorem weq_1_6 : (("+" : Str) == ("or" : Str)) = false := by decide +kernel
theorem wne_1_6 : (("+" : Str) = ("or" : Str)) = False := eq_false (by decide +kernel)
theorem weq_1_7 : (("+" : Str) == ("=" : Str)) = false := by decide +kernel
theorem wne_1_7 : (("+" : Str) = ("=" : Str)) = False := eq_false (by decide +kernel)
theorem weq_1_8 : (("+" : Str) == ("<" : Str)) = false := by decide +kernel
theorem wne_1_8 : (("+" : Str) = ("<" : Str)) = False := eq_false (by decide +kernel)
theorem wsh_2 : SeqAt.shaped (.str ("-" : Str)) = true := by decide +kernel
theorem wst_2 : strOk (.str ("-" : Str)) = True := eq_true (by show ("-" : Str).length ≤ 16777216; decide +kernel)
theorem weq_2_0 : (("-" : Str) == ("item" : Str)) = false := by decide +kernel
theorem wne_2_0 : (("-" : Str) = ("item" : Str)) = False := eq_false (by decide +kernel)
theorem weq_2_1 : (("-" : Str) == ("+" : Str)) = false := by decide +kernel
theorem wne_2_1 : (("-" : Str) = ("+" : Str)) = False := eq_false (by decide +kernel)
theorem weq_2_2 : (("-" : Str) == ("-" : Str)) = true := by decide +kernel
theorem weq_2_3 : (("-" : Str) == ("*" : Str)) = false := by decide +kernel
theorem wne_2_3 : (("-" : Str) = ("*" : Str)) = False := eq_false (by decide +kernel)
theorem weq_2_4 : (("-" : Str) == ("not" : Str)) = false := by decide +kernel
theorem wne_2_4 : (("-" : Str) = ("not" : Str)) = False := eq_false (by decide +kernel)
theorem weq_2_5 : (("-" : Str) == ("and" : Str)) = false := by decide +kernel
theorem wne_2_5 : (("-" : Str) = ("and" : Str)) = False := eq_false (by decide +kernel)
theorem weq_2_6 : (("-" : Str) == ("or" : Str)) = false := by decide +kernel
theorem wne_2_6 : (("-" : Str) = ("or" : Str)) = False := eq_false (by decide +kernel)
theorem weq_2_7 : (("-" : Str) == ("=" : Str)) = false := by decide +kernel
theorem wne_2_7 : (("-" : Str) = ("=" : Str)) = False := eq_false (by decide +kernel)
theorem weq_2_8 : (("-" : Str) == ("<" : Str)) = false := by decide +kernel
theorem wne_2_8 : (("-" : Str) = ("<" : Str)) = False := eq_false (by decide +kernel)
theorem wsh_3 : SeqAt.shaped (.str ("*" : Str)) = true := by decide +kernel
theorem wst_3 : strOk (.str ("*" : Str)) = True := eq_true (by show ("*" : Str).length ≤ 16777216; decide +kernel)
theorem weq_3_0 : (("*" : Str) == ("item" : Str)) = false := by decide +kernel
theorem wne_3_0 : (("*" : Str) = ("item" : Str)) = False := eq_false (by decide +kernel)
theorem weq_3_1 : (("*" : Str) == ("+" : Str)) = false := by decide +kernel
theorem wne_3_1 : (("*" : Str) = ("+" : Str)) = False := eq_false (by decide +kernel)
theorem weq_3_2 : (("*" : Str) == ("-" : Str)) = false := by decide +kernel
theorem wne_3_2 : (("*" : Str) = ("-" : Str)) = False := eq_false (by decide +kernel)
theorem weq_3_3 : (("*" : Str) == ("*" : Str)) = true := by decide +kernel
theorem weq_3_4 : (("*" : Str) == ("not" : Str)) = false := by decide +kernel
theorem wne_3_4 : (("*" : Str) = ("not" : Str)) = False := eq_false (by decide +kernel)
theorem weq_3_5 : (("*" : Str) == ("and" : Str)) = false := by decide +kernel
theorem wne_3_5 : (("*" : Str) = ("and" : Str)) = False := eq_false (by decide +kernel)
theorem weq_3_6 : (("*" : Str) == ("or" : Str)) = false := by decide +kernel
theorem wne_3_6 : (("*" : Str) = ("or" : Str)) = False := eq_false (by decide +kernel)
theorem weq_3_7 : (("*" : Str) == ("=" : Str)) = false := by decide +kernel
theorem wne_3_7 : (("*" : Str) = ("=" : Str)) = False := eq_false (by decide +kernel)
theorem weq_3_8 : (("*" : Str) == ("<" : Str)) = false := by decide +kernel
theorem wne_3_8 : (("*" : Str) = ("<" : Str)) = False := eq_false (by decide +kernel)
theorem wsh_4 : SeqAt.shaped (.str ("not" : Str)) = true := by decide +kernel
theorem wst_4 : strOk (.str ("not" : Str)) = True := eq_true (by show ("not" : Str).length ≤ 16777216; decide +kernel)
theorem weq_4_0 : (("not" : Str) == ("item" : Str)) = false := by decide +kernel
theorem wne_4_0 : (("not" : Str) = ("item" : Str)) = False := eq_false (by decide +kernel)
theorem weq_4_1 : (("not" : Str) == ("+" : Str)) = false := by decide +kernel
theorem wne_4_1 : (("not" : Str) = ("+" : Str)) = False := eq_false (by decide +kernel)
theorem weq_4_2 : (("not" : Str) == ("-" : Str)) = false := by decide +kernel
theorem wne_4_2 : (("not" : Str) = ("-" : Str)) = False := eq_false (by decide +kernel)
theorem weq_4_3 : (("not" : Str) == ("*" : Str)) = false := by decide +kernel
theorem wne_4_3 : (("not" : Str) = ("*" : Str)) = False := eq_false (by decide +kernel)
theorem weq_4_4 : (("not" : Str) == ("not" : Str)) = true := by decide +kernel
theorem weq_4_5 : (("not" : Str) == ("and" : Str)) = false := by decide +kernel
theorem wne_4_5 : (("not" : Str) = ("and" : Str)) = False := eq_false (by decide +kernel)
theorem weq_4_6 : (("not" : Str) == ("or" : Str)) = false := by decide +kernel
theorem wne_4_6 : (("not" : Str) = ("or" : Str)) = False := eq_false (by decide +kernel)
theorem weq_4_7 : (("not" : Str) == ("=" : Str)) = false := by decide +kernel
theorem wne_4_7 : (("not" : Str) = ("=" : Str)) = False := eq_false (by decide +kernel)
theorem weq_4_8 : (("not" : Str) == ("<" : Str)) = false := by decide +kernel
theorem wne_4_8 : (("not" : Str) = ("<" : Str)) = False := eq_false (by decide +kernel)
theorem wsh_5 : SeqAt.shaped (.str ("and" : Str)) = true := by decide +kernel
theorem wst_5 : strOk (.str ("and" : Str)) = True := eq_true (by show ("and" : Str).length ≤ 16777216; decide +kernel)
theorem weq_5_0 : (("and" : Str) == ("item" : Str)) = false := by decide +kernel
theorem wne_5_0 : (("and" : Str) = ("item" : Str)) = False := eq_false (by decide +kernel)
theorem weq_5_1 : (("and" : Str) == ("+" : Str)) = false := by decide +kernel
theorem wne_5_1 : (("and" : Str) = ("+" : Str)) = False := eq_false (by decide +kernel)
theorem weq_5_2 : (("and" : Str) == ("-" : Str)) = false := by decide +kernel
theorem wne_5_2 : (("and" : Str) = ("-" : Str)) = False := eq_false (by decide +kernel)
theorem weq_5_3 : (("and" : Str) == ("*" : Str)) = false := by decide +kernel
theorem wne_5_3 : (("and" : Str) = ("*" : Str)) = False := eq_false (by decide +kernel)
theorem weq_5_4 : (("and" : Str) == ("not" : Str)) = false := by decide +kernel
theorem wne_5_4 : (("and" : Str) = ("not" : Str)) = False := eq_false (by decide +kernel)
theorem weq_5_5 : (("and" : Str) == ("and" : Str)) = true := by decide +kernel
theorem weq_5_6 : (("and" : Str) == ("or" : Str)) = false := by decide +kernel
theorem wne_5_6 : (("and" : Str) = ("or" : Str)) = False := eq_false (by decide +kernel)
theorem weq_5_7 : (("and" : Str) == ("=" : Str)) = false := by decide +kernel
theorem wne_5_7 : (("and" : Str) = ("=" : Str)) = False := eq_false (by decide +kernel)
theorem weq_5_8 : (("and" : Str) == ("<" : Str)) = false := by decide +kernel
theorem wne_5_8 : (("and" : Str) = ("<" : Str)) = False := eq_false (by decide +kernel)
theorem wsh_6 : SeqAt.shaped (.str ("or" : Str)) = true := by decide +kernel
theorem wst_6 : strOk (.str ("or" : Str)) = True := eq_true (by show ("or" : Str).length ≤ 16777216; decide +kernel)
theorem weq_6_0 : (("or" : Str) == ("item" : Str)) = false := by decide +kernel
theorem wne_6_0 : (("or" : Str) = ("item" : Str)) = False := eq_false (by decide +kernel)
theorem weq_6_1 : (("or" : Str) == ("+" : Str)) = false := by decide +kernel
theorem wne_6_1 : (("or" : Str) = ("+" : Str)) = False := eq_false (by decide +kernel)
theorem weq_6_2 : (("or" : Str) == ("-" : Str)) = false := by decide +kernel
theorem wne_6_2 : (("or" : Str) = ("-" : Str)) = False := eq_false (by decide +kernel)
theorem weq_6_3 : (("or" : Str) == ("*" : Str)) = false := by decide +kernel
theorem wne_6_3 : (("or" : Str) = ("*" : Str)) = False := eq_false (by decide +kernel)
theorem weq_6_4 : (("or" : Str) == ("not" : Str)) = false := by decide +kernel
theorem wne_6_4 : (("or" : Str) = ("not" : Str)) = False := eq_false (by decide +kernel)
theorem weq_6_5 : (("or" : Str) == ("and" : Str)) = false := by decide +kernel
theorem wne_6_5 : (("or" : Str) = ("and" : Str)) = False := eq_false (by decide +kernel)
theorem weq_6_6 : (("or" : Str) == ("or" : Str)) = true := by decide +kernel
theorem weq_6_7 : (("or" : Str) == ("=" : Str)) = false := by decide +kernel
theorem wne_6_7 : (("or" : Str) = ("=" : Str)) = False := eq_false (by decide +kernel)
theorem weq_6_8 : (("or" : Str) == ("<" : Str)) = false := by decide +kernel
theorem wne_6_8 : (("or" : Str) = ("<" : Str)) = False := eq_false (by decide +kernel)
theorem wsh_7 : SeqAt.shaped (.str ("=" : Str)) = true := by decide +kernel
theorem wst_7 : strOk (.str ("=" : Str)) = True := eq_true (by show ("=" : Str).length ≤ 16777216; decide +kernel)
theorem weq_7_0 : (("=" : Str) == ("item" : Str)) = false := by decide +kernel
theorem wne_7_0 : (("=" : Str) = ("item" : Str)) = False := eq_false (by decide +kernel)
theorem weq_7_1 : (("=" : Str) == ("+" : Str)) = false := by decide +kernel
theorem wne_7_1 : (("=" : Str) = ("+" : Str)) = False := eq_false (by decide +kernel)
theorem weq_7_2 : (("=" : Str) == ("-" : Str)) = false := by decide +kernel
theorem wne_7_2 : (("=" : Str) = ("-" : Str)) = False := eq_false (by decide +kernel)
theorem weq_7_3 : (("=" : Str) == ("*" : Str)) = false := by decide +kernel
theorem wne_7_3 : (("=" : Str) = ("*" : Str)) = False := eq_false (by decide +kernel)
theorem weq_7_4 : (("=" : Str) == ("not" : Str)) = false := by decide +kernel
theorem wne_7_4 : (("=" : Str) = ("not" : Str)) = False := eq_false (by decide +kernel)
theorem weq_7_5 : (("=" : Str) == ("and" : Str)) = false := by decide +kernel
theorem wne_7_5 : (("=" : Str) = ("and" : Str)) = False := eq_false (by decide +kernel)
theorem weq_7_6 : (("=" : Str) == ("or" : Str)) = false := by decide +kernel
theorem wne_7_6 : (("=" : Str) = ("or" : Str)) = False := eq_false (by decide +kernel)
theorem weq_7_7 : (("=" : Str) == ("=" : Str)) = true := by decide +kernel
theorem weq_7_8 : (("=" : Str) == ("<" : Str)) = false := by decide +kernel
theorem wne_7_8 : (("=" : Str) = ("<" : Str)) = False := eq_false (by decide +kernel)
theorem wsh_8 : SeqAt.shaped (.str ("<" : Str)) = true := by decide +kernel
theorem wst_8 : strOk (.str ("<" : Str)) = True := eq_true (by show ("<" : Str).length ≤ 16777216; decide +kernel)
theorem weq_8_0 : (("<" : Str) == ("item" : Str)) = false := by decide +kernel
theorem wne_8_0 : (("<" : Str) = ("item" : Str)) = False := eq_false (by decide +kernel)
theorem weq_8_1 : (("<" : Str) == ("+" : Str)) = false := by decide +kernel
theorem wne_8_1 : (("<" : Str) = ("+" : Str)) = False := eq_false (by decide +kernel)
theorem weq_8_2 : (("<" : Str) == ("-" : Str)) = false := by decide +kernel
theorem wne_8_2 : (("<" : Str) = ("-" : Str)) = False := eq_false (by decide +kernel)
theorem weq_8_3 : (("<" : Str) == ("*" : Str)) = false := by decide +kernel
theorem wne_8_3 : (("<" : Str) = ("*" : Str)) = False := eq_false (by decide +kernel)
theorem weq_8_4 : (("<" : Str) == ("not" : Str)) = false := by decide +kernel
theorem wne_8_4 : (("<" : Str) = ("not" : Str)) = False := eq_false (by decide +kernel)
theorem weq_8_5 : (("<" : Str) == ("and" : Str)) = false := by decide +kernel
theorem wne_8_5 : (("<" : Str) = ("and" : Str)) = False := eq_false (by decide +kernel)
theorem weq_8_6 : (("<" : Str) == ("or" : Str)) = false := by decide +kernel
theorem wne_8_6 : (("<" : Str) = ("or" : Str)) = False := eq_false (by decide +kernel)
theorem weq_8_7 : (("<" : Str) == ("=" : Str)) = false := by decide +kernel
theorem wne_8_7 : (("<" : Str) = ("=" : Str)) = False := eq_false (by decide +kernel)
theorem weq_8_8 : (("<" : Str) == ("<" : Str)) = true := by decide +kernel
theorem shInt (i : Int) : SeqAt.shaped (.int i) = true := id rfl
theorem shBool (i : Bool) : SeqAt.shaped (.bool i) = true := id rfl
theorem eqvStr (a b : Str) : PyData.eqv (.str a) (.str b) = (a == b) := by simp only [PyData.eqv]
theorem eqvInt (a b : Int) : PyData.eqv (.int a) (.int b) = (a == b) := by simp only [PyData.eqv]
theorem eqvBool (a b : Bool) : PyData.eqv (.bool a) (.bool b) = (a == b) := by simp only [PyData.eqv]
theorem isI_i (i : Int) : (isiD "int" (.int i)) = true := by simp [isiD, tyD]
theorem isB_i (i : Int) : (isiD "bool" (.int i)) = false := by simp [isiD, tyD]
theorem isI_t (xs : List PyData) : (isiD "int" (.tuple xs)) = false := by simp [isiD, tyD]
theorem isI_b (b : Bool) : (isiD "int" (.bool b)) = true := by simp [isiD, tyD]
theorem isB_b (b : Bool) : (isiD "bool" (.bool b)) = true := by simp [isiD, tyD]
theorem isT_i (i : Int) : (isiD "tuple" (.int i)) = false := by simp [isiD, tyD]
theorem isT_t (xs : List PyData) : (isiD "tuple" (.tuple xs)) = true := by simp [isiD, tyD]
theorem b_tf : (true == false) = false := id rfl
theorem b_ft : (false == true) = false := id rfl
theorem joinW_ap (f g : W PyData) {t : Rs} (P : PyData → Rs → Prop) : joinW f g t P = f t fun x t1 => (match x with | .str a => (bnd g fun y => match y with | .list xs => joinD a xs | .tuple xs => joinD a xs | _ => bad) | _ => bad) t1 P := id rfl
theorem joinD_ap (a : Str) (ss : List Str) {t : Rs} (P : PyData → Rs → Prop) : joinD a (ss.map .str) t P = ((ss.map (·.length)).sum + ss.length * a.length ≤ 16777216 ∧ P (.str (Txt.join a ss)) t) := by
  unfold joinD
  rw [strsOf_map]
  rfl
theorem ofmt_s (y : Str) {t : Rs} (P : PyData → Rs → Prop) : ofmt (.str y) t P = (y.length ≤ 16777216 ∧ P (.str y) t) := id rfl
theorem ofmt_i (i : Int) {t : Rs} (P : PyData → Rs → Prop) : ofmt (.int i) t P = (i.natAbs.log2 < 1920 ∧ P (.str (Str.ofString (toString i))) t) := id rfl
theorem ostr_i (i : Int) {t : Rs} (P : PyData → Rs → Prop) : ostr (.int i) t P = (i.natAbs.log2 < 1920 ∧ P (.str (Str.ofString (toString i))) t) := id rfl
theorem js_nil (acc : Str) {t : Rs} (P : PyData → Rs → Prop) : jsW [] acc t P = P (.str acc) t := id rfl
theorem js_cons (f : W PyData) (r : List (W PyData)) (acc : Str) {t : Rs} (P : PyData → Rs → Prop) : jsW (f :: r) acc t P = f t fun x t1 => (match x with | .str y => need ((acc ++ y).length ≤ 16777216) (jsW r (acc ++ y)) | _ => bad) t1 P := id rfl
theorem catS_ap (a b : Str) {t : Rs} (P : PyData → Rs → Prop) : ocatS (.str a) (.str b) t P = (a.length + b.length ≤ 16777216 ∧ P (.str (a ++ b)) t) := id rfl
theorem extV_ap {τ σ : Type} (f : W PyData) (xs : List PyData) (k : List PyData → W (Out τ σ)) {t : Rs} (P : Out τ σ → Rs → Prop) : extV f xs k t P = f t fun y t1 => (match y with | .list ys => need (xs.length + ys.length ≤ 16777216) (k ys) | _ => bad) t1 P := id rfl
theorem revL_ap (f : W PyData) {t : Rs} (P : List PyData → Rs → Prop) : revL f t P = f t fun x t1 => (match x with | .list xs => ret xs.reverse | _ => bad) t1 P := id rfl
theorem asL_t (xs : List PyData) {t : Rs} (P : List PyData → Rs → Prop) : asL (.tuple xs) t P = P xs t := id rfl
theorem starD_t (f : W PyData) (af : W (List B)) {t : Rs} (P : List B → Rs → Prop) : starD f af t P = f t fun x t1 => (match x with | .tuple ys => (bnd af fun bs => ret (ys.map B.d ++ bs)) | .list ys => (bnd af fun bs => ret (ys.map B.d ++ bs)) | _ => bad) t1 P := id rfl
theorem eqSW_ap (f g : W PyData) {t : Rs} (P : PyData → Rs → Prop) : eqSW f g t P = f t fun x t1 => (match x with | .str y => (bnd g fun z => match z with | .str u => ret (PyData.bool (decide (y = u))) | _ => bad) | _ => bad) t1 P := id rfl
local macro_rules | `(tactic| walk_at "w") => `(tactic| try simp only [bnd_ap, ret_ap, need_ap, op1_ap, op2_ap, dA_ap, rdA_ap, callN_ap, asD_d, asD_own, asO_own, asB_b, asT_ap, froz_ap, disp_ap, ifW_ap, andT_ap, orT_ap, notT_ap, andW_b, orW_b, thn_ap, joi_ap, upO_ap, fnW_ap, fnU_ap, compW_ap, compO_ap, optW_ap, itL_ap, itT_ap, rng1_ap, rng2_ap, slT_ap, slL_ap, oN_ap, oS_ap, consA_ap, catL_ap, two_ap, three_ap, twoL_ap, threeL_ap, oadd_i, osub_i, omul_i, oneg_i, olt_i, ole_i, onot_b, oisi_ap, otup_l, otup_t, oint_i, olen_t, olen_l, arg0_ap, arg1_ap, arg2_ap, arg3_ap, arg4_ap, arg5_ap, argR0_ap, argR1_ap, argR2_ap, argR3_ap, dsOf, Option.map_some, Option.map_none, List.length_cons, List.length_nil, Nat.reduceAdd, Nat.reduceLeDiff, true_and, and_true, cond_t, cond_f, Bool.not_true, Bool.not_false, truD, neS_ap, ofdiv_i, decide_true, decide_false, oeq_ap, one_ap, eqvStr, eqvInt, eqvBool, shInt, shBool, and_self, isI_i, isB_i, isI_t, isI_b, isB_b, isT_i, isT_t, joinW_ap, joinD_ap, ofmt_s, ofmt_i, ostr_i, js_nil, js_cons, catS_ap, extV_ap, revL_ap, asL_t, starD_t, eqSW_ap, strOk, beq_self_eq_true, b_tf, b_ft, Bool.or_true, Bool.true_or, Bool.or_false, Bool.false_or, Bool.and_true, Bool.and_false, Bool.false_and, Bool.true_and, wsh_0, wst_0, weq_0_0, weq_0_1, wne_0_1, weq_0_2, wne_0_2, weq_0_3, wne_0_3, weq_0_4, wne_0_4, weq_0_5, wne_0_5, weq_0_6, wne_0_6, weq_0_7, wne_0_7, weq_0_8, wne_0_8, wsh_1, wst_1, weq_1_0, wne_1_0, weq_1_1, weq_1_2, wne_1_2, weq_1_3, wne_1_3, weq_1_4, wne_1_4, weq_1_5, wne_1_5, weq_1_6, wne_1_6, weq_1_7, wne_1_7, weq_1_8, wne_1_8, wsh_2, wst_2, weq_2_0, wne_2_0, weq_2_1, wne_2_1, weq_2_2, weq_2_3, wne_2_3, weq_2_4, wne_2_4, weq_2_5, wne_2_5, weq_2_6, wne_2_6, weq_2_7, wne_2_7, weq_2_8, wne_2_8, wsh_3, wst_3, weq_3_0, wne_3_0, weq_3_1, wne_3_1, weq_3_2, wne_3_2, weq_3_3, weq_3_4, wne_3_4, weq_3_5, wne_3_5, weq_3_6, wne_3_6, weq_3_7, wne_3_7, weq_3_8, wne_3_8, wsh_4, wst_4, weq_4_0, wne_4_0, weq_4_1, wne_4_1, weq_4_2, wne_4_2, weq_4_3, wne_4_3, weq_4_4, weq_4_5, wne_4_5, weq_4_6, wne_4_6, weq_4_7, wne_4_7, weq_4_8, wne_4_8, wsh_5, wst_5, weq_5_0, wne_5_0, weq_5_1, wne_5_1, weq_5_2, wne_5_2, weq_5_3, wne_5_3, weq_5_4, wne_5_4, weq_5_5, weq_5_6, wne_5_6, weq_5_7, wne_5_7, weq_5_8, wne_5_8, wsh_6, wst_6, weq_6_0, wne_6_0, weq_6_1, wne_6_1, weq_6_2, wne_6_2, weq_6_3, wne_6_3, weq_6_4, wne_6_4, weq_6_5, wne_6_5, weq_6_6, weq_6_7, wne_6_7, weq_6_8, wne_6_8, wsh_7, wst_7, weq_7_0, wne_7_0, weq_7_1, wne_7_1, weq_7_2, wne_7_2, weq_7_3, wne_7_3, weq_7_4, wne_7_4, weq_7_5, wne_7_5, weq_7_6, wne_7_6, weq_7_7, weq_7_8, wne_7_8, wsh_8, wst_8, weq_8_0, wne_8_0, weq_8_1, wne_8_1, weq_8_2, wne_8_2, weq_8_3, wne_8_3, weq_8_4, wne_8_4, weq_8_5, wne_8_5, weq_8_6, wne_8_6, weq_8_7, wne_8_7, weq_8_8])
theorem cond_ap {α : Type} {b : Bool} {f g : W α} {t : Rs} {P : α → Rs → Prop} (h1 : b = true → f t P) (h2 : b = false → g t P) : (bif b then f else g) t P := by
  cases b
  · exact h2 rfl
  · exact h1 rfl
/-! ### a while, by the number of turns -/
theorem wh_cps {σ : Type} {c : σ → W Bool} {f : σ → W (Out σ σ)} (I : Nat → σ → Rs → Prop) {P : Sum σ B → Rs → Prop} (step : ∀ n s t, I (n + 1) s t → ∀ Q : Out σ σ → Rs → Prop, (∀ s' t', I n s' t' → Q (.nx s') t') → c s t fun b t1 => b = true ∧ f s t1 Q)
    (mono : ∀ s t (Q Q' : Bool → Rs → Prop), (∀ b t', Q b t' → Q' b t') → c s t Q → c s t Q')
    (fin : ∀ s t, I 0 s t → c s t fun b t1 => b = false ∧ P (.inl s) t1) : ∀ (n : Nat) (s : σ) (t : Rs), I n s t → whN c f (n + 1) s t P
  | 0, s, t, h => mono s t _ _ (fun b t' z => by
    obtain ⟨rfl, z⟩ := z
    exact z) (fin s t h)
  | n + 1, s, t, h => mono s t _ _ (fun b t' z => by
    obtain ⟨rfl, z⟩ := z
    exact z) (step n s t h _ fun s' t' h' => wh_cps I step mono fin n s' t' h')
/-! ### texts -/
structure Tx (n : Nat) (s : Str) : Prop where
  len : s.length ≤ n
  lo : ∀ c ∈ s.cps.toList, c < 128
abbrev ts (i : Int) : Str := Str.ofString (toString i)
theorem tx_int {i : Int} (h : i.natAbs < 2 ^ 256) : Tx 298 (ts i) := by
  refine ⟨?_, fun c hc => ?_⟩
  · have := Dl.Fin.len (.int i) h
    simp only [PyData.shown, sz] at this
    show (Str.ofString (toString i)).length ≤ 298
    omega
  · have e : (ts i).cps.toList = (toString i).toList.map Char.toNat := signs_ofString _
    rw [e] at hc
    obtain ⟨d, hd, rfl⟩ := List.mem_map.mp hc
    exact int_ascii i d hd
theorem jn_nil (y : Str) : Txt.join y [] = Str.empty := by rw [TL.join_eq]; rfl
theorem jn_one (y x : Str) : Txt.join y [x] = x := by rw [TL.join_eq]; rfl
theorem jn_cons (y x z : Str) (r : List Str) : Txt.join y (x :: z :: r) = x ++ y ++ Txt.join y (z :: r) := by rw [TL.join_eq, TL.join_eq]; rfl
theorem jn_app (y : Str) : ∀ {a b : List Str}, a ≠ [] → b ≠ [] → Txt.join y (a ++ b) = Txt.join y a ++ y ++ Txt.join y b
  | [], _, h, _ => absurd rfl h
  | _, [], _, h => absurd rfl h
  | [x], z :: r, _, _ => by rw [List.singleton_append, jn_cons, jn_one]
  | x :: x2 :: a, z :: r, _, hb => by
    rw [List.cons_append, List.cons_append, jn_cons, ← List.cons_append, jn_app y (a := x2 :: a) (by simp) hb, jn_cons]
    simp only [Str.append_assoc]
/-- joined groups, joined -/
theorem jn_join (y : Str) : ∀ {gs : List (List Str)}, (∀ g ∈ gs, g ≠ []) → Txt.join y (gs.map (Txt.join y)) = Txt.join y gs.flatten
  | [], _ => by simp [jn_nil]
  | [g], _ => by simp [jn_one]
  | g :: g2 :: gs, h => by
    have h2 : ∀ q ∈ g2 :: gs, q ≠ [] := fun q hq => h q (List.mem_cons_of_mem _ hq)
    have ih := jn_join y h2
    rw [List.map_cons] at ih
    rw [List.map_cons, List.map_cons, jn_cons, ih]
    show _ = Txt.join y (g ++ (g2 :: gs).flatten)
    rw [jn_app y (h g (List.mem_cons_self ..)) (by
      rw [List.flatten_cons]
      intro z
      exact h2 g2 (List.mem_cons_self ..) (List.append_eq_nil_iff.mp z).1)]
theorem jn_len (y : Str) : ∀ ss : List Str, (Txt.join y ss).length ≤ (ss.map (·.length)).sum + ss.length * y.length := fun ss => by
  rw [TL.join_eq]
  exact StrLaws.join_length_le y ss
theorem jn_lo {y : Str} (hy : ∀ c ∈ y.cps.toList, c < 128) : ∀ {ss : List Str}, (∀ s ∈ ss, ∀ c ∈ s.cps.toList, c < 128) → ∀ c ∈ (Txt.join y ss).cps.toList, c < 128
  | [], _, c, hc => by
    rw [jn_nil] at hc
    simp [Str.empty] at hc
  | [x], h, c, hc => by
    rw [jn_one] at hc
    exact h x (List.mem_cons_self ..) c hc
  | x :: z :: r, h, c, hc => by
    rw [jn_cons, Str.cps_append, Str.cps_append] at hc
    simp only [Array.toList_append, List.mem_append] at hc
    rcases hc with (hc | hc) | hc
    · exact h x (List.mem_cons_self ..) c hc
    · exact hy c hc
    · exact jn_lo hy (fun s hs => h s (List.mem_cons_of_mem _ hs)) c hc
theorem sum_le {n : Nat} : ∀ {ss : List Str}, (∀ s ∈ ss, s.length ≤ n) → (ss.map (·.length)).sum ≤ ss.length * n
  | [], _ => by simp
  | s :: ss, h => by
    have h1 := h s (List.mem_cons_self ..)
    have h2 := sum_le fun q hq => h q (List.mem_cons_of_mem _ hq)
    simp only [List.map_cons, List.sum_cons, List.length_cons, Nat.add_mul]
    omega
/-- texts short enough to be joined -/
theorem jn_fit {y : Str} {n m : Nat} {ss : List Str} (h : ∀ s ∈ ss, s.length ≤ n) (hl : ss.length ≤ m) (hy : y.length ≤ 1) (hm : m * (n + 1) ≤ 16777216) : (ss.map (·.length)).sum + ss.length * y.length ≤ 16777216 := by
  have h1 := sum_le h
  have h2 : ss.length * y.length ≤ ss.length * 1 := Nat.mul_le_mul_left _ hy
  have h3 : ss.length * (n + 1) ≤ m * (n + 1) := Nat.mul_le_mul_right _ hl
  rw [Nat.mul_add] at h3
  omega
theorem jn_tx {y : Str} {n m : Nat} {ss : List Str} (h : ∀ s ∈ ss, Tx n s) (hl : ss.length ≤ m) (hy : Tx 1 y) : Tx (m * (n + 1)) (Txt.join y ss) := by
  refine ⟨?_, jn_lo hy.lo fun s hs => (h s hs).lo⟩
  have h0 := jn_len y ss
  have h1 := sum_le fun s hs => (h s hs).len
  have h2 : ss.length * y.length ≤ ss.length * 1 := Nat.mul_le_mul_left _ hy.len
  have h3 : ss.length * (n + 1) ≤ m * (n + 1) := Nat.mul_le_mul_right _ hl
  rw [Nat.mul_add] at h3
  omega
theorem app_tx {n m : Nat} {a b : Str} (h : Tx n a) (h2 : Tx m b) : Tx (n + m) (a ++ b) := by
  refine ⟨?_, fun c hc => ?_⟩
  · rw [Str.length_append]
    have := h.len
    have := h2.len
    omega
  · rw [Str.cps_append] at hc
    simp only [Array.toList_append, List.mem_append] at hc
    rcases hc with hc | hc
    · exact h.lo c hc
    · exact h2.lo c hc
theorem Tx.mono {n m : Nat} {s : Str} (h : Tx n s) (e : n ≤ m) : Tx m s := ⟨Nat.le_trans h.len e, h.lo⟩
end K09
end
section
set_option maxRecDepth 100000
set_option maxHeartbeats 4000000
namespace K09
open PySem PySem.Spec PyProof.Rows L2 Dl Dw Dz
open Dw (ret)
theorem dsOf_star : ∀ (ps : List PyData) (x : PyData), dsOf (ps.map B.d ++ [.d x]) = some (ps ++ [x]) := fun ps x => by
  have : ps.map B.d ++ [B.d x] = (ps ++ [x]).map B.d := by simp
  rw [this, dsOf_map]
local macro_rules | `(tactic| walk_at "w") => `(tactic| try simp only [bnd_ap, ret_ap, need_ap, op1_ap, op2_ap, dA_ap, rdA_ap, callN_ap, asD_d, asD_own, asO_own, asB_b, asT_ap, froz_ap, disp_ap, ifW_ap, andT_ap, orT_ap, notT_ap, andW_b, orW_b, thn_ap, joi_ap, upO_ap, fnW_ap, fnU_ap, compW_ap, compO_ap, optW_ap, itL_ap, itT_ap, rng1_ap, rng2_ap, slT_ap, slL_ap, oN_ap, oS_ap, consA_ap, catL_ap, two_ap, three_ap, twoL_ap, threeL_ap, oadd_i, osub_i, omul_i, oneg_i, olt_i, ole_i, onot_b, oisi_ap, otup_l, otup_t, oint_i, olen_t, olen_l, arg0_ap, arg1_ap, arg2_ap, arg3_ap, arg4_ap, arg5_ap, argR0_ap, argR1_ap, argR2_ap, argR3_ap, dsOf, Option.map_some, Option.map_none, List.length_cons, List.length_nil, Nat.reduceAdd, Nat.reduceLeDiff, true_and, and_true, cond_t, cond_f, Bool.not_true, Bool.not_false, truD, neS_ap, ofdiv_i, decide_true, decide_false, oeq_ap, one_ap, eqvStr, eqvInt, eqvBool, shInt, shBool, and_self, isI_i, isB_i, isI_t, isI_b, isB_b, isT_i, isT_t, joinW_ap, joinD_ap, ofmt_s, ofmt_i, ostr_i, js_nil, js_cons, catS_ap, extV_ap, revL_ap, asL_t, starD_t, dsOf_star, eqSW_ap, strOk, beq_self_eq_true, b_tf, b_ft, Bool.or_true, Bool.true_or, Bool.or_false, Bool.false_or, Bool.and_true, Bool.and_false, Bool.false_and, Bool.true_and, wsh_0, wst_0, weq_0_0, weq_0_1, wne_0_1, weq_0_2, wne_0_2, weq_0_3, wne_0_3, weq_0_4, wne_0_4, weq_0_5, wne_0_5, weq_0_6, wne_0_6, weq_0_7, wne_0_7, weq_0_8, wne_0_8, wsh_1, wst_1, weq_1_0, wne_1_0, weq_1_1, weq_1_2, wne_1_2, weq_1_3, wne_1_3, weq_1_4, wne_1_4, weq_1_5, wne_1_5, weq_1_6, wne_1_6, weq_1_7, wne_1_7, weq_1_8, wne_1_8, wsh_2, wst_2, weq_2_0, wne_2_0, weq_2_1, wne_2_1, weq_2_2, weq_2_3, wne_2_3, weq_2_4, wne_2_4, weq_2_5, wne_2_5, weq_2_6, wne_2_6, weq_2_7, wne_2_7, weq_2_8, wne_2_8, wsh_3, wst_3, weq_3_0, wne_3_0, weq_3_1, wne_3_1, weq_3_2, wne_3_2, weq_3_3, weq_3_4, wne_3_4, weq_3_5, wne_3_5, weq_3_6, wne_3_6, weq_3_7, wne_3_7, weq_3_8, wne_3_8, wsh_4, wst_4, weq_4_0, wne_4_0, weq_4_1, wne_4_1, weq_4_2, wne_4_2, weq_4_3, wne_4_3, weq_4_4, weq_4_5, wne_4_5, weq_4_6, wne_4_6, weq_4_7, wne_4_7, weq_4_8, wne_4_8, wsh_5, wst_5, weq_5_0, wne_5_0, weq_5_1, wne_5_1, weq_5_2, wne_5_2, weq_5_3, wne_5_3, weq_5_4, wne_5_4, weq_5_5, weq_5_6, wne_5_6, weq_5_7, wne_5_7, weq_5_8, wne_5_8, wsh_6, wst_6, weq_6_0, wne_6_0, weq_6_1, wne_6_1, weq_6_2, wne_6_2, weq_6_3, wne_6_3, weq_6_4, wne_6_4, weq_6_5, wne_6_5, weq_6_6, weq_6_7, wne_6_7, weq_6_8, wne_6_8, wsh_7, wst_7, weq_7_0, wne_7_0, weq_7_1, wne_7_1, weq_7_2, wne_7_2, weq_7_3, wne_7_3, weq_7_4, wne_7_4, weq_7_5, wne_7_5, weq_7_6, wne_7_6, weq_7_7, weq_7_8, wne_7_8, wsh_8, wst_8, weq_8_0, wne_8_0, weq_8_1, wne_8_1, weq_8_2, wne_8_2, weq_8_3, wne_8_3, weq_8_4, wne_8_4, weq_8_5, wne_8_5, weq_8_6, wne_8_6, weq_8_7, wne_8_7, weq_8_8])

theorem at0 (x : PyData) (xs : List PyData) : atI (x :: xs) 0 = some x := by
  show atI (x :: xs) ((0 : Nat) : Int) = _
  exact atI_nat rfl
theorem cut3 (x a b : PyData) : cutD [x, a, b] (some 1) none = [a, b] := rfl
/-! ### expressions and their words -/
inductive Ex : Nat → PyData → List (List Str) → Prop
  | int {n : Nat} {i : Int} : i.natAbs < 2 ^ 200 → Ex n (.int i) [[ts i]]
  | item {n : Nat} {s : Str} : Tx 8 s → Ex n (.tuple [.str "item", .str s]) [["item", s]]
  | un {n : Nat} {c : PyData} {gc : List (List Str)} : Ex n c gc → Ex (n + 1) (.tuple [.str "not", c]) (["not"] :: gc)
  | bin {n : Nat} {w : Str} {a b : PyData} {ga gb : List (List Str)} : w ∈ (["+", "-", "*", "=", "<", "and", "or"] : List Str) → Ex n a ga → Ex n b gb → Ex (n + 1) (.tuple [.str w, a, b]) ([w] :: (ga ++ gb))
inductive Hd : PyData → List Str → Prop
  | int {i : Int} : i.natAbs < 2 ^ 200 → Hd (.int i) [ts i]
  | item {s : Str} : Tx 8 s → Hd (.tuple [.str "item", .str s]) ["item", s]
  | word {w : Str} {xs : List PyData} : w ∈ (["not", "+", "-", "*", "=", "<", "and", "or"] : List Str) → Hd (.tuple (.str w :: xs)) [w]
theorem tx_words : ∀ w ∈ (["item", "not", "+", "-", "*", "=", "<", "and", "or"] : List Str), Tx 4 w := fun w hw => by
  simp only [List.mem_cons, List.not_mem_nil, or_false] at hw
  rcases hw with rfl | rfl | rfl | rfl | rfl | rfl | rfl | rfl | rfl <;> exact ⟨by decide +kernel, by decide +kernel⟩
theorem log_ok {i : Int} (h : i.natAbs < 2 ^ 200) : i.natAbs.log2 < 1920 := by
  by_cases e : i.natAbs = 0
  · rw [e]
    decide
  · have := (Nat.log2_lt e).mpr h
    omega
theorem lt256 {i : Int} (h : i.natAbs < 2 ^ 200) : i.natAbs < 2 ^ 256 := Nat.lt_trans h (by decide)
/-- what holds of the words of an expression -/
structure Gok (n : Nat) (gs : List (List Str)) : Prop where
  len : gs.length + 1 ≤ 2 ^ (n + 1)
  ne : ∀ g ∈ gs, g ≠ []
  two : ∀ g ∈ gs, g.length ≤ 2
  tx : ∀ g ∈ gs, ∀ w ∈ g, Tx 298 w
  pos : gs ≠ []
theorem Ex.gok {n : Nat} {e : PyData} {gs : List (List Str)} (h : Ex n e gs) : Gok n gs := by
  induction h with
  | @int n i h => exact ⟨by have := Nat.one_le_two_pow (n := n); rw [Nat.pow_succ]; simp; omega, by simp, by simp, by intro g hg w hw; simp at hg; subst hg; simp at hw; subst hw; exact tx_int (lt256 h), by simp⟩
  | @item n s h => exact ⟨by have := Nat.one_le_two_pow (n := n); rw [Nat.pow_succ]; simp; omega, by simp, by simp, by
      intro g hg w hw
      simp only [List.mem_cons, List.not_mem_nil, or_false] at hg
      subst hg
      simp only [List.mem_cons, List.not_mem_nil, or_false] at hw
      rcases hw with rfl | rfl
      · exact (tx_words _ (by simp)).mono (by decide)
      · exact h.mono (by decide), by simp⟩
  | @un n c gc _ ih =>
    refine ⟨?_, fun g hg => ?_, fun g hg => ?_, fun g hg w hw => ?_, by simp⟩
    · have := ih.len
      rw [Nat.pow_succ]
      simp only [List.length_cons]
      omega
    all_goals rcases List.mem_cons.mp hg with rfl | hg
    · simp
    · exact ih.ne g hg
    · simp
    · exact ih.two g hg
    · simp only [List.mem_cons, List.not_mem_nil, or_false] at hw
      subst hw
      exact (tx_words _ (by simp)).mono (by decide)
    · exact ih.tx g hg w hw
  | @bin n v a b ga gb hv _ _ iha ihb =>
    refine ⟨?_, fun g hg => ?_, fun g hg => ?_, fun g hg w hw => ?_, by simp⟩
    · have := iha.len
      have := ihb.len
      rw [Nat.pow_succ]
      simp only [List.length_cons, List.length_append]
      omega
    all_goals rcases List.mem_cons.mp hg with rfl | hg
    · simp
    · rcases List.mem_append.mp hg with hg | hg
      · exact iha.ne g hg
      · exact ihb.ne g hg
    · simp
    · rcases List.mem_append.mp hg with hg | hg
      · exact iha.two g hg
      · exact ihb.two g hg
    · simp only [List.mem_cons, List.not_mem_nil, or_false] at hw
      subst hw
      exact (tx_words _ (by simp only [List.mem_cons, List.not_mem_nil, or_false] at hv ⊢; rcases hv with h | h | h | h | h | h | h <;> simp [h])).mono (by decide)
    · rcases List.mem_append.mp hg with hg | hg
      · exact iha.tx g hg w hw
      · exact ihb.tx g hg w hw
theorem Ex.up {n : Nat} {e : PyData} {gs : List (List Str)} (h : Ex n e gs) : Ex (n + 1) e gs := by
  induction h with
  | int h => exact .int h
  | item h => exact .item h
  | un _ ih => exact .un ih
  | bin hw _ _ ha hb => exact .bin hw ha hb
section
variable {t : Rs} {P : B → Rs → Prop}
theorem p_int_i {i : Int} (q : P (.d (.bool true)) t) : m_is_integer [.d (.int i)] t P := by
  unfold m_is_integer
  walk_at "w"
  exact q
theorem p_int_t {xs : List PyData} (q : P (.d (.bool false)) t) : m_is_integer [.d (.tuple xs)] t P := by
  unfold m_is_integer
  walk_at "w"
  exact q
theorem item_sp : Str.empty ++ ("item " : Str) = ("item" : Str) ++ " " := by decide +kernel
theorem p_head {e : PyData} {g : List Str} (h : Hd e g) (q : P (.d (.str (Txt.join " " g))) t) : m__head_text [.d e] t P := by
  unfold m__head_text
  cases h with
  | int h =>
    rw [jn_one] at q
    walk_at "w"
    refine p_int_i ?_
    walk_at "w"
    exact ⟨log_ok h, q⟩
  | item h =>
    rw [jn_cons, jn_one, ← item_sp] at q
    walk_at "w"
    refine p_int_t ?_
    walk_at "w"
    refine oixT0 rfl ?_
    walk_at "w"
    refine ⟨by decide +kernel, ?_⟩
    refine oixT0 rfl ?_
    walk_at "w"
    have := h.len
    refine ⟨by omega, ?_, q⟩
    rw [Str.length_append]
    have : (Str.empty ++ ("item " : Str)).length = 5 := by decide +kernel
    omega
  | word h =>
    rw [jn_one] at q
    walk_at "w"
    refine p_int_t ?_
    walk_at "w"
    refine oixT0 (at0 _ _) ?_
    simp only [List.mem_cons, List.not_mem_nil, or_false] at h
    rcases h with rfl | rfl | rfl | rfl | rfl | rfl | rfl | rfl
    all_goals
      walk_at "w"
      refine oixT0 (at0 _ _) ?_
      walk_at "w"
      exact q
abbrev ent (ps : List PyData) (e : PyData) : PyData := .tuple [.tuple ps, e]
/-- the parts in it -/
inductive Kd : PyData → List (PyData × List (List Str)) → Prop
  | int {i : Int} : Kd (.int i) []
  | item {s : Str} : Kd (.tuple [.str "item", .str s]) []
  | un {c : PyData} {gc : List (List Str)} : Kd (.tuple [.str "not", c]) [(c, gc)]
  | bin {w : Str} {a b : PyData} {ga gb : List (List Str)} : w ∈ (["+", "-", "*", "=", "<", "and", "or"] : List Str) → Kd (.tuple [.str w, a, b]) [(a, ga), (b, gb)]
def kidE (ps : List PyData) : Nat → List (PyData × List (List Str)) → List PyData
  | _, [] => []
  | n, k :: r => ent (ps ++ [.int (n : Nat)]) k.1 :: kidE ps (n + 1) r
theorem p_inner {ps : List PyData} {e : PyData} {ks : List (PyData × List (List Str))} (hp : ps.length ≤ 100) (h : Kd e ks) (q : P (.own (kidE ps 1 ks)) t) : m__inner_parts [.d (.tuple ps), .d e] t P := by
  unfold m__inner_parts
  cases h with
  | int =>
    walk_at "w"
    refine p_int_i ?_
    walk_at "w"
    exact q
  | item =>
    walk_at "w"
    refine p_int_t ?_
    walk_at "w"
    refine oixT0 rfl ?_
    walk_at "w"
    exact q
  | un =>
    walk_at "w"
    refine p_int_t ?_
    walk_at "w"
    refine oixT0 rfl ?_
    walk_at "w"
    refine ⟨⟨⟨by decide, by decide⟩, ⟨by decide, by decide⟩⟩, by decide, ?_⟩
    rw [show rngD 1 (((2 : Nat) : Int) - 1).toNat = [PyData.int 1] from rfl]
    simp only [mapW]
    walk_at "w"
    refine ⟨by simp; omega, ?_⟩
    refine oixT0 rfl ?_
    walk_at "w"
    exact q
  | bin h =>
    simp only [List.mem_cons, List.not_mem_nil, or_false] at h
    rcases h with rfl | rfl | rfl | rfl | rfl | rfl | rfl
    all_goals
      walk_at "w"
      refine p_int_t ?_
      walk_at "w"
      refine oixT0 rfl ?_
      walk_at "w"
      refine ⟨⟨⟨by decide, by decide⟩, ⟨by decide, by decide⟩⟩, by decide, ?_⟩
      rw [show rngD 1 (((3 : Nat) : Int) - 1).toNat = [PyData.int 1, PyData.int 2] from rfl]
      simp only [mapW]
      walk_at "w"
      refine ⟨by simp; omega, ?_⟩
      refine oixT0 rfl ?_
      walk_at "w"
      refine ⟨by simp; omega, ?_⟩
      refine oixT0 rfl ?_
      walk_at "w"
      exact q
theorem p_words {n : Nat} {e : PyData} {gs : List (List Str)} (h : Ex n e gs) : ∀ (f : Nat) (P : B → Rs → Prop), n < f → n ≤ 8 → P (.own (gs.flatten.map .str)) t → m_l_words f [.d e] t P := by
  have fl : ∀ {n : Nat} {gs : List (List Str)}, Gok n gs → n ≤ 8 → gs.flatten.length ≤ 2000 := fun {n gs} g hn => by
    have h1 := g.len
    have h2 : gs.flatten.length ≤ 2 * gs.length := by
      have : ∀ {gs : List (List Str)}, (∀ g ∈ gs, g.length ≤ 2) → gs.flatten.length ≤ 2 * gs.length := by
        intro gs
        induction gs with
        | nil => simp
        | cons a r ih =>
          intro h
          have h3 := h a (List.mem_cons_self ..)
          have h4 := ih fun q hq => h q (List.mem_cons_of_mem _ hq)
          rw [List.flatten_cons, List.length_append, List.length_cons]
          omega
      exact this g.two
    have h3 : 2 ^ (n + 1) ≤ 2 ^ 9 := Nat.pow_le_pow_right (by decide) (by omega)
    have : (2 : Nat) ^ 9 = 512 := by decide
    omega
  induction h with
  | int h =>
    intro f P hf hn q
    obtain ⟨f, rfl⟩ : ∃ g, f = g + 1 := ⟨f - 1, by omega⟩
    rw [m_l_words]
    walk_at "w"
    exact ⟨log_ok h, q⟩
  | item h =>
    intro f P hf hn q
    obtain ⟨f, rfl⟩ : ∃ g, f = g + 1 := ⟨f - 1, by omega⟩
    rw [m_l_words]
    walk_at "w"
    refine oixT0 rfl ?_
    walk_at "w"
    exact q
  | @un n c gc hc ih =>
    intro f P hf hn q
    obtain ⟨f, rfl⟩ : ∃ g, f = g + 1 := ⟨f - 1, by omega⟩
    have l1 := fl hc.gok (by omega)
    rw [m_l_words]
    walk_at "w"
    refine oixT0 rfl ?_
    walk_at "w"
    refine oixT0 rfl ?_
    walk_at "w"
    rw [show cutD [PyData.str "not", c] (some 1) none = [c] from rfl]
    simp only [forW]
    walk_at "w"
    refine ih f _ (by omega) (by omega) ?_
    walk_at "w"
    refine ⟨by rw [List.length_map]; omega, ?_⟩
    simpa using q
  | @bin n w a b ga gb hw ha hb iha ihb =>
    intro f P hf hn q
    obtain ⟨f, rfl⟩ : ∃ g, f = g + 1 := ⟨f - 1, by omega⟩
    have l1 := fl ha.gok (by omega)
    have l2 := fl hb.gok (by omega)
    rw [m_l_words]
    walk_at "w"
    refine oixT0 rfl ?_
    simp only [List.mem_cons, List.not_mem_nil, or_false] at hw
    rcases hw with rfl | rfl | rfl | rfl | rfl | rfl | rfl
    all_goals
      walk_at "w"
      refine oixT0 rfl ?_
      walk_at "w"
      simp only [cut3, forW]
      walk_at "w"
      refine iha f _ (by omega) (by omega) ?_
      walk_at "w"
      refine ⟨by rw [List.length_map]; omega, ?_⟩
      refine ihb f _ (by omega) (by omega) ?_
      walk_at "w"
      refine ⟨by simp only [List.length_append, List.length_cons, List.length_nil, List.length_map]; omega, ?_⟩
      simpa using q
end
end K09
end
section
set_option maxRecDepth 100000
set_option maxHeartbeats 4000000
namespace K09
open PySem PySem.Spec PyProof.Rows L2 Dl Dw Dz
open Dw (ret)
local macro_rules | `(tactic| walk_at "w") => `(tactic| try simp only [bnd_ap, ret_ap, need_ap, op1_ap, op2_ap, dA_ap, rdA_ap, callN_ap, asD_d, asD_own, asO_own, asB_b, asT_ap, froz_ap, disp_ap, ifW_ap, andT_ap, orT_ap, notT_ap, andW_b, orW_b, thn_ap, joi_ap, upO_ap, fnW_ap, fnU_ap, compW_ap, compO_ap, optW_ap, itL_ap, itT_ap, rng1_ap, rng2_ap, slT_ap, slL_ap, oN_ap, oS_ap, consA_ap, catL_ap, two_ap, three_ap, twoL_ap, threeL_ap, oadd_i, osub_i, omul_i, oneg_i, olt_i, ole_i, onot_b, oisi_ap, otup_l, otup_t, oint_i, olen_t, olen_l, arg0_ap, arg1_ap, arg2_ap, arg3_ap, arg4_ap, arg5_ap, argR0_ap, argR1_ap, argR2_ap, argR3_ap, dsOf, Option.map_some, Option.map_none, List.length_cons, List.length_nil, Nat.reduceAdd, Nat.reduceLeDiff, true_and, and_true, cond_t, cond_f, Bool.not_true, Bool.not_false, truD, neS_ap, ofdiv_i, decide_true, decide_false, oeq_ap, one_ap, eqvStr, eqvInt, eqvBool, shInt, shBool, and_self, isI_i, isB_i, isI_t, isI_b, isB_b, isT_i, isT_t, joinW_ap, joinD_ap, ofmt_s, ofmt_i, ostr_i, js_nil, js_cons, catS_ap, extV_ap, revL_ap, asL_t, starD_t, dsOf_star, eqSW_ap, strOk, beq_self_eq_true, b_tf, b_ft, Bool.or_true, Bool.true_or, Bool.or_false, Bool.false_or, Bool.and_true, Bool.and_false, Bool.false_and, Bool.true_and, wsh_0, wst_0, weq_0_0, weq_0_1, wne_0_1, weq_0_2, wne_0_2, weq_0_3, wne_0_3, weq_0_4, wne_0_4, weq_0_5, wne_0_5, weq_0_6, wne_0_6, weq_0_7, wne_0_7, weq_0_8, wne_0_8, wsh_1, wst_1, weq_1_0, wne_1_0, weq_1_1, weq_1_2, wne_1_2, weq_1_3, wne_1_3, weq_1_4, wne_1_4, weq_1_5, wne_1_5, weq_1_6, wne_1_6, weq_1_7, wne_1_7, weq_1_8, wne_1_8, wsh_2, wst_2, weq_2_0, wne_2_0, weq_2_1, wne_2_1, weq_2_2, weq_2_3, wne_2_3, weq_2_4, wne_2_4, weq_2_5, wne_2_5, weq_2_6, wne_2_6, weq_2_7, wne_2_7, weq_2_8, wne_2_8, wsh_3, wst_3, weq_3_0, wne_3_0, weq_3_1, wne_3_1, weq_3_2, wne_3_2, weq_3_3, weq_3_4, wne_3_4, weq_3_5, wne_3_5, weq_3_6, wne_3_6, weq_3_7, wne_3_7, weq_3_8, wne_3_8, wsh_4, wst_4, weq_4_0, wne_4_0, weq_4_1, wne_4_1, weq_4_2, wne_4_2, weq_4_3, wne_4_3, weq_4_4, weq_4_5, wne_4_5, weq_4_6, wne_4_6, weq_4_7, wne_4_7, weq_4_8, wne_4_8, wsh_5, wst_5, weq_5_0, wne_5_0, weq_5_1, wne_5_1, weq_5_2, wne_5_2, weq_5_3, wne_5_3, weq_5_4, wne_5_4, weq_5_5, weq_5_6, wne_5_6, weq_5_7, wne_5_7, weq_5_8, wne_5_8, wsh_6, wst_6, weq_6_0, wne_6_0, weq_6_1, wne_6_1, weq_6_2, wne_6_2, weq_6_3, wne_6_3, weq_6_4, wne_6_4, weq_6_5, wne_6_5, weq_6_6, weq_6_7, wne_6_7, weq_6_8, wne_6_8, wsh_7, wst_7, weq_7_0, wne_7_0, weq_7_1, wne_7_1, weq_7_2, wne_7_2, weq_7_3, wne_7_3, weq_7_4, wne_7_4, weq_7_5, wne_7_5, weq_7_6, wne_7_6, weq_7_7, weq_7_8, wne_7_8, wsh_8, wst_8, weq_8_0, wne_8_0, weq_8_1, wne_8_1, weq_8_2, wne_8_2, weq_8_3, wne_8_3, weq_8_4, wne_8_4, weq_8_5, wne_8_5, weq_8_6, wne_8_6, weq_8_7, wne_8_7, weq_8_8])

theorem map_on {α : Type} {f : PyData → W PyData} {E h : α → PyData} {t : Rs} : ∀ {fs : List α} {P : List PyData → Rs → Prop}, (∀ x ∈ fs, ∀ Q : PyData → Rs → Prop, Q (h x) t → f (E x) t Q) → P (fs.map h) t → mapW f (fs.map E) t P
  | [], P, _, q => q
  | x :: r, P, h, q => h x (List.mem_cons_self ..) _ (map_on (fun y hy => h y (List.mem_cons_of_mem _ hy)) q)
/-! ### all parts of an expression -/
structure Sk where
  ps : List PyData
  e : PyData
  gs : List (List Str)
structure Fd where
  p : PyData
  e : PyData
  g : List Str
def skE (x : Sk) : PyData := ent x.ps x.e
def fdE (x : Fd) : PyData := .tuple [x.p, x.e]
/-- what holds ahead of a turn -/
structure Pt (total : List (List Str)) (n : Nat) (s : List PyData × List PyData) : Prop where
  ex : ∃ (fs : List Fd) (st : List Sk), s.1 = fs.map fdE ∧ s.2.reverse = st.map skE ∧ (∀ x ∈ fs, Hd x.e x.g) ∧ (∀ x ∈ st, ∃ k, Ex k x.e x.gs ∧ k + x.ps.length ≤ 20) ∧ fs.map (·.g) ++ (st.map (·.gs)).flatten = total ∧ n = (st.map (·.gs.length)).sum
theorem Ex.kids {k : Nat} {e : PyData} {gs : List (List Str)} (h : Ex k e gs) : ∃ (g : List Str) (ks : List (PyData × List (List Str))), Hd e g ∧ Kd e ks ∧ gs = g :: (ks.map (·.2)).flatten ∧ ∀ c ∈ ks, ∃ j, j < k ∧ Ex j c.1 c.2 := by
  cases h with
  | int h => exact ⟨_, [], .int h, .int, rfl, by simp⟩
  | item h => exact ⟨_, [], .item h, .item, rfl, by simp⟩
  | @un n c gc h => exact ⟨_, [(c, gc)], .word (by simp), .un, by simp, by simp; exact ⟨n, by omega, h⟩⟩
  | @bin n w a b ga gb hw ha hb => exact ⟨_, [(a, ga), (b, gb)], .word (by simp only [List.mem_cons, List.not_mem_nil, or_false] at hw ⊢; exact .inr hw), .bin hw, by simp, by simp; exact ⟨⟨n, by omega, ha⟩, ⟨n, by omega, hb⟩⟩⟩
def kidS (ps : List PyData) : Nat → List (PyData × List (List Str)) → List Sk
  | _, [] => []
  | n, k :: r => ⟨ps ++ [.int (n : Nat)], k.1, k.2⟩ :: kidS ps (n + 1) r
theorem kidS_E (ps : List PyData) : ∀ (n : Nat) (ks : List (PyData × List (List Str))), (kidS ps n ks).map skE = kidE ps n ks
  | _, [] => rfl
  | n, k :: r => by rw [kidS, List.map_cons, kidS_E ps (n + 1) r, kidE]; rfl
theorem kidS_gs (ps : List PyData) : ∀ (n : Nat) (ks : List (PyData × List (List Str))), (kidS ps n ks).map (·.gs) = ks.map (·.2)
  | _, [] => rfl
  | n, k :: r => by rw [kidS, List.map_cons, kidS_gs ps (n + 1) r]; rfl
theorem kidS_mem {ps : List PyData} : ∀ {n : Nat} {ks : List (PyData × List (List Str))} {x : Sk}, x ∈ kidS ps n ks → x.ps.length = ps.length + 1 ∧ ∃ c ∈ ks, x.e = c.1 ∧ x.gs = c.2
  | _, [], x, h => by cases h
  | n, k :: r, x, h => by
    rcases List.mem_cons.mp h with rfl | h
    · exact ⟨by simp, k, List.mem_cons_self .., rfl, rfl⟩
    · obtain ⟨a, c, hc, b⟩ := kidS_mem h
      exact ⟨a, c, List.mem_cons_of_mem _ hc, b⟩
theorem Kd.len {e : PyData} {ks : List (PyData × List (List Str))} (h : Kd e ks) : ks.length ≤ 2 := by cases h <;> simp
theorem kidE_len (ps : List PyData) : ∀ (n : Nat) (ks : List (PyData × List (List Str))), (kidE ps n ks).length = ks.length
  | _, [] => rfl
  | n, k :: r => by rw [kidE, List.length_cons, kidE_len, List.length_cons]
theorem st_len : ∀ {st : List Sk}, (∀ x ∈ st, ∃ k, Ex k x.e x.gs ∧ k + x.ps.length ≤ 20) → st.length ≤ (st.map (·.gs)).flatten.length
  | [], _ => Nat.zero_le _
  | x :: r, h => by
    obtain ⟨k, hx, _⟩ := h x (List.mem_cons_self ..)
    have h1 := List.length_pos_iff.mpr hx.gok.pos
    have h2 := st_len fun y hy => h y (List.mem_cons_of_mem _ hy)
    rw [List.map_cons, List.flatten_cons, List.length_append, List.length_cons]
    omega
section
variable {t : Rs} {P : B → Rs → Prop}
theorem p_parts {k : Nat} {e : PyData} {gs : List (List Str)} (h : Ex k e gs) (hk : k ≤ 8) (q : ∀ fs : List Fd, fs.map (·.g) = gs → (∀ x ∈ fs, Hd x.e x.g) → P (.d (.tuple (fs.map fdE))) t) : m_parts_of [.d e] t P := by
  have gk := h.gok
  have len : gs.length ≤ 511 := by
    have h1 := gk.len
    have h3 : 2 ^ (k + 1) ≤ 2 ^ 9 := Nat.pow_le_pow_right (by decide) (by omega)
    have : (2 : Nat) ^ 9 = 512 := by decide
    omega
  unfold m_parts_of
  walk_at "w"
  refine ⟨gs.length + 1, ?_⟩
  refine wh_cps (fun n s t' => Pt gs n s ∧ t' = t) (fun n s t' hI Q hQ => ?_) ?_ (fun s t' hI => ?_) gs.length (([] : List PyData), [ent [] e]) t ⟨⟨[], [⟨[], e, gs⟩], rfl, rfl, by simp, by simp; exact ⟨k, h, by omega⟩, by simp, by simp⟩, rfl⟩
  · obtain ⟨⟨fs, st, e1, e2, hf, hst, ht, hn⟩, rfl⟩ := hI
    obtain ⟨s1, s2⟩ := s
    simp only at e1 e2
    subst e1
    cases st with
    | nil => simp at hn
    | cons x r =>
      have es : s2 = (r.map skE).reverse ++ [skE x] := by
        have := congrArg List.reverse e2
        rw [List.reverse_reverse, List.map_cons, List.reverse_cons] at this
        exact this
      subst es
      obtain ⟨j, hx, hj⟩ := hst x (List.mem_cons_self ..)
      obtain ⟨g, ks, hd, kd, eg, hks⟩ := hx.kids
      walk_at "w"
      refine ⟨by simp, ?_⟩
      unfold popW
      rw [List.getLast?_concat, List.dropLast_concat]
      show two _ (ent x.ps x.e) _ _
      walk_at "w"
      have lf : fs.length ≤ 511 := by
        have := congrArg List.length ht
        rw [List.length_append, List.length_map] at this
        omega
      refine ⟨by rw [List.length_map]; omega, ?_⟩
      refine p_inner (by omega) kd ?_
      walk_at "w"
      have lr : r.length ≤ 511 := by
        have h1 := st_len fun y hy => hst y (List.mem_cons_of_mem _ hy)
        have h2 := congrArg List.length ht
        rw [List.length_append, List.map_cons, List.flatten_cons, List.length_append] at h2
        omega
      refine ⟨by rw [List.length_reverse, List.length_reverse, List.length_map, kidE_len]; have := kd.len; omega, ?_⟩
      refine hQ _ _ ⟨⟨fs ++ [⟨.tuple x.ps, x.e, g⟩], kidS x.ps 1 ks ++ r, ?_, ?_, ?_, ?_, ?_, ?_⟩, rfl⟩
      · rw [List.map_append]
        rfl
      · rw [List.reverse_append, List.reverse_reverse, List.reverse_reverse, List.map_append, kidS_E]
      · intro y hy
        rcases List.mem_append.mp hy with hy | hy
        · exact hf y hy
        · obtain rfl : y = ⟨.tuple x.ps, x.e, g⟩ := by simpa using hy
          exact hd
      · intro y hy
        rcases List.mem_append.mp hy with hy | hy
        · obtain ⟨a, c, hc, b1, b2⟩ := kidS_mem hy
          obtain ⟨j2, hj2, hc2⟩ := hks c hc
          exact ⟨j2, by rw [b1, b2]; exact hc2, by omega⟩
        · exact hst y (List.mem_cons_of_mem _ hy)
      · rw [← ht, List.map_append, List.map_append, List.flatten_append, kidS_gs]
        have e7 : (List.map (fun x => x.gs) (x :: r)).flatten = g :: ((List.map (fun x => x.snd) ks).flatten ++ (List.map (fun x => x.gs) r).flatten) := by
          rw [List.map_cons, List.flatten_cons, eg, List.cons_append]
        rw [e7]
        simp
      · have e5 : ((kidS x.ps 1 ks).map (·.gs.length)).sum = (ks.map (·.2)).flatten.length := by
          have : (kidS x.ps 1 ks).map (·.gs.length) = ((kidS x.ps 1 ks).map (·.gs)).map List.length := by rw [List.map_map]; rfl
          rw [this, kidS_gs, List.length_flatten]
        rw [List.map_append, List.sum_append, e5]
        rw [List.map_cons, List.sum_cons, eg, List.length_cons] at hn
        omega
  · intro s t' Q Q' i z
    exact i _ _ z
  · obtain ⟨⟨fs, st, e1, e2, hf, hst, ht, hn⟩, rfl⟩ := hI
    obtain ⟨s1, s2⟩ := s
    simp only at e1 e2
    subst e1
    cases st with
    | cons x r =>
      obtain ⟨j, hx, hj⟩ := hst x (List.mem_cons_self ..)
      have := hx.gok.pos
      have := List.length_pos_iff.mpr this
      rw [List.map_cons, List.sum_cons] at hn
      omega
    | nil =>
      have : s2 = [] := by simpa using e2
      subst this
      walk_at "w"
      refine ⟨by simp, ?_⟩
      exact q fs (by simpa using ht) hf
theorem p_expr {k : Nat} {e : PyData} {gs : List (List Str)} (h : Ex k e gs) (hk : k ≤ 8) (q : P (.d (.str (Txt.join " " gs.flatten))) t) : m_expression_text [.d e] t P := by
  have gk := h.gok
  have len : gs.length ≤ 511 := by
    have h1 := gk.len
    have h3 : 2 ^ (k + 1) ≤ 2 ^ 9 := Nat.pow_le_pow_right (by decide) (by omega)
    have : (2 : Nat) ^ 9 = 512 := by decide
    omega
  unfold m_expression_text
  walk_at "w"
  refine p_parts h hk fun fs eg hf => ?_
  walk_at "w"
  have lf : fs.length = gs.length := by rw [← eg, List.length_map]
  refine ⟨by rw [List.length_map]; omega, ?_⟩
  refine map_on (h := fun x : Fd => .str (Txt.join " " x.g)) (fun x hx Q hQ => ?_) ?_
  · show two _ (.tuple [x.p, x.e]) _ _
    walk_at "w"
    refine p_head (hf x hx) ?_
    walk_at "w"
    exact hQ
  · walk_at "w"
    have e2 : (fs.map fun x => PyData.str (Txt.join " " x.g)) = (gs.map (Txt.join " ")).map PyData.str := by rw [← eg, List.map_map, List.map_map]; rfl
    rw [e2, joinD_ap, jn_join " " gk.ne]
    refine ⟨jn_fit (n := 900) (m := 511) (fun s hs => ?_) (by rw [List.length_map]; exact len) (by decide +kernel) (by decide), by walk_at "w"; exact q⟩
    obtain ⟨g, hg, rfl⟩ := List.mem_map.mp hs
    have := (jn_tx (y := " ") (n := 298) (m := 2) (ss := g) (fun w hw => gk.tx g hg w hw) (gk.two g hg) ⟨by decide +kernel, by decide +kernel⟩).len
    omega
/-- the text of an expression -/
theorem ex_tx {k : Nat} {e : PyData} {gs : List (List Str)} (h : Ex k e gs) (hk : k ≤ 3) : Tx 9000 (Txt.join " " gs.flatten) := by
  have gk := h.gok
  have h1 := gk.len
  have h3 : 2 ^ (k + 1) ≤ 2 ^ 4 := Nat.pow_le_pow_right (by decide) (by omega)
  have : (2 : Nat) ^ 4 = 16 := by decide
  have h2 : gs.flatten.length ≤ 30 := by
    have h4 : ∀ {gs : List (List Str)}, (∀ g ∈ gs, g.length ≤ 2) → gs.flatten.length ≤ 2 * gs.length := by
      intro gs
      induction gs with
      | nil => simp
      | cons a r ih =>
        intro h
        have h3 := h a (List.mem_cons_self ..)
        have h4 := ih fun q hq => h q (List.mem_cons_of_mem _ hq)
        rw [List.flatten_cons, List.length_append, List.length_cons]
        omega
    have := h4 gk.two
    omega
  exact (jn_tx (n := 298) (m := 30) (fun s hs => by
    obtain ⟨g, hg, hw⟩ := List.mem_flatten.mp hs
    exact gk.tx g hg s hw) h2 ⟨by decide +kernel, by decide +kernel⟩).mono (by decide)
end
end K09
end
section
set_option maxRecDepth 100000
set_option maxHeartbeats 4000000
namespace K09
open PySem PySem.Spec PyProof.Rows L2 Dl Dw Dz
open Dw (ret)
local macro_rules | `(tactic| walk_at "w") => `(tactic| try simp only [bnd_ap, ret_ap, need_ap, op1_ap, op2_ap, dA_ap, rdA_ap, callN_ap, asD_d, asD_own, asO_own, asB_b, asT_ap, froz_ap, disp_ap, ifW_ap, andT_ap, orT_ap, notT_ap, andW_b, orW_b, thn_ap, joi_ap, upO_ap, fnW_ap, fnU_ap, compW_ap, compO_ap, optW_ap, itL_ap, itT_ap, rng1_ap, rng2_ap, slT_ap, slL_ap, oN_ap, oS_ap, consA_ap, catL_ap, two_ap, three_ap, twoL_ap, threeL_ap, oadd_i, osub_i, omul_i, oneg_i, olt_i, ole_i, onot_b, oisi_ap, otup_l, otup_t, oint_i, olen_t, olen_l, arg0_ap, arg1_ap, arg2_ap, arg3_ap, arg4_ap, arg5_ap, argR0_ap, argR1_ap, argR2_ap, argR3_ap, dsOf, Option.map_some, Option.map_none, List.length_cons, List.length_nil, Nat.reduceAdd, Nat.reduceLeDiff, true_and, and_true, cond_t, cond_f, Bool.not_true, Bool.not_false, truD, neS_ap, ofdiv_i, decide_true, decide_false, oeq_ap, one_ap, eqvStr, eqvInt, eqvBool, shInt, shBool, and_self, isI_i, isB_i, isI_t, isI_b, isB_b, isT_i, isT_t, joinW_ap, joinD_ap, ofmt_s, ofmt_i, ostr_i, js_nil, js_cons, catS_ap, extV_ap, revL_ap, asL_t, starD_t, dsOf_star, eqSW_ap, strOk, beq_self_eq_true, b_tf, b_ft, Bool.or_true, Bool.true_or, Bool.or_false, Bool.false_or, Bool.and_true, Bool.and_false, Bool.false_and, Bool.true_and, wsh_0, wst_0, weq_0_0, weq_0_1, wne_0_1, weq_0_2, wne_0_2, weq_0_3, wne_0_3, weq_0_4, wne_0_4, weq_0_5, wne_0_5, weq_0_6, wne_0_6, weq_0_7, wne_0_7, weq_0_8, wne_0_8, wsh_1, wst_1, weq_1_0, wne_1_0, weq_1_1, weq_1_2, wne_1_2, weq_1_3, wne_1_3, weq_1_4, wne_1_4, weq_1_5, wne_1_5, weq_1_6, wne_1_6, weq_1_7, wne_1_7, weq_1_8, wne_1_8, wsh_2, wst_2, weq_2_0, wne_2_0, weq_2_1, wne_2_1, weq_2_2, weq_2_3, wne_2_3, weq_2_4, wne_2_4, weq_2_5, wne_2_5, weq_2_6, wne_2_6, weq_2_7, wne_2_7, weq_2_8, wne_2_8, wsh_3, wst_3, weq_3_0, wne_3_0, weq_3_1, wne_3_1, weq_3_2, wne_3_2, weq_3_3, weq_3_4, wne_3_4, weq_3_5, wne_3_5, weq_3_6, wne_3_6, weq_3_7, wne_3_7, weq_3_8, wne_3_8, wsh_4, wst_4, weq_4_0, wne_4_0, weq_4_1, wne_4_1, weq_4_2, wne_4_2, weq_4_3, wne_4_3, weq_4_4, weq_4_5, wne_4_5, weq_4_6, wne_4_6, weq_4_7, wne_4_7, weq_4_8, wne_4_8, wsh_5, wst_5, weq_5_0, wne_5_0, weq_5_1, wne_5_1, weq_5_2, wne_5_2, weq_5_3, wne_5_3, weq_5_4, wne_5_4, weq_5_5, weq_5_6, wne_5_6, weq_5_7, wne_5_7, weq_5_8, wne_5_8, wsh_6, wst_6, weq_6_0, wne_6_0, weq_6_1, wne_6_1, weq_6_2, wne_6_2, weq_6_3, wne_6_3, weq_6_4, wne_6_4, weq_6_5, wne_6_5, weq_6_6, weq_6_7, wne_6_7, weq_6_8, wne_6_8, wsh_7, wst_7, weq_7_0, wne_7_0, weq_7_1, wne_7_1, weq_7_2, wne_7_2, weq_7_3, wne_7_3, weq_7_4, wne_7_4, weq_7_5, wne_7_5, weq_7_6, wne_7_6, weq_7_7, weq_7_8, wne_7_8, wsh_8, wst_8, weq_8_0, wne_8_0, weq_8_1, wne_8_1, weq_8_2, wne_8_2, weq_8_3, wne_8_3, weq_8_4, wne_8_4, weq_8_5, wne_8_5, weq_8_6, wne_8_6, weq_8_7, wne_8_7, weq_8_8])

theorem l_item : ("item " : Str).length = 5 := by decide +kernel
theorem l_rule : ("rule " : Str).length = 5 := by decide +kernel
theorem l_hand : ("hand " : Str).length = 5 := by decide +kernel
theorem l_deed : ("deed " : Str).length = 5 := by decide +kernel
theorem l_sp : (" " : Str).length = 1 := by decide +kernel
theorem l_cm : ("," : Str).length = 1 := by decide +kernel
theorem l_sc : (";" : Str).length = 1 := by decide +kernel
theorem l_nl : ("\n" : Str).length = 1 := by decide +kernel
theorem tx_sp : Tx 1 " " := ⟨by decide +kernel, by decide +kernel⟩
theorem tx_cm : Tx 1 "," := ⟨by decide +kernel, by decide +kernel⟩
theorem tx_sc : Tx 1 ";" := ⟨by decide +kernel, by decide +kernel⟩
theorem tx_nl : Tx 1 "\n" := ⟨by decide +kernel, by decide +kernel⟩
theorem tx_item : Tx 5 "item " := ⟨by decide +kernel, by decide +kernel⟩
theorem tx_rule : Tx 5 "rule " := ⟨by decide +kernel, by decide +kernel⟩
theorem tx_hand : Tx 5 "hand " := ⟨by decide +kernel, by decide +kernel⟩
theorem tx_deed : Tx 5 "deed " := ⟨by decide +kernel, by decide +kernel⟩
/-! ### sums -/
abbrev nT (ns : List Int) : PyData := .tuple (ns.map PyData.int)
def sumT (ns : List Int) : Str := Txt.join "," (ns.map ts)
/-- twelve integers at most, none too large -/
structure Sm12 (ns : List Int) : Prop where
  len : ns.length ≤ 12
  lt : ∀ i ∈ ns, i.natAbs < 2 ^ 200
theorem Sm12.tx {ns : List Int} (h : Sm12 ns) : Tx 3588 (sumT ns) := jn_tx (n := 298) (m := 12) (fun s hs => by
  obtain ⟨i, hi, rfl⟩ := List.mem_map.mp hs
  exact tx_int (lt256 (h.lt i hi))) (by rw [List.length_map]; exact h.len) tx_cm
section
variable {t : Rs} {P : B → Rs → Prop}
theorem p_sum {ns : List Int} (h : Sm12 ns) (q : P (.d (.str (sumT ns))) t) : m_sum_text [.d (nT ns)] t P := by
  unfold m_sum_text
  walk_at "w"
  refine ⟨by rw [List.length_map]; have := h.len; omega, ?_⟩
  refine map_on (h := fun i : Int => .str (ts i)) (fun i hi Q hQ => ?_) ?_
  · walk_at "w"
    exact ⟨log_ok (h.lt i hi), hQ⟩
  · walk_at "w"
    have e2 : (ns.map fun i => PyData.str (ts i)) = (ns.map ts).map PyData.str := by rw [List.map_map]; rfl
    rw [e2, joinD_ap]
    refine ⟨jn_fit (n := 298) (m := 12) (fun s hs => ?_) (by rw [List.length_map]; exact h.len) (by decide +kernel) (by decide), by walk_at "w"; exact q⟩
    obtain ⟨i, hi, rfl⟩ := List.mem_map.mp hs
    exact (tx_int (lt256 (h.lt i hi))).len
theorem q_sum {ns : List Int} (h : Sm12 ns) (q : P (.d (.str (sumT ns))) t) : m_l_sum_text [.d (nT ns)] t P := by
  unfold m_l_sum_text
  walk_at "w"
  refine ⟨by rw [List.length_map]; have := h.len; omega, ?_⟩
  refine map_on (h := fun i : Int => .str (ts i)) (fun i hi Q hQ => ?_) ?_
  · walk_at "w"
    exact ⟨log_ok (h.lt i hi), hQ⟩
  · walk_at "w"
    have e2 : (ns.map fun i => PyData.str (ts i)) = (ns.map ts).map PyData.str := by rw [List.map_map]; rfl
    rw [e2, joinD_ap]
    refine ⟨jn_fit (n := 298) (m := 12) (fun s hs => ?_) (by rw [List.length_map]; exact h.len) (by decide +kernel) (by decide), by walk_at "w"; exact q⟩
    obtain ⟨i, hi, rfl⟩ := List.mem_map.mp hs
    exact (tx_int (lt256 (h.lt i hi))).len
/-! ### sets of sums -/
def sumsT (nss : List (List Int)) : Str := if nss = [] then "-" else Txt.join ";" (nss.map sumT)
structure Ss (nss : List (List Int)) : Prop where
  len : nss.length ≤ 12
  sm : ∀ ns ∈ nss, Sm12 ns
theorem Ss.tx {nss : List (List Int)} (h : Ss nss) : Tx 43068 (sumsT nss) := by
  unfold sumsT
  by_cases e : nss = []
  · rw [if_pos e]
    exact ⟨by decide +kernel, by decide +kernel⟩
  · rw [if_neg e]
    exact jn_tx (n := 3588) (m := 12) (fun s hs => by
      obtain ⟨i, hi, rfl⟩ := List.mem_map.mp hs
      exact (h.sm i hi).tx) (by rw [List.length_map]; exact h.len) tx_sc
theorem p_sums {nss : List (List Int)} (h : Ss nss) (q : P (.d (.str (sumsT nss))) t) : m_sums_text [.d (.tuple (nss.map nT))] t P := by
  unfold m_sums_text
  walk_at "w"
  unfold sumsT at q
  cases nss with
  | nil =>
    walk_at "w"
    simp only [List.map_nil, List.isEmpty_nil]
    walk_at "w"
    rw [if_pos rfl] at q
    exact q
  | cons a r =>
    simp only [List.map_cons, List.isEmpty_cons]
    walk_at "w"
    rw [if_neg (by simp)] at q
    rw [← List.map_cons (f := nT)]
    refine ⟨by have := h.len; simp only [List.length_cons, List.length_map] at this ⊢; omega, ?_⟩
    refine map_on (h := fun i : List Int => .str (sumT i)) (fun i hi Q hQ => ?_) ?_
    · walk_at "w"
      refine p_sum (h.sm i hi) ?_
      walk_at "w"
      exact hQ
    · walk_at "w"
      have e2 : ((a :: r).map fun i => PyData.str (sumT i)) = ((a :: r).map sumT).map PyData.str := by rw [List.map_map]; rfl
      rw [e2, joinD_ap]
      refine ⟨jn_fit (n := 3588) (m := 12) (fun s hs => ?_) (by rw [List.length_map]; exact h.len) (by decide +kernel) (by decide), by walk_at "w"; exact q⟩
      obtain ⟨i, hi, rfl⟩ := List.mem_map.mp hs
      exact (h.sm i hi).tx.len
theorem shaped_nil : SeqAt.shaped (.tuple []) = true := shaped_intsT []
theorem eqv_nil : PyData.eqv (.tuple []) (.tuple []) = true := by simp [PyData.eqv, PyData.eqvAll]
theorem eqv_cons (a : PyData) (r : List PyData) : PyData.eqv (.tuple (a :: r)) (.tuple []) = false := by simp [PyData.eqv, PyData.eqvAll]
theorem lay_rows : ∀ nss : List (List Int), PyData.canLayAll0 (nss.map nT) = true
  | [] => by simp [PyData.canLayAll0]
  | a :: r => by
    have := lay_rows r
    have h2 := lay_ints a
    simp only [List.map_cons, PyData.canLayAll0, PyData.canLay0, Bool.and_eq_true]
    exact ⟨h2, this⟩
theorem dep_rows : ∀ nss : List (List Int), PyData.depthAll (nss.map nT) ≤ 2
  | [] => by simp [PyData.depthAll]
  | n :: ns => by
    have h := dep_rows ns
    have h2 := dep_ints n
    simp only [List.map_cons, PyData.depthAll, PyData.depth]
    omega
theorem shaped_rows (nss : List (List Int)) : SeqAt.shaped (.tuple (nss.map nT)) = true := by
  refine shaped_of (by simp only [PyData.canLay0]; exact lay_rows nss) ?_
  have h := dep_rows nss
  simp only [PyData.depth]
  omega
theorem q_sums {nss : List (List Int)} (h : Ss nss) (q : P (.d (.str (sumsT nss))) t) : m_l_sums_text [.d (.tuple (nss.map nT))] t P := by
  unfold m_l_sums_text
  walk_at "w"
  refine ⟨⟨shaped_rows _, shaped_nil⟩, ?_⟩
  walk_at "w"
  unfold sumsT at q
  cases nss with
  | nil =>
    simp only [List.map_nil, eqv_nil]
    walk_at "w"
    rw [if_pos rfl] at q
    exact q
  | cons a r =>
    simp only [List.map_cons, eqv_cons]
    walk_at "w"
    rw [if_neg (by simp)] at q
    rw [← List.map_cons (f := nT)]
    refine ⟨by have := h.len; simp only [List.length_cons, List.length_map] at this ⊢; omega, ?_⟩
    refine map_on (h := fun i : List Int => .str (sumT i)) (fun i hi Q hQ => ?_) ?_
    · walk_at "w"
      refine q_sum (h.sm i hi) ?_
      walk_at "w"
      exact hQ
    · walk_at "w"
      have e2 : ((a :: r).map fun i => PyData.str (sumT i)) = ((a :: r).map sumT).map PyData.str := by rw [List.map_map]; rfl
      rw [e2, joinD_ap]
      refine ⟨jn_fit (n := 3588) (m := 12) (fun s hs => ?_) (by rw [List.length_map]; exact h.len) (by decide +kernel) (by decide), by walk_at "w"; exact q⟩
      obtain ⟨i, hi, rfl⟩ := List.mem_map.mp hs
      exact (h.sm i hi).tx.len
end
end K09
end
section
set_option maxRecDepth 100000
set_option maxHeartbeats 4000000
namespace K09
open PySem PySem.Spec PyProof.Rows L2 Dl Dw Dz
open Dw (ret)
local macro_rules | `(tactic| walk_at "w") => `(tactic| try simp only [bnd_ap, ret_ap, need_ap, op1_ap, op2_ap, dA_ap, rdA_ap, callN_ap, asD_d, asD_own, asO_own, asB_b, asT_ap, froz_ap, disp_ap, ifW_ap, andT_ap, orT_ap, notT_ap, andW_b, orW_b, thn_ap, joi_ap, upO_ap, fnW_ap, fnU_ap, compW_ap, compO_ap, optW_ap, itL_ap, itT_ap, rng1_ap, rng2_ap, slT_ap, slL_ap, oN_ap, oS_ap, consA_ap, catL_ap, two_ap, three_ap, twoL_ap, threeL_ap, oadd_i, osub_i, omul_i, oneg_i, olt_i, ole_i, onot_b, oisi_ap, otup_l, otup_t, oint_i, olen_t, olen_l, arg0_ap, arg1_ap, arg2_ap, arg3_ap, arg4_ap, arg5_ap, argR0_ap, argR1_ap, argR2_ap, argR3_ap, dsOf, Option.map_some, Option.map_none, List.length_cons, List.length_nil, Nat.reduceAdd, Nat.reduceLeDiff, true_and, and_true, cond_t, cond_f, Bool.not_true, Bool.not_false, truD, neS_ap, ofdiv_i, decide_true, decide_false, oeq_ap, one_ap, eqvStr, eqvInt, eqvBool, shInt, shBool, and_self, isI_i, isB_i, isI_t, isI_b, isB_b, isT_i, isT_t, joinW_ap, joinD_ap, ofmt_s, ofmt_i, ostr_i, js_nil, js_cons, catS_ap, extV_ap, revL_ap, asL_t, starD_t, dsOf_star, eqSW_ap, strOk, beq_self_eq_true, b_tf, b_ft, Bool.or_true, Bool.true_or, Bool.or_false, Bool.false_or, Bool.and_true, Bool.and_false, Bool.false_and, Bool.true_and, wsh_0, wst_0, weq_0_0, weq_0_1, wne_0_1, weq_0_2, wne_0_2, weq_0_3, wne_0_3, weq_0_4, wne_0_4, weq_0_5, wne_0_5, weq_0_6, wne_0_6, weq_0_7, wne_0_7, weq_0_8, wne_0_8, wsh_1, wst_1, weq_1_0, wne_1_0, weq_1_1, weq_1_2, wne_1_2, weq_1_3, wne_1_3, weq_1_4, wne_1_4, weq_1_5, wne_1_5, weq_1_6, wne_1_6, weq_1_7, wne_1_7, weq_1_8, wne_1_8, wsh_2, wst_2, weq_2_0, wne_2_0, weq_2_1, wne_2_1, weq_2_2, weq_2_3, wne_2_3, weq_2_4, wne_2_4, weq_2_5, wne_2_5, weq_2_6, wne_2_6, weq_2_7, wne_2_7, weq_2_8, wne_2_8, wsh_3, wst_3, weq_3_0, wne_3_0, weq_3_1, wne_3_1, weq_3_2, wne_3_2, weq_3_3, weq_3_4, wne_3_4, weq_3_5, wne_3_5, weq_3_6, wne_3_6, weq_3_7, wne_3_7, weq_3_8, wne_3_8, wsh_4, wst_4, weq_4_0, wne_4_0, weq_4_1, wne_4_1, weq_4_2, wne_4_2, weq_4_3, wne_4_3, weq_4_4, weq_4_5, wne_4_5, weq_4_6, wne_4_6, weq_4_7, wne_4_7, weq_4_8, wne_4_8, wsh_5, wst_5, weq_5_0, wne_5_0, weq_5_1, wne_5_1, weq_5_2, wne_5_2, weq_5_3, wne_5_3, weq_5_4, wne_5_4, weq_5_5, weq_5_6, wne_5_6, weq_5_7, wne_5_7, weq_5_8, wne_5_8, wsh_6, wst_6, weq_6_0, wne_6_0, weq_6_1, wne_6_1, weq_6_2, wne_6_2, weq_6_3, wne_6_3, weq_6_4, wne_6_4, weq_6_5, wne_6_5, weq_6_6, weq_6_7, wne_6_7, weq_6_8, wne_6_8, wsh_7, wst_7, weq_7_0, wne_7_0, weq_7_1, wne_7_1, weq_7_2, wne_7_2, weq_7_3, wne_7_3, weq_7_4, wne_7_4, weq_7_5, wne_7_5, weq_7_6, wne_7_6, weq_7_7, weq_7_8, wne_7_8, wsh_8, wst_8, weq_8_0, wne_8_0, weq_8_1, wne_8_1, weq_8_2, wne_8_2, weq_8_3, wne_8_3, weq_8_4, wne_8_4, weq_8_5, wne_8_5, weq_8_6, wne_8_6, weq_8_7, wne_8_7, weq_8_8])

/-! ### stores and their lines -/
abbrev itE (x : Str × Int × Int) : PyData := .tuple [.str x.1, .int x.2.1, .int x.2.2]
abbrev ddE (d : Str × List Int) : PyData := .tuple [.str d.1, nT d.2]
abbrev hnE (h : Str × List (Str × List Int)) : PyData := .tuple [.str h.1, .tuple (h.2.map ddE)]
abbrev rlE (r : PyData × List (List Str)) : PyData := r.1
def itL (x : Str × Int × Int) : Str := ("item " : Str) ++ x.1 ++ " " ++ ts x.2.1 ++ " " ++ ts x.2.2
def rlL (r : PyData × List (List Str)) : Str := ("rule " : Str) ++ Txt.join " " r.2.flatten
def ddL (d : Str × List Int) : Str := ("deed " : Str) ++ d.1 ++ " " ++ sumT d.2
def hnL (h : Str × List (Str × List Int)) : List Str := (("hand " : Str) ++ h.1) :: h.2.map ddL
abbrev stE (its : List (Str × Int × Int)) (rs : List (PyData × List (List Str))) (hs : List (Str × List (Str × List Int))) : PyData := .tuple [.tuple (its.map itE), .tuple (rs.map rlE), .tuple (hs.map hnE)]
def lns (its : List (Str × Int × Int)) (rs : List (PyData × List (List Str))) (hs : List (Str × List (Str × List Int))) : List Str := its.map itL ++ rs.map rlL ++ (hs.map hnL).flatten
structure OkD (d : Str × List Int) : Prop where
  nm : Tx 8 d.1
  sm : Sm12 d.2
structure OkH (h : Str × List (Str × List Int)) : Prop where
  nm : Tx 8 h.1
  len : h.2.length ≤ 12
  dd : ∀ d ∈ h.2, OkD d
structure OkI (x : Str × Int × Int) : Prop where
  nm : Tx 8 x.1
  lo : x.2.1.natAbs < 2 ^ 200
  hi : x.2.2.natAbs < 2 ^ 200
structure Sto (its : List (Str × Int × Int)) (rs : List (PyData × List (List Str))) (hs : List (Str × List (Str × List Int))) : Prop where
  li : its.length ≤ 12
  lr : rs.length ≤ 12
  lh : hs.length ≤ 12
  ti : ∀ x ∈ its, OkI x
  tr : ∀ x ∈ rs, Ex 3 x.1 x.2
  th : ∀ x ∈ hs, OkH x
theorem OkI.tx {x : Str × Int × Int} (h : OkI x) : Tx 611 (itL x) := app_tx (n := 313) (m := 298) (app_tx (n := 312) (m := 1) (app_tx (n := 14) (m := 298) (app_tx (n := 13) (m := 1) (app_tx (n := 5) (m := 8) tx_item h.nm) tx_sp) (tx_int (lt256 h.lo))) tx_sp) (tx_int (lt256 h.hi))
theorem rl_tx {r : PyData × List (List Str)} (h : Ex 3 r.1 r.2) : Tx 9005 (rlL r) := app_tx (n := 5) (m := 9000) tx_rule (ex_tx h (by decide))
theorem OkD.tx {d : Str × List Int} (h : OkD d) : Tx 3602 (ddL d) := app_tx (n := 14) (m := 3588) (app_tx (n := 13) (m := 1) (app_tx (n := 5) (m := 8) tx_deed h.nm) tx_sp) h.sm.tx
theorem hd_tx {s : Str} (h : Tx 8 s) : Tx 13 (("hand " : Str) ++ s) := app_tx (n := 5) (m := 8) tx_hand h
theorem ex_words {k : Nat} {e : PyData} {gs : List (List Str)} (h : Ex k e gs) (hk : k ≤ 3) : gs.flatten.length ≤ 30 := by
  have gk := h.gok
  have h1 := gk.len
  have h3 : 2 ^ (k + 1) ≤ 2 ^ 4 := Nat.pow_le_pow_right (by decide) (by omega)
  have : (2 : Nat) ^ 4 = 16 := by decide
  have h4 : ∀ {gs : List (List Str)}, (∀ g ∈ gs, g.length ≤ 2) → gs.flatten.length ≤ 2 * gs.length := by
    intro gs
    induction gs with
    | nil => simp
    | cons a r ih =>
      intro h
      have h3 := h a (List.mem_cons_self ..)
      have h4 := ih fun q hq => h q (List.mem_cons_of_mem _ hq)
      rw [List.flatten_cons, List.length_append, List.length_cons]
      omega
  have := h4 gk.two
  omega
/-! weights -/
def wt (ss : List Str) : Nat := (ss.map (·.length)).sum + ss.length
theorem wt_app (a b : List Str) : wt (a ++ b) = wt a + wt b := by
  unfold wt
  rw [List.map_append, List.sum_append, List.length_append]
  omega
theorem wt_cons (a : Str) (b : List Str) : wt (a :: b) = a.length + 1 + wt b := by
  unfold wt
  rw [List.map_cons, List.sum_cons, List.length_cons]
  omega
theorem wt_map {α : Type} {f : α → Str} {c : Nat} : ∀ {xs : List α}, (∀ x ∈ xs, (f x).length + 1 ≤ c) → wt (xs.map f) ≤ xs.length * c
  | [], _ => by simp [wt]
  | x :: r, h => by
    have h1 := h x (List.mem_cons_self ..)
    have h2 := wt_map fun y hy => h y (List.mem_cons_of_mem _ hy)
    rw [List.map_cons, wt_cons, List.length_cons, Nat.add_mul]
    omega
theorem wt_flat {α : Type} {f : α → List Str} {c : Nat} : ∀ {xs : List α}, (∀ x ∈ xs, wt (f x) ≤ c) → wt (xs.map f).flatten ≤ xs.length * c
  | [], _ => by simp [wt]
  | x :: r, h => by
    have h1 := h x (List.mem_cons_self ..)
    have h2 := wt_flat fun y hy => h y (List.mem_cons_of_mem _ hy)
    rw [List.map_cons, List.flatten_cons, wt_app, List.length_cons, Nat.add_mul]
    omega
theorem OkH.wt {h : Str × List (Str × List Int)} (o : OkH h) : wt (hnL h) ≤ 43250 := by
  unfold hnL
  rw [wt_cons]
  have h1 := (hd_tx o.nm).len
  have h2 := wt_map (f := ddL) (c := 3603) (xs := h.2) fun d hd => by have := (o.dd d hd).tx.len; omega
  have h3 : h.2.length * 3603 ≤ 12 * 3603 := Nat.mul_le_mul_right _ o.len
  omega
theorem len_wt (ss : List Str) : ss.length ≤ wt ss := by unfold wt; omega
section
variable {its : List (Str × Int × Int)} {rs : List (PyData × List (List Str))} {hs : List (Str × List (Str × List Int))}
theorem Sto.wI (h : Sto its rs hs) : wt (its.map itL) ≤ 7344 := by
  have h2 := wt_map (f := itL) (c := 612) (xs := its) fun d hd => by have := (h.ti d hd).tx.len; omega
  have h3 : its.length * 612 ≤ 12 * 612 := Nat.mul_le_mul_right _ h.li
  omega
theorem Sto.wR (h : Sto its rs hs) : wt (rs.map rlL) ≤ 108072 := by
  have h2 := wt_map (f := rlL) (c := 9006) (xs := rs) fun d hd => by have := (rl_tx (h.tr d hd)).len; omega
  have h3 : rs.length * 9006 ≤ 12 * 9006 := Nat.mul_le_mul_right _ h.lr
  omega
theorem Sto.wH (h : Sto its rs hs) {hs' : List (Str × List (Str × List Int))} (hl : hs'.length ≤ 12) (hm : ∀ x ∈ hs', x ∈ hs) : wt (hs'.map hnL).flatten ≤ 519000 := by
  have h2 := wt_flat (f := hnL) (c := 43250) (xs := hs') fun d hd => (h.th d (hm d hd)).wt
  have h3 : hs'.length * 43250 ≤ 12 * 43250 := Nat.mul_le_mul_right _ hl
  omega
theorem Sto.wt (h : Sto its rs hs) : wt (lns its rs hs) ≤ 700000 := by
  have h1 := h.wI
  have h2 := h.wR
  have h3 := h.wH h.lh fun _ z => z
  unfold lns
  rw [wt_app, wt_app]
  omega
theorem Sto.lo (h : Sto its rs hs) : ∀ s ∈ lns its rs hs, ∀ c ∈ s.cps.toList, c < 128 := by
  intro s hs
  unfold lns at hs
  rw [List.mem_append, List.mem_append] at hs
  rcases hs with (hs | hs) | hs
  · obtain ⟨x, hx, rfl⟩ := List.mem_map.mp hs
    exact (h.ti x hx).tx.lo
  · obtain ⟨x, hx, rfl⟩ := List.mem_map.mp hs
    exact (rl_tx (h.tr x hx)).lo
  · obtain ⟨l, hl, hx⟩ := List.mem_flatten.mp hs
    obtain ⟨y, hy, rfl⟩ := List.mem_map.mp hl
    have o := h.th y hy
    rcases List.mem_cons.mp hx with rfl | hx
    · exact (hd_tx o.nm).lo
    · obtain ⟨d, hd, rfl⟩ := List.mem_map.mp hx
      exact (o.dd d hd).tx.lo
def stoT (its : List (Str × Int × Int)) (rs : List (PyData × List (List Str))) (hs : List (Str × List (Str × List Int))) : Str := Txt.join "\n" (lns its rs hs)
theorem Sto.tx (h : Sto its rs hs) : Tx 700000 (stoT its rs hs) := by
  refine ⟨?_, jn_lo tx_nl.lo h.lo⟩
  have h1 := jn_len "\n" (lns its rs hs)
  have h2 := h.wt
  rw [l_nl] at h1
  unfold K09.wt at h2
  unfold stoT
  omega
variable {t : Rs} {P : B → Rs → Prop}
theorem p_store (h : Sto its rs hs) (q : P (.d (.str (stoT its rs hs))) t) : m_store_text [.d (stE its rs hs)] t P := by
  unfold m_store_text
  walk_at "w"
  refine ⟨by rw [List.length_map]; have := h.li; omega, ?_⟩
  refine map_on (h := fun x => .str (itL x)) (fun x hx Q hQ => ?_) ?_
  · have o := h.ti x hx
    have n1 := o.nm.len
    have n2 : (Str.ofString (toString x.2.1)).length ≤ 298 := (tx_int (lt256 o.lo)).len
    have n3 : (Str.ofString (toString x.2.2)).length ≤ 298 := (tx_int (lt256 o.hi)).len
    have i1 := log_ok o.lo
    have i2 := log_ok o.hi
    walk_at "w"
    simp only [Str.empty_append]
    unfold itL at hQ
    repeat' refine And.intro ?_ ?_
    all_goals first | exact hQ | exact i1 | exact i2 | omega | (simp only [Str.length_append, l_item, l_sp]; omega)
  walk_at "w"
  refine ⟨by rw [List.length_map]; have := h.lr; omega, ?_⟩
  refine map_on (h := fun x => .str (rlL x)) (fun x hx Q hQ => ?_) ?_
  · have o := h.tr x hx
    have n1 := (ex_tx o (by decide)).len
    walk_at "w"
    refine ⟨by simp only [Str.empty_append, l_rule]; omega, ?_⟩
    refine p_expr o (by decide) ?_
    walk_at "w"
    simp only [Str.empty_append]
    unfold rlL at hQ
    repeat' refine And.intro ?_ ?_
    all_goals first | exact hQ | omega | (simp only [Str.length_append, l_rule]; omega)
  walk_at "w"
  have lI := h.wI
  have lR := h.wR
  have l1 := len_wt (its.map itL)
  have l2 := len_wt (rs.map rlL)
  have li := h.li
  have lr := h.lr
  refine ⟨by simp only [List.length_map]; omega, ?_⟩
  refine for_cps (fun r s t' => ∃ dn td, hs = dn ++ td ∧ r = td.map hnE ∧ s = (its.map itL ++ rs.map rlL ++ (dn.map hnL).flatten).map PyData.str ∧ t' = t) (fun x r s t' hI Q hQ => ?_) (fun s t' hI => ?_) _ _ _ ⟨[], hs, rfl, rfl, by simp [List.map_map, Function.comp_def], rfl⟩
  · obtain ⟨dn, td, e1, e2, rfl, rfl⟩ := hI
    cases td with
    | nil => simp at e2
    | cons y td =>
      simp only [List.map_cons, List.cons.injEq] at e2
      obtain ⟨rfl, rfl⟩ := e2
      have hy : y ∈ hs := by rw [e1]; simp
      have o := h.th y hy
      have n1 := o.nm.len
      have wd := h.wH (hs' := dn) (by have := h.lh; rw [e1] at this; simp at this; omega) (fun z hz => by rw [e1]; exact List.mem_append_left _ hz)
      have l3 := len_wt (dn.map hnL).flatten
      have ll := o.len
      walk_at "w"
      refine ⟨by simp only [Str.empty_append, l_hand]; omega, by omega, by simp only [Str.empty_append, Str.length_append, l_hand]; omega, ?_⟩
      refine ⟨by simp only [List.length_map, List.length_append] at l1 l2 l3 ⊢; omega, ?_⟩
      refine ⟨by rw [List.length_map]; omega, ?_⟩
      refine map_on (h := fun d => .str (ddL d)) (fun d hd Q2 hQ2 => ?_) ?_
      · have od := o.dd d hd
        have n1 := od.nm.len
        have n2 := od.sm.tx.len
        walk_at "w"
        refine ⟨by simp only [Str.empty_append, l_deed]; omega, by omega, by simp only [Str.empty_append, Str.length_append, l_deed]; omega, by simp only [Str.empty_append, Str.length_append, l_deed, l_sp]; omega, ?_⟩
        refine p_sum od.sm ?_
        walk_at "w"
        simp only [Str.empty_append]
        unfold ddL at hQ2
        repeat' refine And.intro ?_ ?_
        all_goals first | exact hQ2 | omega | (simp only [Str.length_append, l_deed, l_sp]; omega)
      walk_at "w"
      refine ⟨by simp only [List.length_map, List.length_append, List.length_cons, List.length_nil] at l1 l2 l3 ⊢; omega, ?_⟩
      refine hQ _ _ ⟨dn ++ [y], td, by rw [e1]; simp, rfl, ?_, rfl⟩
      simp [hnL, Str.empty_append, List.map_map, Function.comp_def]
  · obtain ⟨dn, td, e1, e2, rfl, rfl⟩ := hI
    cases td with
    | cons y td => simp at e2
    | nil =>
      rw [List.append_nil] at e1
      subst e1
      have hw := h.wt
      unfold lns K09.wt at hw
      walk_at "w"
      have ln : (Str.ofString "\n").length = 1 := l_nl
      rw [ln]
      exact ⟨by omega, q⟩
theorem q_store (h : Sto its rs hs) (q : P (.d (.str (stoT its rs hs))) t) : m_l_store_text [.d (stE its rs hs)] t P := by
  unfold m_l_store_text
  walk_at "w"
  refine oixT0 rfl ?_
  walk_at "w"
  refine ⟨by rw [List.length_map]; have := h.li; omega, ?_⟩
  refine map_on (h := fun x => .str (itL x)) (fun x hx Q hQ => ?_) ?_
  · have o := h.ti x hx
    have n1 := o.nm.len
    have n2 : (Str.ofString (toString x.2.1)).length ≤ 298 := (tx_int (lt256 o.lo)).len
    have n3 : (Str.ofString (toString x.2.2)).length ≤ 298 := (tx_int (lt256 o.hi)).len
    have i1 := log_ok o.lo
    have i2 := log_ok o.hi
    walk_at "w"
    unfold itL at hQ
    repeat' refine And.intro ?_ ?_
    all_goals first | exact hQ | exact i1 | exact i2 | omega | (simp only [Str.length_append, l_item, l_sp]; omega)
  walk_at "w"
  refine oixT0 rfl ?_
  walk_at "w"
  refine ⟨by rw [List.length_map]; have := h.lr; omega, ?_⟩
  refine map_on (h := fun x => .str (rlL x)) (fun x hx Q hQ => ?_) ?_
  · have o := h.tr x hx
    have n1 := (ex_tx o (by decide)).len
    walk_at "w"
    refine p_words o 12 _ (by decide) (by decide) ?_
    walk_at "w"
    have gk := o.gok
    have fl : x.2.flatten.length ≤ 30 := ex_words o (by decide)
    refine ⟨jn_fit (n := 298) (m := 30) (fun s hs => ?_) fl (by decide +kernel) (by decide), ?_⟩
    · obtain ⟨g, hg, hw⟩ := List.mem_flatten.mp hs
      exact (gk.tx g hg s hw).len
    unfold rlL at hQ
    refine ⟨?_, hQ⟩
    rw [l_rule]
    exact Nat.le_trans (Nat.add_le_add_left n1 5) (by decide)
  walk_at "w"
  have lI := h.wI
  have lR := h.wR
  have l1 := len_wt (its.map itL)
  have l2 := len_wt (rs.map rlL)
  have li := h.li
  have lr := h.lr
  refine ⟨by simp only [List.length_map]; omega, ?_⟩
  refine oixT0 rfl ?_
  walk_at "w"
  refine for_cps (fun r s t' => ∃ dn td, hs = dn ++ td ∧ r = td.map hnE ∧ s = .list ((its.map itL ++ rs.map rlL ++ (dn.map hnL).flatten).map PyData.str) ∧ t' = t) (fun x r s t' hI Q hQ => ?_) (fun s t' hI => ?_) _ _ _ ⟨[], hs, rfl, rfl, by simp [List.map_map, Function.comp_def], rfl⟩
  · obtain ⟨dn, td, e1, e2, rfl, rfl⟩ := hI
    cases td with
    | nil => simp at e2
    | cons y td =>
      simp only [List.map_cons, List.cons.injEq] at e2
      obtain ⟨rfl, rfl⟩ := e2
      have hy : y ∈ hs := by rw [e1]; simp
      have o := h.th y hy
      have n1 := o.nm.len
      have wd := h.wH (hs' := dn) (by have := h.lh; rw [e1] at this; simp at this; omega) (fun z hz => by rw [e1]; exact List.mem_append_left _ hz)
      have l3 := len_wt (dn.map hnL).flatten
      have ll := o.len
      walk_at "w"
      refine ⟨by rw [l_hand]; omega, ?_⟩
      refine ⟨by simp only [List.length_map, List.length_append] at l1 l2 l3 ⊢; omega, ?_⟩
      refine ⟨by rw [List.length_map]; omega, ?_⟩
      refine map_on (h := fun d => .str (ddL d)) (fun d hd Q2 hQ2 => ?_) ?_
      · have od := o.dd d hd
        have n1 := od.nm.len
        have n2 := od.sm.tx.len
        walk_at "w"
        refine ⟨by rw [l_deed]; omega, by simp only [Str.length_append, l_deed, l_sp]; omega, ?_⟩
        refine q_sum od.sm ?_
        walk_at "w"
        unfold ddL at hQ2
        refine ⟨by simp only [Str.length_append, l_deed, l_sp]; omega, hQ2⟩
      walk_at "w"
      refine ⟨by simp only [List.length_map, List.length_append, List.length_cons, List.length_nil] at l1 l2 l3 ⊢; omega, ?_⟩
      refine hQ _ _ ⟨dn ++ [y], td, by rw [e1]; simp, rfl, ?_, rfl⟩
      simp [hnL, List.map_map, Function.comp_def]
  · obtain ⟨dn, td, e1, e2, rfl, rfl⟩ := hI
    cases td with
    | cons y td => simp at e2
    | nil =>
      rw [List.append_nil] at e1
      subst e1
      have hw := h.wt
      unfold lns K09.wt at hw
      walk_at "w"
      have ln : (Str.ofString "\n").length = 1 := l_nl
      rw [ln]
      exact ⟨by omega, q⟩
end
end K09
end
section
set_option maxRecDepth 100000
set_option maxHeartbeats 4000000
namespace K09
open PySem PySem.Spec PyProof.Rows L2 Dl Dw Dz
open Dw (ret)
local macro_rules | `(tactic| walk_at "w") => `(tactic| try simp only [bnd_ap, ret_ap, need_ap, op1_ap, op2_ap, dA_ap, rdA_ap, callN_ap, asD_d, asD_own, asO_own, asB_b, asT_ap, froz_ap, disp_ap, ifW_ap, andT_ap, orT_ap, notT_ap, andW_b, orW_b, thn_ap, joi_ap, upO_ap, fnW_ap, fnU_ap, compW_ap, compO_ap, optW_ap, itL_ap, itT_ap, rng1_ap, rng2_ap, slT_ap, slL_ap, oN_ap, oS_ap, consA_ap, catL_ap, two_ap, three_ap, twoL_ap, threeL_ap, oadd_i, osub_i, omul_i, oneg_i, olt_i, ole_i, onot_b, oisi_ap, otup_l, otup_t, oint_i, olen_t, olen_l, arg0_ap, arg1_ap, arg2_ap, arg3_ap, arg4_ap, arg5_ap, argR0_ap, argR1_ap, argR2_ap, argR3_ap, dsOf, Option.map_some, Option.map_none, List.length_cons, List.length_nil, Nat.reduceAdd, Nat.reduceLeDiff, true_and, and_true, cond_t, cond_f, Bool.not_true, Bool.not_false, truD, neS_ap, ofdiv_i, decide_true, decide_false, oeq_ap, one_ap, eqvStr, eqvInt, eqvBool, shInt, shBool, and_self, isI_i, isB_i, isI_t, isI_b, isB_b, isT_i, isT_t, joinW_ap, joinD_ap, ofmt_s, ofmt_i, ostr_i, js_nil, js_cons, catS_ap, extV_ap, revL_ap, asL_t, starD_t, dsOf_star, eqSW_ap, ogt_i, strOk, beq_self_eq_true, b_tf, b_ft, Bool.or_true, Bool.true_or, Bool.or_false, Bool.false_or, Bool.and_true, Bool.and_false, Bool.false_and, Bool.true_and, wsh_0, wst_0, weq_0_0, weq_0_1, wne_0_1, weq_0_2, wne_0_2, weq_0_3, wne_0_3, weq_0_4, wne_0_4, weq_0_5, wne_0_5, weq_0_6, wne_0_6, weq_0_7, wne_0_7, weq_0_8, wne_0_8, wsh_1, wst_1, weq_1_0, wne_1_0, weq_1_1, weq_1_2, wne_1_2, weq_1_3, wne_1_3, weq_1_4, wne_1_4, weq_1_5, wne_1_5, weq_1_6, wne_1_6, weq_1_7, wne_1_7, weq_1_8, wne_1_8, wsh_2, wst_2, weq_2_0, wne_2_0, weq_2_1, wne_2_1, weq_2_2, weq_2_3, wne_2_3, weq_2_4, wne_2_4, weq_2_5, wne_2_5, weq_2_6, wne_2_6, weq_2_7, wne_2_7, weq_2_8, wne_2_8, wsh_3, wst_3, weq_3_0, wne_3_0, weq_3_1, wne_3_1, weq_3_2, wne_3_2, weq_3_3, weq_3_4, wne_3_4, weq_3_5, wne_3_5, weq_3_6, wne_3_6, weq_3_7, wne_3_7, weq_3_8, wne_3_8, wsh_4, wst_4, weq_4_0, wne_4_0, weq_4_1, wne_4_1, weq_4_2, wne_4_2, weq_4_3, wne_4_3, weq_4_4, weq_4_5, wne_4_5, weq_4_6, wne_4_6, weq_4_7, wne_4_7, weq_4_8, wne_4_8, wsh_5, wst_5, weq_5_0, wne_5_0, weq_5_1, wne_5_1, weq_5_2, wne_5_2, weq_5_3, wne_5_3, weq_5_4, wne_5_4, weq_5_5, weq_5_6, wne_5_6, weq_5_7, wne_5_7, weq_5_8, wne_5_8, wsh_6, wst_6, weq_6_0, wne_6_0, weq_6_1, wne_6_1, weq_6_2, wne_6_2, weq_6_3, wne_6_3, weq_6_4, wne_6_4, weq_6_5, wne_6_5, weq_6_6, weq_6_7, wne_6_7, weq_6_8, wne_6_8, wsh_7, wst_7, weq_7_0, wne_7_0, weq_7_1, wne_7_1, weq_7_2, wne_7_2, weq_7_3, wne_7_3, weq_7_4, wne_7_4, weq_7_5, wne_7_5, weq_7_6, wne_7_6, weq_7_7, weq_7_8, wne_7_8, wsh_8, wst_8, weq_8_0, wne_8_0, weq_8_1, wne_8_1, weq_8_2, wne_8_2, weq_8_3, wne_8_3, weq_8_4, wne_8_4, weq_8_5, wne_8_5, weq_8_6, wne_8_6, weq_8_7, wne_8_7, weq_8_8])

theorem small {i : Int} (h : i.natAbs ≤ 100000) : i.natAbs < 2 ^ 200 := Nat.lt_of_le_of_lt h (by decide)
theorem Ex.mono {n m : Nat} {e : PyData} {gs : List (List Str)} (h : Ex n e gs) (hm : n ≤ m) : Ex m e gs := by
  induction hm with
  | refl => exact h
  | step _ ih => exact ih.up
section
variable {t : Rs} {P : B → Rs → Prop} {n : Nat}
theorem p_rsum {m : Nat} (hm : m ≤ 12) (hF : Fr (n + m) t) (q : ∀ (ns : List Int) (t' : Rs), ns.length = m → Sm12 ns → Fr n t' → P (.d (nT ns)) t') : m_l_random_sum [.rd, .d (.int m)] t P := by
  unfold m_l_random_sum
  walk_at "w"
  refine ⟨⟨by omega, by omega⟩, by simp [rngD]; omega, ?_⟩
  refine map_cps (fun rest acc t => ∃ ns : List Int, acc = ns.map PyData.int ∧ (∀ x ∈ ns, x.natAbs < 2 ^ 200) ∧ ns.length + rest.length = m ∧ Fr (n + rest.length) t) (fun x r acc t hI Q hQ => ?_) _ [] t _ ⟨[], rfl, by simp, by simp [rngD], by simpa [rngD] using hF⟩ (fun ys t' hI => ?_)
  · obtain ⟨ns, rfl, hb, hl, hF⟩ := hI
    walk_at "w"
    refine draw_ap (n := n + r.length) (by simpa [Nat.add_assoc] using hF) (by decide) (by decide) fun i t' h0 h1 hF' => ?_
    walk_at "w"
    refine oix_pick h0 (by simpa using h1) fun z hz => ?_
    obtain ⟨k, rfl, hk⟩ : ∃ k : Int, z = .int k ∧ k.natAbs < 2 ^ 200 := by
      simp only [List.mem_cons, List.not_mem_nil, or_false] at hz
      rcases hz with rfl | rfl | rfl | rfl | rfl | rfl | rfl <;> exact ⟨_, rfl, small (by decide)⟩
    refine hQ _ _ ⟨ns ++ [k], by simp, ?_, by simp at hl ⊢; omega, hF'⟩
    intro x hx
    rcases List.mem_append.mp hx with h | h
    · exact hb x h
    · obtain rfl : x = k := by simpa using h
      exact hk
  · obtain ⟨ns, e, hb, hl, hF⟩ := hI
    obtain rfl : ys = ns.map PyData.int := by simpa using e
    walk_at "w"
    have hl' : ns.length = m := by simpa using hl
    exact q ns t' hl' ⟨by omega, hb⟩ (by simpa using hF)
structure Nm (nm : List Str) : Prop where
  pos : 0 < nm.length
  len : nm.length ≤ 1000
  tx : ∀ s ∈ nm, Tx 8 s
theorem p_leaf {nm : List Str} (hn : Nm nm) (hF : Fr (n + 2) t) (q : ∀ (x : PyData) (gs : List (List Str)) (t' : Rs), Ex 0 x gs → Fr n t' → P (.d x) t') : m_l_leaf [.rd, .d (.tuple (nm.map .str))] t P := by
  have h1 := hn.pos
  have h2 := hn.len
  unfold m_l_leaf
  walk_at "w"
  refine draw_ap (n := n + 1) hF (by decide) (by decide) fun i t' h0 h3 hF' => ?_
  walk_at "w"
  refine cond_ap (fun e => ?_) (fun e => ?_)
  · walk_at "w"
    refine draw_ap (n := n) hF' (by decide) (by decide) fun i t' h0 h1 hF' => ?_
    walk_at "w"
    refine oix_pick h0 (by simpa using h1) fun z hz => ?_
    obtain ⟨k, rfl, hk⟩ : ∃ k : Int, z = .int k ∧ k.natAbs < 2 ^ 200 := by
      simp only [List.mem_cons, List.not_mem_nil, or_false] at hz
      rcases hz with rfl | rfl | rfl | rfl | rfl | rfl | rfl | rfl <;> exact ⟨_, rfl, small (by decide)⟩
    walk_at "w"
    exact q _ _ _ (.int hk) hF'
  · walk_at "w"
    refine ⟨by simp; omega, ?_⟩
    refine draw_ap (n := n) hF' (by simp; omega) (by simp; omega) fun i t' h0 h1 hF' => ?_
    walk_at "w"
    refine oixT h0 (by simpa using h1) fun j z e hz => ?_
    obtain ⟨s, hs, rfl⟩ := List.mem_map.mp (List.mem_of_getElem? hz)
    walk_at "w"
    exact q _ _ _ (.item (hn.tx s hs)) hF'
def dn : Nat → Nat
  | 0 => 3
  | k + 1 => 1 + dn k + dn k
theorem dn_ge : ∀ k, 3 ≤ dn k
  | 0 => by decide
  | k + 1 => by
    have := dn_ge k
    show 3 ≤ 1 + dn k + dn k
    omega
theorem p_number {nm : List Str} (hn : Nm nm) : ∀ (f : Nat) (d : Int) (k : Nat), d ≤ k → k < f → ∀ (n : Nat) (t : Rs) (P : B → Rs → Prop), Fr (n + dn k) t → (∀ (x : PyData) (gs : List (List Str)) (t' : Rs), Ex k x gs → Fr n t' → P (.d x) t') → m_l_number f [.rd, .d (.tuple (nm.map .str)), .d (.int d)] t P
  | 0, d, k, _, hk => absurd hk (Nat.not_lt_zero _)
  | f + 1, d, k, hd, hk => fun n t P hF q => by
    have leafNe : ∀ x gs, Ex 0 x gs → Ex k x gs := fun x gs hx => hx.mono (Nat.zero_le _)
    have hge := dn_ge k
    rw [m_l_number]
    walk_at "w"
    by_cases hd1 : d < 1
    · refine draw_ap (n := n + 2) (hF.mono (by omega)) (by decide) (by decide) fun i t' h0 h3 hF' => ?_
      simp only [hd1]
      walk_at "w"
      refine p_leaf hn hF' fun x gs t' hx hF' => ?_
      walk_at "w"
      exact q _ _ _ (leafNe x gs hx) hF'
    · obtain ⟨k, rfl⟩ : ∃ j, k = j + 1 := ⟨k - 1, by omega⟩
      have hF : Fr (n + (1 + dn k + dn k)) t := hF
      refine draw_ap (n := n + dn k + dn k) (hF.mono (by omega)) (by decide) (by decide) fun i t' h0 h3 hF' => ?_
      simp only [hd1]
      walk_at "w"
      refine cond_ap (fun e => ?_) (fun e => ?_)
      · have := dn_ge k
        walk_at "w"
        refine p_leaf (n := n) hn (hF'.mono (by omega)) fun x gs t' hx hF' => ?_
        walk_at "w"
        exact q _ _ _ (leafNe x gs hx) hF'
      · have hi : i ≠ 0 := fun z => by
          subst z
          simp at e
        walk_at "w"
        refine p_number hn f (d - 1) k (by omega) (by omega) (n + dn k) t' _ hF' fun x gx t' hx hF' => ?_
        walk_at "w"
        refine oix_pick (by omega) (by simp; omega) fun z hz => ?_
        obtain ⟨w, rfl, hw⟩ : ∃ w : Str, z = .str w ∧ w ∈ (["+", "-", "*", "=", "<", "and", "or"] : List Str) := by
          simp only [List.mem_cons, List.not_mem_nil, or_false] at hz
          rcases hz with rfl | rfl | rfl <;> exact ⟨_, rfl, by simp⟩
        refine p_number hn f (d - 1) k (by omega) (by omega) n t' _ hF' fun y gy t' hy hF' => ?_
        walk_at "w"
        exact q _ _ _ (.bin hw hx hy) hF'
def cn : Nat → Nat
  | 0 => 10
  | k + 1 => 20 + cn k + cn k
theorem cn_ge : ∀ k, 10 ≤ cn k
  | 0 => by decide
  | k + 1 => by
    have := cn_ge k
    show 10 ≤ 20 + cn k + cn k
    omega
theorem p_cmp {nm : List Str} (hn : Nm nm) {d : Int} {k : Nat} (hd : d ≤ k) (hk : k ≤ 2) {z : PyData} {Q : PyData → Rs → Prop} (hz : z = .str "=" ∨ z = .str "<") (hF : Fr (n + 9) t) (q : ∀ (x : PyData) (gs : List (List Str)) (t' : Rs), Ex (k + 1) x gs → Fr n t' → Q x t') :
    m_l_leaf [.rd, .d (.tuple (nm.map .str))] t fun b t1 => asD b t1 fun x t2 => m_l_number 4 [.rd, .d (.tuple (nm.map .str)), .d (.int (d - 1))] t2 fun b t3 => asD b t3 fun y t4 => Q (.tuple [z, x, y]) t4 := by
  have hw : ∃ w : Str, z = .str w ∧ w ∈ (["+", "-", "*", "=", "<", "and", "or"] : List Str) := by
    rcases hz with rfl | rfl <;> exact ⟨_, rfl, by simp⟩
  obtain ⟨w, rfl, hw⟩ := hw
  refine p_leaf (n := n + 7) hn hF fun x gx t' hx hF' => ?_
  walk_at "w"
  refine p_number hn 4 (d - 1) (k - 1) (by omega) (by omega) n t' _ (hF'.mono (by
    have : k - 1 = 0 ∨ k - 1 = 1 := by omega
    rcases this with e | e <;> rw [e] <;> (first | exact Nat.le_refl _ | (show n + 3 ≤ _; omega)))) fun y gy t' hy hF' => ?_
  walk_at "w"
  exact q _ _ _ ((Ex.bin hw (hx.mono (Nat.zero_le _)) hy).mono (by omega)) hF'
theorem p_cond {nm : List Str} (hn : Nm nm) : ∀ (f : Nat) (d : Int) (k : Nat), d ≤ k → k < f → k ≤ 2 → ∀ (n : Nat) (t : Rs) (P : B → Rs → Prop), Fr (n + cn k) t → (∀ (x : PyData) (gs : List (List Str)) (t' : Rs), Ex (k + 1) x gs → Fr n t' → P (.d x) t') → m_l_condition f [.rd, .d (.tuple (nm.map .str)), .d (.int d)] t P
  | 0, d, k, _, hk, _ => absurd hk (Nat.not_lt_zero _)
  | f + 1, d, k, hd, hk, hk2 => fun n t P hF q => by
    have hge := cn_ge k
    rw [m_l_condition]
    walk_at "w"
    by_cases hd1 : d < 1
    · refine draw_ap (n := n + 9) (hF.mono (by omega)) (by decide) (by decide) fun i t' h0 h3 hF' => ?_
      simp only [hd1]
      walk_at "w"
      refine ⟨⟨by decide, by decide⟩, ?_⟩
      have e3 : i.fdiv 3 = i / 3 := Int.fdiv_eq_ediv_of_nonneg i (by omega)
      rw [e3]
      refine oix_pick (by omega) (by simp; omega) fun z hz => ?_
      refine p_cmp (Q := fun v t => P (.d v) t) hn hd hk2 (by simpa using hz) hF' fun x gs t' hx hF' => ?_
      exact q _ _ _ hx hF'
    · obtain ⟨k, rfl⟩ : ∃ j, k = j + 1 := ⟨k - 1, by omega⟩
      have hF : Fr (n + (20 + cn k + cn k)) t := hF
      have hg := cn_ge k
      refine draw_ap (n := n + 18 + cn k + cn k) (hF.mono (by omega)) (by decide) (by decide) fun i t' h0 h3 hF' => ?_
      simp only [hd1]
      walk_at "w"
      refine cond_ap (fun e => ?_) (fun e => ?_)
      · walk_at "w"
        have hF' : Fr (n + 9) t' := hF'.mono (by omega)
        refine ⟨⟨by decide, by decide⟩, ?_⟩
        have e3 : i.fdiv 3 = i / 3 := Int.fdiv_eq_ediv_of_nonneg i (by omega)
        rw [e3]
        refine oix_pick (by omega) (by simp; omega) fun z hz => ?_
        refine p_cmp (Q := fun v t => P (.d v) t) hn hd hk2 (by simpa using hz) hF' fun x gs t' hx hF' => ?_
        exact q _ _ _ hx hF'
      · have hi : ¬ i < 2 := fun z => by simp [z] at e
        walk_at "w"
        refine p_cond hn f (d - 1) k (by omega) (by omega) (by omega) (n + 18 + cn k) t' _ hF' fun x gx t' hx hF' => ?_
        walk_at "w"
        refine cond_ap (fun e => ?_) (fun e => ?_)
        · walk_at "w"
          exact q _ _ _ (.un hx) (hF'.mono (by omega))
        · have hi4 : ¬ i < 4 := fun z => by simp [z] at e
          walk_at "w"
          refine oix_pick (by omega) (by simp; omega) fun z hz => ?_
          obtain ⟨w, rfl, hw⟩ : ∃ w : Str, z = .str w ∧ w ∈ (["+", "-", "*", "=", "<", "and", "or"] : List Str) := by
            simp only [List.mem_cons, List.not_mem_nil, or_false] at hz
            rcases hz with rfl | rfl <;> exact ⟨_, rfl, by simp⟩
          refine p_cond hn f 0 k (by omega) (by omega) (by omega) n t' _ (hF'.mono (by omega)) fun y gy t' hy hF' => ?_
          walk_at "w"
          exact q _ _ _ (.bin hw hx hy) hF'
/-! ### items -/
theorem tx_c {s : Str} (h : s.length ≤ 8) (h2 : ∀ c ∈ s.cps.toList, c < 128) : Tx 8 s := ⟨h, h2⟩
structure Its (rows : List (Str × Int × Int)) : Prop where
  pos : 0 < rows.length
  len : rows.length ≤ 2
  ok : ∀ x ∈ rows, OkI x
theorem its1 {s : Str} {l h : Int} (a : Tx 8 s) (b : l.natAbs ≤ 100000) (c : h.natAbs ≤ 100000) : Its [(s, l, h)] := ⟨by simp, by simp, fun x hx => by
  obtain rfl : x = (s, l, h) := by simpa using hx
  exact ⟨a, small b, small c⟩⟩
theorem its2 {s s' : Str} {l h l' h' : Int} (a : Tx 8 s) (b : l.natAbs ≤ 100000) (c : h.natAbs ≤ 100000) (a' : Tx 8 s') (b' : l'.natAbs ≤ 100000) (c' : h'.natAbs ≤ 100000) : Its [(s, l, h), (s', l', h')] := ⟨by simp, by simp, fun x hx => by
  rcases (by simpa using hx : x = (s, l, h) ∨ x = (s', l', h')) with rfl | rfl
  · exact ⟨a, small b, small c⟩
  · exact ⟨a', small b', small c'⟩⟩
theorem wd_a : Tx 8 "a" := ⟨by decide +kernel, by decide +kernel⟩
theorem wd_b : Tx 8 "b" := ⟨by decide +kernel, by decide +kernel⟩
theorem wd_c : Tx 8 "c" := ⟨by decide +kernel, by decide +kernel⟩
theorem wd_d : Tx 8 "d" := ⟨by decide +kernel, by decide +kernel⟩
theorem wd_e : Tx 8 "e" := ⟨by decide +kernel, by decide +kernel⟩
theorem wd_x : Tx 8 "x" := ⟨by decide +kernel, by decide +kernel⟩
theorem wd_y : Tx 8 "y" := ⟨by decide +kernel, by decide +kernel⟩
theorem wd_z : Tx 8 "z" := ⟨by decide +kernel, by decide +kernel⟩
theorem wd_ann : Tx 8 "ann" := ⟨by decide +kernel, by decide +kernel⟩
theorem wd_bob : Tx 8 "bob" := ⟨by decide +kernel, by decide +kernel⟩
theorem wd_and : Tx 8 "and" := ⟨by decide +kernel, by decide +kernel⟩
theorem wd_zz : Tx 8 "zz" := ⟨by decide +kernel, by decide +kernel⟩
theorem wd_z8 : Tx 8 "zzzzzzzz" := ⟨by decide +kernel, by decide +kernel⟩
theorem wd_coins : Tx 8 "coins" := ⟨by decide +kernel, by decide +kernel⟩
theorem wd_cards : Tx 8 "cards" := ⟨by decide +kernel, by decide +kernel⟩
theorem wd_item : Tx 8 "item" := ⟨by decide +kernel, by decide +kernel⟩
theorem wd_not : Tx 8 "not" := ⟨by decide +kernel, by decide +kernel⟩
theorem wd_hand : Tx 8 "hand" := ⟨by decide +kernel, by decide +kernel⟩
theorem wd_rule : Tx 8 "rule" := ⟨by decide +kernel, by decide +kernel⟩
theorem wd_deed : Tx 8 "deed" := ⟨by decide +kernel, by decide +kernel⟩
theorem wd_give : Tx 8 "give" := ⟨by decide +kernel, by decide +kernel⟩
theorem wd_put : Tx 8 "put" := ⟨by decide +kernel, by decide +kernel⟩
theorem wd_take : Tx 8 "take" := ⟨by decide +kernel, by decide +kernel⟩
theorem wd_pay : Tx 8 "pay" := ⟨by decide +kernel, by decide +kernel⟩
theorem wd_field : Tx 8 "field" := ⟨by decide +kernel, by decide +kernel⟩
theorem wd_age : Tx 8 "age" := ⟨by decide +kernel, by decide +kernel⟩
theorem wd_nobody : Tx 8 "nobody" := ⟨by decide +kernel, by decide +kernel⟩
theorem p_items (hF : Fr (n + 5) t) (q : ∀ (rows : List (Str × Int × Int)) (t' : Rs), Its rows → Fr n t' → P (.d (.tuple (rows.map itE))) t') : m_l_random_items [.rd] t P := by
  unfold m_l_random_items
  walk_at "w"
  refine draw_ap (n := n + 4) hF (by decide) (by decide) fun i t' h0 h3 hF' => ?_
  walk_at "w"
  refine oix_pick h0 (by simpa using h3) fun z hz => ?_
  simp only [List.mem_cons, List.not_mem_nil, or_false] at hz
  rcases hz with rfl | rfl | rfl | rfl | rfl
  · walk_at "w"
    simp only [forW]
    walk_at "w"
    refine draw_ap (n := n + 3) hF' (by decide) (by decide) fun i t' h0 h3 hF' => ?_
    walk_at "w"
    refine draw_ap (n := n + 2) hF' (by decide) (by decide) fun j t' g0 g3 hF' => ?_
    walk_at "w"
    exact ⟨by simp, q [("a", i - 2, i - 2 + j)] _ (its1 wd_a (by omega) (by omega)) (hF'.mono (by omega))⟩
  · walk_at "w"
    simp only [forW]
    walk_at "w"
    refine draw_ap (n := n + 3) hF' (by decide) (by decide) fun i t' h0 h3 hF' => ?_
    walk_at "w"
    refine draw_ap (n := n + 2) hF' (by decide) (by decide) fun j t' g0 g3 hF' => ?_
    walk_at "w"
    exact ⟨by simp, q [("coins", i - 2, i - 2 + j)] _ (its1 wd_coins (by omega) (by omega)) (hF'.mono (by omega))⟩
  · walk_at "w"
    simp only [forW]
    walk_at "w"
    refine draw_ap (n := n + 3) hF' (by decide) (by decide) fun i t' h0 h3 hF' => ?_
    walk_at "w"
    refine draw_ap (n := n + 2) hF' (by decide) (by decide) fun j t' g0 g3 hF' => ?_
    walk_at "w"
    refine ⟨by simp, ?_⟩
    refine draw_ap (n := n + 1) hF' (by decide) (by decide) fun i2 t' h0' h3' hF' => ?_
    walk_at "w"
    refine draw_ap (n := n) hF' (by decide) (by decide) fun j2 t' g0' g3' hF' => ?_
    walk_at "w"
    exact ⟨by simp, q [("item", i - 2, i - 2 + j), ("not", i2 - 2, i2 - 2 + j2)] _ (its2 wd_item (by omega) (by omega) wd_not (by omega) (by omega)) hF'⟩
  · walk_at "w"
    simp only [forW]
    walk_at "w"
    refine draw_ap (n := n + 3) hF' (by decide) (by decide) fun i t' h0 h3 hF' => ?_
    walk_at "w"
    refine draw_ap (n := n + 2) hF' (by decide) (by decide) fun j t' g0 g3 hF' => ?_
    walk_at "w"
    refine ⟨by simp, ?_⟩
    refine draw_ap (n := n + 1) hF' (by decide) (by decide) fun i2 t' h0' h3' hF' => ?_
    walk_at "w"
    refine draw_ap (n := n) hF' (by decide) (by decide) fun j2 t' g0' g3' hF' => ?_
    walk_at "w"
    exact ⟨by simp, q [("cards", i - 2, i - 2 + j), ("coins", i2 - 2, i2 - 2 + j2)] _ (its2 wd_cards (by omega) (by omega) wd_coins (by omega) (by omega)) hF'⟩
  · walk_at "w"
    simp only [forW]
    walk_at "w"
    refine draw_ap (n := n + 3) hF' (by decide) (by decide) fun i t' h0 h3 hF' => ?_
    walk_at "w"
    refine draw_ap (n := n + 2) hF' (by decide) (by decide) fun j t' g0 g3 hF' => ?_
    walk_at "w"
    exact ⟨by simp, q [("zzzzzzzz", i - 2, i - 2 + j)] _ (its1 wd_z8 (by omega) (by omega)) (hF'.mono (by omega))⟩
theorem p_slots {rows : List (Str × Int × Int)} (hl : rows.length ≤ 2) (q : P (.d (.tuple ((rows.map fun x => x.1).map .str))) t) : m_l_slots [.d (.tuple (rows.map itE))] t P := by
  unfold m_l_slots
  walk_at "w"
  refine ⟨by rw [List.length_map]; omega, ?_⟩
  refine map_on (h := fun x => .str x.1) (fun x hx Q hQ => ?_) ?_
  · walk_at "w"
    exact oixT0 rfl hQ
  · walk_at "w"
    rw [List.map_map] at q
    exact q
end
end K09
end
section
set_option maxRecDepth 100000
set_option maxHeartbeats 4000000
namespace K09
open PySem PySem.Spec PyProof.Rows L2 Dl Dw Dz
open Dw (ret)
local macro_rules | `(tactic| walk_at "w") => `(tactic| try simp only [bnd_ap, ret_ap, need_ap, op1_ap, op2_ap, dA_ap, rdA_ap, callN_ap, asD_d, asD_own, asO_own, asB_b, asT_ap, froz_ap, disp_ap, ifW_ap, andT_ap, orT_ap, notT_ap, andW_b, orW_b, thn_ap, joi_ap, upO_ap, fnW_ap, fnU_ap, compW_ap, compO_ap, optW_ap, itL_ap, itT_ap, rng1_ap, rng2_ap, slT_ap, slL_ap, oN_ap, oS_ap, consA_ap, catL_ap, two_ap, three_ap, twoL_ap, threeL_ap, oadd_i, osub_i, omul_i, oneg_i, olt_i, ole_i, onot_b, oisi_ap, otup_l, otup_t, oint_i, olen_t, olen_l, arg0_ap, arg1_ap, arg2_ap, arg3_ap, arg4_ap, arg5_ap, argR0_ap, argR1_ap, argR2_ap, argR3_ap, dsOf, Option.map_some, Option.map_none, List.length_cons, List.length_nil, Nat.reduceAdd, Nat.reduceLeDiff, true_and, and_true, cond_t, cond_f, Bool.not_true, Bool.not_false, truD, neS_ap, ofdiv_i, decide_true, decide_false, oeq_ap, one_ap, eqvStr, eqvInt, eqvBool, shInt, shBool, and_self, isI_i, isB_i, isI_t, isI_b, isB_b, isT_i, isT_t, joinW_ap, joinD_ap, ofmt_s, ofmt_i, ostr_i, js_nil, js_cons, catS_ap, extV_ap, revL_ap, asL_t, starD_t, dsOf_star, eqSW_ap, ogt_i, strOk, beq_self_eq_true, b_tf, b_ft, Bool.or_true, Bool.true_or, Bool.or_false, Bool.false_or, Bool.and_true, Bool.and_false, Bool.false_and, Bool.true_and, wsh_0, wst_0, weq_0_0, weq_0_1, wne_0_1, weq_0_2, wne_0_2, weq_0_3, wne_0_3, weq_0_4, wne_0_4, weq_0_5, wne_0_5, weq_0_6, wne_0_6, weq_0_7, wne_0_7, weq_0_8, wne_0_8, wsh_1, wst_1, weq_1_0, wne_1_0, weq_1_1, weq_1_2, wne_1_2, weq_1_3, wne_1_3, weq_1_4, wne_1_4, weq_1_5, wne_1_5, weq_1_6, wne_1_6, weq_1_7, wne_1_7, weq_1_8, wne_1_8, wsh_2, wst_2, weq_2_0, wne_2_0, weq_2_1, wne_2_1, weq_2_2, weq_2_3, wne_2_3, weq_2_4, wne_2_4, weq_2_5, wne_2_5, weq_2_6, wne_2_6, weq_2_7, wne_2_7, weq_2_8, wne_2_8, wsh_3, wst_3, weq_3_0, wne_3_0, weq_3_1, wne_3_1, weq_3_2, wne_3_2, weq_3_3, weq_3_4, wne_3_4, weq_3_5, wne_3_5, weq_3_6, wne_3_6, weq_3_7, wne_3_7, weq_3_8, wne_3_8, wsh_4, wst_4, weq_4_0, wne_4_0, weq_4_1, wne_4_1, weq_4_2, wne_4_2, weq_4_3, wne_4_3, weq_4_4, weq_4_5, wne_4_5, weq_4_6, wne_4_6, weq_4_7, wne_4_7, weq_4_8, wne_4_8, wsh_5, wst_5, weq_5_0, wne_5_0, weq_5_1, wne_5_1, weq_5_2, wne_5_2, weq_5_3, wne_5_3, weq_5_4, wne_5_4, weq_5_5, weq_5_6, wne_5_6, weq_5_7, wne_5_7, weq_5_8, wne_5_8, wsh_6, wst_6, weq_6_0, wne_6_0, weq_6_1, wne_6_1, weq_6_2, wne_6_2, weq_6_3, wne_6_3, weq_6_4, wne_6_4, weq_6_5, wne_6_5, weq_6_6, weq_6_7, wne_6_7, weq_6_8, wne_6_8, wsh_7, wst_7, weq_7_0, wne_7_0, weq_7_1, wne_7_1, weq_7_2, wne_7_2, weq_7_3, wne_7_3, weq_7_4, wne_7_4, weq_7_5, wne_7_5, weq_7_6, wne_7_6, weq_7_7, weq_7_8, wne_7_8, wsh_8, wst_8, weq_8_0, wne_8_0, weq_8_1, wne_8_1, weq_8_2, wne_8_2, weq_8_3, wne_8_3, weq_8_4, wne_8_4, weq_8_5, wne_8_5, weq_8_6, wne_8_6, weq_8_7, wne_8_7, weq_8_8])

theorem txsOf : ∀ {xs : List PyData}, (∀ z ∈ xs, ∃ s, z = .str s ∧ Tx 8 s) → ∃ ss : List Str, xs = ss.map PyData.str ∧ ∀ s ∈ ss, Tx 8 s
  | [], _ => ⟨[], rfl, by simp⟩
  | x :: r, h => by
    obtain ⟨s, rfl, hs⟩ := h x (List.mem_cons_self ..)
    obtain ⟨ss, e, hss⟩ := txsOf fun z hz => h z (List.mem_cons_of_mem _ hz)
    refine ⟨s :: ss, by rw [e]; rfl, fun y hy => ?_⟩
    rcases List.mem_cons.mp hy with rfl | hy
    · exact hs
    · exact hss y hy
theorem exs : ∀ {es : List PyData}, (∀ e ∈ es, ∃ gs, Ex 3 e gs) → ∃ rs : List (PyData × List (List Str)), es = rs.map rlE ∧ rs.length = es.length ∧ ∀ r ∈ rs, Ex 3 r.1 r.2
  | [], _ => ⟨[], rfl, rfl, by simp⟩
  | x :: r, h => by
    obtain ⟨g, hg⟩ := h x (List.mem_cons_self ..)
    obtain ⟨ss, e, hl, hss⟩ := exs fun z hz => h z (List.mem_cons_of_mem _ hz)
    refine ⟨(x, g) :: ss, by rw [e]; rfl, by simp [hl], fun y hy => ?_⟩
    rcases List.mem_cons.mp hy with rfl | hy
    · exact hg
    · exact hss y hy
theorem cut_mem {α : Type} {xs : List α} {lo hi : Option Int} {z : α} (h : z ∈ Dl.cutD xs lo hi) : z ∈ xs := List.mem_of_mem_drop (List.mem_of_mem_take h)
theorem cut_len {α : Type} {xs : List α} {lo hi : Option Int} : (Dl.cutD xs lo hi).length ≤ xs.length := by
  unfold Dl.cutD
  rw [List.length_take, List.length_drop]
  omega
theorem cut_map {α β : Type} (f : α → β) (xs : List α) (lo hi : Option Int) : Dl.cutD (xs.map f) lo hi = (Dl.cutD xs lo hi).map f := by
  unfold Dl.cutD
  rw [List.length_map, List.map_take, List.map_drop]
theorem popAt_ap {α : Type} {xs : List PyData} {i : Int} {k : List PyData → W α} {t : Rs} {P : α → Rs → Prop} (h0 : 0 ≤ i) (h1 : i < xs.length) (h2 : xs.length ≤ 1000) (q : ∀ j, j < xs.length → k (xs.eraseIdx j) t P) : popAtW xs (.int i) k t P := by
  have e : seqIndex? i xs.length = some i.toNat := by
    unfold PySem.seqIndex?
    have h : ¬ i < 0 := by omega
    simp [h, h0, h1]
  unfold popAtW
  simp only [e]
  exact ⟨⟨by omega, by omega, by omega⟩, q _ (by omega)⟩
/-- a store that this law writes -/
def IsS (x : PyData) : Prop := ∃ its rs hs, x = stE its rs hs ∧ Sto its rs hs
theorem is_s {its : List (Str × Int × Int)} {es : List PyData} {hs : List (Str × List (Str × List Int))} (li : its.length ≤ 12) (le : es.length ≤ 12) (lh : hs.length ≤ 12) (ti : ∀ x ∈ its, OkI x) (te : ∀ e ∈ es, ∃ gs, Ex 3 e gs) (th : ∀ x ∈ hs, OkH x) : IsS (.tuple [.tuple (its.map itE), .tuple es, .tuple (hs.map hnE)]) := by
  obtain ⟨rs, rfl, hl, hr⟩ := exs te
  exact ⟨its, rs, hs, rfl, ⟨li, by omega, lh, ti, hr, th⟩⟩
section
variable {t : Rs} {P : B → Rs → Prop} {n : Nat}
theorem p_rstore (hF : Fr (n + 260) t) (q : ∀ (x : PyData) (t' : Rs), IsS x → Fr n t' → P (.d x) t') : m_l_random_store [.rd] t P := by
  unfold m_l_random_store
  walk_at "w"
  refine p_items (n := n + 255) hF fun rows t' hI hF => ?_
  have lI := hI.len
  have hn : Nm (rows.map fun x => x.1) := ⟨by rw [List.length_map]; exact hI.pos, by rw [List.length_map]; omega, fun s hs => by
    obtain ⟨x, hx, rfl⟩ := List.mem_map.mp hs
    exact (hI.ok x hx).nm⟩
  walk_at "w"
  refine draw_ap (n := n + 254) hF (by decide) (by decide) fun i t' h0 h1 hF => ?_
  walk_at "w"
  refine ⟨⟨by omega, by omega⟩, by simp [rngD]; omega, ?_⟩
  refine map_cps (fun rest acc t => (∀ e ∈ acc, ∃ gs, Ex 3 e gs) ∧ acc.length + rest.length ≤ 2 ∧ Fr (n + 40 + 100 * rest.length) t) (fun x r acc t hI2 Q hQ => ?_) _ [] t' _ ⟨by simp, by simp [rngD]; omega, hF.mono (by simp [rngD]; omega)⟩ (fun ys t' hI2 => ?_)
  · obtain ⟨hb, hl, hF⟩ := hI2
    walk_at "w"
    refine p_slots lI ?_
    walk_at "w"
    refine p_cond hn 4 2 2 (by decide) (by decide) (by decide) (n + 40 + 100 * r.length) _ _ (hF.mono (by show n + 40 + 100 * r.length + 100 ≤ _; simp only [List.length_cons]; omega)) fun y gs t' hy hF => ?_
    walk_at "w"
    refine hQ _ _ ⟨fun e he => ?_, by simp only [List.length_append, List.length_cons, List.length_nil] at hl ⊢; omega, hF⟩
    rcases List.mem_append.mp he with h | h
    · exact hb e h
    · obtain rfl : e = y := by simpa using h
      exact ⟨gs, hy⟩
  obtain ⟨he, hl, hF⟩ := hI2
  rw [List.nil_append] at he hl
  simp only [List.length_nil, Nat.mul_zero, Nat.add_zero] at hF hl
  walk_at "w"
  refine draw_ap (n := n + 39) hF (by decide) (by decide) fun i t' h0 h1 hF => ?_
  walk_at "w"
  refine oix_pick h0 (by simpa using h1) fun z hz => ?_
  obtain ⟨td, rfl, htd, ltd⟩ : ∃ td : List Str, z = .tuple (td.map PyData.str) ∧ (∀ s ∈ td, Tx 8 s) ∧ td.length ≤ 3 := by
    simp only [List.mem_cons, List.not_mem_nil, or_false] at hz
    rcases hz with rfl | rfl | rfl | rfl
    · exact ⟨["ann", "bob"], rfl, by simp [wd_ann, wd_bob], by decide⟩
    · exact ⟨["ann"], rfl, by simp [wd_ann], by decide⟩
    · exact ⟨["and", "item", "zz"], rfl, by simp [wd_and, wd_item, wd_zz], by decide⟩
    · exact ⟨["a", "b", "c"], rfl, by simp [wd_a, wd_b, wd_c], by decide⟩
  walk_at "w"
  refine for_cps (fun r s t => ∃ hns td, s = hns.map hnE ∧ r = td.map PyData.str ∧ (∀ h ∈ hns, OkH h) ∧ (∀ s ∈ td, Tx 8 s) ∧ hns.length + td.length ≤ 3 ∧ Fr (n + 10 * td.length) t) (fun x r s t hI2 Q hQ => ?_) (fun s t hI2 => ?_) _ _ _ ⟨[], td, rfl, rfl, by simp, htd, by simpa using ltd, hF.mono (by omega)⟩
  · obtain ⟨hns, td, rfl, e2, hh, ht, hl, hF⟩ := hI2
    cases td with
    | nil => simp at e2
    | cons y td =>
      simp only [List.map_cons, List.cons.injEq] at e2
      obtain ⟨rfl, rfl⟩ := e2
      simp only [List.length_cons] at hl hF
      walk_at "w"
      refine ⟨0 + 1 + 1, ?_⟩
      rw [whN]
      walk_at "w"
      try simp only [show decide (((4 : Nat) : Int) > 3) = true from rfl]
      walk_at "w"
      refine draw_ap (n := n + 10 * td.length + 9) (hF.mono (by omega)) (by decide) (by decide) fun i t' h0 h1 hF => ?_
      walk_at "w"
      refine popAt_ap h0 (by simpa using h1) (by decide) fun j hj => ?_
      obtain ⟨ss, e, hss⟩ := txsOf (xs := List.eraseIdx [PyData.str "give", .str "item", .str "put", .str "take"] j) fun z hz => by
        have hz := List.mem_of_mem_eraseIdx hz
        simp only [List.mem_cons, List.not_mem_nil, or_false] at hz
        rcases hz with rfl | rfl | rfl | rfl
        · exact ⟨_, rfl, wd_give⟩
        · exact ⟨_, rfl, wd_item⟩
        · exact ⟨_, rfl, wd_put⟩
        · exact ⟨_, rfl, wd_take⟩
      have l3 : ss.length = 3 := by
        have := congrArg List.length e
        rw [List.length_eraseIdx_of_lt hj, List.length_map] at this
        exact this.symm
      walk_at "w"
      rw [whN]
      walk_at "w"
      rw [e]
      refine ⟨by rw [List.length_map, l3]; decide, ?_⟩
      rw [List.length_map, l3]
      try simp only [show decide (((3 : Nat) : Int) > 3) = false from rfl]
      walk_at "w"
      refine draw_ap (n := n + 10 * td.length + 8) (hF.mono (by omega)) (by decide) (by decide) fun i t' h0 h1 hF => ?_
      walk_at "w"
      have lc : (Dl.cutD (ss.map PyData.str) (some i) none).length ≤ 3 := Nat.le_trans cut_len (by rw [List.length_map, l3]; exact Nat.le_refl _)
      obtain ⟨nn, e3, hnn⟩ := txsOf (xs := Dl.cutD (ss.map PyData.str) (some i) none) fun z hz => by
        obtain ⟨s, hs, rfl⟩ := List.mem_map.mp (cut_mem hz)
        exact ⟨s, rfl, hss s hs⟩
      rw [e3, List.length_map] at lc
      rw [e3]
      refine ⟨by rw [List.length_map]; omega, ?_⟩
      refine map_cps (fun rest acc t => ∃ (ds : List (Str × List Int)) (nn : List Str), acc = ds.map ddE ∧ rest = nn.map PyData.str ∧ (∀ d ∈ ds, OkD d) ∧ (∀ s ∈ nn, Tx 8 s) ∧ ds.length + nn.length ≤ 3 ∧ Fr (n + 10 * td.length + 2 * nn.length) t) (fun x r acc t hI3 Q2 hQ2 => ?_) _ [] t' _ ⟨[], nn, rfl, rfl, by simp, hnn, by simpa using lc, hF.mono (by omega)⟩ (fun ys t' hI3 => ?_)
      · obtain ⟨ds, nn, rfl, e4, hd, hn4, hl4, hF⟩ := hI3
        cases nn with
        | nil => simp at e4
        | cons w nn =>
          simp only [List.map_cons, List.cons.injEq] at e4
          obtain ⟨rfl, rfl⟩ := e4
          simp only [List.length_cons] at hl4 hF
          walk_at "w"
          refine ⟨by rw [List.length_map]; omega, ?_⟩
          refine p_rsum (n := n + 10 * td.length + 2 * nn.length) (by rw [List.length_map]; omega) (hF.mono (by rw [List.length_map]; omega)) fun ns t' hl5 h5 hF => ?_
          walk_at "w"
          refine hQ2 _ _ ⟨ds ++ [(w, ns)], nn, by simp, rfl, fun d hd5 => ?_, fun s hs => hn4 s (List.mem_cons_of_mem _ hs), by simp only [List.length_append, List.length_cons, List.length_nil]; omega, hF⟩
          rcases List.mem_append.mp hd5 with h | h
          · exact hd d h
          · obtain rfl : d = (w, ns) := by simpa using h
            exact ⟨hn4 w (List.mem_cons_self ..), h5⟩
      · obtain ⟨ds, nn, e4, e5, hd, hn4, hl4, hF⟩ := hI3
        rw [List.nil_append] at e4
        subst e4
        walk_at "w"
        refine ⟨by rw [List.length_map]; omega, ?_⟩
        refine hQ _ _ ⟨hns ++ [(y, ds)], td, by simp, rfl, fun d hd5 => ?_, fun s hs => ht s (List.mem_cons_of_mem _ hs), by simp only [List.length_append, List.length_cons, List.length_nil]; omega, hF.mono (by omega)⟩
        rcases List.mem_append.mp hd5 with h | h
        · exact hh d h
        · obtain rfl : d = (y, ds) := by simpa using h
          exact ⟨ht y (List.mem_cons_self ..), by show ds.length ≤ 12; omega, hd⟩
  · obtain ⟨hns, td, rfl, e2, hh, ht, hl, hF⟩ := hI2
    walk_at "w"
    exact q _ _ (is_s (by omega) (by omega) (by omega) hI.ok he hh) (hF.mono (by omega))
end

theorem opow_i (i j : Int) {t : Rs} (P : PyData → Rs → Prop) : opow (.int i) (.int j) t P = (CPow i j ∧ P (.int (i ^ j.toNat)) t) := id rfl
abbrev far : Int := 10 ^ (59 : Int).toNat
theorem far_lt : far.natAbs < 2 ^ 200 := by decide +kernel
theorem nfar_lt : (-far).natAbs < 2 ^ 200 := by decide +kernel
abbrev itsL : List (Str × Int × Int) := [("pay", 3, 1), ("field", -far, far), ("age", 0, -7), ("pay", 0, 0)]
abbrev rsL : List PyData := [.tuple [.str "=", .tuple [.str "item", .str "x"], .int (-far)], .tuple [.str "not", .tuple [.str "<", .tuple [.str "item", .str "nobody"], .int 1]], .tuple [.str "or", .tuple [.str "=", .int 1, .int 1], .tuple [.str "=", .int 0, .int 0]]]
abbrev hsL : List (Str × List (Str × List Int)) := [("rule", [("hand", [1, 2]), ("deed", [0])]), ("a", []), ("rule", [("z", [far, -far, 0]), ("b", [-7])])]
theorem sm12 {ns : List Int} (h : ns.length ≤ 12) (h2 : ∀ i ∈ ns, i.natAbs < 2 ^ 200) : Sm12 ns := ⟨h, h2⟩
theorem okI_L : ∀ x ∈ itsL, OkI x := fun x hx => by
  simp only [List.mem_cons, List.not_mem_nil, or_false] at hx
  rcases hx with rfl | rfl | rfl | rfl
  · exact ⟨wd_pay, small (by decide), small (by decide)⟩
  · exact ⟨wd_field, nfar_lt, far_lt⟩
  · exact ⟨wd_age, small (by decide), small (by decide)⟩
  · exact ⟨wd_pay, small (by decide), small (by decide)⟩
theorem okR_L : ∀ e ∈ rsL, ∃ gs, Ex 3 e gs := fun x hx => by
  simp only [List.mem_cons, List.not_mem_nil, or_false] at hx
  rcases hx with rfl | rfl | rfl
  · exact ⟨_, .bin (by simp) (.item wd_x) (.int nfar_lt)⟩
  · exact ⟨_, .un (.bin (by simp) (.item wd_nobody) (.int (small (by decide))))⟩
  · exact ⟨_, .bin (by simp) (.bin (by simp) (.int (small (by decide))) (.int (small (by decide)))) (.bin (by simp) (.int (small (by decide))) (.int (small (by decide))))⟩
theorem sm_of (l : List Int) (h : l.length ≤ 12) (h2 : l.all (fun i => decide (i.natAbs < 2 ^ 200)) = true) : Sm12 l := ⟨h, fun i hi => by simpa using List.all_eq_true.mp h2 i hi⟩
theorem okH_L : ∀ x ∈ hsL, OkH x := fun x hx => by
  simp only [List.mem_cons, List.not_mem_nil, or_false] at hx
  rcases hx with rfl | rfl | rfl
  · refine ⟨wd_rule, by decide, fun d hd => ?_⟩
    simp only [List.mem_cons, List.not_mem_nil, or_false] at hd
    rcases hd with rfl | rfl
    · exact ⟨wd_hand, sm_of _ (by decide) (by decide +kernel)⟩
    · exact ⟨wd_deed, sm_of _ (by decide) (by decide +kernel)⟩
  · exact ⟨wd_a, by decide, fun d hd => by simp at hd⟩
  · refine ⟨wd_rule, by decide, fun d hd => ?_⟩
    simp only [List.mem_cons, List.not_mem_nil, or_false] at hd
    rcases hd with rfl | rfl
    · exact ⟨wd_z, sm_of _ (by decide) (by decide +kernel)⟩
    · exact ⟨wd_b, sm_of _ (by decide) (by decide +kernel)⟩
section
variable {t : Rs} {P : B → Rs → Prop} {n : Nat}
theorem p_loose (hF : Fr (n + 3) t) (q : ∀ (x : PyData) (t' : Rs), IsS x → Fr n t' → P (.d x) t') : m_l_loose [.rd] t P := by
  unfold m_l_loose
  walk_at "w"
  rw [opow_i]
  refine ⟨⟨by decide, by decide, by decide⟩, ?_⟩
  walk_at "w"
  refine draw_ap (n := n + 2) hF (by decide) (by decide) fun i t' h0 h1 hF => ?_
  walk_at "w"
  refine draw_ap (n := n + 1) hF (by decide) (by decide) fun j t' h0 h1 hF => ?_
  walk_at "w"
  refine draw_ap (n := n) hF (by decide) (by decide) fun k t' h0 h1 hF => ?_
  walk_at "w"
  have h := is_s (its := Dl.cutD itsL (some i) none) (es := Dl.cutD rsL (some j) none) (hs := Dl.cutD hsL (some k) none) (Nat.le_trans cut_len (by decide)) (Nat.le_trans cut_len (by decide)) (Nat.le_trans cut_len (by decide)) (fun x hx => okI_L x (cut_mem hx)) (fun x hx => okR_L x (cut_mem hx)) (fun x hx => okH_L x (cut_mem hx))
  rw [← cut_map, ← cut_map] at h
  exact q _ _ h hF
theorem fx1 : IsS (.tuple [.tuple [.tuple [.str "coins", .int 0, .int 4]], .tuple [], .tuple [.tuple [.str "ann", .tuple [.tuple [.str "put", .tuple [.int 1]], .tuple [.str "take", .tuple [.int (-1)]]]], .tuple [.str "bob", .tuple [.tuple [.str "take", .tuple [.int (-1)]]]]]]) := by
  refine is_s (its := [("coins", 0, 4)]) (es := []) (hs := [("ann", [("put", [1]), ("take", [-1])]), ("bob", [("take", [-1])])]) (by decide) (by decide) (by decide) (fun x hx => ?_) (fun x hx => by simp at hx) (fun x hx => ?_)
  · obtain rfl : x = (("coins" : Str), (0 : Int), (4 : Int)) := by simpa using hx
    exact ⟨wd_coins, small (by decide), small (by decide)⟩
  · simp only [List.mem_cons, List.not_mem_nil, or_false] at hx
    rcases hx with rfl | rfl
    · refine ⟨wd_ann, by decide, fun d hd => ?_⟩
      simp only [List.mem_cons, List.not_mem_nil, or_false] at hd
      rcases hd with rfl | rfl
      · exact ⟨wd_put, sm_of _ (by decide) (by decide +kernel)⟩
      · exact ⟨wd_take, sm_of _ (by decide) (by decide +kernel)⟩
    · refine ⟨wd_bob, by decide, fun d hd => ?_⟩
      simp only [List.mem_cons, List.not_mem_nil, or_false] at hd
      obtain rfl := hd
      exact ⟨wd_take, sm_of _ (by decide) (by decide +kernel)⟩
theorem fx2 : IsS (.tuple [.tuple [.tuple [.str "coins", .int 0, .int 4]], .tuple [.tuple [.str "<", .tuple [.str "item", .str "coins"], .int 4]], .tuple [.tuple [.str "ann", .tuple [.tuple [.str "put", .tuple [.int 1]], .tuple [.str "take", .tuple [.int (-1)]]]]]]) := by
  refine is_s (its := [("coins", 0, 4)]) (es := [.tuple [.str "<", .tuple [.str "item", .str "coins"], .int 4]]) (hs := [("ann", [("put", [1]), ("take", [-1])])]) (by decide) (by decide) (by decide) (fun x hx => ?_) (fun x hx => ?_) (fun x hx => ?_)
  · obtain rfl : x = (("coins" : Str), (0 : Int), (4 : Int)) := by simpa using hx
    exact ⟨wd_coins, small (by decide), small (by decide)⟩
  · simp only [List.mem_cons, List.not_mem_nil, or_false] at hx
    obtain rfl := hx
    exact ⟨_, .bin (by simp) (.item wd_coins) (.int (small (by decide)))⟩
  · simp only [List.mem_cons, List.not_mem_nil, or_false] at hx
    obtain rfl := hx
    refine ⟨wd_ann, by decide, fun d hd => ?_⟩
    simp only [List.mem_cons, List.not_mem_nil, or_false] at hd
    rcases hd with rfl | rfl
    · exact ⟨wd_put, sm_of _ (by decide) (by decide +kernel)⟩
    · exact ⟨wd_take, sm_of _ (by decide) (by decide +kernel)⟩
theorem fx3 : IsS (.tuple [.tuple [.tuple [.str "a", .int (-1), .int 2], .tuple [.str "b", .int 0, .int 3]], .tuple [.tuple [.str "<", .tuple [.str "item", .str "a"], .tuple [.str "item", .str "b"]], .tuple [.str "not", .tuple [.str "=", .tuple [.str "*", .tuple [.str "item", .str "a"], .int 2], .int 3]]], .tuple [.tuple [.str "x", .tuple [.tuple [.str "d", .tuple [.int 1, .int (-1)]], .tuple [.str "e", .tuple [.int 0, .int 2]]]], .tuple [.str "y", .tuple []], .tuple [.str "z", .tuple [.tuple [.str "d", .tuple [.int 0, .int 0]]]]]]) := by
  refine is_s (its := [("a", -1, 2), ("b", 0, 3)]) (es := [.tuple [.str "<", .tuple [.str "item", .str "a"], .tuple [.str "item", .str "b"]], .tuple [.str "not", .tuple [.str "=", .tuple [.str "*", .tuple [.str "item", .str "a"], .int 2], .int 3]]]) (hs := [("x", [("d", [1, -1]), ("e", [0, 2])]), ("y", []), ("z", [("d", [0, 0])])]) (by decide) (by decide) (by decide) (fun x hx => ?_) (fun x hx => ?_) (fun x hx => ?_)
  · simp only [List.mem_cons, List.not_mem_nil, or_false] at hx
    rcases hx with rfl | rfl
    · exact ⟨wd_a, small (by decide), small (by decide)⟩
    · exact ⟨wd_b, small (by decide), small (by decide)⟩
  · simp only [List.mem_cons, List.not_mem_nil, or_false] at hx
    rcases hx with rfl | rfl
    · exact ⟨_, .bin (by simp) (.item wd_a) (.item wd_b)⟩
    · exact ⟨_, .un (.bin (by simp) (.bin (by simp) (.item wd_a) (.int (small (by decide)))) (.int (small (by decide))))⟩
  · simp only [List.mem_cons, List.not_mem_nil, or_false] at hx
    rcases hx with rfl | rfl | rfl
    · refine ⟨wd_x, by decide, fun d hd => ?_⟩
      simp only [List.mem_cons, List.not_mem_nil, or_false] at hd
      rcases hd with rfl | rfl
      · exact ⟨wd_d, sm_of _ (by decide) (by decide +kernel)⟩
      · exact ⟨wd_e, sm_of _ (by decide) (by decide +kernel)⟩
    · exact ⟨wd_y, by decide, fun d hd => by simp at hd⟩
    · refine ⟨wd_z, by decide, fun d hd => ?_⟩
      simp only [List.mem_cons, List.not_mem_nil, or_false] at hd
      obtain rfl := hd
      exact ⟨wd_d, sm_of _ (by decide) (by decide +kernel)⟩
theorem fx4 : IsS (.tuple [.tuple [.tuple [.str "hand", .int (-12), .int (-10)], .tuple [.str "rule", .int 12, .int 12]], .tuple [.tuple [.str "=", .int 1, .int 1]], .tuple [.tuple [.str "deed", .tuple [.tuple [.str "item", .tuple [.int (-12), .int 0]], .tuple [.str "rule", .tuple [.int 12, .int 1]]]]]]) := by
  refine is_s (its := [("hand", -12, -10), ("rule", 12, 12)]) (es := [.tuple [.str "=", .int 1, .int 1]]) (hs := [("deed", [("item", [-12, 0]), ("rule", [12, 1])])]) (by decide) (by decide) (by decide) (fun x hx => ?_) (fun x hx => ?_) (fun x hx => ?_)
  · simp only [List.mem_cons, List.not_mem_nil, or_false] at hx
    rcases hx with rfl | rfl
    · exact ⟨wd_hand, small (by decide), small (by decide)⟩
    · exact ⟨wd_rule, small (by decide), small (by decide)⟩
  · simp only [List.mem_cons, List.not_mem_nil, or_false] at hx
    obtain rfl := hx
    exact ⟨_, .bin (by simp) (.int (small (by decide))) (.int (small (by decide)))⟩
  · simp only [List.mem_cons, List.not_mem_nil, or_false] at hx
    obtain rfl := hx
    refine ⟨wd_deed, by decide, fun d hd => ?_⟩
    simp only [List.mem_cons, List.not_mem_nil, or_false] at hd
    rcases hd with rfl | rfl
    · exact ⟨wd_item, sm_of _ (by decide) (by decide +kernel)⟩
    · exact ⟨wd_rule, sm_of _ (by decide) (by decide +kernel)⟩
theorem fx5 : IsS (.tuple [.tuple [.tuple [.str "a", .int 0, .int 0]], .tuple [], .tuple [.tuple [.str "a", .tuple []]]]) := by
  refine is_s (its := [("a", 0, 0)]) (es := []) (hs := [("a", [])]) (by decide) (by decide) (by decide) (fun x hx => ?_) (fun x hx => by simp at hx) (fun x hx => ?_)
  · obtain rfl : x = (("a" : Str), (0 : Int), (0 : Int)) := by simpa using hx
    exact ⟨wd_a, small (by decide), small (by decide)⟩
  · simp only [List.mem_cons, List.not_mem_nil, or_false] at hx
    obtain rfl := hx
    exact ⟨wd_a, by decide, fun d hd => by simp at hd⟩
theorem p_fixed (q : ∀ xs : List PyData, (∀ x ∈ xs, IsS x) → xs.length = 5 → P (.own xs) t) : m_l_fixed_stores [] t P := by
  unfold m_l_fixed_stores
  walk_at "w"
  refine oixT0 rfl ?_
  walk_at "w"
  refine oixT0 rfl ?_
  walk_at "w"
  refine q _ (fun x hx => ?_) rfl
  simp only [List.mem_cons, List.not_mem_nil, or_false] at hx
  rcases hx with rfl | rfl | rfl | rfl | rfl
  · exact fx1
  · exact fx2
  · exact fx3
  · exact fx4
  · exact fx5
end
end K09
end
section
set_option maxRecDepth 100000
set_option maxHeartbeats 4000000
namespace K09
open PySem PySem.Spec PyProof.Rows L2 Dl Dw Dz
open Dw (ret)

theorem otupS_ap (z : Str) {t : Rs} (P : PyData → Rs → Prop) : otupS (.str z) t P = (z.length ≤ 16777216 ∧ P (.tuple (sgnD z)) t) := id rfl
theorem enumW_ap (f : W PyData) {t : Rs} (P : List PyData → Rs → Prop) : enumW f t P = f t fun x t1 => (match x with | .tuple xs => ret (enumD xs) | _ => bad) t1 P := id rfl
theorem tupRng_ap (f g : W PyData) {t : Rs} (P : PyData → Rs → Prop) : tupRngW f g t P = f t fun x t1 => (match x with | .int i => (bnd g fun y => match y with | .int j => need (RgOk i j) (ret (PyData.tuple (rngD i (j - i).toNat))) | _ => bad) | _ => bad) t1 P := id rfl
theorem sdW_ap (f : W PyData) {t : Rs} (P : List PyData → Rs → Prop) : sdW f t P = f t fun x t1 => (match x with | .list xs => (match intRows xs with | some nss => need (nss.length < 64 ∧ ∀ ns ∈ nss, ns ≠ []) (ret ((sdd nss).map iRow)) | none => bad) | _ => bad) t1 P := id rfl
theorem orepT_ap (xs : List PyData) (k : Int) {t : Rs} (P : PyData → Rs → Prop) : orepT (.tuple xs) (.int k) t P = ((xs ≠ [] ∧ 1 ≤ k ∧ k ≤ 1000 ∧ xs.length ≤ 1000) ∧ P (.tuple (List.replicate k.toNat xs).flatten) t) := id rfl
local macro_rules | `(tactic| walk_at "w") => `(tactic| try simp only [bnd_ap, ret_ap, need_ap, op1_ap, op2_ap, dA_ap, rdA_ap, callN_ap, asD_d, asD_own, asO_own, asB_b, asT_ap, froz_ap, disp_ap, ifW_ap, andT_ap, orT_ap, notT_ap, andW_b, orW_b, thn_ap, joi_ap, upO_ap, fnW_ap, fnU_ap, compW_ap, compO_ap, optW_ap, itL_ap, itT_ap, rng1_ap, rng2_ap, slT_ap, slL_ap, oN_ap, oS_ap, consA_ap, catL_ap, two_ap, three_ap, twoL_ap, threeL_ap, oadd_i, osub_i, omul_i, oneg_i, olt_i, ole_i, onot_b, oisi_ap, otup_l, otup_t, oint_i, olen_t, olen_l, arg0_ap, arg1_ap, arg2_ap, arg3_ap, arg4_ap, arg5_ap, argR0_ap, argR1_ap, argR2_ap, argR3_ap, dsOf, Option.map_some, Option.map_none, List.length_cons, List.length_nil, Nat.reduceAdd, Nat.reduceLeDiff, true_and, and_true, cond_t, cond_f, Bool.not_true, Bool.not_false, truD, neS_ap, ofdiv_i, decide_true, decide_false, oeq_ap, one_ap, eqvStr, eqvInt, eqvBool, shInt, shBool, and_self, isI_i, isB_i, isI_t, isI_b, isB_b, isT_i, isT_t, joinW_ap, joinD_ap, ofmt_s, ofmt_i, ostr_i, js_nil, js_cons, catS_ap, extV_ap, revL_ap, asL_t, starD_t, dsOf_star, eqSW_ap, ogt_i, omod_i, otupS_ap, enumW_ap, tupRng_ap, sdW_ap, orepT_ap, eq_self, strOk, beq_self_eq_true, b_tf, b_ft, Bool.or_true, Bool.true_or, Bool.or_false, Bool.false_or, Bool.and_true, Bool.and_false, Bool.false_and, Bool.true_and, wsh_0, wst_0, weq_0_0, weq_0_1, wne_0_1, weq_0_2, wne_0_2, weq_0_3, wne_0_3, weq_0_4, wne_0_4, weq_0_5, wne_0_5, weq_0_6, wne_0_6, weq_0_7, wne_0_7, weq_0_8, wne_0_8, wsh_1, wst_1, weq_1_0, wne_1_0, weq_1_1, weq_1_2, wne_1_2, weq_1_3, wne_1_3, weq_1_4, wne_1_4, weq_1_5, wne_1_5, weq_1_6, wne_1_6, weq_1_7, wne_1_7, weq_1_8, wne_1_8, wsh_2, wst_2, weq_2_0, wne_2_0, weq_2_1, wne_2_1, weq_2_2, weq_2_3, wne_2_3, weq_2_4, wne_2_4, weq_2_5, wne_2_5, weq_2_6, wne_2_6, weq_2_7, wne_2_7, weq_2_8, wne_2_8, wsh_3, wst_3, weq_3_0, wne_3_0, weq_3_1, wne_3_1, weq_3_2, wne_3_2, weq_3_3, weq_3_4, wne_3_4, weq_3_5, wne_3_5, weq_3_6, wne_3_6, weq_3_7, wne_3_7, weq_3_8, wne_3_8, wsh_4, wst_4, weq_4_0, wne_4_0, weq_4_1, wne_4_1, weq_4_2, wne_4_2, weq_4_3, wne_4_3, weq_4_4, weq_4_5, wne_4_5, weq_4_6, wne_4_6, weq_4_7, wne_4_7, weq_4_8, wne_4_8, wsh_5, wst_5, weq_5_0, wne_5_0, weq_5_1, wne_5_1, weq_5_2, wne_5_2, weq_5_3, wne_5_3, weq_5_4, wne_5_4, weq_5_5, weq_5_6, wne_5_6, weq_5_7, wne_5_7, weq_5_8, wne_5_8, wsh_6, wst_6, weq_6_0, wne_6_0, weq_6_1, wne_6_1, weq_6_2, wne_6_2, weq_6_3, wne_6_3, weq_6_4, wne_6_4, weq_6_5, wne_6_5, weq_6_6, weq_6_7, wne_6_7, weq_6_8, wne_6_8, wsh_7, wst_7, weq_7_0, wne_7_0, weq_7_1, wne_7_1, weq_7_2, wne_7_2, weq_7_3, wne_7_3, weq_7_4, wne_7_4, weq_7_5, wne_7_5, weq_7_6, wne_7_6, weq_7_7, weq_7_8, wne_7_8, wsh_8, wst_8, weq_8_0, wne_8_0, weq_8_1, wne_8_1, weq_8_2, wne_8_2, weq_8_3, wne_8_3, weq_8_4, wne_8_4, weq_8_5, wne_8_5, weq_8_6, wne_8_6, weq_8_7, wne_8_7, weq_8_8])
/-! ### how large the data are -/
theorem Ex.fin {n : Nat} {e : PyData} {gs : List (List Str)} (h : Ex n e gs) : Fin e ∧ sz e + 6 ≤ 25 * 2 ^ n ∧ e.depth ≤ 3 * n + 5 := by
  induction h with
  | @int n i h =>
    have := Nat.one_le_two_pow (n := n)
    exact ⟨lt256 h, by simp only [sz]; omega, by simp [PyData.depth]⟩
  | @item n s h =>
    have := Nat.one_le_two_pow (n := n)
    have l1 : ("item" : Str).length = 4 := by decide +kernel
    refine ⟨?_, ?_, ?_⟩
    · simp only [Dl.Fin, Dl.FinA]
      exact ⟨(tx_words "item" (by simp)).lo, h.lo, trivial⟩
    · have := h.len
      simp only [sz, szA]
      omega
    · simp [PyData.depth, PyData.depthAll]
  | @un n c gc _ ih =>
    obtain ⟨a, b, d⟩ := ih
    have l1 : ("not" : Str).length = 3 := by decide +kernel
    refine ⟨?_, ?_, ?_⟩
    · simp only [Dl.Fin, Dl.FinA]
      exact ⟨(tx_words "not" (by simp)).lo, a, trivial⟩
    · simp only [sz, szA, Nat.pow_succ]
      omega
    · simp only [PyData.depth, PyData.depthAll]
      omega
  | @bin n w x y gx gy hw _ _ ih1 ih2 =>
    obtain ⟨a, b, d⟩ := ih1
    obtain ⟨a', b', d'⟩ := ih2
    have hw := tx_words w (List.mem_cons_of_mem _ (List.mem_cons_of_mem _ hw))
    have l1 := hw.len
    refine ⟨?_, ?_, ?_⟩
    · simp only [Dl.Fin, Dl.FinA]
      exact ⟨hw.lo, a, a', trivial⟩
    · simp only [sz, szA, Nat.pow_succ]
      omega
    · simp only [PyData.depth, PyData.depthAll]
      omega
/-- Fin, size and depth of a row of data -/
def Sz (c d : Nat) (x : PyData) : Prop := Fin x ∧ sz x ≤ c ∧ x.depth ≤ d
theorem sz_row {α : Type} {f : α → PyData} {c d : Nat} : ∀ {xs : List α}, (∀ x ∈ xs, Sz c d (f x)) → FinA (xs.map f) ∧ szA (xs.map f) ≤ xs.length * c ∧ PyData.depthAll (xs.map f) ≤ d + 1
  | [], _ => by simp [Dl.FinA, szA, PyData.depthAll]
  | x :: r, h => by
    obtain ⟨a, b, e⟩ := h x (List.mem_cons_self ..)
    obtain ⟨a', b', e'⟩ := sz_row fun y hy => h y (List.mem_cons_of_mem _ hy)
    refine ⟨?_, ?_, ?_⟩
    · simp only [List.map_cons, Dl.FinA]
      exact ⟨a, a'⟩
    · simp only [List.map_cons, szA, List.length_cons, Nat.add_mul]
      omega
    · simp only [List.map_cons, PyData.depthAll]
      omega
theorem sz_tup {α : Type} {f : α → PyData} {c d : Nat} {xs : List α} {m : Nat} (h : ∀ x ∈ xs, Sz c d (f x)) (hm : xs.length ≤ m) : Sz (1 + m * c) (d + 2) (.tuple (xs.map f)) := by
  obtain ⟨a, b, e⟩ := sz_row h
  refine ⟨?_, ?_, ?_⟩
  · simp only [Dl.Fin]
    exact a
  · have := Nat.mul_le_mul_right c hm
    simp only [sz]
    omega
  · simp only [PyData.depth]
    omega
theorem sz_int {i : Int} (h : i.natAbs < 2 ^ 200) : Sz 1 1 (.int i) := ⟨lt256 h, by simp only [sz]; omega, by simp [PyData.depth]⟩
theorem sz_str {s : Str} (h : Tx 8 s) : Sz 9 1 (.str s) := ⟨h.lo, by have := h.len; simp only [sz]; omega, by simp [PyData.depth]⟩
theorem sz_sum {ns : List Int} (h : Sm12 ns) : Sz 13 3 (nT ns) := sz_tup (f := PyData.int) (c := 1) (d := 1) (m := 12) (fun i hi => sz_int (h.lt i hi)) h.len
theorem sz_two {a b : PyData} {c c' d : Nat} (h : Sz c d a) (h2 : Sz c' d b) : Sz (1 + c + c') (d + 2) (.tuple [a, b]) := by
  obtain ⟨x, y, z⟩ := h
  obtain ⟨x', y', z'⟩ := h2
  refine ⟨?_, ?_, ?_⟩
  · simp only [Dl.Fin, Dl.FinA]
    exact ⟨x, x', trivial⟩
  · simp only [sz, szA]
    omega
  · simp only [PyData.depth, PyData.depthAll]
    omega
theorem sz_three {a b e : PyData} {c c' c2 d : Nat} (h : Sz c d a) (h2 : Sz c' d b) (h3 : Sz c2 d e) : Sz (1 + c + c' + c2) (d + 3) (.tuple [a, b, e]) := by
  obtain ⟨x, y, z⟩ := h
  obtain ⟨x', y', z'⟩ := h2
  obtain ⟨x2, y2, z2⟩ := h3
  refine ⟨?_, ?_, ?_⟩
  · simp only [Dl.Fin, Dl.FinA]
    exact ⟨x, x', x2, trivial⟩
  · simp only [sz, szA]
    omega
  · simp only [PyData.depth, PyData.depthAll]
    omega
theorem Sz.mono {c c' d d' : Nat} {x : PyData} (h : Sz c d x) (h1 : c ≤ c') (h2 : d ≤ d') : Sz c' d' x := ⟨h.1, Nat.le_trans h.2.1 h1, Nat.le_trans h.2.2 h2⟩
theorem Sto.sz {its : List (Str × Int × Int)} {rs : List (PyData × List (List Str))} {hs : List (Str × List (Str × List Int))} (h : Sto its rs hs) : Sz 10000 40 (stE its rs hs) := by
  have a : Sz 1000 20 (.tuple (its.map itE)) := (sz_tup (f := itE) (c := 12) (d := 4) (m := 12) (fun x hx => by
    have o := h.ti x hx
    exact sz_three (sz_str o.nm) (sz_int o.lo) (sz_int o.hi)) h.li).mono (by decide) (by decide)
  have b : Sz 3000 20 (.tuple (rs.map rlE)) := (sz_tup (f := rlE) (c := 200) (d := 14) (m := 12) (fun x hx => by
    obtain ⟨p, q, r⟩ := (h.tr x hx).fin
    exact ⟨p, by show Dl.sz x.1 ≤ 200; omega, by show x.1.depth ≤ 14; omega⟩) h.lr).mono (by decide) (by decide)
  have c : Sz 5000 20 (.tuple (hs.map hnE)) := (sz_tup (f := hnE) (c := 300) (d := 9) (m := 12) (fun x hx => by
    have o := h.th x hx
    refine (sz_two (c := 9) (c' := 277) (d := 7) ((sz_str o.nm).mono (by decide) (by decide)) (sz_tup (f := ddE) (c := 23) (d := 5) (m := 12) (fun d hd => ?_) o.len)).mono (by decide) (by decide)
    have od := o.dd d hd
    exact (sz_two (c := 9) (c' := 13) (d := 3) ((sz_str od.nm).mono (by decide) (by decide)) (sz_sum od.sm)).mono (by decide) (by decide)) h.lh).mono (by decide) (by decide)
  exact (sz_three a b c).mono (by decide) (by decide)
theorem oreprL_z {x : PyData} {c d : Nat} {t : Rs} {P : PyData → Rs → Prop} (h : Sz c d x) (q : P (.str x.shown) t) (hc : c ≤ 50000 := by decide) (hd : d ≤ 60 := by decide) : oreprL x t P := oreprL_d h.1 (Nat.le_trans h.2.1 hc) (Nat.le_trans h.2.2 hd) q
theorem oreprL_t {s : Str} {n : Nat} {t : Rs} {P : PyData → Rs → Prop} (h : Tx n s) (q : P (.str (PyData.str s).shown) t) (hn : n ≤ 1500000 := by decide) : oreprL (.str s) t P := oreprL_s h.lo (Nat.le_trans h.len hn) q
theorem fil_none {f : PyData → W (Option PyData)} {t : Rs} {xs : List PyData} {P : List PyData → Rs → Prop} (h : ∀ x ∈ xs, ∀ Q : Option PyData → Rs → Prop, Q none t → f x t Q) (q : P [] t) : filO f xs t P := fil_fun (g := fun _ => none) h (by
  rw [show List.filterMap (fun _ => (none : Option PyData)) xs = [] from by simp]
  exact q)
theorem len_insI (x : List Int) : ∀ l : List (List Int), (insI x l).length ≤ l.length + 1
  | [] => by simp [insI]
  | y :: r => by
    have := len_insI x r
    rw [insI]
    split
    · simp
    · split
      · simp
      · simp only [List.length_cons]
        omega
theorem len_sdd : ∀ l : List (List Int), (sdd l).length ≤ l.length
  | [] => by simp [sdd]
  | y :: r => by
    have h1 := len_sdd r
    have h2 := len_insI y (sdd r)
    show (insI y (sdd r)).length ≤ _
    simp only [List.length_cons]
    omega
/-! ### the wide store -/
abbrev sg : List Str := ["a", "b", "c", "d", "e", "f", "g", "h", "i", "j", "k", "l"]
abbrev en : List (Int × Str) := [(0, "a"), (1, "b"), (2, "c"), (3, "d"), (4, "e"), (5, "f"), (6, "g"), (7, "h"), (8, "i"), (9, "j"), (10, "k"), (11, "l")]
abbrev enE (p : Int × Str) : PyData := .tuple [.int p.1, .str p.2]
theorem sg_eq : sgnD "abcdefghijkl" = sg.map PyData.str := by
  have h : (("abcdefghijkl" : Str).cps.toList.map fun c => (⟨#[c]⟩ : Str)) = sg := by decide +kernel
  rw [← h, List.map_map]
  rfl
theorem en_eq : enumD (sg.map PyData.str) = en.map enE := by rfl
theorem sg_tx : ∀ s ∈ sg, Tx 8 s := by
  have h : ∀ s ∈ sg, s.length ≤ 8 ∧ ∀ c ∈ s.cps.toList, c < 128 := by decide +kernel
  exact fun s hs => ⟨(h s hs).1, (h s hs).2⟩
theorem en_ok : ∀ p ∈ en, Tx 8 p.2 ∧ p.1.natAbs < 2 ^ 200 := by
  have h : ∀ p ∈ en, (p.2.length ≤ 8 ∧ ∀ c ∈ p.2.cps.toList, c < 128) ∧ p.1.natAbs < 2 ^ 200 := by decide +kernel
  exact fun s hs => ⟨⟨(h s hs).1.1, (h s hs).1.2⟩, (h s hs).2⟩
abbrev eqR : PyData := .tuple [.str "=", .int 1, .int 2]
theorem wide_ok : IsS (.tuple [.tuple ((en.map fun p => (p.2, (0 : Int), p.1)).map itE), .tuple (List.replicate 12 [eqR]).flatten, .tuple ((en.map fun p => (p.2, sg.map fun o => (o, [p.1, 0]))).map hnE)]) := by
  refine is_s (by simp) (by simp) (by simp) (fun x hx => ?_) (fun e he => ?_) (fun x hx => ?_)
  · obtain ⟨p, hp, rfl⟩ := List.mem_map.mp hx
    have := en_ok p hp
    exact ⟨this.1, small (by show (0 : Int).natAbs ≤ 100000; decide), this.2⟩
  · obtain ⟨l, hl, h2⟩ := List.mem_flatten.mp he
    have := List.eq_of_mem_replicate hl
    subst this
    obtain rfl := List.mem_singleton.mp h2
    exact ⟨_, .bin (by simp) (.int (small (by decide))) (.int (small (by decide)))⟩
  · obtain ⟨p, hp, rfl⟩ := List.mem_map.mp hx
    have o := en_ok p hp
    refine ⟨o.1, by simp, fun d hd => ?_⟩
    obtain ⟨s, hs, rfl⟩ := List.mem_map.mp hd
    refine ⟨sg_tx s hs, by simp, fun i hi => ?_⟩
    rcases (by simpa using hi : i = p.1 ∨ i = 0) with rfl | rfl
    · exact o.2
    · exact small (by decide)
end K09
end
section
set_option maxRecDepth 100000
set_option maxHeartbeats 4000000
namespace K09
open PySem PySem.Spec PyProof.Rows L2 Dl Dw Dz
open Dw (ret)
local macro_rules | `(tactic| walk_at "w") => `(tactic| try simp only [bnd_ap, ret_ap, need_ap, op1_ap, op2_ap, dA_ap, rdA_ap, callN_ap, asD_d, asD_own, asO_own, asB_b, asT_ap, froz_ap, disp_ap, ifW_ap, andT_ap, orT_ap, notT_ap, andW_b, orW_b, thn_ap, joi_ap, upO_ap, fnW_ap, fnU_ap, compW_ap, compO_ap, optW_ap, itL_ap, itT_ap, rng1_ap, rng2_ap, slT_ap, slL_ap, oN_ap, oS_ap, consA_ap, catL_ap, two_ap, three_ap, twoL_ap, threeL_ap, oadd_i, osub_i, omul_i, oneg_i, olt_i, ole_i, onot_b, oisi_ap, otup_l, otup_t, oint_i, olen_t, olen_l, arg0_ap, arg1_ap, arg2_ap, arg3_ap, arg4_ap, arg5_ap, argR0_ap, argR1_ap, argR2_ap, argR3_ap, dsOf, Option.map_some, Option.map_none, List.length_cons, List.length_nil, Nat.reduceAdd, Nat.reduceLeDiff, true_and, and_true, cond_t, cond_f, Bool.not_true, Bool.not_false, truD, neS_ap, ofdiv_i, decide_true, decide_false, oeq_ap, one_ap, eqvStr, eqvInt, eqvBool, shInt, shBool, and_self, isI_i, isB_i, isI_t, isI_b, isB_b, isT_i, isT_t, joinW_ap, joinD_ap, ofmt_s, ofmt_i, ostr_i, js_nil, js_cons, catS_ap, extV_ap, revL_ap, asL_t, starD_t, dsOf_star, eqSW_ap, ogt_i, omod_i, otupS_ap, enumW_ap, tupRng_ap, sdW_ap, orepT_ap, eq_self, opow_i, strOk, beq_self_eq_true, b_tf, b_ft, Bool.or_true, Bool.true_or, Bool.or_false, Bool.false_or, Bool.and_true, Bool.and_false, Bool.false_and, Bool.true_and, wsh_0, wst_0, weq_0_0, weq_0_1, wne_0_1, weq_0_2, wne_0_2, weq_0_3, wne_0_3, weq_0_4, wne_0_4, weq_0_5, wne_0_5, weq_0_6, wne_0_6, weq_0_7, wne_0_7, weq_0_8, wne_0_8, wsh_1, wst_1, weq_1_0, wne_1_0, weq_1_1, weq_1_2, wne_1_2, weq_1_3, wne_1_3, weq_1_4, wne_1_4, weq_1_5, wne_1_5, weq_1_6, wne_1_6, weq_1_7, wne_1_7, weq_1_8, wne_1_8, wsh_2, wst_2, weq_2_0, wne_2_0, weq_2_1, wne_2_1, weq_2_2, weq_2_3, wne_2_3, weq_2_4, wne_2_4, weq_2_5, wne_2_5, weq_2_6, wne_2_6, weq_2_7, wne_2_7, weq_2_8, wne_2_8, wsh_3, wst_3, weq_3_0, wne_3_0, weq_3_1, wne_3_1, weq_3_2, wne_3_2, weq_3_3, weq_3_4, wne_3_4, weq_3_5, wne_3_5, weq_3_6, wne_3_6, weq_3_7, wne_3_7, weq_3_8, wne_3_8, wsh_4, wst_4, weq_4_0, wne_4_0, weq_4_1, wne_4_1, weq_4_2, wne_4_2, weq_4_3, wne_4_3, weq_4_4, weq_4_5, wne_4_5, weq_4_6, wne_4_6, weq_4_7, wne_4_7, weq_4_8, wne_4_8, wsh_5, wst_5, weq_5_0, wne_5_0, weq_5_1, wne_5_1, weq_5_2, wne_5_2, weq_5_3, wne_5_3, weq_5_4, wne_5_4, weq_5_5, weq_5_6, wne_5_6, weq_5_7, wne_5_7, weq_5_8, wne_5_8, wsh_6, wst_6, weq_6_0, wne_6_0, weq_6_1, wne_6_1, weq_6_2, wne_6_2, weq_6_3, wne_6_3, weq_6_4, wne_6_4, weq_6_5, wne_6_5, weq_6_6, weq_6_7, wne_6_7, weq_6_8, wne_6_8, wsh_7, wst_7, weq_7_0, wne_7_0, weq_7_1, wne_7_1, weq_7_2, wne_7_2, weq_7_3, wne_7_3, weq_7_4, wne_7_4, weq_7_5, wne_7_5, weq_7_6, wne_7_6, weq_7_7, weq_7_8, wne_7_8, wsh_8, wst_8, weq_8_0, wne_8_0, weq_8_1, wne_8_1, weq_8_2, wne_8_2, weq_8_3, wne_8_3, weq_8_4, wne_8_4, weq_8_5, wne_8_5, weq_8_6, wne_8_6, weq_8_7, wne_8_7, weq_8_8])

theorem eqv_nilL : PyData.eqv (.list []) (.list []) = true := by simp [PyData.eqv, PyData.eqvAll]
theorem lay_tx {n : Nat} {a : Str} (h : Tx n a) : PyData.strOk a = true := by
  simp only [PyData.strOk, Array.all_eq_true]
  intro i hi
  have := h.lo _ (Array.getElem_mem_toList hi)
  simp
  omega
theorem sh_ss {n m : Nat} {a b : Str} (h : Tx n a) (h2 : Tx m b) : SeqAt.shaped (.list [.str a, .str b]) = true ∧ SeqAt.shaped (.list [.str a, .str b]) = true := by
  have : SeqAt.shaped (.list [.str a, .str b]) = true := shaped_of (by simp [PyData.canLay0, PyData.canLayAll0, lay_tx h, lay_tx h2]) (by simp [PyData.depth, PyData.depthAll])
  exact ⟨this, this⟩
theorem rngD_mem {lo : Int} {n : Nat} {z : PyData} (h : z ∈ rngD lo n) : ∃ j : Int, z = .int j := by
  obtain ⟨i, _, rfl⟩ := List.mem_map.mp h
  exact ⟨_, rfl⟩
theorem eqv_ss (a b : Str) : PyData.eqv (.list [.str a, .str b]) (.list [.str a, .str b]) = true := by simp [PyData.eqv, PyData.eqvAll]
theorem jn_words {k : Nat} {e : PyData} {gs : List (List Str)} (o : Ex k e gs) (hk : k ≤ 3) : (gs.flatten.map (·.length)).sum + gs.flatten.length * (Str.ofString " ").length ≤ 16777216 := by
  refine jn_fit (n := 298) (m := 30) (fun s hs => ?_) (ex_words o hk) (by decide +kernel) (by decide)
  obtain ⟨g, hg, hw⟩ := List.mem_flatten.mp hs
  exact (o.gok.tx g hg s hw).len
section
variable {t : Rs}
theorem p_turn {e : PyData} {gs : List (List Str)} (he : Ex 3 e gs) {n : Nat} (hF : Fr (n + 20) t) (Q : Out Unit Unit → Rs → Prop) (q : ∀ t', Fr n t' → Q (.nx ()) t') :
  (bnd (op1 oreprL (ret e)) fun saved24 =>
  ifW (orT (neS (op1 oreprL (bnd (callN 1 m_expression_text (dA (ret e) (ret []))) asD)) (op1 oreprL (joinW (ret (.str " ")) (bnd (callN 1 (m_l_words 12) (dA (ret e) (ret []))) asD)))) (neS (op1 oreprL (ret e)) (ret saved24))) (upO (bnd (ret (.bool false)) fun x => ret (.rt (.d x)))) (
  bnd (op2 oadd (ret (.int 1)) (bnd (callN 2 m_l_draw (rdA (dA (ret (.int 2)) (ret [])))) asD)) fun many25 =>
  bnd (op1 otup (froz (sdW (froz (compW (rng1 (bnd (callN 2 m_l_draw (rdA (dA (ret (.int 7)) (ret [])))) asD)) fun k27 => bnd (callN 2 m_l_random_sum (rdA (dA (ret many25) (ret [])))) asD))))) fun lot26 =>
  ifW (neS (op1 oreprL (bnd (callN 1 m_sums_text (dA (ret lot26) (ret []))) asD)) (op1 oreprL (bnd (callN 1 m_l_sums_text (dA (ret lot26) (ret []))) asD))) (upO (bnd (ret (.bool false)) fun x => ret (.rt (.d x)))) (
  ifW (bnd (op2 one_ (froz (compO (itT (ret lot26)) fun one28 => optW (neS (bnd (callN 1 m_sum_text (dA (ret one28) (ret []))) asD) (bnd (callN 1 m_l_sum_text (dA (ret one28) (ret []))) asD)) (ret one28))) (froz (disp (ret []) ret))) asB) (upO (bnd (ret (.bool false)) fun x => ret (.rt (.d x)))) (
  (ret (.nx ()) : W (Out Unit Unit)))))) t Q := by
  obtain ⟨a, b, c⟩ := he.fin
  have z : Sz 194 14 e := ⟨a, by omega, by omega⟩
  have tx := ex_tx he (by decide)
  walk_at "w"
  refine oreprL_z z ?_
  walk_at "w"
  refine p_expr he (by decide) ?_
  walk_at "w"
  refine oreprL_t tx ?_
  walk_at "w"
  refine p_words he 12 _ (by decide) (by decide) ?_
  walk_at "w"
  refine ⟨jn_words he (by decide), ?_⟩
  refine oreprL_t tx ?_
  walk_at "w"
  refine oreprL_z z ?_
  walk_at "w"
  refine draw_ap (n := n + 19) hF (by decide) (by decide) fun i t' h0 h1 hF => ?_
  walk_at "w"
  obtain ⟨m, em, m1, m2⟩ : ∃ m : Nat, (1 + i : Int) = (m : Int) ∧ 1 ≤ m ∧ m ≤ 2 := ⟨(1 + i).toNat, by omega, by omega, by omega⟩
  rw [em]
  refine draw_ap (n := n + 18) hF (by decide) (by decide) fun k t' g0 g1 hF => ?_
  walk_at "w"
  refine ⟨⟨by omega, by omega⟩, by simp [rngD]; omega, ?_⟩
  refine map_cps (fun rest acc t => ∃ nss : List (List Int), acc = nss.map iRow ∧ (∀ ns ∈ nss, Sm12 ns ∧ ns ≠ []) ∧ nss.length + rest.length ≤ 6 ∧ Fr (n + 2 * rest.length) t) (fun x r acc t hI2 Q hQ => ?_) _ [] t' _ ⟨[], rfl, by simp, by simp [rngD]; omega, hF.mono (by simp [rngD]; omega)⟩ (fun ys t' hI2 => ?_)
  · obtain ⟨nss, rfl, hb, hl, hF⟩ := hI2
    walk_at "w"
    refine p_rsum (n := n + 2 * r.length) (by omega) (hF.mono (by simp only [List.length_cons]; omega)) fun ns t' l5 h5 hF => ?_
    walk_at "w"
    refine hQ _ _ ⟨nss ++ [ns], by simp, fun x hx => ?_, by simp only [List.length_append, List.length_cons, List.length_nil] at hl ⊢; omega, hF⟩
    rcases List.mem_append.mp hx with h | h
    · exact hb x h
    · obtain rfl : x = ns := by simpa using h
      exact ⟨h5, fun z => by subst z; simp at l5; omega⟩
  obtain ⟨nss, e1, hb, hl, hF⟩ := hI2
  rw [List.nil_append] at e1
  subst e1
  simp only [List.length_nil, Nat.mul_zero, Nat.add_zero] at hF hl
  walk_at "w"
  simp only [intRows_map]
  walk_at "w"
  refine ⟨⟨by omega, fun ns hns => (hb ns hns).2⟩, ?_⟩
  have ls := len_sdd nss
  have hS : Ss (sdd nss) := ⟨by omega, fun ns hns => (hb ns (mem_sdd.mp hns)).1⟩
  refine p_sums hS ?_
  walk_at "w"
  refine oreprL_t hS.tx ?_
  walk_at "w"
  refine q_sums hS ?_
  walk_at "w"
  refine oreprL_t hS.tx ?_
  walk_at "w"
  refine ⟨by rw [List.length_map]; omega, ?_⟩
  refine fil_none (fun x hx Q2 hQ2 => ?_) ?_
  · obtain ⟨ns, hns, rfl⟩ := List.mem_map.mp hx
    walk_at "w"
    refine p_sum (hS.sm ns hns) ?_
    walk_at "w"
    refine q_sum (hS.sm ns hns) ?_
    walk_at "w"
    exact hQ2
  · walk_at "w"
    refine ⟨by decide, ?_⟩
    simp only [eqv_nilL]
    walk_at "w"
    exact q _ hF

theorem iface : True := trivial
theorem nm3 : Nm ["item", "pay", "x"] := ⟨by decide, by decide, fun s hs => by
  simp only [List.mem_cons, List.not_mem_nil, or_false] at hs
  rcases hs with rfl | rfl | rfl
  · exact wd_item
  · exact wd_pay
  · exact wd_x⟩
abbrev i12 : List Int := [0, 1, 2, 3, 4, 5, 6, 7, 8, 9, 10, 11]
abbrev j12 : List Int := [-6, -5, -4, -3, -2, -1, 0, 1, 2, 3, 4, 5]
theorem rng_i12 : rngD 0 (12 : Int).toNat = i12.map PyData.int := by rfl
theorem rng_j12 : rngD (-6) ((6 : Int) - -6).toNat = j12.map PyData.int := by rfl
theorem ss12 : Ss (i12.map fun i => [i, -i]) := ⟨by simp, fun ns hns => by
  obtain ⟨i, hi, rfl⟩ := List.mem_map.mp hns
  have h : ∀ i ∈ i12, i.natAbs < 2 ^ 200 := by decide +kernel
  have := h i hi
  refine ⟨by simp, fun j hj => ?_⟩
  rcases (by simpa using hj : j = i ∨ j = -i) with rfl | rfl
  · exact this
  · rw [Int.natAbs_neg]
    exact this⟩
theorem sm_j12 : Sm12 j12 := sm_of _ (by decide) (by decide +kernel)
theorem sm_far : Sm12 [far, -far, 0] := sm_of _ (by decide) (by decide +kernel)
theorem ss_far : Ss [[far, -far, 0]] := ⟨by decide, fun ns hns => by
  obtain rfl : ns = [far, -far, 0] := by simpa using hns
  exact sm_far⟩
theorem sums_far : sumsT [[far, -far, 0]] = sumT [far, -far, 0] := by
  unfold sumsT
  rw [if_neg (by simp), List.map_cons, List.map_nil, jn_one]
theorem ex_great {a b : PyData} {x y : Str} (ha : a = .tuple [.str "item", .str x]) (hb : b = .tuple [.str "item", .str y]) (hx : Tx 8 x) (hy : Tx 8 y) : ∃ gs, Ex 3 (.tuple [.str "and", .tuple [.str "<", .tuple [.str "+", a, b], .tuple [.str "*", a, b]], .tuple [.str "=", .tuple [.str "-", a, b], .tuple [.str "+", b, a]]]) gs := by
  subst ha hb
  exact ⟨_, .bin (by simp) (.bin (by simp) (.bin (by simp) (.item hx) (.item hy)) (.bin (by simp) (.item hx) (.item hy))) (.bin (by simp) (.bin (by simp) (.item hx) (.item hy)) (.bin (by simp) (.item hy) (.item hx)))⟩
theorem t7 : Txt.join " " ([[ts (-7)]] : List (List Str)).flatten = ("-7" : Str) := by
  rw [show ([[ts (-7)]] : List (List Str)).flatten = [ts (-7)] from rfl, jn_one]
  decide +kernel
theorem tii : Txt.join " " ([["item", "item"]] : List (List Str)).flatten = ("item item" : Str) := by
  rw [show ([["item", "item"]] : List (List Str)).flatten = (["item", "item"] : List Str) from rfl, jn_cons, jn_one]
  decide +kernel
def Lok (s : List PyData) : Prop := ∀ x ∈ s, IsS x
theorem law_true (t : Rs) (hl : t.ns.length ≤ 63) (hd : t.draws = 0) : m_law t fun o _ => o = .rt (.d (.bool true)) := by
  have hF : Fr 100000 t := ⟨hl, by omega, by omega⟩
  unfold m_law
  walk_at "w"
  refine p_fixed fun xs hxs lxs => ?_
  walk_at "w"
  refine ⟨by decide +kernel, ?_⟩
  rw [sg_eq]
  refine ⟨⟨by decide, by decide⟩, ?_⟩
  refine for_cps (fun rest s t => Lok s ∧ (∀ z ∈ rest, ∃ j : Int, z = .int j) ∧ s.length + rest.length = 11 ∧ Fr (50000 + 260 * rest.length) t) (fun x r s t hI Q hQ => ?_) (fun s t hI => ?_) _ _ _ ⟨hxs, fun z hz => ?_, by rw [lxs]; rfl, hF.mono (by decide)⟩
  · obtain ⟨hs, hr, hlen, hF⟩ := hI
    obtain ⟨j, rfl⟩ := hr x (List.mem_cons_self ..)
    simp only [List.length_cons] at hlen hF
    walk_at "w"
    refine ⟨by decide, ?_⟩
    refine cond_ap (fun e => ?_) (fun e => ?_)
    · walk_at "w"
      refine p_rstore (n := 50000 + 260 * r.length) (hF.mono (by omega)) fun y t' hy hF => ?_
      walk_at "w"
      refine ⟨by omega, hQ _ _ ⟨fun z hz => ?_, fun z hz => hr z (List.mem_cons_of_mem _ hz), by simp only [List.length_append, List.length_cons, List.length_nil]; omega, hF⟩⟩
      rcases List.mem_append.mp hz with h | h
      · exact hs z h
      · obtain rfl : z = y := by simpa using h
        exact hy
    · walk_at "w"
      refine p_loose (n := 50000 + 260 * r.length) (hF.mono (by omega)) fun y t' hy hF => ?_
      walk_at "w"
      refine ⟨by omega, hQ _ _ ⟨fun z hz => ?_, fun z hz => hr z (List.mem_cons_of_mem _ hz), by simp only [List.length_append, List.length_cons, List.length_nil]; omega, hF⟩⟩
      rcases List.mem_append.mp hz with h | h
      · exact hs z h
      · obtain rfl : z = y := by simpa using h
        exact hy
  · obtain ⟨hs, hr, hlen, hF⟩ := hI
    simp only [List.length_nil, Nat.add_zero, Nat.mul_zero] at hlen hF
    walk_at "w"
    rw [en_eq]
    refine ⟨by decide, ?_⟩
    refine map_on (h := fun p => hnE (p.2, sg.map fun o => (o, [p.1, 0]))) (fun p hp Q hQ => ?_) ?_
    · walk_at "w"
      refine ⟨by decide, ?_⟩
      refine map_on (h := fun o => ddE (o, [p.1, 0])) (fun o ho Q2 hQ2 => ?_) ?_
      · walk_at "w"
        exact hQ2
      · walk_at "w"
        rw [show (hnE (p.2, sg.map fun o => (o, [p.1, 0]))) = .tuple [.str p.2, .tuple (sg.map fun o => ddE (o, [p.1, 0]))] from by rfl] at hQ
        exact hQ
    walk_at "w"
    refine ⟨by decide, ?_⟩
    refine map_on (h := fun p => itE (p.2, 0, p.1)) (fun p hp Q hQ => ?_) ?_
    · walk_at "w"
      exact hQ
    walk_at "w"
    refine ⟨⟨by simp, by decide, by decide⟩, by omega, ?_⟩
    refine for_cps (fun rest _ t' => Lok rest ∧ Fr 50000 t') (fun x r _ t' hI Q hQ => ?_) (fun _ t' hI => ?_) _ _ _ ⟨fun z hz => ?_, hF⟩
    · obtain ⟨hr, hF⟩ := hI
      obtain ⟨its, rs, hs', rfl, h⟩ := hr x (List.mem_cons_self ..)
      walk_at "w"
      refine oreprL_z h.sz ?_
      walk_at "w"
      refine p_store h ?_
      walk_at "w"
      refine oreprL_t h.tx ?_
      walk_at "w"
      refine q_store h ?_
      walk_at "w"
      refine oreprL_t h.tx ?_
      walk_at "w"
      refine oreprL_z h.sz ?_
      walk_at "w"
      exact hQ _ _ ⟨fun y hy => hr y (List.mem_cons_of_mem _ hy), hF⟩
    · obtain ⟨_, hF⟩ := hI
      walk_at "w"
      refine ⟨⟨by decide, by decide⟩, ?_⟩
      refine for_cps (fun rest _ t => (∀ z ∈ rest, ∃ j : Int, z = .int j) ∧ Fr (200 * rest.length) t) (fun x r _ t hI Q hQ => ?_) (fun _ t hI => ?_) _ _ _ ⟨fun z hz => ?_, hF.mono (by decide)⟩
      · obtain ⟨hr, hF⟩ := hI
        obtain ⟨j, rfl⟩ := hr x (List.mem_cons_self ..)
        simp only [List.length_cons] at hF
        walk_at "w"
        refine p_number nm3 4 2 2 (by decide) (by decide) (200 * r.length + 130) _ _ (hF.mono (by show 200 * r.length + 130 + 15 ≤ _; omega)) fun e gs t' he hF => ?_
        walk_at "w"
        refine ⟨by decide, ?_⟩
        refine cond_ap (fun e => ?_) (fun e => ?_)
        · walk_at "w"
          refine p_cond nm3 4 2 2 (by decide) (by decide) (by decide) (200 * r.length + 30) _ _ (hF.mono (by show 200 * r.length + 30 + 100 ≤ _; omega)) fun e gs t' he hF => ?_
          walk_at "w"
          have z := p_turn (n := 200 * r.length) he (hF.mono (by omega)) Q fun t' hF => hQ _ _ ⟨fun z hz => hr z (List.mem_cons_of_mem _ hz), hF⟩
          try simp only [bnd_ap, ret_ap, need_ap, op1_ap, op2_ap, dA_ap, rdA_ap, callN_ap, asD_d, asD_own, asO_own, asB_b, asT_ap, froz_ap, disp_ap, ifW_ap, andT_ap, orT_ap, notT_ap, andW_b, orW_b, thn_ap, joi_ap, upO_ap, fnW_ap, fnU_ap, compW_ap, compO_ap, optW_ap, itL_ap, itT_ap, rng1_ap, rng2_ap, slT_ap, slL_ap, oN_ap, oS_ap, consA_ap, catL_ap, two_ap, three_ap, twoL_ap, threeL_ap, oadd_i, osub_i, omul_i, oneg_i, olt_i, ole_i, onot_b, oisi_ap, otup_l, otup_t, oint_i, olen_t, olen_l, arg0_ap, arg1_ap, arg2_ap, arg3_ap, arg4_ap, arg5_ap, argR0_ap, argR1_ap, argR2_ap, argR3_ap, dsOf, Option.map_some, Option.map_none, List.length_cons, List.length_nil, Nat.reduceAdd, Nat.reduceLeDiff, true_and, and_true, cond_t, cond_f, Bool.not_true, Bool.not_false, truD, neS_ap, ofdiv_i, decide_true, decide_false, oeq_ap, one_ap, eqvStr, eqvInt, eqvBool, shInt, shBool, and_self, isI_i, isB_i, isI_t, isI_b, isB_b, isT_i, isT_t, joinW_ap, joinD_ap, ofmt_s, ofmt_i, ostr_i, js_nil, js_cons, catS_ap, extV_ap, revL_ap, asL_t, starD_t, dsOf_star, eqSW_ap, ogt_i, omod_i, otupS_ap, enumW_ap, tupRng_ap, sdW_ap, orepT_ap, eq_self, opow_i, strOk, beq_self_eq_true, b_tf, b_ft, Bool.or_true, Bool.true_or, Bool.or_false, Bool.false_or, Bool.and_true, Bool.and_false, Bool.false_and, Bool.true_and, wsh_0, wst_0, weq_0_0, weq_0_1, wne_0_1, weq_0_2, wne_0_2, weq_0_3, wne_0_3, weq_0_4, wne_0_4, weq_0_5, wne_0_5, weq_0_6, wne_0_6, weq_0_7, wne_0_7, weq_0_8, wne_0_8, wsh_1, wst_1, weq_1_0, wne_1_0, weq_1_1, weq_1_2, wne_1_2, weq_1_3, wne_1_3, weq_1_4, wne_1_4, weq_1_5, wne_1_5, weq_1_6, wne_1_6, weq_1_7, wne_1_7, weq_1_8, wne_1_8, wsh_2, wst_2, weq_2_0, wne_2_0, weq_2_1, wne_2_1, weq_2_2, weq_2_3, wne_2_3, weq_2_4, wne_2_4, weq_2_5, wne_2_5, weq_2_6, wne_2_6, weq_2_7, wne_2_7, weq_2_8, wne_2_8, wsh_3, wst_3, weq_3_0, wne_3_0, weq_3_1, wne_3_1, weq_3_2, wne_3_2, weq_3_3, weq_3_4, wne_3_4, weq_3_5, wne_3_5, weq_3_6, wne_3_6, weq_3_7, wne_3_7, weq_3_8, wne_3_8, wsh_4, wst_4, weq_4_0, wne_4_0, weq_4_1, wne_4_1, weq_4_2, wne_4_2, weq_4_3, wne_4_3, weq_4_4, weq_4_5, wne_4_5, weq_4_6, wne_4_6, weq_4_7, wne_4_7, weq_4_8, wne_4_8, wsh_5, wst_5, weq_5_0, wne_5_0, weq_5_1, wne_5_1, weq_5_2, wne_5_2, weq_5_3, wne_5_3, weq_5_4, wne_5_4, weq_5_5, weq_5_6, wne_5_6, weq_5_7, wne_5_7, weq_5_8, wne_5_8, wsh_6, wst_6, weq_6_0, wne_6_0, weq_6_1, wne_6_1, weq_6_2, wne_6_2, weq_6_3, wne_6_3, weq_6_4, wne_6_4, weq_6_5, wne_6_5, weq_6_6, weq_6_7, wne_6_7, weq_6_8, wne_6_8, wsh_7, wst_7, weq_7_0, wne_7_0, weq_7_1, wne_7_1, weq_7_2, wne_7_2, weq_7_3, wne_7_3, weq_7_4, wne_7_4, weq_7_5, wne_7_5, weq_7_6, wne_7_6, weq_7_7, weq_7_8, wne_7_8, wsh_8, wst_8, weq_8_0, wne_8_0, weq_8_1, wne_8_1, weq_8_2, wne_8_2, weq_8_3, wne_8_3, weq_8_4, wne_8_4, weq_8_5, wne_8_5, weq_8_6, wne_8_6, weq_8_7, wne_8_7, weq_8_8] at z
          exact z
        · walk_at "w"
          have z := p_turn (n := 200 * r.length) (he.mono (by decide)) (hF.mono (by omega)) Q fun t' hF => hQ _ _ ⟨fun z hz => hr z (List.mem_cons_of_mem _ hz), hF⟩
          try simp only [bnd_ap, ret_ap, need_ap, op1_ap, op2_ap, dA_ap, rdA_ap, callN_ap, asD_d, asD_own, asO_own, asB_b, asT_ap, froz_ap, disp_ap, ifW_ap, andT_ap, orT_ap, notT_ap, andW_b, orW_b, thn_ap, joi_ap, upO_ap, fnW_ap, fnU_ap, compW_ap, compO_ap, optW_ap, itL_ap, itT_ap, rng1_ap, rng2_ap, slT_ap, slL_ap, oN_ap, oS_ap, consA_ap, catL_ap, two_ap, three_ap, twoL_ap, threeL_ap, oadd_i, osub_i, omul_i, oneg_i, olt_i, ole_i, onot_b, oisi_ap, otup_l, otup_t, oint_i, olen_t, olen_l, arg0_ap, arg1_ap, arg2_ap, arg3_ap, arg4_ap, arg5_ap, argR0_ap, argR1_ap, argR2_ap, argR3_ap, dsOf, Option.map_some, Option.map_none, List.length_cons, List.length_nil, Nat.reduceAdd, Nat.reduceLeDiff, true_and, and_true, cond_t, cond_f, Bool.not_true, Bool.not_false, truD, neS_ap, ofdiv_i, decide_true, decide_false, oeq_ap, one_ap, eqvStr, eqvInt, eqvBool, shInt, shBool, and_self, isI_i, isB_i, isI_t, isI_b, isB_b, isT_i, isT_t, joinW_ap, joinD_ap, ofmt_s, ofmt_i, ostr_i, js_nil, js_cons, catS_ap, extV_ap, revL_ap, asL_t, starD_t, dsOf_star, eqSW_ap, ogt_i, omod_i, otupS_ap, enumW_ap, tupRng_ap, sdW_ap, orepT_ap, eq_self, opow_i, strOk, beq_self_eq_true, b_tf, b_ft, Bool.or_true, Bool.true_or, Bool.or_false, Bool.false_or, Bool.and_true, Bool.and_false, Bool.false_and, Bool.true_and, wsh_0, wst_0, weq_0_0, weq_0_1, wne_0_1, weq_0_2, wne_0_2, weq_0_3, wne_0_3, weq_0_4, wne_0_4, weq_0_5, wne_0_5, weq_0_6, wne_0_6, weq_0_7, wne_0_7, weq_0_8, wne_0_8, wsh_1, wst_1, weq_1_0, wne_1_0, weq_1_1, weq_1_2, wne_1_2, weq_1_3, wne_1_3, weq_1_4, wne_1_4, weq_1_5, wne_1_5, weq_1_6, wne_1_6, weq_1_7, wne_1_7, weq_1_8, wne_1_8, wsh_2, wst_2, weq_2_0, wne_2_0, weq_2_1, wne_2_1, weq_2_2, weq_2_3, wne_2_3, weq_2_4, wne_2_4, weq_2_5, wne_2_5, weq_2_6, wne_2_6, weq_2_7, wne_2_7, weq_2_8, wne_2_8, wsh_3, wst_3, weq_3_0, wne_3_0, weq_3_1, wne_3_1, weq_3_2, wne_3_2, weq_3_3, weq_3_4, wne_3_4, weq_3_5, wne_3_5, weq_3_6, wne_3_6, weq_3_7, wne_3_7, weq_3_8, wne_3_8, wsh_4, wst_4, weq_4_0, wne_4_0, weq_4_1, wne_4_1, weq_4_2, wne_4_2, weq_4_3, wne_4_3, weq_4_4, weq_4_5, wne_4_5, weq_4_6, wne_4_6, weq_4_7, wne_4_7, weq_4_8, wne_4_8, wsh_5, wst_5, weq_5_0, wne_5_0, weq_5_1, wne_5_1, weq_5_2, wne_5_2, weq_5_3, wne_5_3, weq_5_4, wne_5_4, weq_5_5, weq_5_6, wne_5_6, weq_5_7, wne_5_7, weq_5_8, wne_5_8, wsh_6, wst_6, weq_6_0, wne_6_0, weq_6_1, wne_6_1, weq_6_2, wne_6_2, weq_6_3, wne_6_3, weq_6_4, wne_6_4, weq_6_5, wne_6_5, weq_6_6, weq_6_7, wne_6_7, weq_6_8, wne_6_8, wsh_7, wst_7, weq_7_0, wne_7_0, weq_7_1, wne_7_1, weq_7_2, wne_7_2, weq_7_3, wne_7_3, weq_7_4, wne_7_4, weq_7_5, wne_7_5, weq_7_6, wne_7_6, weq_7_7, weq_7_8, wne_7_8, wsh_8, wst_8, weq_8_0, wne_8_0, weq_8_1, wne_8_1, weq_8_2, wne_8_2, weq_8_3, wne_8_3, weq_8_4, wne_8_4, weq_8_5, wne_8_5, weq_8_6, wne_8_6, weq_8_7, wne_8_7, weq_8_8] at z
          exact z
      · walk_at "w"
        rw [rng_i12]
        refine ⟨⟨by decide, by decide⟩, by decide, ?_⟩
        refine map_on (h := fun i => nT [i, -i]) (fun i hi Q hQ => ?_) ?_
        · walk_at "w"
          exact hQ
        walk_at "w"
        rw [rng_j12]
        refine ⟨⟨by decide, by decide, by decide, by decide, by decide⟩, ?_⟩
        rw [show (i12.map fun i => nT [i, -i]) = (i12.map fun i => [i, -i]).map nT from by rw [List.map_map]; rfl]
        refine p_sums ss12 ?_
        walk_at "w"
        refine p_sum sm_j12 ?_
        walk_at "w"
        refine q_sums ss12 ?_
        walk_at "w"
        refine q_sum sm_j12 ?_
        walk_at "w"
        refine ⟨(sh_ss ss12.tx sm_j12.tx).1, ?_⟩
        simp only [eqv_ss]
        walk_at "w"
        obtain ⟨gs, hg⟩ := ex_great (a := .tuple [.str "item", .str "a"]) (b := .tuple [.str "item", .str "b"]) rfl rfl wd_a wd_b
        refine p_expr hg (by decide) ?_
        walk_at "w"
        refine p_words hg 12 _ (by decide) (by decide) ?_
        walk_at "w"
        refine ⟨jn_words hg (by decide), ?_⟩
        walk_at "w"
        refine ⟨⟨by decide, by decide, by decide⟩, ?_⟩
        walk_at "w"
        try refine ⟨⟨by decide, by decide, by decide⟩, ?_⟩
        walk_at "w"
        refine p_sum sm_far ?_
        walk_at "w"
        refine p_sums ss_far ?_
        walk_at "w"
        refine q_sum sm_far ?_
        walk_at "w"
        refine q_sum sm_far ?_
        walk_at "w"
        rw [sums_far]
        refine ⟨sh_ss sm_far.tx sm_far.tx, ?_⟩
        simp only [eqv_ss]
        walk_at "w"
        refine p_expr (k := 0) (.int (i := -7) (small (by decide))) (by decide) ?_
        walk_at "w"
        rw [t7]
        walk_at "w"
        refine p_expr (k := 0) (.item wd_item) (by decide) ?_
        walk_at "w"
        rw [tii]
        walk_at "w"
        refine p_sums (nss := []) ⟨by decide, by simp⟩ ?_
        walk_at "w"
        try rfl
      · obtain ⟨_, rfl⟩ := rngD_mem hz
        exact ⟨_, rfl⟩
    · rcases List.mem_append.mp hz with h | h
      · exact hs z h
      · obtain rfl := List.mem_singleton.mp h
        have w := wide_ok
        rw [List.map_map, List.map_map] at w
        exact w
  · obtain ⟨_, rfl⟩ := rngD_mem hz
    exact ⟨_, rfl⟩
end
end K09
end
section
set_option maxRecDepth 100000
set_option maxHeartbeats 4000000
namespace Dl
open PySem PySem.Spec PyProof.Rows L2
theorem cut63 (ns : List Int) : cutV (ns.map V.int) none (some 63) = (ns.take 63).map V.int := by
  have e0 : HT.sIx (ns.map V.int).length 0 none = 0 := rfl
  have e1 : HT.sIx (ns.map V.int).length (ns.map V.int).length (some 63) = min 63 ns.length := by
    rw [List.length_map]
    unfold HT.sIx
    simp
  unfold cutV
  rw [e0, e1, List.drop_zero, Nat.sub_zero, ← List.map_take]
  by_cases h : 63 ≤ ns.length
  · rw [Nat.min_eq_left h]
  · rw [Nat.min_eq_right (by omega), List.take_of_length_le (Nat.le_refl _), List.take_of_length_le (by omega)]
/-- what the law's reader is made of -/
def spReader (K : PySem.W.Frag) : Sp := fun vs H Q _ => ∃ (a : Addr) (ns : List Int), vs = [.ref a] ∧ SqL K H a (ns.map V.int) ∧ ∀ p q, H p = none → q ≠ p → H q = none → Q (.ref q) (upd (upd H p (.lst ((ns.take 63).map V.int))) q (.lst [.ref p, .int 0, .int 0, .int 0]))
/-- a law: whatever script, True -/
def spLaw (K : PySem.W.Frag) : Sp := fun vs H Q _ => ∃ (a : Addr) (ns : List Int), vs = [.ref a] ∧ SqL K H a (ns.map V.int) ∧ ∀ H', Q (.bl true) H'
/-- behind the law's first row -/
theorem law_start {K : PySem.W.Frag} {N : List Str} (hN : 2 ≤ N.length) {a p q : Addr} {H : Hp} {ns : List Int} (hp : H p = none) (ne : q ≠ p) (hq : H q = none) :
    ∃ (M : Md K W4) (t : Rs) (G : Hp), t.ns.length ≤ 63 ∧ t.draws = 0 ∧ M.G0 = G ∧ Sat M t G (upd (upd H p (.lst ((ns.take 63).map V.int))) q (.lst [.ref p, .int 0, .int 0, .int 0])) ((L2.start N [.ref a]).set 1 (some (.ref q))) (.un :: .rd :: List.replicate (N.length - 2) .un) := by
  have sub : Same (upd (fun _ => none) p (.lst ((ns.take 63).map V.int))) (upd (upd H p (.lst ((ns.take 63).map V.int))) q (.lst [.ref p, .int 0, .int 0, .int 0])) := fun b u e => by
    by_cases hb : b = p
    · subst hb
      rw [upd_same] at e
      rw [upd_ne ne.symm, upd_same]
      exact e
    · rw [upd_ne hb] at e
      cases e
  refine ⟨{ r := q, up := w4_up, G0 := upd (fun _ => none) p (.lst ((ns.take 63).map V.int)), H0 := upd (upd H p (.lst ((ns.take 63).map V.int))) q (.lst [.ref p, .int 0, .int 0, .int 0]) }, ⟨ns.take 63, 0, 0, 0⟩, upd (fun _ => none) p (.lst ((ns.take 63).map V.int)), by rw [List.length_take]; omega, rfl, rfl, ?_⟩
  have ok : Ok (Wo := W4) (K := K) { r := q, up := w4_up, G0 := upd (fun _ => none) p (.lst ((ns.take 63).map V.int)), H0 := upd (upd H p (.lst ((ns.take 63).map V.int))) q (.lst [.ref p, .int 0, .int 0, .int 0]) } ⟨ns.take 63, 0, 0, 0⟩ (upd (fun _ => none) p (.lst ((ns.take 63).map V.int))) (upd (upd H p (.lst ((ns.take 63).map V.int))) q (.lst [.ref p, .int 0, .int 0, .int 0])) :=
    ⟨sub, upd_ne ne, _, upd_same, p, rfl, upd_same⟩
  have hs : ∀ i : Nat, (.un :: .rd :: List.replicate (N.length - 2) .un : List B)[i]? = some .rd → i = 1 := fun i e => by
    match i, e with
    | 0, e => cases e
    | 1, _ => rfl
    | i + 2, e =>
      rw [List.getElem?_cons_succ, List.getElem?_cons_succ, List.getElem?_replicate] at e
      split at e <;> cases e
  have ho : ∀ (i : Nat) (b : B), (.un :: .rd :: List.replicate (N.length - 2) .un : List B)[i]? = some b → b = .un ∨ b = .rd := fun i b e => by
    match i, e with
    | 0, e => exact .inl (Option.some.inj e).symm
    | 1, e => exact .inr (Option.some.inj e).symm
    | i + 2, e =>
      rw [List.getElem?_cons_succ, List.getElem?_cons_succ, List.getElem?_replicate] at e
      split at e
      · exact .inl (Option.some.inj e).symm
      · cases e
  refine ⟨ok.refl, ok, ?_, fun i b e => ?_, fun i j xs ys l _ e _ _ _ => ?_⟩
  · unfold L2.start
    simp
    omega
  · rcases ho i b e with rfl | rfl
    · trivial
    · obtain rfl := hs i e
      show ((L2.start N [.ref a]).set 1 (some (.ref q)))[1]? = some (some (.ref q))
      unfold L2.start
      rw [List.getElem?_set_self (by simp; omega)]
  · rcases ho i _ e with z | z <;> cases z
end Dl
namespace K09
open PySem PySem.Spec PyProof.Rows L2 Dl
abbrev NLaw : List Str := ["_law_script", "_law_reader_here", "_law_lots", "_law_signs", "_law_turn", "_law_wide", "_law_till", "_law_saved", "_law_item", "_law_many", "_law_lot", "_law_twelve", "_law_long_now", "_law_a", "_law_b", "_law_great", "_law_far", "_law_other", "_law_k", "_law_sign", "_law_one"]
section
variable {P : Program} {w : World} {K : PySem.W.Frag} {mg : Str → Option Value} {base : Heap}
theorem ok_reader {f : Addr} {fd : FuncData} {k : Nat} (F : Fun K "_law_reader" "_law_reader" s__law_reader f fd) : FnOk P w K mg base CX0 (k + 1) f fd ["_law_script"] (spReader K) :=
  F.ok sc__law_reader (fun vs H Q E h => by
    obtain ⟨a, ns, rfl, _⟩ := h
    rfl) fun cdv A outer s H vs Q E hr h => by
    obtain ⟨a, ns, rfl, sq, q⟩ := h
    refine ⟨_, pss_one (ps_ret (pe_lst (pa_cons (pe_slice sl_list (pe_var (i := 0) rfl (Or.inl rfl)) po_none (po_some pe_int)) (pa_cons pe_int (pa_cons pe_int (pa_cons pe_int pa_nil)))))), ?_⟩
    refine ⟨.ref a, rfl, 63, rfl, a, _, rfl, sq, fun p hp => ?_⟩
    rw [cut63]
    refine ⟨by rw [sizeLine_eq]; exact (by decide : 4 ≤ 16777216), fun p2 hp2 => ?_⟩
    have ne : p2 ≠ p := fun z => by
      rw [z, upd_same] at hp2
      cases hp2
    rw [upd_ne ne] at hp2
    exact q p p2 hp ne hp2
theorem ok_law_of {f fr : Addr} {fd fdr : FuncData} {k : Nat} {ps1 : List Str} (F : Fun K "law" "law" s_law f fd) (Fr : FnOk P w K mg base CX0 k fr fdr ps1 (spReader K)) (hm : mg "_law_reader" = some (.ref fr)) (kp : PySem.W.keepIn K (.ref fr) = true) (bd : Binds K fdr ps1 [])
    (body : ∀ (cdv : Value) (A : Around) (outer : List Env) (s : Shared) (H : Hp) (E : XK) (M : Md K W4) (t : Rs), Room k (Xo P w K mg base NLaw "law" s_law f cdv A outer s H E).A → (Xo P w K mg base NLaw "law" s_law f cdv A outer s H E).A.guards = some [] → t.ns.length ≤ 63 → t.draws = 0 →
      JSs (X := Xo P w K mg base NLaw "law" s_law f cdv A outer s H E) M ((defBody s_law).drop 1) (.un :: .rd :: List.replicate (NLaw.length - 2) .un) t { nx := fun _ _ => False, rt := fun b _ => b = .d (.bool true) }) : FnG P w K mg base (k + 1) f fd ["_law_script"] (spLaw K) := by
  refine fnG_of F sc_law (fun ys G Qf Ef h => ?_) fun cdv A out s0 H ys Qf Ef hg hr h => ?_
  · obtain ⟨a, ns, rfl, _⟩ := h
    rfl
  · obtain ⟨a, ns, rfl, sq, q⟩ := h
    refine ⟨_, pss_cons (ps_set (i := 1) sc_law.nd rfl (by first | exact Or.inl rfl | exact Or.inr rfl) (pe_call Fr hr rfl hm kp bd .nil pass0 (pa_cons (pe_var (i := 0) rfl (Or.inl rfl)) pa_nil)) rfl (.inl rfl)) pssT, ?_⟩
    refine ⟨.ref a, rfl, a, ns, rfl, sq, fun p r hp ne hq => ?_⟩
    obtain ⟨M, t, G, h1, h2, h3, S⟩ := law_start (K := K) (N := NLaw) (by decide) (a := a) (ns := ns) hp ne hq
    refine body cdv A out s0 H Ef M t hr hg h1 h2 _ G _ S _ ⟨fun _ _ _ _ _ _ _ z => z.elim, fun _ _ _ _ _ _ _ z => z.elim, fun _ _ _ _ _ _ _ z => z.elim, fun G2 H2 t2 v x _ d z => ?_, fun _ _ _ _ _ _ _ _ _ _ _ z => ?_⟩
    · cases z
      rw [d.blE]
      exact q H2
    · cases z
end
end K09
end
section
set_option maxRecDepth 100000
set_option maxHeartbeats 4000000
namespace K09
open PySem PySem.Spec PyProof.Rows L2 Dl Dw Dz
/-! ### what the top has written -/
theorem all_mk {P : Program} {w : World} {K : PySem.W.Frag} {h : Heap} {mg : Str → Option Value} {fa : Addr} (X : K.In h) (G : h.Ns mainGlobals mg) (hfa : mg "law" = some (.ref fa))
    {f1 : Addr} {od1 an1 : Option Addr} {sl1 : Array (Option Value)} {oc1 kV1 dc1 pm1 cd1 ct1 : Value} (a1 : PySem.W.nsIn K mainGlobals "is_integer" = some (some (.ref f1))) (l1 : K.lookup f1 = some ⟨oc1, od1, .func (PySem.W.fnOf "is_integer" "is_integer" (defArgs s_is_integer) (defBody s_is_integer) (defScope s_is_integer) .none kV1 dc1 pm1 an1 cd1 ct1), sl1⟩) (c1 : PySem.W.codeIn K cd1 "is_integer" = true) (k1 : PySem.W.keepIn K (.ref f1) = true)
    {f2 : Addr} {od2 an2 : Option Addr} {sl2 : Array (Option Value)} {oc2 kV2 dc2 pm2 cd2 ct2 : Value} (a2 : PySem.W.nsIn K mainGlobals "_inner_parts" = some (some (.ref f2))) (l2 : K.lookup f2 = some ⟨oc2, od2, .func (PySem.W.fnOf "_inner_parts" "_inner_parts" (defArgs s__inner_parts) (defBody s__inner_parts) (defScope s__inner_parts) .none kV2 dc2 pm2 an2 cd2 ct2), sl2⟩) (c2 : PySem.W.codeIn K cd2 "_inner_parts" = true) (k2 : PySem.W.keepIn K (.ref f2) = true)
    {f3 : Addr} {od3 an3 : Option Addr} {sl3 : Array (Option Value)} {oc3 kV3 dc3 pm3 cd3 ct3 : Value} (a3 : PySem.W.nsIn K mainGlobals "parts_of" = some (some (.ref f3))) (l3 : K.lookup f3 = some ⟨oc3, od3, .func (PySem.W.fnOf "parts_of" "parts_of" (defArgs s_parts_of) (defBody s_parts_of) (defScope s_parts_of) .none kV3 dc3 pm3 an3 cd3 ct3), sl3⟩) (c3 : PySem.W.codeIn K cd3 "parts_of" = true) (k3 : PySem.W.keepIn K (.ref f3) = true)
    {f4 : Addr} {od4 an4 : Option Addr} {sl4 : Array (Option Value)} {oc4 kV4 dc4 pm4 cd4 ct4 : Value} (a4 : PySem.W.nsIn K mainGlobals "_head_text" = some (some (.ref f4))) (l4 : K.lookup f4 = some ⟨oc4, od4, .func (PySem.W.fnOf "_head_text" "_head_text" (defArgs s__head_text) (defBody s__head_text) (defScope s__head_text) .none kV4 dc4 pm4 an4 cd4 ct4), sl4⟩) (c4 : PySem.W.codeIn K cd4 "_head_text" = true) (k4 : PySem.W.keepIn K (.ref f4) = true)
    {f5 : Addr} {od5 an5 : Option Addr} {sl5 : Array (Option Value)} {oc5 kV5 dc5 pm5 cd5 ct5 : Value} (a5 : PySem.W.nsIn K mainGlobals "expression_text" = some (some (.ref f5))) (l5 : K.lookup f5 = some ⟨oc5, od5, .func (PySem.W.fnOf "expression_text" "expression_text" (defArgs s_expression_text) (defBody s_expression_text) (defScope s_expression_text) .none kV5 dc5 pm5 an5 cd5 ct5), sl5⟩) (c5 : PySem.W.codeIn K cd5 "expression_text" = true) (k5 : PySem.W.keepIn K (.ref f5) = true)
    {f6 : Addr} {od6 an6 : Option Addr} {sl6 : Array (Option Value)} {oc6 kV6 dc6 pm6 cd6 ct6 : Value} (a6 : PySem.W.nsIn K mainGlobals "sum_text" = some (some (.ref f6))) (l6 : K.lookup f6 = some ⟨oc6, od6, .func (PySem.W.fnOf "sum_text" "sum_text" (defArgs s_sum_text) (defBody s_sum_text) (defScope s_sum_text) .none kV6 dc6 pm6 an6 cd6 ct6), sl6⟩) (c6 : PySem.W.codeIn K cd6 "sum_text" = true) (k6 : PySem.W.keepIn K (.ref f6) = true)
    {f7 : Addr} {od7 an7 : Option Addr} {sl7 : Array (Option Value)} {oc7 kV7 dc7 pm7 cd7 ct7 : Value} (a7 : PySem.W.nsIn K mainGlobals "sums_text" = some (some (.ref f7))) (l7 : K.lookup f7 = some ⟨oc7, od7, .func (PySem.W.fnOf "sums_text" "sums_text" (defArgs s_sums_text) (defBody s_sums_text) (defScope s_sums_text) .none kV7 dc7 pm7 an7 cd7 ct7), sl7⟩) (c7 : PySem.W.codeIn K cd7 "sums_text" = true) (k7 : PySem.W.keepIn K (.ref f7) = true)
    {f8 : Addr} {od8 an8 : Option Addr} {sl8 : Array (Option Value)} {oc8 kV8 dc8 pm8 cd8 ct8 : Value} (a8 : PySem.W.nsIn K mainGlobals "store_text" = some (some (.ref f8))) (l8 : K.lookup f8 = some ⟨oc8, od8, .func (PySem.W.fnOf "store_text" "store_text" (defArgs s_store_text) (defBody s_store_text) (defScope s_store_text) .none kV8 dc8 pm8 an8 cd8 ct8), sl8⟩) (c8 : PySem.W.codeIn K cd8 "store_text" = true) (k8 : PySem.W.keepIn K (.ref f8) = true)
    {f9 : Addr} {od9 an9 : Option Addr} {sl9 : Array (Option Value)} {oc9 kV9 dc9 pm9 cd9 ct9 : Value} (a9 : PySem.W.nsIn K mainGlobals "_law_reader" = some (some (.ref f9))) (l9 : K.lookup f9 = some ⟨oc9, od9, .func (PySem.W.fnOf "_law_reader" "_law_reader" (defArgs s__law_reader) (defBody s__law_reader) (defScope s__law_reader) .none kV9 dc9 pm9 an9 cd9 ct9), sl9⟩) (c9 : PySem.W.codeIn K cd9 "_law_reader" = true) (k9 : PySem.W.keepIn K (.ref f9) = true)
    {f10 : Addr} {od10 an10 : Option Addr} {sl10 : Array (Option Value)} {oc10 kV10 dc10 pm10 cd10 ct10 : Value} (a10 : PySem.W.nsIn K mainGlobals "_law_draw" = some (some (.ref f10))) (l10 : K.lookup f10 = some ⟨oc10, od10, .func (PySem.W.fnOf "_law_draw" "_law_draw" (defArgs s__law_draw) (defBody s__law_draw) (defScope s__law_draw) .none kV10 dc10 pm10 an10 cd10 ct10), sl10⟩) (c10 : PySem.W.codeIn K cd10 "_law_draw" = true) (k10 : PySem.W.keepIn K (.ref f10) = true)
    {f11 : Addr} {od11 an11 : Option Addr} {sl11 : Array (Option Value)} {oc11 kV11 dc11 pm11 cd11 ct11 : Value} (a11 : PySem.W.nsIn K mainGlobals "_law_leaf" = some (some (.ref f11))) (l11 : K.lookup f11 = some ⟨oc11, od11, .func (PySem.W.fnOf "_law_leaf" "_law_leaf" (defArgs s__law_leaf) (defBody s__law_leaf) (defScope s__law_leaf) .none kV11 dc11 pm11 an11 cd11 ct11), sl11⟩) (c11 : PySem.W.codeIn K cd11 "_law_leaf" = true) (k11 : PySem.W.keepIn K (.ref f11) = true)
    {f12 : Addr} {od12 an12 : Option Addr} {sl12 : Array (Option Value)} {oc12 kV12 dc12 pm12 cd12 ct12 : Value} (a12 : PySem.W.nsIn K mainGlobals "_law_number" = some (some (.ref f12))) (l12 : K.lookup f12 = some ⟨oc12, od12, .func (PySem.W.fnOf "_law_number" "_law_number" (defArgs s__law_number) (defBody s__law_number) (defScope s__law_number) .none kV12 dc12 pm12 an12 cd12 ct12), sl12⟩) (c12 : PySem.W.codeIn K cd12 "_law_number" = true) (k12 : PySem.W.keepIn K (.ref f12) = true)
    {f13 : Addr} {od13 an13 : Option Addr} {sl13 : Array (Option Value)} {oc13 kV13 dc13 pm13 cd13 ct13 : Value} (a13 : PySem.W.nsIn K mainGlobals "_law_condition" = some (some (.ref f13))) (l13 : K.lookup f13 = some ⟨oc13, od13, .func (PySem.W.fnOf "_law_condition" "_law_condition" (defArgs s__law_condition) (defBody s__law_condition) (defScope s__law_condition) .none kV13 dc13 pm13 an13 cd13 ct13), sl13⟩) (c13 : PySem.W.codeIn K cd13 "_law_condition" = true) (k13 : PySem.W.keepIn K (.ref f13) = true)
    {f14 : Addr} {od14 an14 : Option Addr} {sl14 : Array (Option Value)} {oc14 kV14 dc14 pm14 cd14 ct14 : Value} (a14 : PySem.W.nsIn K mainGlobals "_law_random_items" = some (some (.ref f14))) (l14 : K.lookup f14 = some ⟨oc14, od14, .func (PySem.W.fnOf "_law_random_items" "_law_random_items" (defArgs s__law_random_items) (defBody s__law_random_items) (defScope s__law_random_items) .none kV14 dc14 pm14 an14 cd14 ct14), sl14⟩) (c14 : PySem.W.codeIn K cd14 "_law_random_items" = true) (k14 : PySem.W.keepIn K (.ref f14) = true)
    {f15 : Addr} {od15 an15 : Option Addr} {sl15 : Array (Option Value)} {oc15 kV15 dc15 pm15 cd15 ct15 : Value} (a15 : PySem.W.nsIn K mainGlobals "_law_slots" = some (some (.ref f15))) (l15 : K.lookup f15 = some ⟨oc15, od15, .func (PySem.W.fnOf "_law_slots" "_law_slots" (defArgs s__law_slots) (defBody s__law_slots) (defScope s__law_slots) .none kV15 dc15 pm15 an15 cd15 ct15), sl15⟩) (c15 : PySem.W.codeIn K cd15 "_law_slots" = true) (k15 : PySem.W.keepIn K (.ref f15) = true)
    {f16 : Addr} {od16 an16 : Option Addr} {sl16 : Array (Option Value)} {oc16 kV16 dc16 pm16 cd16 ct16 : Value} (a16 : PySem.W.nsIn K mainGlobals "_law_random_sum" = some (some (.ref f16))) (l16 : K.lookup f16 = some ⟨oc16, od16, .func (PySem.W.fnOf "_law_random_sum" "_law_random_sum" (defArgs s__law_random_sum) (defBody s__law_random_sum) (defScope s__law_random_sum) .none kV16 dc16 pm16 an16 cd16 ct16), sl16⟩) (c16 : PySem.W.codeIn K cd16 "_law_random_sum" = true) (k16 : PySem.W.keepIn K (.ref f16) = true)
    {f17 : Addr} {od17 an17 : Option Addr} {sl17 : Array (Option Value)} {oc17 kV17 dc17 pm17 cd17 ct17 : Value} (a17 : PySem.W.nsIn K mainGlobals "_law_random_store" = some (some (.ref f17))) (l17 : K.lookup f17 = some ⟨oc17, od17, .func (PySem.W.fnOf "_law_random_store" "_law_random_store" (defArgs s__law_random_store) (defBody s__law_random_store) (defScope s__law_random_store) .none kV17 dc17 pm17 an17 cd17 ct17), sl17⟩) (c17 : PySem.W.codeIn K cd17 "_law_random_store" = true) (k17 : PySem.W.keepIn K (.ref f17) = true)
    {f18 : Addr} {od18 an18 : Option Addr} {sl18 : Array (Option Value)} {oc18 kV18 dc18 pm18 cd18 ct18 : Value} (a18 : PySem.W.nsIn K mainGlobals "_law_fixed_stores" = some (some (.ref f18))) (l18 : K.lookup f18 = some ⟨oc18, od18, .func (PySem.W.fnOf "_law_fixed_stores" "_law_fixed_stores" (defArgs s__law_fixed_stores) (defBody s__law_fixed_stores) (defScope s__law_fixed_stores) .none kV18 dc18 pm18 an18 cd18 ct18), sl18⟩) (c18 : PySem.W.codeIn K cd18 "_law_fixed_stores" = true) (k18 : PySem.W.keepIn K (.ref f18) = true)
    {f19 : Addr} {od19 an19 : Option Addr} {sl19 : Array (Option Value)} {oc19 kV19 dc19 pm19 cd19 ct19 : Value} (a19 : PySem.W.nsIn K mainGlobals "_law_words" = some (some (.ref f19))) (l19 : K.lookup f19 = some ⟨oc19, od19, .func (PySem.W.fnOf "_law_words" "_law_words" (defArgs s__law_words) (defBody s__law_words) (defScope s__law_words) .none kV19 dc19 pm19 an19 cd19 ct19), sl19⟩) (c19 : PySem.W.codeIn K cd19 "_law_words" = true) (k19 : PySem.W.keepIn K (.ref f19) = true)
    {f20 : Addr} {od20 an20 : Option Addr} {sl20 : Array (Option Value)} {oc20 kV20 dc20 pm20 cd20 ct20 : Value} (a20 : PySem.W.nsIn K mainGlobals "_law_sum_text" = some (some (.ref f20))) (l20 : K.lookup f20 = some ⟨oc20, od20, .func (PySem.W.fnOf "_law_sum_text" "_law_sum_text" (defArgs s__law_sum_text) (defBody s__law_sum_text) (defScope s__law_sum_text) .none kV20 dc20 pm20 an20 cd20 ct20), sl20⟩) (c20 : PySem.W.codeIn K cd20 "_law_sum_text" = true) (k20 : PySem.W.keepIn K (.ref f20) = true)
    {f21 : Addr} {od21 an21 : Option Addr} {sl21 : Array (Option Value)} {oc21 kV21 dc21 pm21 cd21 ct21 : Value} (a21 : PySem.W.nsIn K mainGlobals "_law_store_text" = some (some (.ref f21))) (l21 : K.lookup f21 = some ⟨oc21, od21, .func (PySem.W.fnOf "_law_store_text" "_law_store_text" (defArgs s__law_store_text) (defBody s__law_store_text) (defScope s__law_store_text) .none kV21 dc21 pm21 an21 cd21 ct21), sl21⟩) (c21 : PySem.W.codeIn K cd21 "_law_store_text" = true) (k21 : PySem.W.keepIn K (.ref f21) = true)
    {f22 : Addr} {od22 an22 : Option Addr} {sl22 : Array (Option Value)} {oc22 kV22 dc22 pm22 cd22 ct22 : Value} (a22 : PySem.W.nsIn K mainGlobals "_law_loose" = some (some (.ref f22))) (l22 : K.lookup f22 = some ⟨oc22, od22, .func (PySem.W.fnOf "_law_loose" "_law_loose" (defArgs s__law_loose) (defBody s__law_loose) (defScope s__law_loose) .none kV22 dc22 pm22 an22 cd22 ct22), sl22⟩) (c22 : PySem.W.codeIn K cd22 "_law_loose" = true) (k22 : PySem.W.keepIn K (.ref f22) = true)
    {f23 : Addr} {od23 an23 : Option Addr} {sl23 : Array (Option Value)} {oc23 kV23 dc23 pm23 cd23 ct23 : Value} (a23 : PySem.W.nsIn K mainGlobals "_law_sums_text" = some (some (.ref f23))) (l23 : K.lookup f23 = some ⟨oc23, od23, .func (PySem.W.fnOf "_law_sums_text" "_law_sums_text" (defArgs s__law_sums_text) (defBody s__law_sums_text) (defScope s__law_sums_text) .none kV23 dc23 pm23 an23 cd23 ct23), sl23⟩) (c23 : PySem.W.codeIn K cd23 "_law_sums_text" = true) (k23 : PySem.W.keepIn K (.ref f23) = true)
    {f24 : Addr} {od24 an24 : Option Addr} {sl24 : Array (Option Value)} {oc24 kV24 dc24 pm24 cd24 ct24 : Value} (a24 : PySem.W.nsIn K mainGlobals "law" = some (some (.ref f24))) (l24 : K.lookup f24 = some ⟨oc24, od24, .func (PySem.W.fnOf "law" "law" (defArgs s_law) (defBody s_law) (defScope s_law) .none kV24 dc24 pm24 an24 cd24 ct24), sl24⟩) (c24 : PySem.W.codeIn K cd24 "law" = true) (k24 : PySem.W.keepIn K (.ref f24) = true)
    (z1 : PySem.W.nsIn K mainGlobals "isinstance" = some none)
    (z2 : PySem.W.nsIn K mainGlobals "int" = some none)
    (z3 : PySem.W.nsIn K mainGlobals "bool" = some none)
    (z4 : PySem.W.nsIn K mainGlobals "str" = some none)
    (z5 : PySem.W.nsIn K mainGlobals "tuple" = some none)
    (z6 : PySem.W.nsIn K mainGlobals "list" = some none)
    (z7 : PySem.W.nsIn K mainGlobals "len" = some none)
    (z8 : PySem.W.nsIn K mainGlobals "all" = some none)
    (z9 : PySem.W.nsIn K mainGlobals "any" = some none)
    (z10 : PySem.W.nsIn K mainGlobals "range" = some none)
    (z11 : PySem.W.nsIn K mainGlobals "sorted" = some none)
    (z12 : PySem.W.nsIn K mainGlobals "set" = some none)
    (z13 : PySem.W.nsIn K mainGlobals "repr" = some none)
    (z14 : PySem.W.nsIn K mainGlobals "sum" = some none)
    (z15 : PySem.W.nsIn K mainGlobals "zip" = some none)
    (z16 : PySem.W.nsIn K mainGlobals "enumerate" = some none)
    (z17 : PySem.W.nsIn K mainGlobals "dict" = some none)
    (z18 : PySem.W.nsIn K mainGlobals "min" = some none)
    (z19 : PySem.W.nsIn K mainGlobals "max" = some none) :
    ∃ fd : FuncData, (∀ (s : Shared) (v : Value), BindsTo s fd ⟨[v], []⟩ [("_law_script", v)]) ∧ ∀ low : Heap, K.In low → low.Ns mainGlobals mg → FnG P w K mg low 15 fa fd ["_law_script"] (spLaw K) := by
  have e := hfa.symm.trans (PySem.W.mg_of X G a24)
  cases e
  have F1 := fun_mk (st := s_is_integer) l1 c1 k1
  have b1 := F1.binds (ps := ["thing"]) fun _ _ _ _ _ _ us hl => match us, hl with | [_], _ => rfl
  have m1 := PySem.W.mg_of X G a1
  have F2 := fun_mk (st := s__inner_parts) l2 c2 k2
  have b2 := F2.binds (ps := ["path", "part"]) fun _ _ _ _ _ _ us hl => match us, hl with | [_, _], _ => rfl
  have m2 := PySem.W.mg_of X G a2
  have F3 := fun_mk (st := s_parts_of) l3 c3 k3
  have b3 := F3.binds (ps := ["expression"]) fun _ _ _ _ _ _ us hl => match us, hl with | [_], _ => rfl
  have m3 := PySem.W.mg_of X G a3
  have F4 := fun_mk (st := s__head_text) l4 c4 k4
  have b4 := F4.binds (ps := ["part"]) fun _ _ _ _ _ _ us hl => match us, hl with | [_], _ => rfl
  have m4 := PySem.W.mg_of X G a4
  have F5 := fun_mk (st := s_expression_text) l5 c5 k5
  have b5 := F5.binds (ps := ["expression"]) fun _ _ _ _ _ _ us hl => match us, hl with | [_], _ => rfl
  have m5 := PySem.W.mg_of X G a5
  have F6 := fun_mk (st := s_sum_text) l6 c6 k6
  have b6 := F6.binds (ps := ["one"]) fun _ _ _ _ _ _ us hl => match us, hl with | [_], _ => rfl
  have m6 := PySem.W.mg_of X G a6
  have F7 := fun_mk (st := s_sums_text) l7 c7 k7
  have b7 := F7.binds (ps := ["sums"]) fun _ _ _ _ _ _ us hl => match us, hl with | [_], _ => rfl
  have m7 := PySem.W.mg_of X G a7
  have F8 := fun_mk (st := s_store_text) l8 c8 k8
  have b8 := F8.binds (ps := ["store"]) fun _ _ _ _ _ _ us hl => match us, hl with | [_], _ => rfl
  have m8 := PySem.W.mg_of X G a8
  have F9 := fun_mk (st := s__law_reader) l9 c9 k9
  have b9 := F9.binds (ps := ["_law_script"]) fun _ _ _ _ _ _ us hl => match us, hl with | [_], _ => rfl
  have m9 := PySem.W.mg_of X G a9
  have F10 := fun_mk (st := s__law_draw) l10 c10 k10
  have b10 := F10.binds (ps := ["_law_reader_here", "_law_many"]) fun _ _ _ _ _ _ us hl => match us, hl with | [_, _], _ => rfl
  have m10 := PySem.W.mg_of X G a10
  have F11 := fun_mk (st := s__law_leaf) l11 c11 k11
  have b11 := F11.binds (ps := ["_law_reader_here", "_law_slots_here"]) fun _ _ _ _ _ _ us hl => match us, hl with | [_, _], _ => rfl
  have m11 := PySem.W.mg_of X G a11
  have F12 := fun_mk (st := s__law_number) l12 c12 k12
  have b12 := F12.binds (ps := ["_law_reader_here", "_law_slots_here", "_law_deep"]) fun _ _ _ _ _ _ us hl => match us, hl with | [_, _, _], _ => rfl
  have m12 := PySem.W.mg_of X G a12
  have F13 := fun_mk (st := s__law_condition) l13 c13 k13
  have b13 := F13.binds (ps := ["_law_reader_here", "_law_slots_here", "_law_deep"]) fun _ _ _ _ _ _ us hl => match us, hl with | [_, _, _], _ => rfl
  have m13 := PySem.W.mg_of X G a13
  have F14 := fun_mk (st := s__law_random_items) l14 c14 k14
  have b14 := F14.binds (ps := ["_law_reader_here"]) fun _ _ _ _ _ _ us hl => match us, hl with | [_], _ => rfl
  have m14 := PySem.W.mg_of X G a14
  have F15 := fun_mk (st := s__law_slots) l15 c15 k15
  have b15 := F15.binds (ps := ["_law_entries"]) fun _ _ _ _ _ _ us hl => match us, hl with | [_], _ => rfl
  have m15 := PySem.W.mg_of X G a15
  have F16 := fun_mk (st := s__law_random_sum) l16 c16 k16
  have b16 := F16.binds (ps := ["_law_reader_here", "_law_many"]) fun _ _ _ _ _ _ us hl => match us, hl with | [_, _], _ => rfl
  have m16 := PySem.W.mg_of X G a16
  have F17 := fun_mk (st := s__law_random_store) l17 c17 k17
  have b17 := F17.binds (ps := ["_law_reader_here"]) fun _ _ _ _ _ _ us hl => match us, hl with | [_], _ => rfl
  have m17 := PySem.W.mg_of X G a17
  have F18 := fun_mk (st := s__law_fixed_stores) l18 c18 k18
  have b18 := F18.binds (ps := []) fun _ _ _ _ _ _ us hl => match us, hl with | [], _ => rfl
  have m18 := PySem.W.mg_of X G a18
  have F19 := fun_mk (st := s__law_words) l19 c19 k19
  have b19 := F19.binds (ps := ["_law_item"]) fun _ _ _ _ _ _ us hl => match us, hl with | [_], _ => rfl
  have m19 := PySem.W.mg_of X G a19
  have F20 := fun_mk (st := s__law_sum_text) l20 c20 k20
  have b20 := F20.binds (ps := ["_law_one"]) fun _ _ _ _ _ _ us hl => match us, hl with | [_], _ => rfl
  have m20 := PySem.W.mg_of X G a20
  have F21 := fun_mk (st := s__law_store_text) l21 c21 k21
  have b21 := F21.binds (ps := ["_law_till"]) fun _ _ _ _ _ _ us hl => match us, hl with | [_], _ => rfl
  have m21 := PySem.W.mg_of X G a21
  have F22 := fun_mk (st := s__law_loose) l22 c22 k22
  have b22 := F22.binds (ps := ["_law_reader_here"]) fun _ _ _ _ _ _ us hl => match us, hl with | [_], _ => rfl
  have m22 := PySem.W.mg_of X G a22
  have F23 := fun_mk (st := s__law_sums_text) l23 c23 k23
  have b23 := F23.binds (ps := ["_law_lot"]) fun _ _ _ _ _ _ us hl => match us, hl with | [_], _ => rfl
  have m23 := PySem.W.mg_of X G a23
  have F24 := fun_mk (st := s_law) l24 c24 k24
  have b24 := F24.binds (ps := ["_law_script"]) fun _ _ _ _ _ _ us hl => match us, hl with | [_], _ => rfl
  have m24 := PySem.W.mg_of X G a24
  have u : Bb mg := ⟨PySem.W.mg_none_of X G z1, PySem.W.mg_none_of X G z2, PySem.W.mg_none_of X G z3, PySem.W.mg_none_of X G z4, PySem.W.mg_none_of X G z5, PySem.W.mg_none_of X G z6, PySem.W.mg_none_of X G z7, PySem.W.mg_none_of X G z8, PySem.W.mg_none_of X G z9, PySem.W.mg_none_of X G z10, PySem.W.mg_none_of X G z11, PySem.W.mg_none_of X G z12, PySem.W.mg_none_of X G z13, PySem.W.mg_none_of X G z14, PySem.W.mg_none_of X G z15, PySem.W.mg_none_of X G z16, PySem.W.mg_none_of X G z17, PySem.W.mg_none_of X G z18, PySem.W.mg_none_of X G z19⟩
  have bu : Bu mg := ⟨PySem.W.mg_none_of X G z1, PySem.W.mg_none_of X G z2, PySem.W.mg_none_of X G z3, PySem.W.mg_none_of X G z4, PySem.W.mg_none_of X G z5, PySem.W.mg_none_of X G z6, PySem.W.mg_none_of X G z7, PySem.W.mg_none_of X G z8, PySem.W.mg_none_of X G z10, PySem.W.mg_none_of X G z11, PySem.W.mg_none_of X G z12, PySem.W.mg_none_of X G z13⟩
  refine ⟨PySem.W.fnOf "law" "law" (defArgs s_law) (defBody s_law) (defScope s_law) .none kV24 dc24 pm24 an24 cd24 ct24, fun s v => .of_eq rfl, fun low _ _ => ?_⟩
  have D_l_fixed_stores : Def P w K W4 mg low 1 "_law_fixed_stores" 0 (Sm m_l_fixed_stores) := Dl.Fun.def_ F18 (ok_l_fixed_stores (P := P) (w := w) (base := low) (Wo := W4) F18 u ) m18 b18
  have D_l_draw : Def P w K W4 mg low 1 "_law_draw" 2 (Sm m_l_draw) := (Dl.Fun.def_ F10 (ok_draw (P := P) (w := w) (base := low) (k := 0) F10 bu) m10 b10).imp fun _ _ _ h => h
  have D_l_leaf : Def P w K W4 mg low 2 "_law_leaf" 2 (Sm m_l_leaf) := Dl.Fun.def_ F11 (ok_l_leaf (P := P) (w := w) (base := low) (Wo := W4) F11 u D_l_draw) m11 b11
  have D_l_number : Def P w K W4 mg low 7 "_law_number" 3 (Sm (m_l_number 4)) := Dl.Fun.def_ F12 (ok_l_number (P := P) (w := w) (base := low) (Wo := W4) F12 u D_l_draw D_l_leaf m12 b12 4) m12 b12
  have D_is_integer : Def P w K W4 mg low 1 "is_integer" 1 (Sm m_is_integer) := Dl.Fun.def_ F1 (ok_is_integer (P := P) (w := w) (base := low) (Wo := W4) F1 u ) m1 b1
  have D__head_text : Def P w K W4 mg low 2 "_head_text" 1 (Sm m__head_text) := Dl.Fun.def_ F4 (ok__head_text (P := P) (w := w) (base := low) (Wo := W4) F4 u D_is_integer) m4 b4
  have D__inner_parts : Def P w K W4 mg low 2 "_inner_parts" 2 (Sm m__inner_parts) := Dl.Fun.def_ F2 (ok__inner_parts (P := P) (w := w) (base := low) (Wo := W4) F2 u D_is_integer) m2 b2
  have D_parts_of : Def P w K W4 mg low 3 "parts_of" 1 (Sm m_parts_of) := Dl.Fun.def_ F3 (ok_parts_of (P := P) (w := w) (base := low) (Wo := W4) F3 u D__inner_parts) m3 b3
  have D_expression_text : Def P w K W4 mg low 4 "expression_text" 1 (Sm m_expression_text) := Dl.Fun.def_ F5 (ok_expression_text (P := P) (w := w) (base := low) (Wo := W4) F5 u D__head_text D_parts_of) m5 b5
  have D_l_condition : Def P w K W4 mg low 12 "_law_condition" 3 (Sm (m_l_condition 4)) := Dl.Fun.def_ F13 (ok_l_condition (P := P) (w := w) (base := low) (Wo := W4) F13 u D_l_draw D_l_leaf D_l_number m13 b13 4) m13 b13
  have D_sum_text : Def P w K W4 mg low 1 "sum_text" 1 (Sm m_sum_text) := Dl.Fun.def_ F6 (ok_sum_text (P := P) (w := w) (base := low) (Wo := W4) F6 u ) m6 b6
  have D_sums_text : Def P w K W4 mg low 2 "sums_text" 1 (Sm m_sums_text) := Dl.Fun.def_ F7 (ok_sums_text (P := P) (w := w) (base := low) (Wo := W4) F7 u D_sum_text) m7 b7
  have D_l_sum_text : Def P w K W4 mg low 1 "_law_sum_text" 1 (Sm m_l_sum_text) := Dl.Fun.def_ F20 (ok_l_sum_text (P := P) (w := w) (base := low) (Wo := W4) F20 u ) m20 b20
  have D_l_sums_text : Def P w K W4 mg low 2 "_law_sums_text" 1 (Sm m_l_sums_text) := Dl.Fun.def_ F23 (ok_l_sums_text (P := P) (w := w) (base := low) (Wo := W4) F23 u D_l_sum_text) m23 b23
  have D_l_words : Def P w K W4 mg low 13 "_law_words" 1 (Sm (m_l_words 12)) := Dl.Fun.def_ F19 (ok_l_words (P := P) (w := w) (base := low) (Wo := W4) F19 u  m19 b19 12) m19 b19
  have D_l_random_items : Def P w K W4 mg low 2 "_law_random_items" 1 (Sm m_l_random_items) := Dl.Fun.def_ F14 (ok_l_random_items (P := P) (w := w) (base := low) (Wo := W4) F14 u D_l_draw) m14 b14
  have D_l_slots : Def P w K W4 mg low 1 "_law_slots" 1 (Sm m_l_slots) := Dl.Fun.def_ F15 (ok_l_slots (P := P) (w := w) (base := low) (Wo := W4) F15 u ) m15 b15
  have D_l_random_sum : Def P w K W4 mg low 2 "_law_random_sum" 2 (Sm m_l_random_sum) := Dl.Fun.def_ F16 (ok_l_random_sum (P := P) (w := w) (base := low) (Wo := W4) F16 u D_l_draw) m16 b16
  have D_l_random_store : Def P w K W4 mg low 13 "_law_random_store" 1 (Sm m_l_random_store) := Dl.Fun.def_ F17 (ok_l_random_store (P := P) (w := w) (base := low) (Wo := W4) F17 u D_l_random_items D_l_condition D_l_draw D_l_slots D_l_random_sum) m17 b17
  have D_l_loose : Def P w K W4 mg low 2 "_law_loose" 1 (Sm m_l_loose) := Dl.Fun.def_ F22 (ok_l_loose (P := P) (w := w) (base := low) (Wo := W4) F22 u D_l_draw) m22 b22
  have D_store_text : Def P w K W4 mg low 5 "store_text" 1 (Sm m_store_text) := Dl.Fun.def_ F8 (ok_store_text (P := P) (w := w) (base := low) (Wo := W4) F8 u D_expression_text D_sum_text) m8 b8
  have D_l_store_text : Def P w K W4 mg low 14 "_law_store_text" 1 (Sm m_l_store_text) := Dl.Fun.def_ F21 (ok_l_store_text (P := P) (w := w) (base := low) (Wo := W4) F21 u D_l_words D_l_sum_text) m21 b21
  exact ok_law_of (k := 14) F24 ((ok_reader (P := P) (w := w) (base := low) (k := 0) F9).mono (by decide)) m9 k9 b9 fun cdv A outer s H E M t hr hg hl hd => (ok_law (Wo := W4) u D_l_fixed_stores D_l_number D_expression_text D_l_condition D_l_draw D_sums_text D_sum_text D_l_sums_text D_l_sum_text D_l_words D_l_random_store D_l_loose D_store_text D_l_store_text D_l_random_sum hr hg).run t _ _ (law_true t hl hd) fun o t2 e => by
    subst e
    rfl
end K09
end
section
open PySem PySem.W PyProof.Rows
set_option maxRecDepth 100000
set_option maxHeartbeats 0 in
theorem PySem.Challenge.cw_ownrights_k09_texts_written_holds : PySem.Challenge.rw_ownrights_k09_texts_written.Holds := by
  w_on; o_law; k_head; (case hw => w_witness2)
  k_fill
  refine Dl.walk_ofG (l := PySem.Challenge.rw_ownrights_k09_texts_written) (n := 63) (k := 15) (x := "_law_script") (sp := fun w => Dl.spLaw _) rfl (by decide) rfl ⟨rfl, by decide, by decide⟩ (fun w h Y => PySem.W.kIn_of Y) ?F (fun _ _ a ns hl _ hS => ⟨a, ns, rfl, hS, fun _ => rfl⟩)
  case F =>
    intro w mg fa h KX G hmg
    refine' K09.all_mk KX G hmg ?a1 ?l1 ?c1 ?k1 ?a2 ?l2 ?c2 ?k2 ?a3 ?l3 ?c3 ?k3 ?a4 ?l4 ?c4 ?k4 ?a5 ?l5 ?c5 ?k5 ?a6 ?l6 ?c6 ?k6 ?a7 ?l7 ?c7 ?k7 ?a8 ?l8 ?c8 ?k8 ?a9 ?l9 ?c9 ?k9 ?a10 ?l10 ?c10 ?k10 ?a11 ?l11 ?c11 ?k11 ?a12 ?l12 ?c12 ?k12 ?a13 ?l13 ?c13 ?k13 ?a14 ?l14 ?c14 ?k14 ?a15 ?l15 ?c15 ?k15 ?a16 ?l16 ?c16 ?k16 ?a17 ?l17 ?c17 ?k17 ?a18 ?l18 ?c18 ?k18 ?a19 ?l19 ?c19 ?k19 ?a20 ?l20 ?c20 ?k20 ?a21 ?l21 ?c21 ?k21 ?a22 ?l22 ?c22 ?k22 ?a23 ?l23 ?c23 ?k23 ?a24 ?l24 ?c24 ?k24 ?z1 ?z2 ?z3 ?z4 ?z5 ?z6 ?z7 ?z8 ?z9 ?z10 ?z11 ?z12 ?z13 ?z14 ?z15 ?z16 ?z17 ?z18 ?z19
    (case a1 => k_is); (case l1 => k_is); (case c1 => k_is); (case k1 => k_is); (case a2 => k_is); (case l2 => k_is); (case c2 => k_is); (case k2 => k_is); (case a3 => k_is); (case l3 => k_is); (case c3 => k_is); (case k3 => k_is); (case a4 => k_is); (case l4 => k_is); (case c4 => k_is); (case k4 => k_is); (case a5 => k_is); (case l5 => k_is); (case c5 => k_is); (case k5 => k_is); (case a6 => k_is); (case l6 => k_is); (case c6 => k_is); (case k6 => k_is); (case a7 => k_is); (case l7 => k_is); (case c7 => k_is); (case k7 => k_is); (case a8 => k_is); (case l8 => k_is); (case c8 => k_is); (case k8 => k_is); (case a9 => k_is); (case l9 => k_is); (case c9 => k_is); (case k9 => k_is); (case a10 => k_is); (case l10 => k_is); (case c10 => k_is); (case k10 => k_is); (case a11 => k_is); (case l11 => k_is); (case c11 => k_is); (case k11 => k_is); (case a12 => k_is); (case l12 => k_is); (case c12 => k_is); (case k12 => k_is); (case a13 => k_is); (case l13 => k_is); (case c13 => k_is); (case k13 => k_is); (case a14 => k_is); (case l14 => k_is); (case c14 => k_is); (case k14 => k_is); (case a15 => k_is); (case l15 => k_is); (case c15 => k_is); (case k15 => k_is); (case a16 => k_is); (case l16 => k_is); (case c16 => k_is); (case k16 => k_is); (case a17 => k_is); (case l17 => k_is); (case c17 => k_is); (case k17 => k_is); (case a18 => k_is); (case l18 => k_is); (case c18 => k_is); (case k18 => k_is); (case a19 => k_is); (case l19 => k_is); (case c19 => k_is); (case k19 => k_is); (case a20 => k_is); (case l20 => k_is); (case c20 => k_is); (case k20 => k_is); (case a21 => k_is); (case l21 => k_is); (case c21 => k_is); (case k21 => k_is); (case a22 => k_is); (case l22 => k_is); (case c22 => k_is); (case k22 => k_is); (case a23 => k_is); (case l23 => k_is); (case c23 => k_is); (case k23 => k_is); (case a24 => k_is); (case l24 => k_is); (case c24 => k_is); (case k24 => k_is); (case z1 => k_is); (case z2 => k_is); (case z3 => k_is); (case z4 => k_is); (case z5 => k_is); (case z6 => k_is); (case z7 => k_is); (case z8 => k_is); (case z9 => k_is); (case z10 => k_is); (case z11 => k_is); (case z12 => k_is); (case z13 => k_is); (case z14 => k_is); (case z15 => k_is); (case z16 => k_is); (case z17 => k_is); (case z18 => k_is); (case z19 => k_is)
end
