import PyProof.Rows.All
import Wide.All
import OpenK.AllK
import Wide.FinOn
import HandS.ForMost
import HandS.ForExc
import HandS.IsInst
import HandS.ExcInit
import HandS.ExcIs
import HandS.TupLe
import HandS.Flow
import HandS.Codes
import PySem.Challenge.RW_espalier_k01_layout
set_option Elab.async false
set_option linter.all false
set_option maxRecDepth 100000
set_option maxHeartbeats 4000000
namespace Esp
open PySem PySem.Spec PyProof.Rows L2

section
variable {fs : List Addr} {H1 H2 : Hp} {h0 h2 G : Heap} {a C : Addr}
theorem un_forget (u : Un fs [] H1 H2 h0 h2) (big : h0.objs.size ≤ a) (hn : H1 a = none) (g : ∀ b, b ≠ a → G.get? b = h2.get? b) : Un fs [] H1 (del H2 a) h0 G := by
  have old : ∀ b o, h0.get? b = some o → b ≠ a := fun b o z e => absurd (Nat.lt_of_lt_of_le (Heap.lt_size z) big) (by rw [e]; exact Nat.lt_irrefl _)
  have seen : ∀ b o, H1 b = some o → b ≠ a := fun b o z e => by
    rw [e, hn] at z
    cases z
  refine ⟨?_, ?_, ?_, ?_, ?_, ?_, ?_⟩
  · intro b o z n p q
    rw [g b (old b o z)]
    exact u.keep b o z n p q
  · intro b o z n p q
    rw [g b (old b o z)]
    exact u.slot b o z n p q
  · intro b o z n q
    rw [del_ne (old b o z)]
    exact u.free b o z n q
  · intro b o z q
    rw [g b (old b o z)]
    exact u.there b o z q
  · intro b xs z
    rw [del_ne (seen b _ z)]
    exact u.tups b xs z
  · intro b o v z
    rw [del_ne (seen b _ z)]
    exact u.frzs b o v z
  · intro b ps z
    rw [del_ne (seen b _ z)]
    exact u.tbls b ps z
theorem hok_forget {P : Program} {w : World} (ok : HOk P w H2 h2) (ea : H2 a = some (exo a C none)) (g : ∀ b, b ≠ a → G.get? b = h2.get? b) : HOk P w (del H2 a) G := by
  intro b o z
  by_cases e : b = a
  · rw [e, del_same] at z
    cases z
  · rw [del_ne e] at z
    have far : ∀ c u, H2 c = some u → exo a C none ≠ u → c ≠ a := fun c u hc d => at_ne ea hc d
    refine (ok b o z).stay (fun c v hc y => ?_) (fun c hc => ?_) fun c xs hc => ?_
    · have nc : c ≠ a := by
        rcases hc with hc | hc
        · rw [hc]
          exact e
        · exact far c _ hc exo_own
      rw [g c nc]
      exact y
    · rw [del_ne (far c _ hc exo_own)]
      exact hc
    · rw [del_ne (far c _ hc exo_tup)]
      exact hc
theorem del_upd {H : Hp} {a : Addr} {o : HO} (h : H a = none) : del (upd H a o) a = H := by
  funext b
  by_cases e : b = a
  · rw [e, del_same, h]
  · rw [del_ne e, upd_ne e]
end

def tMkV (C : Addr) (sp : Sp) : L2.St → Hp → XK → Prop := fun _ H Q => ∀ a, H a = none → sp [.ref a] (upd H a (exo a C none))
  (fun v H2 => v = .non ∧ H2 a = some (exo a C none) ∧ Q (.ref C) none (del H2 a)) (fun _ _ _ => False)
section
variable {X : Cx}
theorem pmk_v {CX : CXT} {x : Str} {C fI : Addr} {k : Nat} {fd : FuncData} {ps : List Str} {sp : Sp} {p pos : Pos} (T : OexC X.K C) (iC : PySem.W.findIn X.K (.ref C) "__init__" = some (some (.ref fI))) (tI : PySem.W.typeIn X.K (.ref fI) = some (.type "function"))
    (F1 : FnOk X.prog X.w X.K X.mg X.base CX k fI fd ps sp) (hr : Room (k + 1) X.A) (hb : Binds X.K fd ps []) (hx : Passes CX X (fun _ _ _ => False)) (hg : Gl X x) (hm : X.mg x = some (.ref C))
    (hdb : (x == ("__debug__" : Str)) = false := by decide) : PMk X (.Call (.Name x p) [] [] pos) (tMkV C sp) := by
  intro pins st σ H Q I ask
  obtain ⟨nm, qn, N, bs, bm, sn, sub, ab, col, dd, e0, e1, e2, e3, e5, hC, hbm⟩ := T.cls
  refine wpAny_Call_Name_kw (ld_glob I hg hm (PySem.W.callWith_K0 I.kIn T.kC ?_) hdb)
  show wpAny _ _ (call (.ref C) []) _ _ _
  obtain ⟨h0, gs, dr, tk, os⟩ := st
  -- the empty tuple of its arguments, then the exception itself
  obtain ⟨a, ea⟩ : ∃ a, a = h0.objs.size + 1 := ⟨_, rfl⟩
  have big : h0.objs.size ≤ a := by rw [ea]; exact Nat.le_succ _
  have hn : H a = none := I.hok.fresh big
  obtain ⟨h1, eh⟩ : ∃ h1, h1 = (h0.push (PySem.W.kdv_tup [])).push (PySem.HandSPX.excO C h0.objs.size) := ⟨_, rfl⟩
  have kp : ∀ b o, h0.get? b = some o → h1.get? b = some o := fun b o z => by
    rw [eh]
    exact Heap.get?_push_of_some _ (Heap.get?_push_of_some _ z)
  have here : h1.get? a = some (PySem.HandSPX.excO C h0.objs.size) := by
    subst eh ea
    heap_get
  have J : Inv X pins σ (upd H a (exo a C none)) ⟨h1, gs, dr, tk, os⟩ := I.laid (t' := tk) (a := a) (o := exo a C none) (h' := h1) kp big (exo_ok here)
  have rel : Vals [V.ref a] [Value.ref a] := .cons rfl .nil
  have hq := ask a hn
  have hl : ([Value.ref a] ++ []).length = ps.length := (F1.len _ _ _ _ hq).symm ▸ rfl
  refine wpAny_call (PySem.HandSPX.call_own F.excBase_ValueError (fun Y => PySem.HandSPX.refsVE_contains Y bm hbm) (I.kIn _ _ hC) (PySem.W.looks_findIn I.kIn iC) (fun self => PySem.W.bind_fn I.kIn self tI) (Nat.zero_le _) ?_)
  show codeAny (model X.prog X.w) _ (.call (.ref fI) ⟨Value.ref (h0.objs.size + 1) :: [], []⟩) _ ⟨(h0.push (PySem.W.kdv_tup [])).push (PySem.HandSPX.excO C h0.objs.size), gs, dr, tk, os⟩
  rw [← eh, ← ea]
  refine codeAny_mono (F1.run _ X.stack _ _ ⟨[Value.ref a], []⟩ [Value.ref a] _ _ (fun _ _ _ => False) (hr.make C [] []) (J.env0.make C [] []) (hb _ [Value.ref a] J.kIn hl) rel hq) fun r s' got => ?_
  match r, got with
  | .error er, got => exact hx pins σ _ _ er s' J got
  | .ok (.ret u), got =>
    obtain ⟨v, H2, os2, bare2, un2, ok2, rv, ev, at2, q2⟩ := got
    subst ev
    obtain ⟨h2, g2, d2, t2, os'⟩ := s'
    obtain ⟨t0, hoe⟩ := exo_at ok2 at2
    obtain ⟨G, gk, ge⟩ := restrict h2 fun b => decide (b ≠ a)
    have g1 : ∀ b, b ≠ a → G.get? b = h2.get? b := fun b n => gk b (decide_eq_true n)
    have g0 : G.get? a = none := ge a (by simp)
    have gone : ∀ b o, G.get? b = some o → h2.get? b = some o := fun b o z => by
      by_cases e : b = a
      · rw [e, g0] at z
        cases z
      · rw [← g1 b e]
        exact z
    have un0 : Un (frs X.stack) [] H H2 h0 h2 := (Un.laid (o := exo a C none) kp big hn).trans un2
    have J2 : Inv X pins σ (del H2 a) ⟨G, g2, d2, t2, os'⟩ := I.call' (s' := ⟨G, g2, d2, t2, os'⟩) (ch := []) os2 (un_forget un0 big hn g1) (hok_forget ok2 at2 g1) bare2 fun b z => absurd z List.not_mem_nil
    exact ⟨rv, a, _, _, ⟨G, g2, d2, t2, os'⟩, _, .ref C, none, rfl, J2, gone, g0, hoe, ⟨rfl, rfl⟩, rfl, rfl, del_same, rfl, bare2, raises_own T.exC T.tyC, q2⟩
  | .ok .next, got => exact False.elim got
  | .ok .brk, got => exact False.elim got
  | .ok .cont, got => exact False.elim got
end
/-- the promise of an __init__ that says ValueError.__init__(self) alone -/
def spVI (K : PySem.W.Frag) : Sp := fun vs H Q _ => ∃ (a C : Addr), vs = [.ref a] ∧ OexC K C ∧ H a = some (exo a C none) ∧ Q .non H
/-- the reading of such a raise -/
theorem mkV_ask {K : PySem.W.Frag} {C : Addr} {σ : L2.St} {H : Hp} {Q : XK} (T : OexC K C) (h : Q (.ref C) none H) : tMkV C (spVI K) σ H Q := fun a ha => by
  refine ⟨a, C, rfl, T, upd_same, rfl, upd_same, ?_⟩
  rw [del_upd ha]
  exact h

def EAll (n : Nat) (W : WX) : XK := fun cls d H => ∀ σ : L2.St, σ.length = n → W cls d σ H
theorem passAll {X : Cx} {W : WX} {n : Nat} (hn : X.N.length = n) (tk : Takes X W) : Passes (L2.CX X.prog X.w) X (EAll n W) := fun _ σ _ _ e s' I c => tk e s' (XE.of_call I (fun _ _ _ h => h σ (I.len.trans hn)) c)
/-- .. in a def that may raise: its own wish -/
theorem passUp {X : Cx} {E : XK} (tk : Takes X fun cls d _ H => E cls d H) : Passes (L2.CX X.prog X.w) X E := passes_call tk fun _ _ _ _ h => h

def rIsX (K : PySem.W.Frag) (D a : Addr) (cls : Value) (d : Option Addr) : List V → Hp → VK → Prop := fun xs H Q => cls = .ref D ∧ d = none ∧ rIsE K D a xs H Q
theorem call_isX {X : Cx} {a D : Addr} {oe : Obj} {cls : Value} {d : Option Addr} {pn : List (Addr × Obj)} (C : ExcC X.K D) (hz : Zc cls d oe) (hf : ∃ vs, oe.data = .fields vs) : CallR (X.suite a ((a, oe) :: pn)) (.builtin "isinstance") (rIsX X.K D a cls d) := by
  intro pins s σ H xs us Q I r h
  obtain ⟨rfl, rfl, h⟩ := h
  exact call_isE C hz hf pins s σ H xs us Q I r h

def rInT (K : PySem.W.Frag) : R2 := fun x y H Q => ∃ d ds, Dp K H x d ∧ Dp K H y (.tuple ds) ∧ SeqAt.shaped d = true ∧ SeqAt.shaped (.tuple ds) = true ∧ Q (.bl (ds.any fun z => PyData.eqv z d)) H
theorem op_inT {X : Cx} (hu : X.A.units + 66 < cLine) : OpR X (compareOp .In) (rInT X.K) := by
  intro pins s σ H x y v u Q I rx ry ⟨d, ds, hd, he, sd, se, q⟩
  obtain ⟨as, r1⟩ := Dp.reads I d x v hd rx
  obtain ⟨bs, r2⟩ := Dp.reads I (.tuple ds) y u he ry
  have deep := SeqAt.depth_of_shaped sd
  have low : min (PyData.depthAll ds) d.depth ≤ d.depth := Nat.min_le_right _ _
  exact SeqAt.in_tuple_reads r2 r1 (SeqAt.canLay_of_shaped se) (SeqAt.canLay_of_shaped sd) (by omega) ⟨.bl _, H, I, rfl, q⟩

theorem room66 {k : Nat} {A : Around} (hr : Room k A) : A.units + 66 < cLine := by
  have z := hr.un
  omega

theorem pe_gi {X : Cx} {x : Str} {i : Int} {t : Tok} {pos : Pos} (hg : Gl X x) (hm : X.mg x = some (.int i t)) (hd : (x == ("__debug__" : Str)) = false := by decide) : PE X (.Name x pos) (tC (.int i)) := pe_glob hg hm ⟨t, rfl⟩ hd

section
variable {X : Cx} {tg : Expr}
theorem cr_range1 : CallR X (.type "range") (fun vs H Q => ∃ j, vs = [V.int j] ∧ ∀ p, H p = none → Q (.ref p) (upd H p (.rng 0 j))) := by
  intro pins s σ H vs us Q I r ⟨j, ev, q⟩
  subst ev
  obtain ⟨u, eu, t, et⟩ := vals1 r
  subst eu et
  have fresh : H s.heap.objs.size = none := I.hok.fresh (Nat.le_refl _)
  refine call_range_1 ⟨.ref s.heap.objs.size, upd H s.heap.objs.size (.rng 0 j), ?_, rfl, q _ fresh⟩
  exact I.laid (fun b o z => Heap.get?_push_of_some _ z) (Nat.le_refl _) ⟨_, t, _, Heap.get?_push_size _ rfl⟩
/-- a range object that a name holds, walked -/
def iRngV (te : TE) : TI := fun σ H R => te σ H fun x H1 => ∃ a lo hi, x = .ref a ∧ H1 a = some (.rng lo hi) ∧ (-(2 ^ 62) ≤ lo ∧ lo < 2 ^ 62 ∧ -(2 ^ 62) ≤ hi ∧ hi < 2 ^ 62) ∧ R (Itr lo (hi - lo).toNat) H1
theorem pi_rngV {l : Expr} {te : TE} (hl : PE X l te) : PI X tg l (iRngV te) := by
  constructor
  intro pins s σ H R I h
  refine thn (hl.run pins s σ H _ I h) fun v s1 hv => ?_
  obtain ⟨x, H1, J, rx, a, lo, hi, ex, ha, ⟨b1, b2, b3, b4⟩, q⟩ := hv
  subst ex
  obtain rfl : v = Value.ref a := rx
  obtain ⟨t, u, w, ho⟩ := (show ObjOk X.prog X.w H1 s1.heap a (.rng lo hi) from J.hok a _ ha)
  refine wpAny_pyIter_range (r := a) (a := lo) (b := hi) (c := 1) (t := t) (u := u) (v := w) ho (small_one b1 b2 b3 b4) ?_
  refine ⟨s1.heap.objs.size, [s1.heap.objs.size], _, _, H1, rfl, J.kept (t' := s1.toks) fun b o z => Heap.get?_push_of_some _ z, turn_range _ lo (hi - lo).toNat, ?_, ?_, q⟩
  · have z1 : lo + ((0 : Nat) : Int) * 1 = lo := by omega
    have z2 : ((hi - lo).toNat : Int) - ((0 : Nat) : Int) = Builtin.Range.rangeSize lo hi 1 := by
      rw [rangeSize_one]
      split <;> omega
    simp only [z1, z2]
    exact Heap.get?_push_size _ rfl
  · intro b hb
    rw [List.mem_singleton.mp hb]
    exact J.fpOk (Nat.le_refl _) (J.hok.fresh (Nat.le_refl _))
end
end Esp
set_option maxRecDepth 100000
set_option maxHeartbeats 4000000
namespace Esp
open PySem PySem.Spec PyProof.Rows L2
mutual
/-- v is the data d, by tuples alone -/
inductive Td (H : Hp) : V → PyData → Prop
  | non : Td H .non .none
  | bl (b : Bool) : Td H (.bl b) (.bool b)
  | int (i : Int) : Td H (.int i) (.int i)
  | str (x : Str) : Td H (.str x) (.str x)
  | tup {a : Addr} {xs : List V} {ds : List PyData} : H a = some (.tup xs) → TdAll H xs ds → Td H (.ref a) (.tuple ds)
inductive TdAll (H : Hp) : List V → List PyData → Prop
  | nil : TdAll H [] []
  | cons {v : V} {vs : List V} {d : PyData} {ds : List PyData} : Td H v d → TdAll H vs ds → TdAll H (v :: vs) (d :: ds)
end
/-- the tuples are as they were -/
def Tups (H H' : Hp) : Prop := ∀ b xs, H b = some (.tup xs) → H' b = some (.tup xs)
theorem Tups.refl (H : Hp) : Tups H H := fun _ _ h => h
theorem Tups.trans {H H1 H2 : Hp} (a : Tups H H1) (b : Tups H1 H2) : Tups H H2 := fun c xs h => b c xs (a c xs h)
theorem Tups.of {H H' : Hp} (s : Same H H') : Tups H H' := fun b xs h => s b _ h
/-- an object that is no tuple is changed -/
theorem Tups.wr {H : Hp} {a : Addr} {o u : HO} (h : H a = some o) (n : ∀ xs, o ≠ .tup xs) : Tups H (upd H a u) := fun b xs q => by
  have hb : b ≠ a := fun e => by
    rw [e, h] at q
    exact n xs (Option.some.inj q)
  rw [upd_ne hb]
  exact q
theorem Same.new {H : Hp} {a : Addr} {o : HO} (h : H a = none) : Same H (upd H a o) := fun b u q => by
  rw [upd_ne (ne_of_none q h)]
  exact q
theorem Tups.new {H : Hp} {a : Addr} {o : HO} (h : H a = none) : Tups H (upd H a o) := Tups.of (Same.new h)
mutual
theorem Td.mono {H H' : Hp} (t : Tups H H') : ∀ (d : PyData) (v : V), Td H v d → Td H' v d
  | .none, _, h => by
    cases h
    exact .non
  | .bool _, _, h => by
    cases h
    exact .bl _
  | .int _, _, h => by
    cases h
    exact .int _
  | .str _, _, h => by
    cases h
    exact .str _
  | .tuple ds, _, h => by
    cases h with
    | tup hs ha => exact .tup (t _ _ hs) (TdAll.mono t ds _ ha)
  | .list _, _, h => by cases h
  | .dict _, _, h => by cases h
theorem TdAll.mono {H H' : Hp} (t : Tups H H') : ∀ (ds : List PyData) (vs : List V), TdAll H vs ds → TdAll H' vs ds
  | [], _, h => by
    cases h
    exact .nil
  | d :: ds, _, h => by
    cases h with
    | cons h1 h2 => exact .cons (Td.mono t d _ h1) (TdAll.mono t ds _ h2)
end
theorem Td.up {H H' : Hp} {v : V} {d : PyData} (h : Td H v d) (t : Tups H H') : Td H' v d := Td.mono t d v h
theorem TdAll.up {H H' : Hp} {v : List V} {d : List PyData} (h : TdAll H v d) (t : Tups H H') : TdAll H' v d := TdAll.mono t d v h
mutual
theorem Td.dp {K : PySem.W.Frag} {H : Hp} : ∀ (d : PyData) (v : V), Td H v d → Dp K H v d
  | .none, _, h => by
    cases h
    exact .non
  | .bool _, _, h => by
    cases h
    exact .bl _
  | .int _, _, h => by
    cases h
    exact .int _
  | .str _, _, h => by
    cases h
    exact .str _
  | .tuple ds, _, h => by
    cases h with
    | tup hs ha => exact .tup (SqT.of hs) (TdAll.dp ds _ ha)
  | .list _, _, h => by cases h
  | .dict _, _, h => by cases h
theorem TdAll.dp {K : PySem.W.Frag} {H : Hp} : ∀ (ds : List PyData) (vs : List V), TdAll H vs ds → DpAll K H vs ds
  | [], _, h => by
    cases h
    exact .nil
  | d :: ds, _, h => by
    cases h with
    | cons h1 h2 => exact .cons (Td.dp d _ h1) (TdAll.dp ds _ h2)
end
theorem Td.toDp {K : PySem.W.Frag} {H : Hp} {v : V} {d : PyData} (h : Td H v d) : Dp K H v d := Td.dp d v h
theorem TdAll.len {H : Hp} : ∀ {vs : List V} {ds : List PyData}, TdAll H vs ds → vs.length = ds.length
  | [], _, h => by
    cases h
    rfl
  | _ :: _, _, h => by
    cases h with
    | cons h1 h2 => simp [TdAll.len h2]
theorem TdAll.app {H : Hp} : ∀ {xs : List V} {ds : List PyData} {ys : List V} {es : List PyData}, TdAll H xs ds → TdAll H ys es → TdAll H (xs ++ ys) (ds ++ es)
  | [], _, _, _, h, k => by
    cases h
    exact k
  | _ :: _, _, _, _, h, k => by
    cases h with
    | cons h1 h2 => exact .cons h1 (TdAll.app h2 k)
theorem TdAll.rep {H : Hp} {v : V} {d : PyData} (h : Td H v d) : ∀ n : Nat, TdAll H (List.replicate n v) (List.replicate n d)
  | 0 => .nil
  | n + 1 => .cons h (TdAll.rep h n)
theorem TdAll.get {H : Hp} : ∀ {xs : List V} {ds : List PyData} {i : Nat} {d : PyData}, TdAll H xs ds → ds[i]? = some d → ∃ v, xs[i]? = some v ∧ Td H v d
  | [], _, i, d, h, e => by
    cases h
    simp at e
  | _ :: _, _, i, d, h, e => by
    cases h with
    | cons h1 h2 =>
      cases i with
      | zero =>
        simp at e
        subst e
        exact ⟨_, rfl, h1⟩
      | succ i =>
        simp at e
        obtain ⟨v, q, t⟩ := TdAll.get h2 e
        exact ⟨v, by simpa using q, t⟩
theorem TdAll.set {H : Hp} {v : V} {d : PyData} (hv : Td H v d) : ∀ {xs : List V} {ds : List PyData} (i : Nat), TdAll H xs ds → TdAll H (xs.set i v) (ds.set i d)
  | [], _, i, h => by
    cases h
    exact .nil
  | _ :: _, _, i, h => by
    cases h with
    | cons h1 h2 =>
      cases i with
      | zero => exact .cons hv h2
      | succ i => exact .cons h1 (TdAll.set hv i h2)
/-- data that a comparison takes -/
abbrev Shp (d : PyData) : Prop := SeqAt.shaped d = true
theorem Shp.refl {d : PyData} (h : Shp d) : PyData.eqv d d = true := SeqAt.eqv_refl d (SeqAt.canLay_of_shaped h)
/-- the kind's answer to isinstance(v, tuple) -/
def isTupD : PyData → Bool
  | .tuple _ => true
  | _ => false
def isBlD : PyData → Bool
  | .bool _ => true
  | _ => false
theorem Td.typ {K : PySem.W.Frag} {H : Hp} {v : V} {d : PyData} (h : Td H v d) : ∃ t : String, TyX K H v (.type t) ∧ kitB t "tuple" = some (isTupD d) ∧ kitB t "bool" = some (isBlD d) ∧ kitB t "list" = some false := by
  cases h with
  | non => exact ⟨_, .base .non, by decide +kernel, by decide +kernel, by decide +kernel⟩
  | bl b => exact ⟨_, .base (.bl b), (by show kitB "bool" "tuple" = some false; decide +kernel), (by show kitB "bool" "bool" = some true; decide +kernel), by decide +kernel⟩
  | int i => exact ⟨_, .base (.int i), (by show kitB "int" "tuple" = some false; decide +kernel), (by show kitB "int" "bool" = some false; decide +kernel), by decide +kernel⟩
  | str x => exact ⟨_, .base (.str x), (by show kitB "str" "tuple" = some false; decide +kernel), (by show kitB "str" "bool" = some false; decide +kernel), by decide +kernel⟩
  | tup h1 h2 => exact ⟨_, .base (.tup h1), (by show kitB "tuple" "tuple" = some true; decide +kernel), (by show kitB "tuple" "bool" = some false; decide +kernel), by decide +kernel⟩
theorem kitI (t : String) (b : Bool) {K : PySem.W.Frag} {c : String} (h : kitB t c = some b) : PySem.W.kitOne K (.type t) (.type c) = some b := kit_ty h
theorem flat_rep {α : Type} (v : α) : ∀ n : Nat, (List.replicate n [v]).flatten = List.replicate n v
  | 0 => rfl
  | n + 1 => by
    rw [List.replicate_succ, List.flatten_cons, flat_rep v n]
    rfl
theorem range_more {α : Type} (f : Nat → α) (i : Nat) : (List.range (i + 1)).map f = (List.range i).map f ++ [f i] := by
  rw [List.range_succ, List.map_append]
  rfl
theorem TdAll.ints {H : Hp} (f : Nat → Int) : ∀ l : List Nat, TdAll H (l.map fun j => V.int (f j)) (l.map fun j => PyData.int (f j))
  | [] => .nil
  | _ :: l => .cons (.int _) (TdAll.ints f l)
theorem TdAll.snoc {H : Hp} {xs : List V} {ds : List PyData} {v : V} {d : PyData} (h : TdAll H xs ds) (k : Td H v d) : TdAll H (xs ++ [v]) (ds ++ [d]) := h.app (.cons k .nil)
theorem putF_le (f : Str) (v : V) : ∀ fs : List (Str × V), (putF f v fs).length ≤ fs.length + 1
  | [] => Nat.le_refl _
  | (g, x) :: r => by
    have ih := putF_le f v r
    unfold putF
    split
    · exact Nat.le_succ _
    · exact Nat.succ_le_succ ih
/-- few fields -/
theorem few {fs : List (Str × V)} {f : Str} {v : V} {n : Nat} (h : fs.length ≤ n) : (putF f v fs).length ≤ n + 1 := Nat.le_trans (putF_le f v fs) (Nat.succ_le_succ h)
theorem few0 : ([] : List (Str × V)).length ≤ 0 := Nat.le_refl _
theorem kit_self {K : PySem.W.Frag} {C : Addr} : PySem.W.kitOne K (.ref C) (.ref C) = some true := by
  unfold PySem.W.kitOne
  rw [if_pos (beq_self_eq_true _)]
theorem kit_sub {K : PySem.W.Frag} {C : Addr} {T : String} {b : Bool} (h : PySem.W.subIn K (.ref C) (.type T) = some b) (hm : PySem.W.kitMeta T = true) : PySem.W.kitOne K (.ref C) (.type T) = some b := by
  unfold PySem.W.kitOne
  rw [if_neg (show ¬ (Value.ref C == Value.type T) = true from by simp)]
  show (if PySem.W.kitMeta T = true then PySem.W.subIn K (.ref C) (.type T) else none) = some b
  rw [if_pos hm]
  exact h
theorem ixN_nat {n j : Nat} (h : j < n) : ixN n (j : Int) = some j := by
  unfold ixN
  rw [if_pos (by omega), if_pos (by omega)]
  simp
/-- all but a list is as it was -/
theorem Tups.fr {H H' : Hp} {x : Addr} {o : HO} (hx : H x = some o) (n : ∀ xs, o ≠ .tup xs) (f : ∀ b u, H b = some u → b ≠ x → H' b = some u) : Tups H H' := fun b xs h => f b _ h fun e => by
  rw [e, hx] at h
  exact n xs (Option.some.inj h)
theorem lst_tup {xs ys : List V} : HO.lst xs ≠ HO.tup ys := fun z => by cases z
theorem lst_ins {xs : List V} {C d : Addr} {fs : List (Str × V)} : HO.lst xs ≠ HO.ins C d fs := fun z => by cases z
theorem tup_lst {xs ys : List V} : HO.tup xs ≠ HO.lst ys := fun z => by cases z
theorem ins_lst {xs : List V} {C d : Addr} {fs : List (Str × V)} : HO.ins C d fs ≠ HO.lst xs := fun z => by cases z
theorem tup_ins {xs : List V} {C d : Addr} {fs : List (Str × V)} : HO.tup xs ≠ HO.ins C d fs := fun z => by cases z
/-- what isinstance asks of an instance's class -/
structure InsK (K : PySem.W.Frag) (C : Addr) : Prop where
  ha : PySem.W.findIn K (.ref C) "__class__" = some (some (.builtin "object.__class__"))
  hn : PySem.W.specialIn K (.builtin "object.__class__") "__get__" = some (some (.builtin "getset_descriptor.__get__"))
  ht : PySem.W.takesIn K (.builtin "object.__class__") = some true
  hm : PySem.W.mroIn K C (.type "object") = some true
end Esp
set_option maxRecDepth 100000
set_option maxHeartbeats 4000000
namespace K01
open PySem PySem.Spec PyProof.Rows L2 Esp
def top (i : Nat) : Stmt := PySem.Challenge.pw_espalier_k01_layout.main.body.getD i (.Pass ⟨0, 0, 0, 0⟩)
abbrev S_EspalierError_init : Stmt := inClass (top 1) 0
theorem sc_EspalierError_init : FnScope ["self"] ["self"] (defScope S_EspalierError_init) := ⟨rfl, rfl, rfl, by decide +kernel, rfl, by decide +kernel, by decide +kernel⟩
abbrev S_is_whole : Stmt := top 4
theorem sc_is_whole : FnScope ["value"] ["value"] (defScope S_is_whole) := ⟨rfl, rfl, rfl, by decide +kernel, rfl, by decide +kernel, by decide +kernel⟩
abbrev S_is_between : Stmt := top 12
theorem sc_is_between : FnScope ["value", "least", "most"] ["value", "least", "most"] (defScope S_is_between) := ⟨rfl, rfl, rfl, by decide +kernel, rfl, by decide +kernel, by decide +kernel⟩
abbrev S_first_record : Stmt := top 14
theorem sc_first_record : FnScope ["page"] ["page"] (defScope S_first_record) := ⟨rfl, rfl, rfl, by decide +kernel, rfl, by decide +kernel, by decide +kernel⟩
abbrev S_new_cells : Stmt := top 15
theorem sc_new_cells : FnScope ["layout", "pages", "slots", "words", "shown", "unused", "page"] ["layout"] (defScope S_new_cells) := ⟨rfl, rfl, rfl, by decide +kernel, rfl, by decide +kernel, by decide +kernel⟩
abbrev S_Layout_init : Stmt := inClass (top 16) 0
theorem sc_Layout_init : FnScope ["self", "threads", "pages", "records"] ["self", "threads", "pages", "records"] (defScope S_Layout_init) := ⟨rfl, rfl, rfl, by decide +kernel, rfl, by decide +kernel, by decide +kernel⟩
abbrev S_Layout_slot : Stmt := inClass (top 16) 1
theorem sc_Layout_slot : FnScope ["self", "thread"] ["self", "thread"] (defScope S_Layout_slot) := ⟨rfl, rfl, rfl, by decide +kernel, rfl, by decide +kernel, by decide +kernel⟩
abbrev S_Layout_word : Stmt := inClass (top 16) 2
theorem sc_Layout_word : FnScope ["self", "page"] ["self", "page"] (defScope S_Layout_word) := ⟨rfl, rfl, rfl, by decide +kernel, rfl, by decide +kernel, by decide +kernel⟩
abbrev S_Layout_record : Stmt := inClass (top 16) 3
theorem sc_Layout_record : FnScope ["self", "index"] ["self", "index"] (defScope S_Layout_record) := ⟨rfl, rfl, rfl, by decide +kernel, rfl, by decide +kernel, by decide +kernel⟩
abbrev S_Layout_cells : Stmt := inClass (top 16) 4
theorem sc_Layout_cells : FnScope ["self"] ["self"] (defScope S_Layout_cells) := ⟨rfl, rfl, rfl, by decide +kernel, rfl, by decide +kernel, by decide +kernel⟩
abbrev S_Layout_is_record : Stmt := inClass (top 16) 5
theorem sc_Layout_is_record : FnScope ["self", "cell"] ["self", "cell"] (defScope S_Layout_is_record) := ⟨rfl, rfl, rfl, by decide +kernel, rfl, by decide +kernel, by decide +kernel⟩
abbrev S_Memory_init : Stmt := inClass (top 17) 0
theorem sc_Memory_init : FnScope ["self", "layout"] ["self", "layout"] (defScope S_Memory_init) := ⟨rfl, rfl, rfl, by decide +kernel, rfl, by decide +kernel, by decide +kernel⟩
abbrev S_Memory_peek : Stmt := inClass (top 17) 2
theorem sc_Memory_peek : FnScope ["self", "cell"] ["self", "cell"] (defScope S_Memory_peek) := ⟨rfl, rfl, rfl, by decide +kernel, rfl, by decide +kernel, by decide +kernel⟩
abbrev S_Memory_log : Stmt := inClass (top 17) 3
theorem sc_Memory_log : FnScope ["self"] ["self"] (defScope S_Memory_log) := ⟨rfl, rfl, rfl, by decide +kernel, rfl, by decide +kernel, by decide +kernel⟩
abbrev S_Memory_check : Stmt := inClass (top 17) 4
theorem sc_Memory_check : FnScope ["self", "cell"] ["self", "cell"] (defScope S_Memory_check) := ⟨rfl, rfl, rfl, by decide +kernel, rfl, by decide +kernel, by decide +kernel⟩
abbrev S_law_tape : Stmt := top 19
theorem sc_law_tape : FnScope ["script", "tape", "k", "value", "step"] ["script"] (defScope S_law_tape) := ⟨rfl, rfl, rfl, by decide +kernel, rfl, by decide +kernel, by decide +kernel⟩
abbrev S_law_at : Stmt := top 20
theorem sc_law_at : FnScope ["tape", "k"] ["tape", "k"] (defScope S_law_at) := ⟨rfl, rfl, rfl, by decide +kernel, rfl, by decide +kernel, by decide +kernel⟩
abbrev S_law_told : Stmt := top 21
theorem sc_law_told : FnScope ["threads", "pages", "records", "e"] ["threads", "pages", "records"] (defScope S_law_told) := ⟨rfl, rfl, rfl, by decide +kernel, rfl, by decide +kernel, by decide +kernel⟩
abbrev S_law_due : Stmt := top 22
theorem sc_law_due : FnScope ["layout", "cell", "index"] ["layout", "cell"] (defScope S_law_due) := ⟨rfl, rfl, rfl, by decide +kernel, rfl, by decide +kernel, by decide +kernel⟩
abbrev S_law_same : Stmt := top 23
theorem sc_law_same : FnScope ["told", "due"] ["told", "due"] (defScope S_law_same) := ⟨rfl, rfl, rfl, by decide +kernel, rfl, by decide +kernel, by decide +kernel⟩
abbrev S_law : Stmt := top 24
theorem sc_law : FnScope ["script", "tape", "threads", "pages", "records", "layout", "total", "thread", "page", "index", "memory", "cell", "told"] ["script"] (defScope S_law) := ⟨rfl, rfl, rfl, by decide +kernel, rfl, by decide +kernel, by decide +kernel⟩
/-- where things stand behind the top -/
structure Ad where
  C_EspalierError : Addr
  C_NotValid : Addr
  C_Layout : Addr
  C_Memory : Addr
  a_EspalierError_init : Addr
  d_EspalierError_init : FuncData
  a_is_whole : Addr
  d_is_whole : FuncData
  a_is_between : Addr
  d_is_between : FuncData
  a_first_record : Addr
  d_first_record : FuncData
  a_new_cells : Addr
  d_new_cells : FuncData
  a_Layout_init : Addr
  d_Layout_init : FuncData
  a_Layout_slot : Addr
  d_Layout_slot : FuncData
  a_Layout_word : Addr
  d_Layout_word : FuncData
  a_Layout_record : Addr
  d_Layout_record : FuncData
  a_Layout_cells : Addr
  d_Layout_cells : FuncData
  a_Layout_is_record : Addr
  d_Layout_is_record : FuncData
  a_Memory_init : Addr
  d_Memory_init : FuncData
  a_Memory_peek : Addr
  d_Memory_peek : FuncData
  a_Memory_log : Addr
  d_Memory_log : FuncData
  a_Memory_check : Addr
  d_Memory_check : FuncData
  a_law_tape : Addr
  d_law_tape : FuncData
  a_law_at : Addr
  d_law_at : FuncData
  a_law_told : Addr
  d_law_told : FuncData
  a_law_due : Addr
  d_law_due : FuncData
  a_law_same : Addr
  d_law_same : FuncData
  a_law : Addr
  d_law : FuncData
  t_MOST_THREADS : Tok
  t_LEAST_PAGES : Tok
  t_MOST_PAGES : Tok
  t_FIRST_SLOT : Tok
  t_FIRST_WORD : Tok
/-- what the top has written -/
structure Txt (K : PySem.W.Frag) (mg : Str → Option Value) (A : Ad) : Prop where
  g_EspalierError : mg "EspalierError" = some (.ref A.C_EspalierError)
  o_EspalierError : OexC K A.C_EspalierError
  x_EspalierError : ExcC K A.C_EspalierError
  q_EspalierError : PySem.W.kitOne K (.ref A.C_EspalierError) (.ref A.C_EspalierError) = some true
  e_EspalierError_EspalierError : PySem.W.exmOne K (.ref A.C_EspalierError) (.ref A.C_EspalierError) = some true
  i_EspalierError : PySem.W.findIn K (.ref A.C_EspalierError) "__init__" = some (some (.ref A.a_EspalierError_init))
  g_NotValid : mg "NotValid" = some (.ref A.C_NotValid)
  o_NotValid : OexC K A.C_NotValid
  x_NotValid : ExcC K A.C_NotValid
  q_NotValid : PySem.W.kitOne K (.ref A.C_NotValid) (.ref A.C_NotValid) = some true
  e_NotValid_NotValid : PySem.W.exmOne K (.ref A.C_NotValid) (.ref A.C_NotValid) = some true
  e_NotValid_EspalierError : PySem.W.exmOne K (.ref A.C_NotValid) (.ref A.C_EspalierError) = some true
  i_NotValid : PySem.W.findIn K (.ref A.C_NotValid) "__init__" = some (some (.ref A.a_EspalierError_init))
  g_Layout : mg "Layout" = some (.ref A.C_Layout)
  c_Layout : Cls K A.C_Layout
  k_Layout : InsK K A.C_Layout
  kl_Layout : PySem.W.kitOne K (.ref A.C_Layout) (.type "list") = some false
  M_Layout : Mk K A.C_Layout A.a_Layout_init
  n_Layout_threads : NoAttr K A.C_Layout "threads"
  n_Layout_pages : NoAttr K A.C_Layout "pages"
  n_Layout_records : NoAttr K A.C_Layout "records"
  g_Memory : mg "Memory" = some (.ref A.C_Memory)
  c_Memory : Cls K A.C_Memory
  k_Memory : InsK K A.C_Memory
  kl_Memory : PySem.W.kitOne K (.ref A.C_Memory) (.type "list") = some false
  M_Memory : Mk K A.C_Memory A.a_Memory_init
  n_Memory_layout : NoAttr K A.C_Memory "layout"
  n_Memory_count : NoAttr K A.C_Memory "count"
  n_Memory__cells : NoAttr K A.C_Memory "_cells"
  n_Memory__accesses : NoAttr K A.C_Memory "_accesses"
  F_EspalierError_init : Fun K "__init__" "EspalierError.__init__" S_EspalierError_init A.a_EspalierError_init A.d_EspalierError_init
  b_EspalierError_init : Binds K A.d_EspalierError_init ["self"] []
  ty_EspalierError_init : PySem.W.typeIn K (.ref A.a_EspalierError_init) = some (.type "function")
  F_is_whole : Fun K "is_whole" "is_whole" S_is_whole A.a_is_whole A.d_is_whole
  b_is_whole : Binds K A.d_is_whole ["value"] []
  g_is_whole : mg "is_whole" = some (.ref A.a_is_whole)
  F_is_between : Fun K "_is_between" "_is_between" S_is_between A.a_is_between A.d_is_between
  b_is_between : Binds K A.d_is_between ["value", "least", "most"] []
  g_is_between : mg "_is_between" = some (.ref A.a_is_between)
  F_first_record : Fun K "_first_record" "_first_record" S_first_record A.a_first_record A.d_first_record
  b_first_record : Binds K A.d_first_record ["page"] []
  g_first_record : mg "_first_record" = some (.ref A.a_first_record)
  F_new_cells : Fun K "_new_cells" "_new_cells" S_new_cells A.a_new_cells A.d_new_cells
  b_new_cells : Binds K A.d_new_cells ["layout"] []
  g_new_cells : mg "_new_cells" = some (.ref A.a_new_cells)
  F_Layout_init : Fun K "__init__" "Layout.__init__" S_Layout_init A.a_Layout_init A.d_Layout_init
  b_Layout_init : Binds K A.d_Layout_init ["self", "threads", "pages", "records"] []
  F_Layout_slot : Fun K "slot" "Layout.slot" S_Layout_slot A.a_Layout_slot A.d_Layout_slot
  b_Layout_slot : Binds K A.d_Layout_slot ["self", "thread"] []
  m_Layout_slot : Meth K A.C_Layout "slot" A.a_Layout_slot
  F_Layout_word : Fun K "word" "Layout.word" S_Layout_word A.a_Layout_word A.d_Layout_word
  b_Layout_word : Binds K A.d_Layout_word ["self", "page"] []
  m_Layout_word : Meth K A.C_Layout "word" A.a_Layout_word
  F_Layout_record : Fun K "record" "Layout.record" S_Layout_record A.a_Layout_record A.d_Layout_record
  b_Layout_record : Binds K A.d_Layout_record ["self", "index"] []
  m_Layout_record : Meth K A.C_Layout "record" A.a_Layout_record
  F_Layout_cells : Fun K "cells" "Layout.cells" S_Layout_cells A.a_Layout_cells A.d_Layout_cells
  b_Layout_cells : Binds K A.d_Layout_cells ["self"] []
  m_Layout_cells : Meth K A.C_Layout "cells" A.a_Layout_cells
  F_Layout_is_record : Fun K "is_record" "Layout.is_record" S_Layout_is_record A.a_Layout_is_record A.d_Layout_is_record
  b_Layout_is_record : Binds K A.d_Layout_is_record ["self", "cell"] []
  m_Layout_is_record : Meth K A.C_Layout "is_record" A.a_Layout_is_record
  F_Memory_init : Fun K "__init__" "Memory.__init__" S_Memory_init A.a_Memory_init A.d_Memory_init
  b_Memory_init : Binds K A.d_Memory_init ["self", "layout"] []
  F_Memory_peek : Fun K "peek" "Memory.peek" S_Memory_peek A.a_Memory_peek A.d_Memory_peek
  b_Memory_peek : Binds K A.d_Memory_peek ["self", "cell"] []
  m_Memory_peek : Meth K A.C_Memory "peek" A.a_Memory_peek
  F_Memory_log : Fun K "log" "Memory.log" S_Memory_log A.a_Memory_log A.d_Memory_log
  b_Memory_log : Binds K A.d_Memory_log ["self"] []
  m_Memory_log : Meth K A.C_Memory "log" A.a_Memory_log
  F_Memory_check : Fun K "_check" "Memory._check" S_Memory_check A.a_Memory_check A.d_Memory_check
  b_Memory_check : Binds K A.d_Memory_check ["self", "cell"] []
  m_Memory_check : Meth K A.C_Memory "_check" A.a_Memory_check
  F_law_tape : Fun K "_law_tape" "_law_tape" S_law_tape A.a_law_tape A.d_law_tape
  b_law_tape : Binds K A.d_law_tape ["script"] []
  g_law_tape : mg "_law_tape" = some (.ref A.a_law_tape)
  F_law_at : Fun K "_law_at" "_law_at" S_law_at A.a_law_at A.d_law_at
  b_law_at : Binds K A.d_law_at ["tape", "k"] []
  g_law_at : mg "_law_at" = some (.ref A.a_law_at)
  F_law_told : Fun K "_law_told" "_law_told" S_law_told A.a_law_told A.d_law_told
  b_law_told : Binds K A.d_law_told ["threads", "pages", "records"] []
  g_law_told : mg "_law_told" = some (.ref A.a_law_told)
  F_law_due : Fun K "_law_due" "_law_due" S_law_due A.a_law_due A.d_law_due
  b_law_due : Binds K A.d_law_due ["layout", "cell"] []
  g_law_due : mg "_law_due" = some (.ref A.a_law_due)
  F_law_same : Fun K "_law_same" "_law_same" S_law_same A.a_law_same A.d_law_same
  b_law_same : Binds K A.d_law_same ["told", "due"] []
  g_law_same : mg "_law_same" = some (.ref A.a_law_same)
  F_law : Fun K "law" "law" S_law A.a_law A.d_law
  b_law : Binds K A.d_law ["script"] []
  g_law : mg "law" = some (.ref A.a_law)
  z_ValueError : mg "ValueError" = none
  z_abs : mg "abs" = none
  z_bool : mg "bool" = none
  z_int : mg "int" = none
  z_isinstance : mg "isinstance" = none
  z_len : mg "len" = none
  z_list : mg "list" = none
  z_range : mg "range" = none
  z_tuple : mg "tuple" = none
  v_init : PySem.W.findCls K (.type "ValueError") (.type "type") "__init__" = some (.val (.builtin "ValueError.__init__"))
  k_MOST_THREADS : mg "MOST_THREADS" = some (.int 4 A.t_MOST_THREADS)
  k_LEAST_PAGES : mg "LEAST_PAGES" = some (.int 2 A.t_LEAST_PAGES)
  k_MOST_PAGES : mg "MOST_PAGES" = some (.int 48 A.t_MOST_PAGES)
  k_FIRST_SLOT : mg "FIRST_SLOT" = some (.int 1 A.t_FIRST_SLOT)
  k_FIRST_WORD : mg "FIRST_WORD" = some (.int 5 A.t_FIRST_WORD)
end K01
set_option maxRecDepth 100000
set_option maxHeartbeats 4000000
namespace K01
open PySem PySem.Spec PyProof.Rows L2 Esp
def spInteger : Sp := fun vs H Q _ => ∃ n : Int, vs = [.int n] ∧ Q (.bl true) H
def spBetween : Sp := fun vs H Q _ => ∃ n a b : Int, vs = [.int n, .int a, .int b] ∧ Q (.bl (decide (a ≤ n ∧ n ≤ b))) H
/-- a Layout's fields -/
def fsL (t p r : Int) : List (Str × V) := putF "records" (.int r) (putF "pages" (.int p) (putF "threads" (.int t) []))
def LayAt (A : Ad) (H : Hp) (x : Addr) (t p r : Int) : Prop := ∃ dx, H x = some (.ins A.C_Layout dx (fsL t p r))
theorem LayAt.same {A : Ad} {H H' : Hp} {x : Addr} {t p r : Int} (h : LayAt A H x t p r) (s : Same H H') : LayAt A H' x t p r := let ⟨dx, e⟩ := h; ⟨dx, s _ _ e⟩
theorem fsL_t (t p r : Int) : (fsL t p r).lookup ("threads" : Str) = some (.int t) := by unfold fsL; rw [lookup_putF, if_neg (by decide +kernel), lookup_putF, if_neg (by decide +kernel), lookup_putF, if_pos rfl]
theorem fsL_p (t p r : Int) : (fsL t p r).lookup ("pages" : Str) = some (.int p) := by unfold fsL; rw [lookup_putF, if_neg (by decide +kernel), lookup_putF, if_pos rfl]
theorem fsL_r (t p r : Int) : (fsL t p r).lookup ("records" : Str) = some (.int r) := by unfold fsL; rw [lookup_putF, if_pos rfl]
theorem fsL_no (t p r : Int) {m : Str} (h1 : ¬ m = "records") (h2 : ¬ m = "pages") (h3 : ¬ m = "threads") : (fsL t p r).lookup m = none := by
  unfold fsL
  rw [lookup_putF, if_neg h1, lookup_putF, if_neg h2, lookup_putF, if_neg h3]
  all_goals rfl
theorem fsL_no_record (t p r : Int) : (fsL t p r).lookup ("record" : Str) = none := fsL_no t p r (by decide +kernel) (by decide +kernel) (by decide +kernel)
theorem fsL_no_cells (t p r : Int) : (fsL t p r).lookup ("cells" : Str) = none := fsL_no t p r (by decide +kernel) (by decide +kernel) (by decide +kernel)
theorem fsL_no_slot (t p r : Int) : (fsL t p r).lookup ("slot" : Str) = none := fsL_no t p r (by decide +kernel) (by decide +kernel) (by decide +kernel)
theorem fsL_no_word (t p r : Int) : (fsL t p r).lookup ("word" : Str) = none := fsL_no t p r (by decide +kernel) (by decide +kernel) (by decide +kernel)
theorem fsL_no_isrec (t p r : Int) : (fsL t p r).lookup ("is_record" : Str) = none := fsL_no t p r (by decide +kernel) (by decide +kernel) (by decide +kernel)
def spSlot (A : Ad) : Sp := fun vs H Q _ => ∃ (x : Addr) (t p r i : Int), vs = [.ref x, .int i] ∧ LayAt A H x t p r ∧ Q (.int (1 + i)) H
def spWord (A : Ad) : Sp := fun vs H Q _ => ∃ (x : Addr) (t p r i : Int), vs = [.ref x, .int i] ∧ LayAt A H x t p r ∧ Q (.int (5 + i)) H
def spRecord (A : Ad) : Sp := fun vs H Q _ => ∃ (x : Addr) (t p r i : Int), vs = [.ref x, .int i] ∧ LayAt A H x t p r ∧ Q (.int (5 + p + i)) H
def spCells (A : Ad) : Sp := fun vs H Q _ => ∃ (x : Addr) (t p r : Int), vs = [.ref x] ∧ LayAt A H x t p r ∧ Q (.int (5 + p + r)) H
def spIsRec (A : Ad) : Sp := fun vs H Q _ => ∃ (x : Addr) (t p r c : Int), vs = [.ref x, .int c] ∧ LayAt A H x t p r ∧ Q (.bl (decide (5 + p ≤ c ∧ c < 5 + p + r))) H
/-- what a Layout refuses -/
def Bad (t p r : Int) : Prop := ¬ (1 ≤ t ∧ t ≤ 4) ∨ ¬ (2 ≤ p ∧ p ≤ 48) ∨ r < p
def spLayInit (A : Ad) : Sp := fun vs H Q E => ∃ (x dx : Addr) (t p r : Int), vs = [.ref x, .int t, .int p, .int r] ∧ H x = some (.ins A.C_Layout dx []) ∧
  (Bad t p r → E (.ref A.C_NotValid) none H) ∧ (¬ Bad t p r → Q .non (upd H x (.ins A.C_Layout dx (fsL t p r))))
section
variable {P : Program} {w : World} {K : PySem.W.Frag} {mg : Str → Option Value} {A : Ad}
theorem ok_EE (T : Txt K mg A) (base : Heap) : FnOk P w K mg base CX0 1 A.a_EspalierError_init A.d_EspalierError_init ["self"] (spVI K) := by
  refine T.F_EspalierError_init.ok sc_EspalierError_init (fun vs H Q E h => ?_) (fun cdv A' outer s H vs Q E hr h => ?_)
  · obtain ⟨a, C, rfl, _⟩ := h
    rfl
  · obtain ⟨a, C, rfl, o, e, k⟩ := h
    refine ⟨_, pss_one (ps_expr (pe_veinit (by rfl) T.z_ValueError T.v_init (pa_cons (pv 0) pa_nil))), ?_⟩
    exact ⟨_, rfl, a, C, [], rfl, (by show 0 ≤ 1000; decide), o, e, k⟩
theorem ok_is_whole (T : Txt K mg A) (base : Heap) : FnOk P w K mg base CX0 1 A.a_is_whole A.d_is_whole ["value"] spInteger := by
  refine T.F_is_whole.ok sc_is_whole (fun vs H Q E h => ?_) (fun cdv A' outer s H vs Q E hr h => ?_)
  · obtain ⟨n, rfl, _⟩ := h
    rfl
  · obtain ⟨n, rfl, k⟩ := h
    refine ⟨_, pss_one (ps_ret (pe_and (pe_callB call_isi (by rfl) T.z_isinstance boot_isinstance (pa_cons (pv 0) (pa_cons (pe_bltn (v := .ty "int") (by rfl) T.z_int PyProof.Rows.boot_int rfl) pa_nil)))
      (pe_one (pe_not (pe_callB call_isi (by rfl) T.z_isinstance boot_isinstance (pa_cons (pv 0) (pa_cons (pe_bltn (v := .ty "bool") (by rfl) T.z_bool PyProof.Rows.boot_bool rfl) pa_nil))))))), ?_⟩
    refine ⟨_, rfl, _, _, _, _, true, rfl, .ty "int", .base (.int n), kit_ty (by decide +kernel), _, rfl, iteT ?_⟩
    exact ⟨_, rfl, _, _, _, _, false, rfl, .ty "bool", .base (.int n), kit_ty (by decide +kernel), _, rfl, k⟩
theorem ok_is_between (T : Txt K mg A) (base : Heap) : FnOk P w K mg base CX0 2 A.a_is_between A.d_is_between ["value", "least", "most"] spBetween := by
  refine T.F_is_between.ok sc_is_between (fun vs H Q E h => ?_) (fun cdv A' outer s H vs Q E hr h => ?_)
  · obtain ⟨n, a, b, rfl, _⟩ := h
    rfl
  · obtain ⟨n, a, b, rfl, k⟩ := h
    refine ⟨_, pss_one (ps_ret (pe_and (pe_call (ok_is_whole T base) hr (by rfl) T.g_is_whole T.F_is_whole.kp T.b_is_whole .nil pass0 (pa_cons (pv 0) pa_nil))
      (pe_one (pe_chain op_le op_le (pv 1) (pv 0) (pv 2))))), ?_⟩
    refine ⟨_, rfl, n, rfl, _, rfl, iteT ?_⟩
    refine ⟨_, rfl, _, rfl, _, _, rfl, rfl, _, rfl, ?_⟩
    by_cases h1 : a ≤ n
    · rw [decide_eq_true h1]
      refine iteT ⟨_, rfl, _, _, rfl, rfl, ?_⟩
      show Q (.bl (decide (n ≤ b))) H
      rw [show decide (n ≤ b) = decide (a ≤ n ∧ n ≤ b) from by simp [h1]]
      exact k
    · rw [decide_eq_false h1]
      refine iteF ?_
      show Q (.bl false) H
      rw [show false = decide (a ≤ n ∧ n ≤ b) from by simp [h1]]
      exact k
theorem ok_slot (T : Txt K mg A) (base : Heap) : FnOk P w K mg base CX0 1 A.a_Layout_slot A.d_Layout_slot ["self", "thread"] (spSlot A) := by
  refine T.F_Layout_slot.ok sc_Layout_slot (fun vs H Q E h => ?_) (fun cdv A' outer s H vs Q E hr h => ?_)
  · obtain ⟨x, t, p, r, i, rfl, _⟩ := h
    rfl
  · obtain ⟨x, t, p, r, i, rfl, L, k⟩ := h
    refine ⟨_, pss_one (ps_ret (pe_op op_add (pe_gi (by rfl) T.k_FIRST_SLOT) (pv 1))), ?_⟩
    exact ⟨_, rfl, _, _, rfl, rfl, k⟩
theorem ok_word (T : Txt K mg A) (base : Heap) : FnOk P w K mg base CX0 1 A.a_Layout_word A.d_Layout_word ["self", "page"] (spWord A) := by
  refine T.F_Layout_word.ok sc_Layout_word (fun vs H Q E h => ?_) (fun cdv A' outer s H vs Q E hr h => ?_)
  · obtain ⟨x, t, p, r, i, rfl, _⟩ := h
    rfl
  · obtain ⟨x, t, p, r, i, rfl, L, k⟩ := h
    refine ⟨_, pss_one (ps_ret (pe_op op_add (pe_gi (by rfl) T.k_FIRST_WORD) (pv 1))), ?_⟩
    exact ⟨_, rfl, _, _, rfl, rfl, k⟩
theorem ok_record (T : Txt K mg A) (base : Heap) : FnOk P w K mg base CX0 1 A.a_Layout_record A.d_Layout_record ["self", "index"] (spRecord A) := by
  refine T.F_Layout_record.ok sc_Layout_record (fun vs H Q E h => ?_) (fun cdv A' outer s H vs Q E hr h => ?_)
  · obtain ⟨x, t, p, r, i, rfl, _⟩ := h
    rfl
  · obtain ⟨x, t, p, r, i, rfl, ⟨dx, L⟩, k⟩ := h
    refine ⟨_, pss_one (ps_ret (pe_op op_add (pe_op op_add (pe_gi (by rfl) T.k_FIRST_WORD) (pe_fld (pv 0) rfl)) (pv 1))), ?_⟩
    exact ⟨_, rfl, x, _, dx, _, _, rfl, L, T.c_Layout, T.n_Layout_pages, fsL_p t p r, _, _, rfl, rfl, _, rfl, _, _, rfl, rfl, k⟩
theorem ok_cells (T : Txt K mg A) (base : Heap) : FnOk P w K mg base CX0 2 A.a_Layout_cells A.d_Layout_cells ["self"] (spCells A) := by
  refine T.F_Layout_cells.ok sc_Layout_cells (fun vs H Q E h => ?_) (fun cdv A' outer s H vs Q E hr h => ?_)
  · obtain ⟨x, t, p, r, rfl, _⟩ := h
    rfl
  · obtain ⟨x, t, p, r, rfl, ⟨dx, L⟩, k⟩ := h
    refine ⟨_, pss_one (ps_ret (pe_meth (pv 0) T.c_Layout T.m_Layout_record (ok_record T base) hr T.b_Layout_record .nil pass0 (pa_cons (pe_fld (pv 0) rfl) pa_nil))), ?_⟩
    exact ⟨_, rfl, x, dx, _, rfl, L, fsL_no_record t p r, _, rfl, x, _, dx, _, _, rfl, L, T.c_Layout, T.n_Layout_records, fsL_r t p r, x, t, p, r, r, rfl, ⟨dx, L⟩, k⟩
theorem ok_isrec (T : Txt K mg A) (base : Heap) : FnOk P w K mg base CX0 3 A.a_Layout_is_record A.d_Layout_is_record ["self", "cell"] (spIsRec A) := by
  refine T.F_Layout_is_record.ok sc_Layout_is_record (fun vs H Q E h => ?_) (fun cdv A' outer s H vs Q E hr h => ?_)
  · obtain ⟨x, t, p, r, c, rfl, _⟩ := h
    rfl
  · obtain ⟨x, t, p, r, c, rfl, ⟨dx, L⟩, k⟩ := h
    refine ⟨_, pss_one (ps_ret (pe_chain op_le op_lt (pe_meth (pv 0) T.c_Layout T.m_Layout_record (ok_record T base) (hr.mono (by decide)) T.b_Layout_record .nil pass0 (pa_cons pe_int pa_nil)) (pv 1)
      (pe_meth0 (pv 0) T.c_Layout T.m_Layout_cells (ok_cells T base) hr T.b_Layout_cells .nil pass0))), ?_⟩
    refine ⟨_, rfl, x, dx, _, rfl, L, fsL_no_record t p r, x, t, p, r, 0, rfl, ⟨dx, L⟩, _, rfl, _, _, rfl, rfl, _, rfl, ?_⟩
    by_cases h1 : 5 + p + 0 ≤ c
    · rw [decide_eq_true h1]
      refine iteT ⟨_, rfl, x, dx, _, rfl, L, fsL_no_cells t p r, x, t, p, r, rfl, ⟨dx, L⟩, _, _, rfl, rfl, ?_⟩
      show Q (.bl (decide (c < 5 + p + r))) H
      rw [show decide (c < 5 + p + r) = decide (5 + p ≤ c ∧ c < 5 + p + r) from by
        have h2 : 5 + p ≤ c := by omega
        simp [h2]]
      exact k
    · rw [decide_eq_false h1]
      refine iteF ?_
      show Q (.bl false) H
      rw [show false = decide (5 + p ≤ c ∧ c < 5 + p + r) from by
        have h2 : ¬ 5 + p ≤ c := by omega
        simp [h2]]
      exact k
theorem ok_lay_init (T : Txt K mg A) (base : Heap) : FnOk P w K mg base (L2.CX P w) 4 A.a_Layout_init A.d_Layout_init ["self", "threads", "pages", "records"] (spLayInit A) := by
  refine T.F_Layout_init.okX sc_Layout_init (fun vs H Q E h => ?_) (fun cdv A' outer s H vs Q E hr h => ?_)
  · obtain ⟨x, dx, t, p, r, rfl, _⟩ := h
    rfl
  · obtain ⟨x, dx, t, p, r, rfl, hx, kB, kG⟩ := h
    have hr2 : Room 2 _ := hr.mono (by decide)
    have hr1 : Room 1 _ := hr.mono (by decide)
    refine ⟨_, pss_cons (ps_if (pt_not (pt_val (pe_call (ok_is_between T base) hr2 (by rfl) T.g_is_between T.F_is_between.kp T.b_is_between .nil pass0 (pa_cons (pv 1) (pa_cons pe_int (pa_cons (pe_gi (by rfl) T.k_MOST_THREADS) pa_nil))))))
        (pss_one (ps_raise (W := fun cls d _ H => E cls d H) rfl (takes_of rfl rfl rfl rfl) (pmk_v T.o_NotValid T.i_NotValid T.ty_EspalierError_init (ok_EE T base) hr2 T.b_EspalierError_init pass0 (by rfl) T.g_NotValid))) pss_nil)
      (pss_cons (ps_if (pt_not (pt_val (pe_call (ok_is_between T base) hr2 (by rfl) T.g_is_between T.F_is_between.kp T.b_is_between .nil pass0 (pa_cons (pv 2) (pa_cons (pe_gi (by rfl) T.k_LEAST_PAGES) (pa_cons (pe_gi (by rfl) T.k_MOST_PAGES) pa_nil))))))
        (pss_one (ps_raise (W := fun cls d _ H => E cls d H) rfl (takes_of rfl rfl rfl rfl) (pmk_v T.o_NotValid T.i_NotValid T.ty_EspalierError_init (ok_EE T base) hr2 T.b_EspalierError_init pass0 (by rfl) T.g_NotValid))) pss_nil)
      (pss_cons (ps_if (PW.pt (pw_or (pt_not (pt_val (pe_call (ok_is_whole T base) hr1 (by rfl) T.g_is_whole T.F_is_whole.kp T.b_is_whole .nil pass0 (pa_cons (pv 3) pa_nil)))) (pw_or1 (pt_cmpR op_lt (pv 3) (pv 2) (nomark _)))))
        (pss_one (ps_raise (W := fun cls d _ H => E cls d H) rfl (takes_of rfl rfl rfl rfl) (pmk_v T.o_NotValid T.i_NotValid T.ty_EspalierError_init (ok_EE T base) hr2 T.b_EspalierError_init pass0 (by rfl) T.g_NotValid))) pss_nil)
      (pss_cons (ps_fld (pv 0) (pv 1) rfl) (pss_cons (ps_fld (pv 0) (pv 2) rfl) (pss_one (ps_fld (pv 0) (pv 3) rfl)))))), ?_⟩
    refine ⟨_, rfl, t, 1, 4, rfl, _, rfl, ?_⟩
    by_cases h1 : 1 ≤ t ∧ t ≤ 4
    · rw [decide_eq_true h1]
      refine iteF ⟨_, rfl, p, 2, 48, rfl, _, rfl, ?_⟩
      by_cases h2 : 2 ≤ p ∧ p ≤ 48
      · rw [decide_eq_true h2]
        refine iteF ⟨_, rfl, r, rfl, _, rfl, iteF ⟨_, rfl, _, rfl, _, _, rfl, rfl, _, rfl, ?_⟩⟩
        by_cases h3 : r < p
        · rw [decide_eq_true h3]
          exact iteT (mkV_ask T.o_NotValid (kB (.inr (.inr h3))))
        · rw [decide_eq_false h3]
          refine iteF ?_
          refine ⟨_, rfl, _, rfl, x, _, dx, _, rfl, hx, T.c_Layout, T.n_Layout_threads, (by show 0 < 1000; decide), ?_⟩
          refine ⟨_, rfl, _, rfl, x, _, dx, _, rfl, upd_same, T.c_Layout, T.n_Layout_pages, (by show 1 < 1000; decide), ?_⟩
          refine ⟨_, rfl, _, rfl, x, _, dx, _, rfl, upd_same, T.c_Layout, T.n_Layout_records, ?_, ?_⟩
          · rw [show (putF ("pages" : Str) (V.int p) (putF ("threads" : Str) (V.int t) [])).length = 2 from by
              show (if ("threads" : Str) = "pages" then _ else _ : List (Str × V)).length = 2
              rw [if_neg (by decide +kernel)]
              rfl]
            decide
          · rw [upd_upd, upd_upd]
            exact kG fun z => by
              rcases z with z | z | z
              · exact z h1
              · exact z h2
              · exact h3 z
      · rw [decide_eq_false h2]
        exact iteT (mkV_ask T.o_NotValid (kB (.inr (.inl h2))))
    · rw [decide_eq_false h1]
      exact iteT (mkV_ask T.o_NotValid (kB (.inl h1)))
end
end K01
set_option maxRecDepth 100000
set_option maxHeartbeats 4000000
namespace K01
open PySem PySem.Spec PyProof.Rows L2 Esp
def recD (p : Int) : PyData := if p = 0 then .tuple [.str "leaf", .none, .none, .tuple [], .tuple []] else .tuple [.str "free", .int p]
def cellsD (p r : Int) : List PyData :=
  [.int 0] ++ List.replicate 4 .none ++ (List.range p.toNat).map (fun (j : Nat) => .int (5 + p + (j : Int))) ++ (List.range p.toNat).map (fun (j : Nat) => recD (j : Int)) ++ List.replicate (r - p).toNat .none
def spFirst : Sp := fun vs H Q _ => ∃ p : Int, vs = [.int p] ∧ ∀ v H', Same H H' → Td H' v (recD p) → Q v H'
def spNewCells (A : Ad) : Sp := fun vs H Q _ => ∃ (x : Addr) (t p r : Int), vs = [.ref x] ∧ LayAt A H x t p r ∧ 2 ≤ p ∧ p ≤ 48 ∧ p ≤ r ∧ r ≤ 1000000 ∧
  ∀ (l : Addr) (H' : Hp) (xs : List V), Same H H' → H l = none → H' l = some (.lst xs) → TdAll H' xs (cellsD p r) → Q (.ref l) H'
section
variable {P : Program} {w : World} {K : PySem.W.Frag} {mg : Str → Option Value} {A : Ad}
theorem ok_first (T : Txt K mg A) (base : Heap) : FnOk P w K mg base CX0 1 A.a_first_record A.d_first_record ["page"] spFirst := by
  refine T.F_first_record.ok sc_first_record (fun vs H Q E h => ?_) (fun cdv A' outer s H vs Q E hr h => ?_)
  · obtain ⟨n, rfl, _⟩ := h
    rfl
  · obtain ⟨n, rfl, k⟩ := h
    refine ⟨_, pss_cons (ps_if (pt_cmpR op_eq (pv 0) pe_int (nomark _)) (pss_one (ps_ret (pe_tup (pa_cons pe_str (pa_cons pe_non (pa_cons pe_non (pa_cons (pe_tup pa_nil) (pa_cons (pe_tup pa_nil) pa_nil)))))))) pss_nil)
      (pss_one (ps_ret (pe_tup (pa_cons pe_str (pa_cons (pv 0) pa_nil))))), ?_⟩
    refine ⟨_, rfl, rfl, _, rfl, ?_⟩
    by_cases h0 : n = 0
    · subst h0
      rw [decide_eq_true rfl]
      refine iteT ⟨Nat.zero_le _, fun q1 n1 => ⟨Nat.zero_le _, fun q2 n2 => ⟨by show 5 ≤ sizeLine; decide, fun a na => ?_⟩⟩⟩
      have s1 : Same H (upd H q1 (.tup [])) := Same.new n1
      have s2 : Same (upd H q1 (.tup [])) (upd (upd H q1 (.tup [])) q2 (.tup [])) := Same.new n2
      have s3 := Same.new (o := .tup [V.str "leaf", .non, .non, .ref q1, .ref q2]) na
      refine k (.ref a) _ (s1.trans (s2.trans s3)) ?_
      show Td _ (.ref a) (.tuple [.str "leaf", .none, .none, .tuple [], .tuple []])
      exact .tup upd_same (.cons (.str _) (.cons .non (.cons .non (.cons (.tup (s3 _ _ (s2 _ _ upd_same)) .nil) (.cons (.tup (s3 _ _ upd_same) .nil) .nil)))))
    · rw [decide_eq_false (fun z => h0 (V.int.inj z))]
      refine iteF ⟨_, rfl, by show 2 ≤ sizeLine; decide, fun a na => ?_⟩
      refine k (.ref a) _ (Same.new na) ?_
      rw [show recD n = .tuple [.str "free", .int n] from if_neg h0]
      exact .tup upd_same (.cons (.str _) (.cons (.int _) .nil))
theorem ok_new_cells (T : Txt K mg A) (base : Heap) : FnOk P w K mg base CX0 3 A.a_new_cells A.d_new_cells ["layout"] (spNewCells A) := by
  refine T.F_new_cells.ok sc_new_cells (fun vs H Q E h => ?_) (fun cdv A' outer s H vs Q E hr h => ?_)
  · obtain ⟨x, t, p, r, rfl, _⟩ := h
    rfl
  · obtain ⟨x, t, p, r, rfl, ⟨dx, L⟩, p2, p48, pr, rbig, k⟩ := h
    have hr1 : Room 1 _ := hr.mono (by decide)
    have nd := sc_new_cells.nd
    refine ⟨_, pss_cons (ps_set (i := 1) nd rfl (Or.inl rfl) (pe_callTy cr_range1 (by rfl) T.z_range boot_range (pa_cons (pe_fld (pv 0) rfl) pa_nil)))
      (pss_cons (ps_set (i := 2) nd rfl (Or.inl rfl) (pe_op op_rep (pe_lst (pa_cons pe_non pa_nil)) (pe_gi (by rfl) T.k_MOST_THREADS)))
      (pss_cons (ps_setLc (i := 3) (own := [("page", 6)]) (g := gName 6) (tt := tYes) rfl nd rfl rfl (sw_true rfl rfl rfl (by decide +kernel)) (pi_rngV (pv 1)) (blkOk_by (N := ["layout", "pages", "slots", "words", "shown", "unused", "page"]) (sc := defScope S_new_cells) (by decide +kernel))
        (fun _ _ _ _ _ => pg_name (i := 6) nd rfl (Or.inl rfl)) (fun _ _ _ _ _ => pts_nil) (fun _ _ _ _ _ => pe_meth (pv 0) T.c_Layout T.m_Layout_record (ok_record T base) hr1 T.b_Layout_record .nil pass0 (pa_cons (pv 6) pa_nil)))
      (pss_cons (ps_setLc (i := 4) (own := [("page", 6)]) (g := gName 6) (tt := tYes) rfl nd rfl rfl (sw_true rfl rfl rfl (by decide +kernel)) (pi_rngV (pv 1)) (blkOk_by (N := ["layout", "pages", "slots", "words", "shown", "unused", "page"]) (sc := defScope S_new_cells) (by decide +kernel))
        (fun _ _ _ _ _ => pg_name (i := 6) nd rfl (Or.inl rfl)) (fun _ _ _ _ _ => pts_nil) (fun _ _ _ _ _ => pe_call (ok_first T base) hr1 (by rfl) T.g_first_record T.F_first_record.kp T.b_first_record .nil pass0 (pa_cons (pv 6) pa_nil)))
      (pss_cons (ps_set (i := 5) nd rfl (Or.inl rfl) (pe_op op_rep (pe_lst (pa_cons pe_non pa_nil)) (pe_op op_sub (pe_fld (pv 0) rfl) (pe_fld (pv 0) rfl))))
      (pss_one (ps_ret (pe_op op_cat (pe_op op_cat (pe_op op_cat (pe_op op_cat (pe_lst (pa_cons pe_int pa_nil)) (pv 2)) (pv 3)) (pv 4)) (pv 5)))))))), ?_⟩
    -- pages = range(layout.pages)
    refine ⟨_, rfl, x, _, dx, _, _, rfl, L, T.c_Layout, T.n_Layout_pages, fsL_p t p r, p, rfl, fun a0 n0 => ?_⟩
    obtain ⟨H0, e0⟩ : ∃ H0, H0 = upd H a0 (.rng 0 p) := ⟨_, rfl⟩
    have s0 : Same H H0 := by rw [e0]; exact Same.new n0
    have g0 : H0 a0 = some (.rng 0 p) := by rw [e0]; exact upd_same
    rw [← e0]
    -- slots = [None] * MOST_THREADS
    refine ⟨by show 1 ≤ sizeLine; decide, fun b0 m0 => ?_⟩
    refine ⟨b0, 4, [V.non], rfl, rfl, upd_same, by decide, by decide, by show 1 * 4 ≤ sizeLine; decide, fun b1 m1 => ?_⟩
    obtain ⟨H1, e1⟩ : ∃ H1, H1 = upd (upd H0 b0 (.lst [V.non])) b1 (.lst (List.replicate (4 : Int).toNat [V.non]).flatten) := ⟨_, rfl⟩
    have s1 : Same H0 H1 := by rw [e1]; exact (Same.new m0).trans (Same.new m1)
    have g1 : H1 b1 = some (.lst (List.replicate 4 V.non)) := by rw [e1, upd_same]; rfl
    rw [← e1]
    -- words = [layout.record(page) for page in pages]
    refine ⟨_, rfl, a0, 0, p, rfl, s1 _ _ g0, ⟨by decide, by decide, by omega, by omega⟩, fun D nD => ?_⟩
    refine lc_range (lo := 0) (n := (p - 0).toNat) (fun i H2 => H2 D = some (.lst ((List.range i).map fun (j : Nat) => V.int (5 + p + (j : Int)))) ∧ Same H1 H2) ⟨upd_same, Same.new nD⟩ ?_ ?_
    · rintro i H2 hi ⟨g, sm⟩
      refine ⟨rfl, _, rfl, x, dx, _, rfl, sm _ _ (s1 _ _ (s0 _ _ L)), fsL_no_record t p r, _, rfl, x, t, p, r, 0 + (i : Int), rfl, ⟨dx, sm _ _ (s1 _ _ (s0 _ _ L))⟩, ?_⟩
      refine ⟨_, g, ?_, ?_, fun b o z => ?_⟩
      · rw [List.length_map, List.length_range]
        exact small1000 (by omega)
      · rw [upd_same, range_more]
        rw [show (5 + p + (0 + (i : Int))) = 5 + p + (i : Int) from by omega]
      · rw [upd_ne (ne_of_none z nD)]
        exact sm b o z
    rintro H2 ⟨gD, s2⟩
    have gD' : H2 D = some (.lst ((List.range p.toNat).map fun (j : Nat) => V.int (5 + p + (j : Int)))) := by
      rw [gD]
      rw [show (p - 0).toNat = p.toNat from by omega]
    -- shown = [_first_record(page) for page in pages]
    refine ⟨_, rfl, a0, 0, p, rfl, s2 _ _ (s1 _ _ g0), ⟨by decide, by decide, by omega, by omega⟩, fun D2 nD2 => ?_⟩
    refine lc_range (lo := 0) (n := (p - 0).toNat) (fun i H3 => ∃ acc, H3 D2 = some (.lst acc) ∧ TdAll H3 acc ((List.range i).map fun (j : Nat) => recD (j : Int)) ∧ Same H2 H3) ⟨[], upd_same, .nil, Same.new nD2⟩ ?_ ?_
    · rintro i H3 hi ⟨acc, g, td, sm⟩
      refine ⟨rfl, _, rfl, 0 + (i : Int), rfl, fun v H4 s4 tv => ?_⟩
      have g4 : H4 D2 = some (.lst acc) := s4 _ _ g
      have tp : Tups H4 (upd H4 D2 (.lst (acc ++ [v]))) := Tups.wr g4 fun _ z => by cases z
      refine ⟨acc, g4, ?_, acc ++ [v], upd_same, ?_, fun b o z => ?_⟩
      · have e := td.len
        rw [List.length_map, List.length_range] at e
        exact small1000 (by omega)
      · rw [range_more]
        rw [show (0 + (i : Int)) = (i : Int) from by omega] at tv
        exact ((td.up (Tups.of s4)).up tp).snoc (tv.up tp)
      · rw [upd_ne (ne_of_none z nD2)]
        exact s4 b o (sm b o z)
    rintro H3 ⟨acc, gA, tA, s3⟩
    rw [show (p - 0).toNat = p.toNat from by omega] at tA
    -- unused = [None] * (layout.records - layout.pages)
    have sL : Same H H3 := s0.trans (s1.trans (s2.trans s3))
    refine ⟨by show 1 ≤ sizeLine; decide, fun c0 q0 => ?_⟩
    have sLc : Same H (upd H3 c0 (.lst [V.non])) := sL.trans (Same.new q0)
    refine ⟨_, rfl, x, _, dx, _, _, rfl, sLc _ _ L, T.c_Layout, T.n_Layout_records, fsL_r t p r, _, rfl, x, _, dx, _, _, rfl, sLc _ _ L, T.c_Layout, T.n_Layout_pages, fsL_p t p r, _, _, rfl, rfl, ?_⟩
    refine ⟨c0, r - p, [V.non], rfl, rfl, upd_same, by omega, by omega, ?_, fun c1 q1 => ?_⟩
    · show 1 * (r - p).toNat ≤ sizeLine
      rw [sizeLine_eq]
      omega
    obtain ⟨H4, e4⟩ : ∃ H4, H4 = upd (upd H3 c0 (.lst [V.non])) c1 (.lst (List.replicate (r - p).toNat [V.non]).flatten) := ⟨_, rfl⟩
    have s4 : Same H3 H4 := by rw [e4]; exact (Same.new q0).trans (Same.new q1)
    have gU : H4 c1 = some (.lst (List.replicate (r - p).toNat V.non)) := by rw [e4, upd_same, flat_rep]
    rw [← e4]
    -- return [0] + slots + words + shown + unused
    have la := tA.len
    rw [List.length_map, List.length_range] at la
    refine ⟨by show 1 ≤ sizeLine; decide, fun l0 r0 => ?_⟩
    have t0 : Same H4 (upd H4 l0 (.lst [V.int 0])) := Same.new r0
    refine ⟨_, rfl, l0, b1, _, _, rfl, rfl, upd_same, t0 _ _ (s4 _ _ (s3 _ _ (s2 _ _ g1))), ?_, fun l1 r1 => ?_⟩
    · show 1 + 4 ≤ sizeLine
      decide
    have t1 := t0.trans (Same.new (o := .lst ([V.int 0] ++ List.replicate 4 V.non)) r1)
    refine ⟨_, rfl, l1, D, _, _, rfl, rfl, upd_same, t1 _ _ (s4 _ _ (s3 _ _ gD')), ?_, fun l2 r2 => ?_⟩
    · simp only [List.length_append, List.length_map, List.length_range, List.length_replicate, List.length_cons, List.length_nil]
      rw [sizeLine_eq]
      omega
    have t2 := t1.trans (Same.new (o := .lst (([V.int 0] ++ List.replicate 4 V.non) ++ (List.range p.toNat).map fun (j : Nat) => V.int (5 + p + (j : Int)))) r2)
    refine ⟨_, rfl, l2, D2, _, _, rfl, rfl, upd_same, t2 _ _ (s4 _ _ gA), ?_, fun l3 r3 => ?_⟩
    · simp only [List.length_append, List.length_map, List.length_range, List.length_replicate, List.length_cons, List.length_nil]
      rw [sizeLine_eq]
      omega
    have t3 := t2.trans (Same.new (o := .lst ((([V.int 0] ++ List.replicate 4 V.non) ++ (List.range p.toNat).map fun (j : Nat) => V.int (5 + p + (j : Int))) ++ acc)) r3)
    refine ⟨_, rfl, l3, c1, _, _, rfl, rfl, upd_same, t3 _ _ gU, ?_, fun l4 r4 => ?_⟩
    · simp only [List.length_append, List.length_map, List.length_range, List.length_replicate, List.length_cons, List.length_nil]
      rw [sizeLine_eq]
      omega
    have t4 := t3.trans (Same.new (o := .lst (((([V.int 0] ++ List.replicate 4 V.non) ++ (List.range p.toNat).map fun (j : Nat) => V.int (5 + p + (j : Int))) ++ acc) ++ List.replicate (r - p).toNat V.non)) r4)
    refine k l4 _ _ (sL.trans (s4.trans t4)) ?_ upd_same ?_
    · exact (sL.trans (s4.trans t3)).free r4
    · refine TdAll.app (TdAll.app (TdAll.app (TdAll.app (.cons (.int 0) .nil) (TdAll.rep .non 4)) (TdAll.ints _ _)) ?_) (TdAll.rep .non _)
      exact tA.up (Tups.of (s4.trans t4))
end
end K01
set_option maxRecDepth 100000
set_option maxHeartbeats 4000000
namespace K01
open PySem PySem.Spec PyProof.Rows L2 Esp
def fsM (lay cs ac : Addr) (n : Int) : List (Str × V) := putF "_accesses" (.ref ac) (putF "_cells" (.ref cs) (putF "count" (.int n) (putF "layout" (.ref lay) [])))
theorem fsM_lay (lay cs ac : Addr) (n : Int) : (fsM lay cs ac n).lookup ("layout" : Str) = some (.ref lay) := by
  unfold fsM
  rw [lookup_putF, if_neg (by decide +kernel), lookup_putF, if_neg (by decide +kernel), lookup_putF, if_neg (by decide +kernel), lookup_putF, if_pos rfl]
theorem fsM_count (lay cs ac : Addr) (n : Int) : (fsM lay cs ac n).lookup ("count" : Str) = some (.int n) := by
  unfold fsM
  rw [lookup_putF, if_neg (by decide +kernel), lookup_putF, if_neg (by decide +kernel), lookup_putF, if_pos rfl]
theorem fsM_cells (lay cs ac : Addr) (n : Int) : (fsM lay cs ac n).lookup ("_cells" : Str) = some (.ref cs) := by
  unfold fsM
  rw [lookup_putF, if_neg (by decide +kernel), lookup_putF, if_pos rfl]
theorem fsM_acc (lay cs ac : Addr) (n : Int) : (fsM lay cs ac n).lookup ("_accesses" : Str) = some (.ref ac) := by
  unfold fsM
  rw [lookup_putF, if_pos rfl]
theorem fsM_no (lay cs ac : Addr) (n : Int) {m : Str} (h1 : ¬ m = "_accesses") (h2 : ¬ m = "_cells") (h3 : ¬ m = "count") (h4 : ¬ m = "layout") : (fsM lay cs ac n).lookup m = none := by
  unfold fsM
  rw [lookup_putF, if_neg h1, lookup_putF, if_neg h2, lookup_putF, if_neg h3, lookup_putF, if_neg h4]
  all_goals rfl
/-- a memory at m: its layout (t, p, r) at lay, its cells xs, the data ds, its accesses as -/
structure MemAt (A : Ad) (H : Hp) (m lay cs ac : Addr) (t p r n : Int) (xs : List V) (ds : List PyData) (as : List V) (las : List PyData) : Prop where
  ob : ∃ dx, H m = some (.ins A.C_Memory dx (fsM lay cs ac n))
  ly : LayAt A H lay t p r
  ce : H cs = some (.lst xs)
  td : TdAll H xs ds
  la : H ac = some (.lst as)
  tl : TdAll H as las
  ne : cs ≠ ac
  len : (xs.length : Int) = 5 + p + r
theorem MemAt.same {A : Ad} {H H' : Hp} {m lay cs ac : Addr} {t p r n : Int} {xs : List V} {ds : List PyData} {as : List V} {las : List PyData} (h : MemAt A H m lay cs ac t p r n xs ds as las) (s : Same H H') : MemAt A H' m lay cs ac t p r n xs ds as las :=
  ⟨let ⟨dx, e⟩ := h.ob; ⟨dx, s _ _ e⟩, h.ly.same s, s _ _ h.ce, h.td.up (Tups.of s), s _ _ h.la, h.tl.up (Tups.of s), h.ne, h.len⟩
theorem cellsD_len (p r : Int) (h0 : 0 ≤ p) (h : p ≤ r) : ((cellsD p r).length : Int) = 5 + p + r := by
  unfold cellsD
  simp only [List.length_append, List.length_map, List.length_range, List.length_replicate, List.length_cons, List.length_nil]
  omega
def spMemInit (A : Ad) : Sp := fun vs H Q _ => ∃ (m dm lay : Addr) (t p r : Int), vs = [.ref m, .ref lay] ∧ H m = some (.ins A.C_Memory dm []) ∧ LayAt A H lay t p r ∧ 2 ≤ p ∧ p ≤ 48 ∧ p ≤ r ∧ r ≤ 1000000 ∧
  ∀ (H' : Hp) (cs ac : Addr) (xs : List V), (∀ b o, H b = some o → b ≠ m → H' b = some o) → H cs = none → H ac = none → MemAt A H' m lay cs ac t p r 0 xs (cellsD p r) [] [] → Q .non H'
def spCheck (A : Ad) : Sp := fun vs H Q E => ∃ (m lay cs ac : Addr) (t p r n c : Int) (xs : List V) (ds : List PyData) (as : List V) (las : List PyData), vs = [.ref m, .int c] ∧ MemAt A H m lay cs ac t p r n xs ds as las ∧
  (0 ≤ c ∧ c < 5 + p + r → Q .non H) ∧ (¬ (0 ≤ c ∧ c < 5 + p + r) → E (.ref A.C_NotValid) none H)
def spPeek (A : Ad) : Sp := fun vs H Q E => ∃ (m lay cs ac : Addr) (t p r n : Int) (c : Nat) (xs : List V) (ds : List PyData) (as : List V) (las : List PyData) (v : V), vs = [.ref m, .int (c : Int)] ∧ MemAt A H m lay cs ac t p r n xs ds as las ∧
  xs[c]? = some v ∧ Q v H
def spLog (A : Ad) : Sp := fun vs H Q _ => ∃ (m lay cs ac : Addr) (t p r n : Int) (xs : List V) (ds : List PyData) (as : List V) (las : List PyData), vs = [.ref m] ∧ MemAt A H m lay cs ac t p r n xs ds as las ∧
  ∀ l, H l = none → Q (.ref l) (upd H l (.lst as))
section
variable {P : Program} {w : World} {K : PySem.W.Frag} {mg : Str → Option Value} {A : Ad}
theorem ok_mem_init (T : Txt K mg A) (base : Heap) : FnOk P w K mg base CX0 4 A.a_Memory_init A.d_Memory_init ["self", "layout"] (spMemInit A) := by
  refine T.F_Memory_init.ok sc_Memory_init (fun vs H Q E h => ?_) (fun cdv A' outer s H vs Q E hr h => ?_)
  · obtain ⟨m, dm, lay, t, p, r, rfl, _⟩ := h
    rfl
  · obtain ⟨m, dm, lay, t, p, r, rfl, hm, L, p2, p48, pr, rbig, k⟩ := h
    refine ⟨_, pss_cons (ps_fld (pv 0) (pv 1) rfl) (pss_cons (ps_fld (pv 0) pe_int rfl)
      (pss_cons (ps_fld (pv 0) (pe_call (ok_new_cells T base) hr (by rfl) T.g_new_cells T.F_new_cells.kp T.b_new_cells .nil pass0 (pa_cons (pv 1) pa_nil)) rfl)
      (pss_one (ps_fld (pv 0) (pe_lst pa_nil) rfl)))), ?_⟩
    have nm : ∀ {b : Addr} {o : HO}, H b = some o → o ≠ .ins A.C_Memory dm [] → b ≠ m := fun {b o} e d z => d (Option.some.inj ((z ▸ e : H m = some o).symm.trans hm))
    obtain ⟨dl, el⟩ := L
    have nlm : lay ≠ m := nm el fun z => by
      injection z with _ _ z
      have q := fsL_p t p r
      rw [z] at q
      cases q
    refine ⟨_, rfl, _, rfl, m, _, dm, _, rfl, hm, T.c_Memory, T.n_Memory_layout, (by show 0 < 1000; decide), ?_⟩
    refine ⟨_, rfl, m, _, dm, _, rfl, upd_same, T.c_Memory, T.n_Memory_count, (by show 1 < 1000; decide), ?_⟩
    rw [upd_upd]
    refine ⟨_, rfl, lay, t, p, r, rfl, ⟨dl, by rw [upd_ne nlm]; exact el⟩, p2, p48, pr, rbig, fun l H2 xs s2 nl gl td => ?_⟩
    refine ⟨_, rfl, m, _, dm, _, rfl, s2 _ _ upd_same, T.c_Memory, T.n_Memory__cells, ?_, ?_⟩
    · exact Nat.lt_of_le_of_lt (few (few few0)) (by decide)
    have nlm2 : l ≠ m := fun z => by
      rw [z, upd_same] at nl
      cases nl
    refine ⟨Nat.zero_le _, fun ac na => ?_⟩
    have hac : H2 ac = none := by
      by_cases e : ac = m
      · rw [e, upd_same] at na
        cases na
      · rw [upd_ne e] at na
        exact na
    have nam : ac ≠ m := fun z => by
      rw [z, s2 _ _ upd_same] at hac
      cases hac
    have nal : ac ≠ l := fun z => by
      rw [z, gl] at hac
      cases hac
    refine ⟨_, rfl, m, _, dm, _, rfl, by rw [upd_ne nam.symm]; exact upd_same, T.c_Memory, T.n_Memory__accesses, ?_, ?_⟩
    · exact Nat.lt_of_le_of_lt (few (few (few few0))) (by decide)
    have old : ∀ b o, H b = some o → b ≠ m → b ≠ l ∧ b ≠ ac ∧ H2 b = some o := fun b o e n => by
      have e2 : upd H m (.ins A.C_Memory dm (putF "count" (V.int 0) (putF "layout" (V.ref lay) []))) b = some o := by rw [upd_ne n]; exact e
      have e3 := s2 _ _ e2
      exact ⟨ne_of_none e2 nl, ne_of_none e3 hac, e3⟩
    refine k _ l ac xs (fun b o e n => ?_) ?_ ?_ ⟨⟨dm, upd_same⟩, ⟨dl, ?_⟩, ?_, ?_, ?_, .nil, nal.symm, ?_⟩
    · obtain ⟨n1, n2, e3⟩ := old b o e n
      rw [upd_ne n, upd_ne n2, upd_ne n]
      exact e3
    · have q := nl
      rw [upd_ne nlm2] at q
      exact q
    · have q := s2.free hac
      rw [upd_ne nam] at q
      exact q
    · obtain ⟨n1, n2, e3⟩ := old lay _ el nlm
      rw [upd_ne nlm, upd_ne n2, upd_ne nlm]
      exact e3
    · rw [upd_ne nlm2, upd_ne nal.symm, upd_ne nlm2]
      exact gl
    · refine td.up (Tups.trans (Tups.wr (s2 _ _ upd_same) fun _ z => by cases z) (Tups.trans (Tups.new na) (Tups.wr (by rw [upd_ne nam.symm]; exact upd_same) fun _ z => by cases z)))
    · rw [upd_ne nam]
      exact upd_same
    · rw [td.len]
      exact cellsD_len p r (by omega) pr
theorem ok_check (T : Txt K mg A) (base : Heap) : FnOk P w K mg base (L2.CX P w) 4 A.a_Memory_check A.d_Memory_check ["self", "cell"] (spCheck A) := by
  refine T.F_Memory_check.okX sc_Memory_check (fun vs H Q E h => ?_) (fun cdv A' outer s H vs Q E hr h => ?_)
  · obtain ⟨m, lay, cs, ac, t, p, r, n, c, xs, ds, as, las, rfl, _⟩ := h
    rfl
  · obtain ⟨m, lay, cs, ac, t, p, r, n, c, xs, ds, as, las, rfl, M, kG, kB⟩ := h
    have hr2 : Room 2 _ := hr.mono (by decide)
    refine ⟨_, pss_one (ps_if (pt_not (pt_val (pe_call (ok_is_between T base) hr2 (by rfl) T.g_is_between T.F_is_between.kp T.b_is_between .nil pass0
        (pa_cons (pv 1) (pa_cons pe_int (pa_cons (pe_op op_sub (pe_meth0 (pe_fld (pv 0) rfl) T.c_Layout T.m_Layout_cells (ok_cells T base) hr2 T.b_Layout_cells .nil pass0) pe_int) pa_nil))))))
        (pss_one (ps_raise (W := fun cls d _ H => E cls d H) rfl (takes_of rfl rfl rfl rfl) (pmk_v T.o_NotValid T.i_NotValid T.ty_EspalierError_init (ok_EE T base) hr2 T.b_EspalierError_init pass0 (by rfl) T.g_NotValid))) pss_nil), ?_⟩
    obtain ⟨dm, em⟩ := M.ob
    obtain ⟨dl, el⟩ := M.ly
    refine ⟨_, rfl, _, rfl, m, _, dm, _, _, rfl, em, T.c_Memory, T.n_Memory_layout, fsM_lay _ _ _ _, lay, dl, _, rfl, el, fsL_no_cells t p r, lay, t, p, r, rfl, ⟨dl, el⟩, _, _, rfl, rfl, c, 0, 5 + p + r - 1, rfl, _, rfl, ?_⟩
    by_cases h1 : 0 ≤ c ∧ c < 5 + p + r
    · rw [decide_eq_true (show 0 ≤ c ∧ c ≤ 5 + p + r - 1 from by omega)]
      exact iteF (kG h1)
    · rw [decide_eq_false (show ¬ (0 ≤ c ∧ c ≤ 5 + p + r - 1) from by omega)]
      exact iteT (mkV_ask T.o_NotValid (kB h1))
theorem ok_peek (T : Txt K mg A) (base : Heap) : FnOk P w K mg base (L2.CX P w) 5 A.a_Memory_peek A.d_Memory_peek ["self", "cell"] (spPeek A) := by
  refine T.F_Memory_peek.okX sc_Memory_peek (fun vs H Q E h => ?_) (fun cdv A' outer s H vs Q E hr h => ?_)
  · obtain ⟨m, lay, cs, ac, t, p, r, n, c, xs, ds, as, las, v, rfl, _⟩ := h
    rfl
  · obtain ⟨m, lay, cs, ac, t, p, r, n, c, xs, ds, as, las, v, rfl, M, hv, k⟩ := h
    refine ⟨_, pss_cons (ps_expr (pe_meth (pv 0) T.c_Memory T.m_Memory_check (ok_check T base) hr T.b_Memory_check .nil (passUp (E := E) (takes_of rfl rfl rfl rfl)) (pa_cons (pv 1) pa_nil)))
      (pss_one (ps_ret (pe_ix ix_list (pe_fld (pv 0) rfl) (pv 1) (fun _ _ => rfl)))), ?_⟩
    obtain ⟨dm, em⟩ := M.ob
    have hc : c < xs.length := (List.getElem?_eq_some_iff.mp hv).1
    have hl := M.len
    refine ⟨_, rfl, m, dm, _, rfl, em, fsM_no _ _ _ _ (by decide +kernel) (by decide +kernel) (by decide +kernel) (by decide +kernel), _, rfl, m, lay, cs, ac, t, p, r, n, (c : Int), xs, ds, as, las, rfl, M, fun _ => ?_, fun z => absurd (show 0 ≤ (c : Int) ∧ (c : Int) < 5 + p + r from by omega) z⟩
    exact ⟨_, rfl, m, _, dm, _, _, rfl, em, T.c_Memory, T.n_Memory__cells, fsM_cells _ _ _ _, _, rfl, cs, xs, _, v, rfl, rfl, SqL.of M.ce, atI_nat hv, k⟩
theorem ok_log (T : Txt K mg A) (base : Heap) : FnOk P w K mg base CX0 1 A.a_Memory_log A.d_Memory_log ["self"] (spLog A) := by
  refine T.F_Memory_log.ok sc_Memory_log (fun vs H Q E h => ?_) (fun cdv A' outer s H vs Q E hr h => ?_)
  · obtain ⟨m, lay, cs, ac, t, p, r, n, xs, ds, as, las, rfl, _⟩ := h
    rfl
  · obtain ⟨m, lay, cs, ac, t, p, r, n, xs, ds, as, las, rfl, M, k⟩ := h
    refine ⟨_, pss_one (ps_ret (pe_callTy call_list_of (by rfl) T.z_list PyProof.Rows.boot_list (pa_cons (pe_fld (pv 0) rfl) pa_nil))), ?_⟩
    obtain ⟨dm, em⟩ := M.ob
    exact ⟨_, rfl, m, _, dm, _, _, rfl, em, T.c_Memory, T.n_Memory__accesses, fsM_acc _ _ _ _, ac, as, rfl, .inl (SqL.of M.la), k⟩
end
end K01
set_option maxRecDepth 100000
set_option maxHeartbeats 4000000
namespace K01
open PySem PySem.Spec PyProof.Rows L2 Esp
def spTape (K : PySem.W.Frag) : Sp := fun vs H Q _ => ∃ (a : Addr) (ns : List Int), vs = [.ref a] ∧ SqL K H a (ns.map V.int) ∧ ns.length ≤ 63 ∧
  ∀ (l : Addr) (zs : List Int) (H' : Hp), Same H H' → H l = none → H' l = some (.lst (zs.map V.int)) → zs.length ≤ 3780 → Q (.ref l) H'
def spAt : Sp := fun vs H Q _ => ∃ (l : Addr) (zs : List Int) (j : Nat), vs = [.ref l, .int (j : Int)] ∧ H l = some (.lst (zs.map V.int)) ∧ ∀ z : Int, Q (.int z) H
theorem snoc_int (zs : List Int) (z : Int) : zs.map V.int ++ [V.int z] = (zs ++ [z]).map V.int := by rw [List.map_append]; rfl
section
variable {P : Program} {w : World} {K : PySem.W.Frag} {mg : Str → Option Value} {A : Ad}
theorem ok_tape (T : Txt K mg A) (base : Heap) : FnOk P w K mg base CX0 1 A.a_law_tape A.d_law_tape ["script"] (spTape K) := by
  refine T.F_law_tape.ok sc_law_tape (fun vs H Q E h => ?_) (fun cdv A' outer s H vs Q E hr h => ?_)
  · obtain ⟨a, ns, rfl, _⟩ := h
    rfl
  · obtain ⟨a, ns, rfl, hS, hlen, k⟩ := h
    have nd := sc_law_tape.nd
    refine ⟨_, pss_cons (ps_set (i := 1) nd rfl (Or.inl rfl) (pe_lst pa_nil))
      (pss_cons (ps_for PassesOwn.never rfl (pi_range1 (by rfl) T.z_range (pa_cons (pe_callB call_len_seq (by rfl) T.z_len PySem.boot_len (pa_cons (pv 0) pa_nil)) pa_nil)) (pg_name (i := 2) nd rfl (Or.inl rfl))
        (pss_cons (ps_set (i := 3) nd rfl (Or.inl rfl) (pe_callB call_abs (by rfl) T.z_abs PyProof.Rows.boot_abs (pa_cons (pe_callTy call_int1 (by rfl) T.z_int PyProof.Rows.boot_int (pa_cons (pe_ix ix_list (pv 0) (pv 2) (fun _ _ => rfl)) pa_nil)) pa_nil)))
        (pss_one (ps_if (pt_cmpR op_ge (pv 3) (pe_op op_pow pe_int pe_int) (nomark _))
          (pss_one (ps_for PassesOwn.never rfl (pi_range1 (by rfl) T.z_range (pa_cons pe_int pa_nil)) (pg_name (i := 4) nd rfl (Or.inl rfl))
            (pss_one (ps_if (pt_cmpR op_gt (pv 3) pe_int (nomark _))
              (pss_cons (ps_expr (pe_bm PySem.F.plainAttrs_list PySem.F.slot_list_append PySem.F.type_list_append mt_append (pv 1) (pa_cons (pe_op op_mod (pv 3) pe_int) pa_nil)))
              (pss_one (ps_set (i := 3) nd rfl (Or.inl rfl) (pe_op op_fdiv (pv 3) pe_int)))) pss_nil))))
          (pss_one (ps_for PassesOwn.never rfl (pi_range1 (by rfl) T.z_range (pa_cons pe_int pa_nil)) (pg_name (i := 4) nd rfl (Or.inl rfl))
            (pss_cons (ps_set (i := 3) nd rfl (Or.inl rfl) (pe_op op_mod (pe_op op_add (pe_op op_add (pe_op op_mul (pv 3) pe_int) (pe_op op_mul pe_int (pe_op op_add (pv 2) pe_int))) (pe_op op_mul pe_int (pv 4))) pe_int))
            (pss_cons (ps_set (i := 3) nd rfl (Or.inl rfl) (pe_op op_mod (pe_op op_mul (pv 3) pe_int) pe_int))
            (pss_one (ps_expr (pe_bm PySem.F.plainAttrs_list PySem.F.slot_list_append PySem.F.type_list_append mt_append (pv 1) (pa_cons (pe_op op_mod (pe_op op_fdiv (pv 3) pe_int) pe_int) pa_nil))))))))))))
      (pss_one (ps_ret (pv 1)))), ?_⟩
    refine ⟨Nat.zero_le _, fun l nl => ?_⟩
    have s0 : Same H (upd H l (.lst [])) := Same.new nl
    have line : ∀ m : Nat, m ≤ 60 * 63 → m < sizeLine := fun m hm => by
      rw [sizeLine_eq]
      omega
    refine ⟨_, rfl, a, _, rfl, .inl (s0.seq hS), ns.length, by rw [List.length_map], by omega, by omega, ?_⟩
    refine for_range (lo := 0) (n := ((ns.length : Int)).toNat) (fun i σ H2 => ∃ (zs : List Int) (v2 v3 v4 : Option V), σ = [some (.ref a), some (.ref l), v2, v3, v4] ∧ Same H H2 ∧ H2 l = some (.lst (zs.map V.int)) ∧ zs.length ≤ 60 * i)
      ⟨[], none, none, none, rfl, s0, upd_same, Nat.zero_le _⟩ ?_ ?_
    · rintro i σ H2 hi ⟨zs, v2, v3, v4, rfl, sm, gl, hz⟩
      have hi' : i < ns.length := by omega
      obtain ⟨z, ez⟩ : ∃ z, ns[i]? = some z := ⟨_, List.getElem?_eq_getElem hi'⟩
      have ei : (ns.map V.int)[i]? = some (V.int z) := by rw [List.getElem?_map, ez]; rfl
      refine ⟨_, rfl, _, rfl, a, _, _, _, rfl, rfl, sm.seq hS, at_of (j := i) (by omega) ei, .inl ⟨z, rfl, _, rfl, ?_⟩⟩
      refine ⟨_, rfl, _, _, rfl, rfl, ⟨by decide, by decide, by decide⟩, _, _, rfl, rfl, _, rfl, ?_⟩
      refine ite2 (fun _ => ?_) fun _ => ?_
      · refine ⟨60, rfl, by decide, by decide, for_range (lo := 0) (n := (60 : Int).toNat) (fun j σ H3 => ∃ (ys : List Int) (v : Int) (v4 : Option V), σ = [some (.ref a), some (.ref l), some (.int (0 + (i : Int))), some (.int v), v4] ∧ Same H H3 ∧ H3 l = some (.lst (ys.map V.int)) ∧ ys.length ≤ 60 * i + j)
          ⟨zs, _, v4, rfl, sm, gl, hz⟩ ?_ ?_⟩
        · rintro j σ H3 hj ⟨ys, v, v4', rfl, sm3, gl3, hy⟩
          have hj' : j < 60 := hj
          refine ⟨_, rfl, _, _, rfl, rfl, _, rfl, ?_⟩
          refine ite2 (fun _ => ?_) fun _ => ?_
          · refine ⟨_, rfl, .inl ⟨rfl, _, SqL.of gl3⟩, _, rfl, _, _, rfl, rfl, (by show (0 : Int) < 1000; decide), l, _, _, rfl, rfl, gl3, ?_, ?_⟩
            · rw [List.length_map]
              exact line _ (by omega)
            · refine ⟨_, rfl, _, _, rfl, rfl, ⟨by decide, by decide⟩, ys ++ [v % 1000], v / 1000, _, rfl, ?_, ?_, ?_⟩
              · exact fun b o e => by rw [upd_ne (ne_of_none e nl)]; exact sm3 b o e
              · rw [upd_same, snoc_int]
              · rw [List.length_append]
                show ys.length + 1 ≤ _
                omega
          · exact ⟨ys, v, _, rfl, sm3, gl3, by omega⟩
        · rintro σ H3 ⟨ys, v, v4', rfl, sm3, gl3, hy⟩
          have hy' : ys.length ≤ 60 * i + 60 := hy
          exact ⟨ys, _, _, _, rfl, sm3, gl3, by omega⟩
      · refine ⟨4, rfl, by decide, by decide, for_range (lo := 0) (n := (4 : Int).toNat) (fun j σ H3 => ∃ (ys : List Int) (v : Int) (v4 : Option V), σ = [some (.ref a), some (.ref l), some (.int (0 + (i : Int))), some (.int v), v4] ∧ Same H H3 ∧ H3 l = some (.lst (ys.map V.int)) ∧ ys.length ≤ 60 * i + j)
          ⟨zs, _, v4, rfl, sm, gl, hz⟩ ?_ ?_⟩
        · rintro j σ H3 hj ⟨ys, v, v4', rfl, sm3, gl3, hy⟩
          have hj' : j < 4 := hj
          refine ⟨_, rfl, _, _, rfl, rfl, .inr ⟨by decide, by decide⟩, _, rfl, _, _, rfl, rfl, _, _, rfl, rfl, .inl ⟨by decide, by decide⟩, _, _, rfl, rfl, _, rfl, _, _, rfl, rfl, .inl ⟨by decide, by decide⟩, _, _, rfl, rfl, _, _, rfl, rfl, (by show (0 : Int) < 2147483647; decide), ?_⟩
          refine ⟨_, rfl, _, _, rfl, rfl, .inr ⟨by decide, by decide⟩, _, _, rfl, rfl, (by show (0 : Int) < 2147483647; decide), ?_⟩
          refine ⟨_, rfl, .inl ⟨rfl, _, SqL.of gl3⟩, _, rfl, _, _, rfl, rfl, ⟨by decide, by decide⟩, _, _, rfl, rfl, (by show (0 : Int) < 1000; decide), l, _, _, rfl, rfl, gl3, ?_, ?_⟩
          · rw [List.length_map]
            exact line _ (by omega)
          · refine ⟨ys ++ [(v * 48271 + 69621 * (0 + (i : Int) + 1) + 7 * (0 + (j : Int))) % 2147483647 * 16807 % 2147483647 / 1000 % 1000], _, _, rfl, ?_, ?_, ?_⟩
            · exact fun b o e => by rw [upd_ne (ne_of_none e nl)]; exact sm3 b o e
            · rw [upd_same, snoc_int]
            · rw [List.length_append]
              show ys.length + 1 ≤ _
              omega
        · rintro σ H3 ⟨ys, v, v4', rfl, sm3, gl3, hy⟩
          have hy' : ys.length ≤ 60 * i + 4 := hy
          exact ⟨ys, _, _, _, rfl, sm3, gl3, by omega⟩
    · rintro σ H2 ⟨zs, v2, v3, v4, rfl, sm, gl, hz⟩
      exact ⟨_, rfl, k l zs H2 sm nl gl (by omega)⟩
theorem ok_at (T : Txt K mg A) (base : Heap) : FnOk P w K mg base CX0 1 A.a_law_at A.d_law_at ["tape", "k"] spAt := by
  refine T.F_law_at.ok sc_law_at (fun vs H Q E h => ?_) (fun cdv A' outer s H vs Q E hr h => ?_)
  · obtain ⟨l, zs, j, rfl, _⟩ := h
    rfl
  · obtain ⟨l, zs, j, rfl, gl, k⟩ := h
    refine ⟨_, pss_cons (ps_if (pt_cmpR op_lt (pv 1) (pe_callB call_len_seq (by rfl) T.z_len PySem.boot_len (pa_cons (pv 0) pa_nil)) (nomark _)) (pss_one (ps_ret (pe_ix ix_list (pv 0) (pv 1) (fun _ _ => rfl)))) pss_nil) (pss_one (ps_ret pe_int)), ?_⟩
    refine ⟨_, rfl, _, rfl, l, _, rfl, .inl (SqL.of gl), _, _, rfl, rfl, _, rfl, ?_⟩
    by_cases h1 : (j : Int) < ((zs.map V.int).length : Int)
    · rw [decide_eq_true h1]
      have hj : j < zs.length := by
        rw [List.length_map] at h1
        omega
      have ei : (zs.map V.int)[j]? = some (V.int zs[j]) := by rw [List.getElem?_map, List.getElem?_eq_getElem hj]; rfl
      exact iteT ⟨_, rfl, _, rfl, l, _, _, _, rfl, rfl, SqL.of gl, atI_nat ei, k _⟩
    · rw [decide_eq_false h1]
      exact iteF (k 0)
end
end K01
set_option maxRecDepth 100000
set_option maxHeartbeats 4000000
namespace K01
open PySem PySem.Spec PyProof.Rows L2 Esp
/-- the data of a cell of a new memory -/
def cellD (p c : Int) : PyData := if c = 0 then .int 0 else if c < 5 then .none else if c < 5 + p then .int (c + p) else if c - 5 - p < p then recD (c - 5 - p) else .none
theorem rep_get {α : Type} (v : α) {n i : Nat} (h : i < n) : (List.replicate n v)[i]? = some v := by simp [h]
theorem map_get {α : Type} (f : Nat → α) {n i : Nat} (h : i < n) : ((List.range n).map f)[i]? = some (f i) := by simp [h]
theorem cells_get {p r : Int} {c : Nat} (h2 : 2 ≤ p) (hr : p ≤ r) (hc : (c : Int) < 5 + p + r) : (cellsD p r)[c]? = some (cellD p (c : Int)) := by
  unfold cellsD cellD
  by_cases c0 : c = 0
  · subst c0
    rfl
  · rw [if_neg (by omega)]
    by_cases c5 : c < 5
    · rw [if_pos (by omega)]
      rw [List.append_assoc, List.append_assoc, List.append_assoc, List.getElem?_append_right (by simp; omega), List.getElem?_append_left (by simp; omega)]
      exact rep_get _ (by simp; omega)
    · rw [if_neg (by omega)]
      by_cases cp : (c : Int) < 5 + p
      · rw [if_pos cp]
        rw [List.append_assoc, List.append_assoc, List.getElem?_append_right (by simp; omega), List.getElem?_append_left (by simp; omega)]
        rw [map_get _ (by simp; omega)]
        congr 2
        simp
        omega
      · rw [if_neg cp]
        by_cases cq : (c : Int) - 5 - p < p
        · rw [if_pos cq]
          rw [List.append_assoc, List.getElem?_append_right (by simp; omega), List.getElem?_append_left (by simp; omega)]
          rw [map_get _ (by simp; omega)]
          congr 2
          simp
          omega
        · rw [if_neg cq, List.getElem?_append_right (by simp; omega)]
          exact rep_get _ (by simp; omega)
theorem shp_rec (n : Int) : Shp (recD n) := by
  unfold recD
  split
  · decide +kernel
  · show SeqAt.shaped _ = true
    unfold SeqAt.shaped
    have e : (PyData.str "free").canLay0 = true := by decide +kernel
    simp [PyData.canLay0, PyData.canLayAll0, PyData.depth, PyData.depthAll, e]
    decide +kernel
theorem shp_cell (p c : Int) : Shp (cellD p c) ∧ isBlD (cellD p c) = false := by
  unfold cellD
  split
  · exact ⟨by decide +kernel, rfl⟩
  · split
    · exact ⟨by decide +kernel, rfl⟩
    · split
      · exact ⟨by show SeqAt.shaped _ = true; unfold SeqAt.shaped; simp [PyData.canLay0, PyData.depth], rfl⟩
      · split
        · refine ⟨shp_rec _, ?_⟩
          unfold recD
          split <;> rfl
        · exact ⟨by decide +kernel, rfl⟩
def spTold (A : Ad) : Sp := fun vs H Q _ => ∃ t p r : Int, vs = [.int t, .int p, .int r] ∧
  (Bad t p r → ∀ l H', Same H H' → H' l = some (.lst [V.bl true]) → Q (.ref l) H') ∧ (¬ Bad t p r → ∀ x H', Same H H' → LayAt A H' x t p r → Q (.ref x) H')
def spDue (A : Ad) : Sp := fun vs H Q _ => ∃ (x : Addr) (t p r : Int) (c : Nat), vs = [.ref x, .int (c : Int)] ∧ LayAt A H x t p r ∧ 2 ≤ p ∧ ∀ v H', Same H H' → Td H' v (cellD p (c : Int)) → Q v H'
def spSame : Sp := fun vs H Q _ => ∃ (v w : V) (d : PyData), vs = [v, w] ∧ Td H v d ∧ Td H w d ∧ Shp d ∧ isBlD d = false ∧ Q (.bl true) H
section
variable {P : Program} {w : World} {K : PySem.W.Frag} {mg : Str → Option Value} {A : Ad}
theorem ok_told (T : Txt K mg A) (base : Heap) : FnOk P w K mg base CX0 6 A.a_law_told A.d_law_told ["threads", "pages", "records"] (spTold A) := by
  refine T.F_law_told.ok sc_law_told (fun vs H Q E h => ?_) (fun cdv A' outer s H vs Q E hr h => ?_)
  · obtain ⟨t, p, r, rfl, _⟩ := h
    rfl
  · obtain ⟨t, p, r, rfl, kB, kG⟩ := h
    refine ⟨_, pss_one (ps_try_as (i := 3) (tb := fun W => tRet (tMake A.C_Layout (spLayInit A) [] (EAll 4 W) (tCons (tVar 0) (tCons (tVar 1) (tCons (tVar 2) tNil)))))
        (ts := fun a cls d => tRet (tLst (tCons (tCB (rIsX K A.C_NotValid a cls d) (tCons (tVar 3) (tCons (tC (.ref A.C_NotValid)) tNil))) tNil))) (Wout := fun _ _ _ _ => False)
        rfl rfl sc_law_told.nd rfl rfl ⟨rfl, by decide, Or.inl T.g_EspalierError⟩ takes0
        (fun W pn xe tk _ => pss_one (ps_ret (by exact (pe_make T.M_Layout (ok_lay_init T base) hr (by rfl) T.g_Layout T.b_Layout_init .nil (passAll (n := 4) rfl tk) (by exact (pa_cons (pv 0) (pa_cons (pv 1) (pa_cons (pv 2) pa_nil))))))))
        (fun a oe cls d pn hz hf => pss_one (ps_ret (by exact pe_lst (pa_cons (pe_callB (call_isX T.x_NotValid hz hf) (by rfl) T.z_isinstance boot_isinstance (pa_cons (pv 3) (pa_cons (pe_glob (v := .ref A.C_NotValid) (by rfl) T.g_NotValid rfl) pa_nil))) pa_nil))))), ?_⟩
    refine ⟨_, rfl, _, rfl, _, rfl, fun x dx nx ndx nex => ?_⟩
    have s0 : Same H (upd (upd H dx (.own x)) x (.ins A.C_Layout dx [])) := (Same.new ndx).trans (Same.new (by rw [upd_ne nex.symm]; exact nx))
    refine ⟨x, dx, t, p, r, rfl, upd_same, fun bad σ hσ => ?_, fun good => ⟨rfl, ?_⟩⟩
    · refine ⟨true, T.e_NotValid_EspalierError, fun _ a0 na => ?_, fun z => Bool.noConfusion z⟩
      refine ⟨.ref a0, List.getElem?_set_self (by rw [hσ]; decide), rfl, rfl, .ref A.C_NotValid, _, true, rfl, fun _ e => e, T.q_NotValid, ?_⟩
      refine ⟨by show 1 ≤ sizeLine; decide, fun l nl => kB bad l _ (s0.trans (Same.new nl)) upd_same⟩
    · refine kG good x _ (fun b o e => ?_) ⟨dx, upd_same⟩
      rw [upd_ne (ne_of_none e nx)]
      exact s0 b o e
theorem ok_due (T : Txt K mg A) (base : Heap) : FnOk P w K mg base CX0 1 A.a_law_due A.d_law_due ["layout", "cell"] (spDue A) := by
  refine T.F_law_due.ok sc_law_due (fun vs H Q E h => ?_) (fun cdv A' outer s H vs Q E hr h => ?_)
  · obtain ⟨x, t, p, r, c, rfl, _⟩ := h
    rfl
  · obtain ⟨x, t, p, r, c, rfl, ⟨dx, L⟩, p2, k⟩ := h
    have nd := sc_law_due.nd
    refine ⟨_, pss_cons (ps_set (i := 2) nd rfl (Or.inl rfl) (pe_op op_sub (pe_op op_sub (pv 1) pe_int) (pe_fld (pv 0) rfl)))
      (pss_cons (ps_if (pt_cmpR op_eq (pv 1) pe_int (nomark _)) (pss_one (ps_ret pe_int)) pss_nil)
      (pss_cons (ps_if (pt_cmpR op_lt (pv 1) pe_int (nomark _)) (pss_one (ps_ret pe_non)) pss_nil)
      (pss_cons (ps_if (pt_cmpR op_lt (pv 1) (pe_op op_add pe_int (pe_fld (pv 0) rfl)) (nomark _)) (pss_one (ps_ret (pe_op op_add (pv 1) (pe_fld (pv 0) rfl)))) pss_nil)
      (pss_cons (ps_if (pt_cmpR op_eq (pv 2) pe_int (nomark _)) (pss_one (ps_ret (pe_tup (pa_cons pe_str (pa_cons pe_non (pa_cons pe_non (pa_cons (pe_tup pa_nil) (pa_cons (pe_tup pa_nil) pa_nil)))))))) pss_nil)
      (pss_cons (ps_if (pt_cmpR op_lt (pv 2) (pe_fld (pv 0) rfl) (nomark _)) (pss_one (ps_ret (pe_tup (pa_cons pe_str (pa_cons (pv 2) pa_nil))))) pss_nil)
      (pss_one (ps_ret pe_non))))))), ?_⟩
    refine ⟨_, rfl, _, _, rfl, rfl, _, rfl, x, _, dx, _, _, rfl, L, T.c_Layout, T.n_Layout_pages, fsL_p t p r, _, _, rfl, rfl, ?_⟩
    refine ⟨_, rfl, rfl, _, rfl, ?_⟩
    by_cases h0 : (c : Int) = 0
    · rw [decide_eq_true (congrArg V.int h0)]
      refine iteT (k _ H (Same.refl H) ?_)
      rw [show cellD p c = .int 0 from if_pos h0]
      exact .int 0
    · rw [decide_eq_false (fun z => h0 (V.int.inj z))]
      refine iteF ⟨_, rfl, _, _, rfl, rfl, _, rfl, ?_⟩
      by_cases h5 : (c : Int) < 5
      · rw [decide_eq_true h5]
        refine iteT (k _ H (Same.refl H) ?_)
        rw [show cellD p c = .none from (if_neg h0).trans (if_pos h5)]
        exact .non
      · rw [decide_eq_false h5]
        refine iteF ⟨_, rfl, _, rfl, x, _, dx, _, _, rfl, L, T.c_Layout, T.n_Layout_pages, fsL_p t p r, _, _, rfl, rfl, _, _, rfl, rfl, _, rfl, ?_⟩
        by_cases hp : (c : Int) < 5 + p
        · rw [decide_eq_true hp]
          refine iteT ⟨_, rfl, _, rfl, x, _, dx, _, _, rfl, L, T.c_Layout, T.n_Layout_pages, fsL_p t p r, _, _, rfl, rfl, k _ H (Same.refl H) ?_⟩
          rw [show cellD p c = .int (c + p) from (if_neg h0).trans ((if_neg h5).trans (if_pos hp))]
          exact .int _
        · rw [decide_eq_false hp]
          refine iteF ⟨_, rfl, rfl, _, rfl, ?_⟩
          by_cases hi : (c : Int) - 5 - p = 0
          · rw [decide_eq_true (congrArg V.int hi)]
            refine iteT ⟨Nat.zero_le _, fun q1 n1 => ⟨Nat.zero_le _, fun q2 n2 => ⟨by show 5 ≤ sizeLine; decide, fun a na => ?_⟩⟩⟩
            have s1 : Same H (upd H q1 (.tup [])) := Same.new n1
            have s2 : Same (upd H q1 (.tup [])) (upd (upd H q1 (.tup [])) q2 (.tup [])) := Same.new n2
            have s3 := Same.new (o := .tup [V.str "leaf", .non, .non, .ref q1, .ref q2]) na
            refine k (.ref a) _ (s1.trans (s2.trans s3)) ?_
            rw [show cellD p c = .tuple [.str "leaf", .none, .none, .tuple [], .tuple []] from (if_neg h0).trans ((if_neg h5).trans ((if_neg hp).trans ((if_pos (by omega)).trans (if_pos hi))))]
            exact .tup upd_same (.cons (.str _) (.cons .non (.cons .non (.cons (.tup (s3 _ _ (s2 _ _ upd_same)) .nil) (.cons (.tup (s3 _ _ upd_same) .nil) .nil)))))
          · rw [decide_eq_false (fun z => hi (V.int.inj z))]
            refine iteF ⟨_, rfl, _, rfl, x, _, dx, _, _, rfl, L, T.c_Layout, T.n_Layout_pages, fsL_p t p r, _, _, rfl, rfl, _, rfl, ?_⟩
            by_cases hq : (c : Int) - 5 - p < p
            · rw [decide_eq_true hq]
              refine iteT ⟨_, rfl, by show 2 ≤ sizeLine; decide, fun a na => k (.ref a) _ (Same.new na) ?_⟩
              rw [show cellD p c = .tuple [.str "free", .int (c - 5 - p)] from (if_neg h0).trans ((if_neg h5).trans ((if_neg hp).trans ((if_pos hq).trans (if_neg hi))))]
              exact .tup upd_same (.cons (.str _) (.cons (.int _) .nil))
            · rw [decide_eq_false hq]
              refine iteF (k _ H (Same.refl H) ?_)
              rw [show cellD p c = .none from (if_neg h0).trans ((if_neg h5).trans ((if_neg hp).trans (if_neg hq)))]
              exact .non
theorem td_non {H : Hp} {v : V} (h : Td H v .none) : v = .non := by
  cases h
  rfl
theorem td_some {H : Hp} {v : V} {d : PyData} (h : Td H v d) (n : d ≠ .none) : v ≠ .non := fun e => by
  subst e
  cases h
  exact n rfl
theorem ok_same (T : Txt K mg A) (base : Heap) : FnOk P w K mg base CX0 1 A.a_law_same A.d_law_same ["told", "due"] spSame := by
  refine T.F_law_same.ok sc_law_same (fun vs H Q E h => ?_) (fun cdv A' outer s H vs Q E hr h => ?_)
  · obtain ⟨v, u, d, rfl, _⟩ := h
    rfl
  · obtain ⟨v, u, d, rfl, tv, tu, sh, nb, k⟩ := h
    refine ⟨_, pss_cons (ps_if (pt_cmpR op_isN (pv 1) pe_non (nomark _)) (pss_one (ps_ret (pe_cmpR op_isN (pv 0) pe_non (nomark _)))) pss_nil)
      (pss_one (ps_ret (pe_and (pe_cmpR op_eq (pe_callB call_isi (by rfl) T.z_isinstance boot_isinstance (pa_cons (pv 0) (pa_cons (pe_bltn (v := .ty "tuple") (by rfl) T.z_tuple PyProof.Rows.boot_tuple rfl) pa_nil)))
          (pe_callB call_isi (by rfl) T.z_isinstance boot_isinstance (pa_cons (pv 1) (pa_cons (pe_bltn (v := .ty "tuple") (by rfl) T.z_tuple PyProof.Rows.boot_tuple rfl) pa_nil))) (nomark _))
        (pe_and (pe_not (pe_callB call_isi (by rfl) T.z_isinstance boot_isinstance (pa_cons (pv 0) (pa_cons (pe_bltn (v := .ty "bool") (by rfl) T.z_bool PyProof.Rows.boot_bool rfl) pa_nil))))
        (pe_one (pe_cmpR (op_eqD hr.units) (pv 0) (pv 1) (nomark _))))))), ?_⟩
    refine ⟨_, rfl, rfl, _, rfl, ?_⟩
    by_cases hn : d = .none
    · subst hn
      rw [td_non tu]
      rw [decide_eq_true rfl]
      refine iteT ⟨_, rfl, rfl, ?_⟩
      rw [td_non tv]
      exact k
    · rw [decide_eq_false (td_some tu hn)]
      obtain ⟨t1, y1, a1, b1, _⟩ := tv.typ (K := K)
      obtain ⟨t2, y2, a2, b2, _⟩ := tu.typ (K := K)
      refine iteF ⟨_, rfl, _, _, _, _, isTupD d, rfl, .ty "tuple", y1, kitI t1 _ a1, _, rfl, _, _, _, _, isTupD d, rfl, .ty "tuple", y2, kitI t2 _ a2, rfl, _, rfl, ?_⟩
      rw [decide_eq_true rfl]
      refine iteT ⟨_, rfl, _, _, _, _, isBlD d, rfl, .ty "bool", y1, kitI t1 _ b1, _, rfl, _, rfl, ?_⟩
      rw [nb]
      refine iteT ⟨_, rfl, _, rfl, d, d, tv.toDp, tu.toDp, sh, sh, ?_⟩
      rw [sh.refl]
      exact k
end
end K01
set_option maxRecDepth 100000
set_option maxHeartbeats 8000000
namespace K01
open PySem PySem.Spec PyProof.Rows L2 Esp
def spLaw (K : PySem.W.Frag) : Sp := fun vs H Q _ => ∃ (a : Addr) (ns : List Int), vs = [.ref a] ∧ SqL K H a (ns.map V.int) ∧ ns.length ≤ 63 ∧ ∀ H', Q (.bl true) H'
theorem shp3 (a b c : Int) : Shp (.tuple [.int a, .int b, .int c]) := by
  show SeqAt.shaped _ = true
  unfold SeqAt.shaped
  simp [PyData.canLay0, PyData.canLayAll0, PyData.depth, PyData.depthAll]
section
variable {P : Program} {w : World} {K : PySem.W.Frag} {mg : Str → Option Value} {A : Ad}
theorem ok_law (T : Txt K mg A) (base : Heap) : FnOk P w K mg base CX0 8 A.a_law A.d_law ["script"] (spLaw K) := by
  refine T.F_law.ok sc_law (fun vs H Q E h => ?_) (fun cdv A' outer s H vs Q E hr h => ?_)
  · obtain ⟨a, ns, rfl, _⟩ := h
    rfl
  · obtain ⟨a, ns, rfl, hS, hlen, k⟩ := h
    have nd := sc_law.nd
    have hr1 : Room 1 _ := hr.mono (by decide)
    have hr2 : Room 2 _ := hr.mono (by decide)
    have hr3 : Room 3 _ := hr.mono (by decide)
    have hr5 : Room 5 _ := hr.mono (by decide)
    have hr6 : Room 6 _ := hr.mono (by decide)
    refine ⟨_, pss_cons (ps_set (i := 1) nd rfl (Or.inl rfl) (pe_call (ok_tape T base) hr1 (by rfl) T.g_law_tape T.F_law_tape.kp T.b_law_tape .nil pass0 (pa_cons (pv 0) pa_nil)))
      <| pss_cons (ps_set (i := 2) nd rfl (Or.inl rfl) (pe_op op_mod (pe_call (ok_at T base) hr1 (by rfl) T.g_law_at T.F_law_at.kp T.b_law_at .nil pass0 (pa_cons (pv 1) (pa_cons pe_int pa_nil))) pe_int))
      <| pss_cons (ps_set (i := 3) nd rfl (Or.inl rfl) (pe_op op_mod (pe_call (ok_at T base) hr1 (by rfl) T.g_law_at T.F_law_at.kp T.b_law_at .nil pass0 (pa_cons (pv 1) (pa_cons pe_int pa_nil))) pe_int))
      <| pss_cons (ps_set (i := 4) nd rfl (Or.inl rfl) (pe_op op_mod (pe_call (ok_at T base) hr1 (by rfl) T.g_law_at T.F_law_at.kp T.b_law_at .nil pass0 (pa_cons (pv 1) (pa_cons pe_int pa_nil))) pe_int))
      <| C8.pss_cut (ps_if (pt_cmpR op_eq (pe_op op_mod (pe_call (ok_at T base) hr1 (by rfl) T.g_law_at T.F_law_at.kp T.b_law_at .nil pass0 (pa_cons (pv 1) (pa_cons pe_int pa_nil))) pe_int) pe_int (nomark _))
        (pss_one (ps_set (i := 4) nd rfl (Or.inl rfl) (pe_op op_add (pv 3) (pe_op op_mod (pe_call (ok_at T base) hr1 (by rfl) T.g_law_at T.F_law_at.kp T.b_law_at .nil pass0 (pa_cons (pv 1) (pa_cons pe_int pa_nil))) pe_int)))) pss_nil)
      <| pss_cons (ps_set (i := 5) nd rfl (Or.inl rfl) (pe_call (ok_told T base) hr6 (by rfl) T.g_law_told T.F_law_told.kp T.b_law_told .nil pass0 (pa_cons (pv 2) (pa_cons (pv 3) (pa_cons (pv 4) pa_nil)))))
      <| pss_cons (ps_if (PW.pt (pw_or (pt_cmpR op_lt (pv 2) pe_int (nomark _)) (pw_or (pt_cmpR op_gt (pv 2) pe_int (nomark _)) (pw_or (pt_cmpR op_lt (pv 3) pe_int (nomark _)) (pw_or (pt_cmpR op_gt (pv 3) pe_int (nomark _)) (pw_or1 (pt_cmpR op_lt (pv 4) (pv 3) (nomark _))))))))
        (pss_one (ps_ret (pe_cmpR (op_eqD hr.units) (pv 5) (pe_lst (pa_cons pe_bl pa_nil)) (nomark _)))) pss_nil)
      <| pss_cons (ps_if (PW.pt (pw_or (pt_val (pe_callB call_isi (by rfl) T.z_isinstance boot_isinstance (pa_cons (pv 5) (pa_cons (pe_bltn (v := .ty "list") (by rfl) T.z_list PyProof.Rows.boot_list rfl) pa_nil))))
          (pw_or1 (pt_cmpR (op_neD hr.units) (pe_tup (pa_cons (pe_fld (pv 5) rfl) (pa_cons (pe_fld (pv 5) rfl) (pa_cons (pe_fld (pv 5) rfl) pa_nil)))) (pe_tup (pa_cons (pv 2) (pa_cons (pv 3) (pa_cons (pv 4) pa_nil)))) (nomark _)))))
        (pss_one (ps_ret pe_bl)) pss_nil)
      <| pss_cons (ps_set (i := 6) nd rfl (Or.inl rfl) (pe_op op_add (pe_op op_add pe_int (pv 3)) (pv 4)))
      <| pss_cons (ps_if (pt_cmpR op_ne (pe_meth0 (pv 5) T.c_Layout T.m_Layout_cells (ok_cells T base) hr2 T.b_Layout_cells .nil pass0) (pv 6) (nomark _)) (pss_one (ps_ret pe_bl)) pss_nil)
      <| pss_cons (ps_for PassesOwn.never rfl (pi_range1 (by rfl) T.z_range (pa_cons (pv 2) pa_nil)) (pg_name (i := 7) nd rfl (Or.inl rfl))
        (pss_one (ps_if (pt_cmpR op_ne (pe_meth (pv 5) T.c_Layout T.m_Layout_slot (ok_slot T base) hr1 T.b_Layout_slot .nil pass0 (pa_cons (pv 7) pa_nil)) (pe_op op_add pe_int (pv 7)) (nomark _)) (pss_one (ps_ret pe_bl)) pss_nil)))
      <| pss_cons (ps_for PassesOwn.never rfl (pi_range1 (by rfl) T.z_range (pa_cons (pv 3) pa_nil)) (pg_name (i := 8) nd rfl (Or.inl rfl))
        (pss_one (ps_if (pt_cmpR op_ne (pe_meth (pv 5) T.c_Layout T.m_Layout_word (ok_word T base) hr1 T.b_Layout_word .nil pass0 (pa_cons (pv 8) pa_nil)) (pe_op op_add pe_int (pv 8)) (nomark _)) (pss_one (ps_ret pe_bl)) pss_nil)))
      <| pss_cons (ps_for PassesOwn.never rfl (pi_range1 (by rfl) T.z_range (pa_cons (pv 4) pa_nil)) (pg_name (i := 9) nd rfl (Or.inl rfl))
        (pss_one (ps_if (pt_cmpR op_ne (pe_meth (pv 5) T.c_Layout T.m_Layout_record (ok_record T base) hr1 T.b_Layout_record .nil pass0 (pa_cons (pv 9) pa_nil)) (pe_op op_add (pe_op op_add pe_int (pv 3)) (pv 9)) (nomark _)) (pss_one (ps_ret pe_bl)) pss_nil)))
      <| pss_cons (ps_set (i := 10) nd rfl (Or.inl rfl) (pe_make T.M_Memory (ok_mem_init T base) hr5 (by rfl) T.g_Memory T.b_Memory_init .nil pass0 (pa_cons (pv 5) pa_nil)))
      <| pss_cons (ps_for PassesOwn.never rfl (pi_range1 (by rfl) T.z_range (pa_cons (pv 6) pa_nil)) (pg_name (i := 11) nd rfl (Or.inl rfl))
        (pss_cons (ps_set (i := 12) nd rfl (Or.inl rfl) (pe_meth (pv 5) T.c_Layout T.m_Layout_is_record (ok_isrec T base) hr3 T.b_Layout_is_record .nil pass0 (pa_cons (pv 11) pa_nil)))
        (pss_cons (ps_if (PW.pt (pw_or (pt_not (pt_val (pe_callB call_isi (by rfl) T.z_isinstance boot_isinstance (pa_cons (pv 12) (pa_cons (pe_bltn (v := .ty "bool") (by rfl) T.z_bool PyProof.Rows.boot_bool rfl) pa_nil)))))
            (pw_or1 (pt_cmpR op_ne (pv 12) (pe_cmpR op_ge (pv 11) (pe_op op_add pe_int (pv 3)) (nomark _)) (nomark _)))))
          (pss_one (ps_ret pe_bl)) pss_nil)
        (pss_one (ps_if (pt_not (pt_val (pe_call (ok_same T base) hr1 (by rfl) T.g_law_same T.F_law_same.kp T.b_law_same .nil pass0
            (pa_cons (pe_meth (pv 10) T.c_Memory T.m_Memory_peek (ok_peek T base) hr5 T.b_Memory_peek .nil passL (pa_cons (pv 11) pa_nil))
            (pa_cons (pe_call (ok_due T base) hr1 (by rfl) T.g_law_due T.F_law_due.kp T.b_law_due .nil pass0 (pa_cons (pv 5) (pa_cons (pv 11) pa_nil))) pa_nil)))))
          (pss_one (ps_ret pe_bl)) pss_nil)))))
      <| pss_one (ps_ret (pe_and (pe_cmpR op_is_bl (pe_meth (pv 5) T.c_Layout T.m_Layout_is_record (ok_isrec T base) hr3 T.b_Layout_is_record .nil pass0 (pa_cons (pv 6) pa_nil)) pe_bl (nomark _))
        (pe_and (pe_cmpR op_eq (pe_fld (pv 10) rfl) pe_int (nomark _)) (pe_one (pe_cmpR (op_eqD hr.units) (pe_meth0 (pv 10) T.c_Memory T.m_Memory_log (ok_log T base) hr1 T.b_Memory_log .nil pass0) (pe_lst pa_nil) (nomark _)))))), ?_⟩
    -- tape, threads, pages, records
    refine ⟨_, rfl, a, ns, rfl, hS, hlen, fun l zs H1 s1 nl gl hz => ?_⟩
    refine ⟨_, rfl, l, zs, 0, rfl, gl, fun z0 => ⟨_, _, rfl, rfl, (by show (0 : Int) < 6; decide), ?_⟩⟩
    refine ⟨_, rfl, l, zs, 1, rfl, gl, fun z1 => ⟨_, _, rfl, rfl, (by show (0 : Int) < 51; decide), ?_⟩⟩
    refine ⟨_, rfl, l, zs, 2, rfl, gl, fun z2 => ⟨_, _, rfl, rfl, (by show (0 : Int) < 71; decide), ?_⟩⟩
    obtain ⟨t, et⟩ : ∃ t, t = z0 % 6 := ⟨_, rfl⟩
    obtain ⟨p, ep⟩ : ∃ p, p = z1 % 51 := ⟨_, rfl⟩
    have t0 : 0 ≤ t ∧ t < 6 := by omega
    have p0 : 0 ≤ p ∧ p < 51 := by omega
    refine ⟨fun σ H2 => H2 = H1 ∧ ∃ r : Int, 0 ≤ r ∧ r ≤ 400 ∧ σ = [some (.ref a), some (.ref l), some (.int t), some (.int p), some (.int r), none, none, none, none, none, none, none, none], ?_, ?_⟩
    · refine ⟨_, rfl, l, zs, 3, rfl, gl, fun z3 => ⟨_, _, rfl, rfl, (by show (0 : Int) < 3; decide), rfl, _, rfl, ite2 (fun _ => ?_) fun _ => ?_⟩⟩
      · refine ⟨_, rfl, _, rfl, l, zs, 2, rfl, gl, fun z4 => ⟨_, _, rfl, rfl, (by show (0 : Int) < 300; decide), _, _, rfl, rfl, rfl, p + z4 % 300, by omega, by omega, ?_⟩⟩
        rw [et, ep]
        rfl
      · refine ⟨rfl, z2 % 71, by omega, by omega, ?_⟩
        rw [et, ep]
        rfl
    rintro σ H2 ⟨e2, r, r0, r400, rfl⟩
    subst e2
    refine ⟨_, rfl, _, rfl, _, rfl, t, p, r, rfl, fun bad l2 H2 s2 gl2 => ?_, fun good x H2 s2 L => ?_⟩
    · -- it was refused
      have fin : ∀ {D : Ends}, D.rt = Q → tRet (tOp (rEqD K) (tVar 5) (tLst (tCons (tC (.bl true)) tNil))) D [some (.ref a), some (.ref l), some (.int t), some (.int p), some (.int r), some (.ref l2), none, none, none, none, none, none, none] H2 := by
        intro D hD
        refine ⟨_, rfl, by show 1 ≤ sizeLine; decide, fun l3 n3 => ?_⟩
        refine ⟨.list [.bool true], .list [.bool true], .lst (SqL.of (Same.new n3 _ _ gl2)) (.cons (.bl true) .nil), .lst (SqL.of upd_same) (.cons (.bl true) .nil), by decide +kernel, by decide +kernel, ?_⟩
        rw [show PyData.eqv (.list [.bool true]) (.list [.bool true]) = true from by decide +kernel, hD]
        exact k _
      refine ⟨_, rfl, _, _, rfl, rfl, _, rfl, ite2 (fun _ => fin rfl) fun h1 => ?_⟩
      refine ⟨_, rfl, _, _, rfl, rfl, _, rfl, ite2 (fun _ => fin rfl) fun h2 => ?_⟩
      refine ⟨_, rfl, _, _, rfl, rfl, _, rfl, ite2 (fun _ => fin rfl) fun h3 => ?_⟩
      refine ⟨_, rfl, _, _, rfl, rfl, _, rfl, ite2 (fun _ => fin rfl) fun h4 => ?_⟩
      refine ⟨_, rfl, _, rfl, _, _, rfl, rfl, _, rfl, ite2 (fun _ => fin rfl) fun h5 => ?_⟩
      exfalso
      simp only [decide_eq_true_eq] at h1 h2 h3 h4 h5
      rcases bad with b | b | b <;> omega
    · -- it was made
      have g1 : 1 ≤ t ∧ t ≤ 4 := Classical.byContradiction fun z => good (.inl z)
      have g2 : 2 ≤ p ∧ p ≤ 48 := Classical.byContradiction fun z => good (.inr (.inl z))
      have g3 : p ≤ r := Classical.byContradiction fun z => good (.inr (.inr (by omega)))
      refine ⟨_, rfl, _, _, rfl, rfl, _, rfl, ite2 (fun z => absurd (of_decide_eq_true z) (by omega)) fun _ => ?_⟩
      refine ⟨_, rfl, _, _, rfl, rfl, _, rfl, ite2 (fun z => absurd (of_decide_eq_true z) (by omega)) fun _ => ?_⟩
      refine ⟨_, rfl, _, _, rfl, rfl, _, rfl, ite2 (fun z => absurd (of_decide_eq_true z) (by omega)) fun _ => ?_⟩
      refine ⟨_, rfl, _, _, rfl, rfl, _, rfl, ite2 (fun z => absurd (of_decide_eq_true z) (by omega)) fun _ => ?_⟩
      refine ⟨_, rfl, _, rfl, _, _, rfl, rfl, _, rfl, ite2 (fun z => absurd (of_decide_eq_true z) (by omega)) fun _ => ?_⟩
      obtain ⟨dx, ex⟩ := id L
      -- isinstance(layout, list) or ..
      refine ⟨_, rfl, _, _, _, _, false, rfl, .ty "list", .base (.ins ex T.c_Layout T.k_Layout.ha T.k_Layout.hn T.k_Layout.ht T.k_Layout.hm), T.kl_Layout, _, rfl, iteF ?_⟩
      refine ⟨_, rfl, x, _, dx, _, _, rfl, ex, T.c_Layout, T.n_Layout_threads, fsL_t t p r, _, rfl, x, _, dx, _, _, rfl, ex, T.c_Layout, T.n_Layout_pages, fsL_p t p r, _, rfl, x, _, dx, _, _, rfl, ex, T.c_Layout, T.n_Layout_records, fsL_r t p r, by show 3 ≤ sizeLine; decide, fun q1 n1 => ?_⟩
      refine ⟨_, rfl, _, rfl, _, rfl, by show 3 ≤ sizeLine; decide, fun q2 n2 => ?_⟩
      refine ⟨.tuple [.int t, .int p, .int r], .tuple [.int t, .int p, .int r], .tup (SqT.of (Same.new n2 _ _ upd_same)) (.cons (.int _) (.cons (.int _) (.cons (.int _) .nil))), .tup (SqT.of upd_same) (.cons (.int _) (.cons (.int _) (.cons (.int _) .nil))), shp3 _ _ _, shp3 _ _ _, _, rfl, ?_⟩
      rw [(shp3 t p r).refl]
      refine iteF ?_
      obtain ⟨H3, e3⟩ : ∃ H3, H3 = upd (upd H2 q1 (.tup [.int t, .int p, .int r])) q2 (.tup [.int t, .int p, .int r]) := ⟨_, rfl⟩
      rw [← e3]
      have s3 : Same H2 H3 := by rw [e3]; exact (Same.new n1).trans (Same.new n2)
      have L3 : LayAt A H3 x t p r := L.same s3
      have ex3 := s3 _ _ ex
      -- total; layout.cells() != total
      refine ⟨_, rfl, _, _, rfl, rfl, _, rfl, _, _, rfl, rfl, ?_⟩
      refine ⟨_, rfl, x, dx, _, rfl, ex3, fsL_no_cells t p r, x, t, p, r, rfl, L3, _, rfl, rfl, _, rfl, iteNS rfl ?_⟩
      -- for thread in range(threads)
      refine ⟨_, rfl, t, rfl, by omega, by omega, for_range (lo := 0) (n := t.toNat) (fun i σ H4 => H3 = H4 ∧ ∃ v7 : Option V, σ = [some (.ref a), some (.ref l), some (.int t), some (.int p), some (.int r), some (.ref x), some (.int (5 + p + r)), v7, none, none, none, none, none])
        ⟨rfl, none, rfl⟩ ?_ ?_⟩
      · rintro i σ H4 hi ⟨e4, v7, rfl⟩
        subst e4
        refine ⟨_, rfl, x, dx, _, rfl, ex3, fsL_no_slot t p r, _, rfl, x, t, p, r, _, rfl, L3, _, rfl, _, _, rfl, rfl, rfl, _, rfl, iteNS rfl ?_⟩
        exact ⟨rfl, _, rfl⟩
      rintro σ H4 ⟨e4, v7, rfl⟩
      subst e4
      -- for page in range(pages)
      refine ⟨_, rfl, p, rfl, by omega, by omega, for_range (lo := 0) (n := p.toNat) (fun i σ H4 => H3 = H4 ∧ ∃ v8 : Option V, σ = [some (.ref a), some (.ref l), some (.int t), some (.int p), some (.int r), some (.ref x), some (.int (5 + p + r)), v7, v8, none, none, none, none])
        ⟨rfl, none, rfl⟩ ?_ ?_⟩
      · rintro i σ H4 hi ⟨e4, v8, rfl⟩
        subst e4
        refine ⟨_, rfl, x, dx, _, rfl, ex3, fsL_no_word t p r, _, rfl, x, t, p, r, _, rfl, L3, _, rfl, _, _, rfl, rfl, rfl, _, rfl, iteNS rfl ?_⟩
        exact ⟨rfl, _, rfl⟩
      rintro σ H4 ⟨e4, v8, rfl⟩
      subst e4
      -- for index in range(records)
      refine ⟨_, rfl, r, rfl, by omega, by omega, for_range (lo := 0) (n := r.toNat) (fun i σ H4 => H3 = H4 ∧ ∃ v9 : Option V, σ = [some (.ref a), some (.ref l), some (.int t), some (.int p), some (.int r), some (.ref x), some (.int (5 + p + r)), v7, v8, v9, none, none, none])
        ⟨rfl, none, rfl⟩ ?_ ?_⟩
      · rintro i σ H4 hi ⟨e4, v9, rfl⟩
        subst e4
        refine ⟨_, rfl, x, dx, _, rfl, ex3, fsL_no_record t p r, _, rfl, x, t, p, r, _, rfl, L3, _, rfl, _, _, rfl, rfl, _, rfl, _, _, rfl, rfl, rfl, _, rfl, iteNS rfl ?_⟩
        exact ⟨rfl, _, rfl⟩
      rintro σ H4 ⟨e4, v9, rfl⟩
      subst e4
      -- memory = Memory(layout)
      refine ⟨_, rfl, fun m dm nm ndm nem => ⟨m, dm, x, t, p, r, rfl, upd_same, ?_, g2.1, g2.2, g3, by omega, fun H5 cs ac xs keep ncs nac M => ⟨rfl, ?_⟩⟩⟩
      · refine ⟨dx, ?_⟩
        rw [upd_ne (ne_of_none ex3 nm), upd_ne (ne_of_none ex3 ndm)]
        exact ex3
      have s5 : Same H3 H5 := fun b o e => keep b o (by rw [upd_ne (ne_of_none e nm), upd_ne (ne_of_none e ndm)]; exact e) (ne_of_none e nm)
      obtain ⟨dm', em⟩ := M.ob
      -- for cell in range(total)
      refine ⟨_, rfl, 5 + p + r, rfl, by omega, by omega, for_range (lo := 0) (n := (5 + p + r).toNat) (fun i σ H6 => Same H5 H6 ∧ ∃ v11 v12 : Option V, σ = [some (.ref a), some (.ref l), some (.int t), some (.int p), some (.int r), some (.ref x), some (.int (5 + p + r)), v7, v8, v9, some (.ref m), v11, v12])
        ⟨Same.refl _, none, none, rfl⟩ ?_ ?_⟩
      · rintro i σ H6 hi ⟨s6, v11, v12, rfl⟩
        have s36 : Same H3 H6 := s5.trans s6
        have L6 := L3.same s36
        have ex6 := s36 _ _ ex3
        have M6 := M.same s6
        have em6 := s6 _ _ em
        have z0i : (0 : Int) + (i : Int) = (i : Int) := Int.zero_add _
        have ci : (i : Int) < 5 + p + r := by omega
        obtain ⟨v, ev, tv⟩ := M6.td.get (cells_get (p := p) (r := r) (c := i) (by omega) (by omega) ci)
        refine ⟨_, rfl, x, dx, _, rfl, ex6, fsL_no_isrec t p r, _, rfl, x, t, p, r, _, rfl, L6, ?_⟩
        -- not isinstance(told, bool) or told != (cell >= 5 + pages)
        refine ⟨_, rfl, _, _, _, _, true, rfl, .ty "bool", .base (.bl _), kit_ty (by decide +kernel), _, rfl, iteF ?_⟩
        refine ⟨_, rfl, _, rfl, _, rfl, _, _, rfl, rfl, _, _, rfl, rfl, rfl, _, rfl, iteNS ?_ ?_⟩
        · rw [z0i]
          congr 1
          exact decide_eq_decide.mpr ⟨fun z => z.1, fun z => ⟨z, ci⟩⟩
        -- not _law_same(memory.peek(cell), _law_due(layout, cell))
        refine ⟨_, rfl, m, dm', _, rfl, em6, fsM_no _ _ _ _ (by decide +kernel) (by decide +kernel) (by decide +kernel) (by decide +kernel), _, rfl, m, x, cs, ac, t, p, r, 0, i, xs, cellsD p r, [], [], v, by rw [z0i]; rfl, M6, ev, ?_⟩
        refine ⟨_, rfl, _, rfl, x, t, p, r, i, by rw [z0i]; rfl, L6, g2.1, fun u H7 s7 tu => ?_⟩
        refine ⟨v, u, cellD p i, rfl, tv.up (Tups.of s7), tu, (shp_cell p i).1, (shp_cell p i).2, _, rfl, iteF ?_⟩
        exact ⟨s6.trans s7, _, _, rfl⟩
      rintro σ H6 ⟨s6, v11, v12, rfl⟩
      have s36 : Same H3 H6 := s5.trans s6
      have L6 := L3.same s36
      have ex6 := s36 _ _ ex3
      have M6 := M.same s6
      have em6 := s6 _ _ em
      -- return layout.is_record(total) is False and memory.count == 0 and memory.log() == []
      refine ⟨_, rfl, x, dx, _, rfl, ex6, fsL_no_isrec t p r, _, rfl, x, t, p, r, _, rfl, L6, _, _, rfl, rfl, _, rfl, ?_⟩
      rw [show decide (decide (5 + p ≤ 5 + p + r ∧ 5 + p + r < 5 + p + r) = false) = true from decide_eq_true (decide_eq_false (by omega))]
      refine iteT ⟨_, rfl, m, _, dm', _, _, rfl, em6, T.c_Memory, T.n_Memory_count, fsM_count _ _ _ _, rfl, _, rfl, ?_⟩
      rw [decide_eq_true rfl]
      refine iteT ⟨_, rfl, m, dm', _, rfl, em6, fsM_no _ _ _ _ (by decide +kernel) (by decide +kernel) (by decide +kernel) (by decide +kernel), m, x, cs, ac, t, p, r, 0, xs, cellsD p r, [], [], rfl, M6, fun l2 n2 => ⟨Nat.zero_le _, fun l3 n3 => ?_⟩⟩
      refine ⟨.list [], .list [], .lst (SqL.of (Same.new n3 _ _ upd_same)) .nil, .lst (SqL.of upd_same) .nil, by decide +kernel, by decide +kernel, ?_⟩
      rw [show PyData.eqv (.list []) (.list []) = true from by decide +kernel]
      exact k _
end
end K01
namespace K01
open PySem PySem.Spec PyProof.Rows L2 Esp
theorem all_mk {K : PySem.W.Frag} {h : Heap} {mg : Str → Option Value} (X : K.In h) (G : h.Ns mainGlobals mg)
    {C_EspalierError C_NotValid C_Layout C_Memory f_EspalierError_init f_is_whole f_is_between f_first_record f_new_cells f_Layout_init f_Layout_slot f_Layout_word f_Layout_record f_Layout_cells f_Layout_is_record f_Memory_init f_Memory_peek f_Memory_log f_Memory_check f_law_tape f_law_at f_law_told f_law_due f_law_same f_law : Addr}
    {t_MOST_THREADS t_LEAST_PAGES t_MOST_PAGES t_FIRST_SLOT t_FIRST_WORD : Tok}
    {od_EspalierError_init an_EspalierError_init : Option Addr} {sl_EspalierError_init : Array (Option Value)} {oc_EspalierError_init kV_EspalierError_init dc_EspalierError_init pm_EspalierError_init cd_EspalierError_init ct_EspalierError_init : Value}
    {od_is_whole an_is_whole : Option Addr} {sl_is_whole : Array (Option Value)} {oc_is_whole kV_is_whole dc_is_whole pm_is_whole cd_is_whole ct_is_whole : Value}
    {od_is_between an_is_between : Option Addr} {sl_is_between : Array (Option Value)} {oc_is_between kV_is_between dc_is_between pm_is_between cd_is_between ct_is_between : Value}
    {od_first_record an_first_record : Option Addr} {sl_first_record : Array (Option Value)} {oc_first_record kV_first_record dc_first_record pm_first_record cd_first_record ct_first_record : Value}
    {od_new_cells an_new_cells : Option Addr} {sl_new_cells : Array (Option Value)} {oc_new_cells kV_new_cells dc_new_cells pm_new_cells cd_new_cells ct_new_cells : Value}
    {od_Layout_init an_Layout_init : Option Addr} {sl_Layout_init : Array (Option Value)} {oc_Layout_init kV_Layout_init dc_Layout_init pm_Layout_init cd_Layout_init ct_Layout_init : Value}
    {od_Layout_slot an_Layout_slot : Option Addr} {sl_Layout_slot : Array (Option Value)} {oc_Layout_slot kV_Layout_slot dc_Layout_slot pm_Layout_slot cd_Layout_slot ct_Layout_slot : Value}
    {od_Layout_word an_Layout_word : Option Addr} {sl_Layout_word : Array (Option Value)} {oc_Layout_word kV_Layout_word dc_Layout_word pm_Layout_word cd_Layout_word ct_Layout_word : Value}
    {od_Layout_record an_Layout_record : Option Addr} {sl_Layout_record : Array (Option Value)} {oc_Layout_record kV_Layout_record dc_Layout_record pm_Layout_record cd_Layout_record ct_Layout_record : Value}
    {od_Layout_cells an_Layout_cells : Option Addr} {sl_Layout_cells : Array (Option Value)} {oc_Layout_cells kV_Layout_cells dc_Layout_cells pm_Layout_cells cd_Layout_cells ct_Layout_cells : Value}
    {od_Layout_is_record an_Layout_is_record : Option Addr} {sl_Layout_is_record : Array (Option Value)} {oc_Layout_is_record kV_Layout_is_record dc_Layout_is_record pm_Layout_is_record cd_Layout_is_record ct_Layout_is_record : Value}
    {od_Memory_init an_Memory_init : Option Addr} {sl_Memory_init : Array (Option Value)} {oc_Memory_init kV_Memory_init dc_Memory_init pm_Memory_init cd_Memory_init ct_Memory_init : Value}
    {od_Memory_peek an_Memory_peek : Option Addr} {sl_Memory_peek : Array (Option Value)} {oc_Memory_peek kV_Memory_peek dc_Memory_peek pm_Memory_peek cd_Memory_peek ct_Memory_peek : Value}
    {od_Memory_log an_Memory_log : Option Addr} {sl_Memory_log : Array (Option Value)} {oc_Memory_log kV_Memory_log dc_Memory_log pm_Memory_log cd_Memory_log ct_Memory_log : Value}
    {od_Memory_check an_Memory_check : Option Addr} {sl_Memory_check : Array (Option Value)} {oc_Memory_check kV_Memory_check dc_Memory_check pm_Memory_check cd_Memory_check ct_Memory_check : Value}
    {od_law_tape an_law_tape : Option Addr} {sl_law_tape : Array (Option Value)} {oc_law_tape kV_law_tape dc_law_tape pm_law_tape cd_law_tape ct_law_tape : Value}
    {od_law_at an_law_at : Option Addr} {sl_law_at : Array (Option Value)} {oc_law_at kV_law_at dc_law_at pm_law_at cd_law_at ct_law_at : Value}
    {od_law_told an_law_told : Option Addr} {sl_law_told : Array (Option Value)} {oc_law_told kV_law_told dc_law_told pm_law_told cd_law_told ct_law_told : Value}
    {od_law_due an_law_due : Option Addr} {sl_law_due : Array (Option Value)} {oc_law_due kV_law_due dc_law_due pm_law_due cd_law_due ct_law_due : Value}
    {od_law_same an_law_same : Option Addr} {sl_law_same : Array (Option Value)} {oc_law_same kV_law_same dc_law_same pm_law_same cd_law_same ct_law_same : Value}
    {od_law an_law : Option Addr} {sl_law : Array (Option Value)} {oc_law kV_law dc_law pm_law cd_law ct_law : Value}
    {nm_EspalierError qn_EspalierError : Str} {N_EspalierError : Addr} {bs_EspalierError : List Value} {sn_EspalierError : List Str} {sub_EspalierError : List Value} {ab_EspalierError : Bool} {col_EspalierError : Option Bool} {dd_EspalierError : Option Addr} {m0_EspalierError m1_EspalierError m2_EspalierError m3_EspalierError m5_EspalierError : Option Value}
    {nm_NotValid qn_NotValid : Str} {N_NotValid : Addr} {bs_NotValid : List Value} {sn_NotValid : List Str} {sub_NotValid : List Value} {ab_NotValid : Bool} {col_NotValid : Option Bool} {dd_NotValid : Option Addr} {m0_NotValid m1_NotValid m2_NotValid m3_NotValid m5_NotValid : Option Value}
    (gC_EspalierError : PySem.W.nsIn K mainGlobals "EspalierError" = some (some (.ref C_EspalierError)))
    (gC_NotValid : PySem.W.nsIn K mainGlobals "NotValid" = some (some (.ref C_NotValid)))
    (gC_Layout : PySem.W.nsIn K mainGlobals "Layout" = some (some (.ref C_Layout)))
    (gC_Memory : PySem.W.nsIn K mainGlobals "Memory" = some (some (.ref C_Memory)))
    (xL_EspalierError : K.lookup C_EspalierError = some (excClassObj nm_EspalierError qn_EspalierError C_EspalierError N_EspalierError bs_EspalierError [.type "ValueError", .type "Exception", .type "BaseException", .type "object"] true sn_EspalierError sub_EspalierError ab_EspalierError col_EspalierError dd_EspalierError m0_EspalierError m1_EspalierError m2_EspalierError m3_EspalierError m5_EspalierError "ValueError.__new__"))
    (sa_EspalierError : PySem.W.findIn K (.ref C_EspalierError) "__setattr__" = some (some (.builtin "object.__setattr__")))
    (eC_EspalierError : PySem.W.subIn K (.ref C_EspalierError) (.type "BaseException") = some true)
    (tC_EspalierError : PySem.W.typeIn K (.ref C_EspalierError) = some (.type "type"))
    (kC_EspalierError : PySem.W.keepIn K (.ref C_EspalierError) = true)
    (ga_EspalierError : PySem.W.findIn K (.ref C_EspalierError) "__getattribute__" = some (some (.builtin "BaseException.__getattribute__")))
    (gg_EspalierError : PySem.W.findIn K (.ref C_EspalierError) "__getattr__" = some none)
    (hd_EspalierError : PySem.W.hasDictIn K C_EspalierError = true)
    (hc_EspalierError : PySem.W.findIn K (.ref C_EspalierError) "__class__" = some (some (.builtin "object.__class__")))
    (hm_EspalierError : PySem.W.mroIn K C_EspalierError (.type "object") = some true)
    (su_EspalierError_EspalierError : PySem.W.subIn K (.ref C_EspalierError) (.ref C_EspalierError) = some true)
    (fi_EspalierError : PySem.W.findIn K (.ref C_EspalierError) "__init__" = some (some (.ref f_EspalierError_init)))
    (xL_NotValid : K.lookup C_NotValid = some (excClassObj nm_NotValid qn_NotValid C_NotValid N_NotValid bs_NotValid [.ref C_EspalierError, .type "ValueError", .type "Exception", .type "BaseException", .type "object"] true sn_NotValid sub_NotValid ab_NotValid col_NotValid dd_NotValid m0_NotValid m1_NotValid m2_NotValid m3_NotValid m5_NotValid "ValueError.__new__"))
    (sa_NotValid : PySem.W.findIn K (.ref C_NotValid) "__setattr__" = some (some (.builtin "object.__setattr__")))
    (eC_NotValid : PySem.W.subIn K (.ref C_NotValid) (.type "BaseException") = some true)
    (tC_NotValid : PySem.W.typeIn K (.ref C_NotValid) = some (.type "type"))
    (kC_NotValid : PySem.W.keepIn K (.ref C_NotValid) = true)
    (ga_NotValid : PySem.W.findIn K (.ref C_NotValid) "__getattribute__" = some (some (.builtin "BaseException.__getattribute__")))
    (gg_NotValid : PySem.W.findIn K (.ref C_NotValid) "__getattr__" = some none)
    (hd_NotValid : PySem.W.hasDictIn K C_NotValid = true)
    (hc_NotValid : PySem.W.findIn K (.ref C_NotValid) "__class__" = some (some (.builtin "object.__class__")))
    (hm_NotValid : PySem.W.mroIn K C_NotValid (.type "object") = some true)
    (su_NotValid_NotValid : PySem.W.subIn K (.ref C_NotValid) (.ref C_NotValid) = some true)
    (su_NotValid_EspalierError : PySem.W.subIn K (.ref C_NotValid) (.ref C_EspalierError) = some true)
    (fi_NotValid : PySem.W.findIn K (.ref C_NotValid) "__init__" = some (some (.ref f_EspalierError_init)))
    (pg_Layout : PySem.W.plainGet K C_Layout Str.empty = true)
    (hd_Layout : PySem.W.hasDictIn K C_Layout = true)
    (po_Layout : PySem.W.plainOver K C_Layout = true)
    (sa_Layout : PySem.W.findIn K (.ref C_Layout) "__setattr__" = some (some (.builtin "object.__setattr__")))
    (hc_Layout : PySem.W.findIn K (.ref C_Layout) "__class__" = some (some (.builtin "object.__class__")))
    (hm_Layout : PySem.W.mroIn K C_Layout (.type "object") = some true)
    (kl_Layout : PySem.W.subIn K (.ref C_Layout) (.type "list") = some false)
    (mk_Layout : PySem.W.makesIn K C_Layout = true)
    (kC_Layout : PySem.W.keepIn K (.ref C_Layout) = true)
    (nA_Layout_threads : PySem.W.findIn K (.ref C_Layout) "threads" = some none)
    (nA_Layout_pages : PySem.W.findIn K (.ref C_Layout) "pages" = some none)
    (nA_Layout_records : PySem.W.findIn K (.ref C_Layout) "records" = some none)
    (pg_Memory : PySem.W.plainGet K C_Memory Str.empty = true)
    (hd_Memory : PySem.W.hasDictIn K C_Memory = true)
    (po_Memory : PySem.W.plainOver K C_Memory = true)
    (sa_Memory : PySem.W.findIn K (.ref C_Memory) "__setattr__" = some (some (.builtin "object.__setattr__")))
    (hc_Memory : PySem.W.findIn K (.ref C_Memory) "__class__" = some (some (.builtin "object.__class__")))
    (hm_Memory : PySem.W.mroIn K C_Memory (.type "object") = some true)
    (kl_Memory : PySem.W.subIn K (.ref C_Memory) (.type "list") = some false)
    (mk_Memory : PySem.W.makesIn K C_Memory = true)
    (kC_Memory : PySem.W.keepIn K (.ref C_Memory) = true)
    (nA_Memory_layout : PySem.W.findIn K (.ref C_Memory) "layout" = some none)
    (nA_Memory_count : PySem.W.findIn K (.ref C_Memory) "count" = some none)
    (nA_Memory__cells : PySem.W.findIn K (.ref C_Memory) "_cells" = some none)
    (nA_Memory__accesses : PySem.W.findIn K (.ref C_Memory) "_accesses" = some none)
    (ty_EspalierError_init : PySem.W.typeIn K (.ref f_EspalierError_init) = some (.type "function"))
    (l_EspalierError_init : K.lookup f_EspalierError_init = some ⟨oc_EspalierError_init, od_EspalierError_init, .func (PySem.W.fnOf "__init__" "EspalierError.__init__" (defArgs S_EspalierError_init) (defBody S_EspalierError_init) (defScope S_EspalierError_init) .none kV_EspalierError_init dc_EspalierError_init pm_EspalierError_init an_EspalierError_init cd_EspalierError_init ct_EspalierError_init), sl_EspalierError_init⟩)
    (cd_EspalierError_init' : PySem.W.codeIn K cd_EspalierError_init "EspalierError.__init__" = true)
    (kp_EspalierError_init : PySem.W.keepIn K (.ref f_EspalierError_init) = true)
    (a_is_whole : PySem.W.nsIn K mainGlobals "is_whole" = some (some (.ref f_is_whole)))
    (l_is_whole : K.lookup f_is_whole = some ⟨oc_is_whole, od_is_whole, .func (PySem.W.fnOf "is_whole" "is_whole" (defArgs S_is_whole) (defBody S_is_whole) (defScope S_is_whole) .none kV_is_whole dc_is_whole pm_is_whole an_is_whole cd_is_whole ct_is_whole), sl_is_whole⟩)
    (cd_is_whole' : PySem.W.codeIn K cd_is_whole "is_whole" = true)
    (kp_is_whole : PySem.W.keepIn K (.ref f_is_whole) = true)
    (a_is_between : PySem.W.nsIn K mainGlobals "_is_between" = some (some (.ref f_is_between)))
    (l_is_between : K.lookup f_is_between = some ⟨oc_is_between, od_is_between, .func (PySem.W.fnOf "_is_between" "_is_between" (defArgs S_is_between) (defBody S_is_between) (defScope S_is_between) .none kV_is_between dc_is_between pm_is_between an_is_between cd_is_between ct_is_between), sl_is_between⟩)
    (cd_is_between' : PySem.W.codeIn K cd_is_between "_is_between" = true)
    (kp_is_between : PySem.W.keepIn K (.ref f_is_between) = true)
    (a_first_record : PySem.W.nsIn K mainGlobals "_first_record" = some (some (.ref f_first_record)))
    (l_first_record : K.lookup f_first_record = some ⟨oc_first_record, od_first_record, .func (PySem.W.fnOf "_first_record" "_first_record" (defArgs S_first_record) (defBody S_first_record) (defScope S_first_record) .none kV_first_record dc_first_record pm_first_record an_first_record cd_first_record ct_first_record), sl_first_record⟩)
    (cd_first_record' : PySem.W.codeIn K cd_first_record "_first_record" = true)
    (kp_first_record : PySem.W.keepIn K (.ref f_first_record) = true)
    (a_new_cells : PySem.W.nsIn K mainGlobals "_new_cells" = some (some (.ref f_new_cells)))
    (l_new_cells : K.lookup f_new_cells = some ⟨oc_new_cells, od_new_cells, .func (PySem.W.fnOf "_new_cells" "_new_cells" (defArgs S_new_cells) (defBody S_new_cells) (defScope S_new_cells) .none kV_new_cells dc_new_cells pm_new_cells an_new_cells cd_new_cells ct_new_cells), sl_new_cells⟩)
    (cd_new_cells' : PySem.W.codeIn K cd_new_cells "_new_cells" = true)
    (kp_new_cells : PySem.W.keepIn K (.ref f_new_cells) = true)
    (a_Layout_init : PySem.W.findIn K (.ref C_Layout) "__init__" = some (some (.ref f_Layout_init)))
    (i_Layout_init : PySem.W.isFn K (.ref f_Layout_init) = true)
    (l_Layout_init : K.lookup f_Layout_init = some ⟨oc_Layout_init, od_Layout_init, .func (PySem.W.fnOf "__init__" "Layout.__init__" (defArgs S_Layout_init) (defBody S_Layout_init) (defScope S_Layout_init) .none kV_Layout_init dc_Layout_init pm_Layout_init an_Layout_init cd_Layout_init ct_Layout_init), sl_Layout_init⟩)
    (cd_Layout_init' : PySem.W.codeIn K cd_Layout_init "Layout.__init__" = true)
    (kp_Layout_init : PySem.W.keepIn K (.ref f_Layout_init) = true)
    (a_Layout_slot : PySem.W.findIn K (.ref C_Layout) "slot" = some (some (.ref f_Layout_slot)))
    (i_Layout_slot : PySem.W.isFn K (.ref f_Layout_slot) = true)
    (l_Layout_slot : K.lookup f_Layout_slot = some ⟨oc_Layout_slot, od_Layout_slot, .func (PySem.W.fnOf "slot" "Layout.slot" (defArgs S_Layout_slot) (defBody S_Layout_slot) (defScope S_Layout_slot) .none kV_Layout_slot dc_Layout_slot pm_Layout_slot an_Layout_slot cd_Layout_slot ct_Layout_slot), sl_Layout_slot⟩)
    (cd_Layout_slot' : PySem.W.codeIn K cd_Layout_slot "Layout.slot" = true)
    (kp_Layout_slot : PySem.W.keepIn K (.ref f_Layout_slot) = true)
    (a_Layout_word : PySem.W.findIn K (.ref C_Layout) "word" = some (some (.ref f_Layout_word)))
    (i_Layout_word : PySem.W.isFn K (.ref f_Layout_word) = true)
    (l_Layout_word : K.lookup f_Layout_word = some ⟨oc_Layout_word, od_Layout_word, .func (PySem.W.fnOf "word" "Layout.word" (defArgs S_Layout_word) (defBody S_Layout_word) (defScope S_Layout_word) .none kV_Layout_word dc_Layout_word pm_Layout_word an_Layout_word cd_Layout_word ct_Layout_word), sl_Layout_word⟩)
    (cd_Layout_word' : PySem.W.codeIn K cd_Layout_word "Layout.word" = true)
    (kp_Layout_word : PySem.W.keepIn K (.ref f_Layout_word) = true)
    (a_Layout_record : PySem.W.findIn K (.ref C_Layout) "record" = some (some (.ref f_Layout_record)))
    (i_Layout_record : PySem.W.isFn K (.ref f_Layout_record) = true)
    (l_Layout_record : K.lookup f_Layout_record = some ⟨oc_Layout_record, od_Layout_record, .func (PySem.W.fnOf "record" "Layout.record" (defArgs S_Layout_record) (defBody S_Layout_record) (defScope S_Layout_record) .none kV_Layout_record dc_Layout_record pm_Layout_record an_Layout_record cd_Layout_record ct_Layout_record), sl_Layout_record⟩)
    (cd_Layout_record' : PySem.W.codeIn K cd_Layout_record "Layout.record" = true)
    (kp_Layout_record : PySem.W.keepIn K (.ref f_Layout_record) = true)
    (a_Layout_cells : PySem.W.findIn K (.ref C_Layout) "cells" = some (some (.ref f_Layout_cells)))
    (i_Layout_cells : PySem.W.isFn K (.ref f_Layout_cells) = true)
    (l_Layout_cells : K.lookup f_Layout_cells = some ⟨oc_Layout_cells, od_Layout_cells, .func (PySem.W.fnOf "cells" "Layout.cells" (defArgs S_Layout_cells) (defBody S_Layout_cells) (defScope S_Layout_cells) .none kV_Layout_cells dc_Layout_cells pm_Layout_cells an_Layout_cells cd_Layout_cells ct_Layout_cells), sl_Layout_cells⟩)
    (cd_Layout_cells' : PySem.W.codeIn K cd_Layout_cells "Layout.cells" = true)
    (kp_Layout_cells : PySem.W.keepIn K (.ref f_Layout_cells) = true)
    (a_Layout_is_record : PySem.W.findIn K (.ref C_Layout) "is_record" = some (some (.ref f_Layout_is_record)))
    (i_Layout_is_record : PySem.W.isFn K (.ref f_Layout_is_record) = true)
    (l_Layout_is_record : K.lookup f_Layout_is_record = some ⟨oc_Layout_is_record, od_Layout_is_record, .func (PySem.W.fnOf "is_record" "Layout.is_record" (defArgs S_Layout_is_record) (defBody S_Layout_is_record) (defScope S_Layout_is_record) .none kV_Layout_is_record dc_Layout_is_record pm_Layout_is_record an_Layout_is_record cd_Layout_is_record ct_Layout_is_record), sl_Layout_is_record⟩)
    (cd_Layout_is_record' : PySem.W.codeIn K cd_Layout_is_record "Layout.is_record" = true)
    (kp_Layout_is_record : PySem.W.keepIn K (.ref f_Layout_is_record) = true)
    (a_Memory_init : PySem.W.findIn K (.ref C_Memory) "__init__" = some (some (.ref f_Memory_init)))
    (i_Memory_init : PySem.W.isFn K (.ref f_Memory_init) = true)
    (l_Memory_init : K.lookup f_Memory_init = some ⟨oc_Memory_init, od_Memory_init, .func (PySem.W.fnOf "__init__" "Memory.__init__" (defArgs S_Memory_init) (defBody S_Memory_init) (defScope S_Memory_init) .none kV_Memory_init dc_Memory_init pm_Memory_init an_Memory_init cd_Memory_init ct_Memory_init), sl_Memory_init⟩)
    (cd_Memory_init' : PySem.W.codeIn K cd_Memory_init "Memory.__init__" = true)
    (kp_Memory_init : PySem.W.keepIn K (.ref f_Memory_init) = true)
    (a_Memory_peek : PySem.W.findIn K (.ref C_Memory) "peek" = some (some (.ref f_Memory_peek)))
    (i_Memory_peek : PySem.W.isFn K (.ref f_Memory_peek) = true)
    (l_Memory_peek : K.lookup f_Memory_peek = some ⟨oc_Memory_peek, od_Memory_peek, .func (PySem.W.fnOf "peek" "Memory.peek" (defArgs S_Memory_peek) (defBody S_Memory_peek) (defScope S_Memory_peek) .none kV_Memory_peek dc_Memory_peek pm_Memory_peek an_Memory_peek cd_Memory_peek ct_Memory_peek), sl_Memory_peek⟩)
    (cd_Memory_peek' : PySem.W.codeIn K cd_Memory_peek "Memory.peek" = true)
    (kp_Memory_peek : PySem.W.keepIn K (.ref f_Memory_peek) = true)
    (a_Memory_log : PySem.W.findIn K (.ref C_Memory) "log" = some (some (.ref f_Memory_log)))
    (i_Memory_log : PySem.W.isFn K (.ref f_Memory_log) = true)
    (l_Memory_log : K.lookup f_Memory_log = some ⟨oc_Memory_log, od_Memory_log, .func (PySem.W.fnOf "log" "Memory.log" (defArgs S_Memory_log) (defBody S_Memory_log) (defScope S_Memory_log) .none kV_Memory_log dc_Memory_log pm_Memory_log an_Memory_log cd_Memory_log ct_Memory_log), sl_Memory_log⟩)
    (cd_Memory_log' : PySem.W.codeIn K cd_Memory_log "Memory.log" = true)
    (kp_Memory_log : PySem.W.keepIn K (.ref f_Memory_log) = true)
    (a_Memory_check : PySem.W.findIn K (.ref C_Memory) "_check" = some (some (.ref f_Memory_check)))
    (i_Memory_check : PySem.W.isFn K (.ref f_Memory_check) = true)
    (l_Memory_check : K.lookup f_Memory_check = some ⟨oc_Memory_check, od_Memory_check, .func (PySem.W.fnOf "_check" "Memory._check" (defArgs S_Memory_check) (defBody S_Memory_check) (defScope S_Memory_check) .none kV_Memory_check dc_Memory_check pm_Memory_check an_Memory_check cd_Memory_check ct_Memory_check), sl_Memory_check⟩)
    (cd_Memory_check' : PySem.W.codeIn K cd_Memory_check "Memory._check" = true)
    (kp_Memory_check : PySem.W.keepIn K (.ref f_Memory_check) = true)
    (a_law_tape : PySem.W.nsIn K mainGlobals "_law_tape" = some (some (.ref f_law_tape)))
    (l_law_tape : K.lookup f_law_tape = some ⟨oc_law_tape, od_law_tape, .func (PySem.W.fnOf "_law_tape" "_law_tape" (defArgs S_law_tape) (defBody S_law_tape) (defScope S_law_tape) .none kV_law_tape dc_law_tape pm_law_tape an_law_tape cd_law_tape ct_law_tape), sl_law_tape⟩)
    (cd_law_tape' : PySem.W.codeIn K cd_law_tape "_law_tape" = true)
    (kp_law_tape : PySem.W.keepIn K (.ref f_law_tape) = true)
    (a_law_at : PySem.W.nsIn K mainGlobals "_law_at" = some (some (.ref f_law_at)))
    (l_law_at : K.lookup f_law_at = some ⟨oc_law_at, od_law_at, .func (PySem.W.fnOf "_law_at" "_law_at" (defArgs S_law_at) (defBody S_law_at) (defScope S_law_at) .none kV_law_at dc_law_at pm_law_at an_law_at cd_law_at ct_law_at), sl_law_at⟩)
    (cd_law_at' : PySem.W.codeIn K cd_law_at "_law_at" = true)
    (kp_law_at : PySem.W.keepIn K (.ref f_law_at) = true)
    (a_law_told : PySem.W.nsIn K mainGlobals "_law_told" = some (some (.ref f_law_told)))
    (l_law_told : K.lookup f_law_told = some ⟨oc_law_told, od_law_told, .func (PySem.W.fnOf "_law_told" "_law_told" (defArgs S_law_told) (defBody S_law_told) (defScope S_law_told) .none kV_law_told dc_law_told pm_law_told an_law_told cd_law_told ct_law_told), sl_law_told⟩)
    (cd_law_told' : PySem.W.codeIn K cd_law_told "_law_told" = true)
    (kp_law_told : PySem.W.keepIn K (.ref f_law_told) = true)
    (a_law_due : PySem.W.nsIn K mainGlobals "_law_due" = some (some (.ref f_law_due)))
    (l_law_due : K.lookup f_law_due = some ⟨oc_law_due, od_law_due, .func (PySem.W.fnOf "_law_due" "_law_due" (defArgs S_law_due) (defBody S_law_due) (defScope S_law_due) .none kV_law_due dc_law_due pm_law_due an_law_due cd_law_due ct_law_due), sl_law_due⟩)
    (cd_law_due' : PySem.W.codeIn K cd_law_due "_law_due" = true)
    (kp_law_due : PySem.W.keepIn K (.ref f_law_due) = true)
    (a_law_same : PySem.W.nsIn K mainGlobals "_law_same" = some (some (.ref f_law_same)))
    (l_law_same : K.lookup f_law_same = some ⟨oc_law_same, od_law_same, .func (PySem.W.fnOf "_law_same" "_law_same" (defArgs S_law_same) (defBody S_law_same) (defScope S_law_same) .none kV_law_same dc_law_same pm_law_same an_law_same cd_law_same ct_law_same), sl_law_same⟩)
    (cd_law_same' : PySem.W.codeIn K cd_law_same "_law_same" = true)
    (kp_law_same : PySem.W.keepIn K (.ref f_law_same) = true)
    (a_law : PySem.W.nsIn K mainGlobals "law" = some (some (.ref f_law)))
    (l_law : K.lookup f_law = some ⟨oc_law, od_law, .func (PySem.W.fnOf "law" "law" (defArgs S_law) (defBody S_law) (defScope S_law) .none kV_law dc_law pm_law an_law cd_law ct_law), sl_law⟩)
    (cd_law' : PySem.W.codeIn K cd_law "law" = true)
    (kp_law : PySem.W.keepIn K (.ref f_law) = true)
    (z_ValueError : PySem.W.nsIn K mainGlobals "ValueError" = some none)
    (z_abs : PySem.W.nsIn K mainGlobals "abs" = some none)
    (z_bool : PySem.W.nsIn K mainGlobals "bool" = some none)
    (z_int : PySem.W.nsIn K mainGlobals "int" = some none)
    (z_isinstance : PySem.W.nsIn K mainGlobals "isinstance" = some none)
    (z_len : PySem.W.nsIn K mainGlobals "len" = some none)
    (z_list : PySem.W.nsIn K mainGlobals "list" = some none)
    (z_range : PySem.W.nsIn K mainGlobals "range" = some none)
    (z_tuple : PySem.W.nsIn K mainGlobals "tuple" = some none)
    (vV : PySem.W.findCls K (.type "ValueError") (.type "type") "__init__" = some (.val (.builtin "ValueError.__init__")))
    (sp : PySem.W.specialIn K (.builtin "object.__class__") "__get__" = some (some (.builtin "getset_descriptor.__get__")))
    (tk : PySem.W.takesIn K (.builtin "object.__class__") = some true)
    (cn_MOST_THREADS : PySem.W.nsIn K mainGlobals "MOST_THREADS" = some (some (.int 4 t_MOST_THREADS)))
    (cn_LEAST_PAGES : PySem.W.nsIn K mainGlobals "LEAST_PAGES" = some (some (.int 2 t_LEAST_PAGES)))
    (cn_MOST_PAGES : PySem.W.nsIn K mainGlobals "MOST_PAGES" = some (some (.int 48 t_MOST_PAGES)))
    (cn_FIRST_SLOT : PySem.W.nsIn K mainGlobals "FIRST_SLOT" = some (some (.int 1 t_FIRST_SLOT)))
    (cn_FIRST_WORD : PySem.W.nsIn K mainGlobals "FIRST_WORD" = some (some (.int 5 t_FIRST_WORD)))
    : ∃ A : Ad, Txt K mg A ∧ A.a_law = f_law ∧ A.d_law = PySem.W.fnOf "law" "law" (defArgs S_law) (defBody S_law) (defScope S_law) .none kV_law dc_law pm_law an_law cd_law ct_law := by
  refine ⟨{
    C_EspalierError := C_EspalierError,
    C_NotValid := C_NotValid,
    C_Layout := C_Layout,
    C_Memory := C_Memory,
    a_EspalierError_init := f_EspalierError_init,
    d_EspalierError_init := PySem.W.fnOf "__init__" "EspalierError.__init__" (defArgs S_EspalierError_init) (defBody S_EspalierError_init) (defScope S_EspalierError_init) .none kV_EspalierError_init dc_EspalierError_init pm_EspalierError_init an_EspalierError_init cd_EspalierError_init ct_EspalierError_init,
    a_is_whole := f_is_whole,
    d_is_whole := PySem.W.fnOf "is_whole" "is_whole" (defArgs S_is_whole) (defBody S_is_whole) (defScope S_is_whole) .none kV_is_whole dc_is_whole pm_is_whole an_is_whole cd_is_whole ct_is_whole,
    a_is_between := f_is_between,
    d_is_between := PySem.W.fnOf "_is_between" "_is_between" (defArgs S_is_between) (defBody S_is_between) (defScope S_is_between) .none kV_is_between dc_is_between pm_is_between an_is_between cd_is_between ct_is_between,
    a_first_record := f_first_record,
    d_first_record := PySem.W.fnOf "_first_record" "_first_record" (defArgs S_first_record) (defBody S_first_record) (defScope S_first_record) .none kV_first_record dc_first_record pm_first_record an_first_record cd_first_record ct_first_record,
    a_new_cells := f_new_cells,
    d_new_cells := PySem.W.fnOf "_new_cells" "_new_cells" (defArgs S_new_cells) (defBody S_new_cells) (defScope S_new_cells) .none kV_new_cells dc_new_cells pm_new_cells an_new_cells cd_new_cells ct_new_cells,
    a_Layout_init := f_Layout_init,
    d_Layout_init := PySem.W.fnOf "__init__" "Layout.__init__" (defArgs S_Layout_init) (defBody S_Layout_init) (defScope S_Layout_init) .none kV_Layout_init dc_Layout_init pm_Layout_init an_Layout_init cd_Layout_init ct_Layout_init,
    a_Layout_slot := f_Layout_slot,
    d_Layout_slot := PySem.W.fnOf "slot" "Layout.slot" (defArgs S_Layout_slot) (defBody S_Layout_slot) (defScope S_Layout_slot) .none kV_Layout_slot dc_Layout_slot pm_Layout_slot an_Layout_slot cd_Layout_slot ct_Layout_slot,
    a_Layout_word := f_Layout_word,
    d_Layout_word := PySem.W.fnOf "word" "Layout.word" (defArgs S_Layout_word) (defBody S_Layout_word) (defScope S_Layout_word) .none kV_Layout_word dc_Layout_word pm_Layout_word an_Layout_word cd_Layout_word ct_Layout_word,
    a_Layout_record := f_Layout_record,
    d_Layout_record := PySem.W.fnOf "record" "Layout.record" (defArgs S_Layout_record) (defBody S_Layout_record) (defScope S_Layout_record) .none kV_Layout_record dc_Layout_record pm_Layout_record an_Layout_record cd_Layout_record ct_Layout_record,
    a_Layout_cells := f_Layout_cells,
    d_Layout_cells := PySem.W.fnOf "cells" "Layout.cells" (defArgs S_Layout_cells) (defBody S_Layout_cells) (defScope S_Layout_cells) .none kV_Layout_cells dc_Layout_cells pm_Layout_cells an_Layout_cells cd_Layout_cells ct_Layout_cells,
    a_Layout_is_record := f_Layout_is_record,
    d_Layout_is_record := PySem.W.fnOf "is_record" "Layout.is_record" (defArgs S_Layout_is_record) (defBody S_Layout_is_record) (defScope S_Layout_is_record) .none kV_Layout_is_record dc_Layout_is_record pm_Layout_is_record an_Layout_is_record cd_Layout_is_record ct_Layout_is_record,
    a_Memory_init := f_Memory_init,
    d_Memory_init := PySem.W.fnOf "__init__" "Memory.__init__" (defArgs S_Memory_init) (defBody S_Memory_init) (defScope S_Memory_init) .none kV_Memory_init dc_Memory_init pm_Memory_init an_Memory_init cd_Memory_init ct_Memory_init,
    a_Memory_peek := f_Memory_peek,
    d_Memory_peek := PySem.W.fnOf "peek" "Memory.peek" (defArgs S_Memory_peek) (defBody S_Memory_peek) (defScope S_Memory_peek) .none kV_Memory_peek dc_Memory_peek pm_Memory_peek an_Memory_peek cd_Memory_peek ct_Memory_peek,
    a_Memory_log := f_Memory_log,
    d_Memory_log := PySem.W.fnOf "log" "Memory.log" (defArgs S_Memory_log) (defBody S_Memory_log) (defScope S_Memory_log) .none kV_Memory_log dc_Memory_log pm_Memory_log an_Memory_log cd_Memory_log ct_Memory_log,
    a_Memory_check := f_Memory_check,
    d_Memory_check := PySem.W.fnOf "_check" "Memory._check" (defArgs S_Memory_check) (defBody S_Memory_check) (defScope S_Memory_check) .none kV_Memory_check dc_Memory_check pm_Memory_check an_Memory_check cd_Memory_check ct_Memory_check,
    a_law_tape := f_law_tape,
    d_law_tape := PySem.W.fnOf "_law_tape" "_law_tape" (defArgs S_law_tape) (defBody S_law_tape) (defScope S_law_tape) .none kV_law_tape dc_law_tape pm_law_tape an_law_tape cd_law_tape ct_law_tape,
    a_law_at := f_law_at,
    d_law_at := PySem.W.fnOf "_law_at" "_law_at" (defArgs S_law_at) (defBody S_law_at) (defScope S_law_at) .none kV_law_at dc_law_at pm_law_at an_law_at cd_law_at ct_law_at,
    a_law_told := f_law_told,
    d_law_told := PySem.W.fnOf "_law_told" "_law_told" (defArgs S_law_told) (defBody S_law_told) (defScope S_law_told) .none kV_law_told dc_law_told pm_law_told an_law_told cd_law_told ct_law_told,
    a_law_due := f_law_due,
    d_law_due := PySem.W.fnOf "_law_due" "_law_due" (defArgs S_law_due) (defBody S_law_due) (defScope S_law_due) .none kV_law_due dc_law_due pm_law_due an_law_due cd_law_due ct_law_due,
    a_law_same := f_law_same,
    d_law_same := PySem.W.fnOf "_law_same" "_law_same" (defArgs S_law_same) (defBody S_law_same) (defScope S_law_same) .none kV_law_same dc_law_same pm_law_same an_law_same cd_law_same ct_law_same,
    a_law := f_law,
    d_law := PySem.W.fnOf "law" "law" (defArgs S_law) (defBody S_law) (defScope S_law) .none kV_law dc_law pm_law an_law cd_law ct_law,
    t_MOST_THREADS := t_MOST_THREADS,
    t_LEAST_PAGES := t_LEAST_PAGES,
    t_MOST_PAGES := t_MOST_PAGES,
    t_FIRST_SLOT := t_FIRST_SLOT,
    t_FIRST_WORD := t_FIRST_WORD }, ?_, rfl, rfl⟩
  exact {
    g_EspalierError := PySem.W.mg_of X G gC_EspalierError,
    o_EspalierError := ⟨⟨nm_EspalierError, qn_EspalierError, N_EspalierError, bs_EspalierError, _, sn_EspalierError, sub_EspalierError, ab_EspalierError, col_EspalierError, dd_EspalierError, m0_EspalierError, m1_EspalierError, m2_EspalierError, m3_EspalierError, m5_EspalierError, xL_EspalierError, rfl⟩, sa_EspalierError, eC_EspalierError, tC_EspalierError, kC_EspalierError⟩,
    x_EspalierError := ⟨ga_EspalierError, gg_EspalierError, eC_EspalierError, hd_EspalierError, hc_EspalierError, sp, tk, hm_EspalierError⟩,
    q_EspalierError := kit_self,
    e_EspalierError_EspalierError := PySem.W.exm_ref eC_EspalierError hd_EspalierError tC_EspalierError su_EspalierError_EspalierError,
    i_EspalierError := fi_EspalierError,
    g_NotValid := PySem.W.mg_of X G gC_NotValid,
    o_NotValid := ⟨⟨nm_NotValid, qn_NotValid, N_NotValid, bs_NotValid, _, sn_NotValid, sub_NotValid, ab_NotValid, col_NotValid, dd_NotValid, m0_NotValid, m1_NotValid, m2_NotValid, m3_NotValid, m5_NotValid, xL_NotValid, rfl⟩, sa_NotValid, eC_NotValid, tC_NotValid, kC_NotValid⟩,
    x_NotValid := ⟨ga_NotValid, gg_NotValid, eC_NotValid, hd_NotValid, hc_NotValid, sp, tk, hm_NotValid⟩,
    q_NotValid := kit_self,
    e_NotValid_NotValid := PySem.W.exm_ref eC_NotValid hd_NotValid tC_NotValid su_NotValid_NotValid,
    e_NotValid_EspalierError := PySem.W.exm_ref eC_EspalierError hd_EspalierError tC_EspalierError su_NotValid_EspalierError,
    i_NotValid := fi_NotValid,
    g_Layout := PySem.W.mg_of X G gC_Layout,
    c_Layout := ⟨pg_Layout, hd_Layout, po_Layout, sa_Layout⟩,
    k_Layout := ⟨hc_Layout, sp, tk, hm_Layout⟩,
    kl_Layout := kit_sub kl_Layout (by decide +kernel),
    M_Layout := ⟨mk_Layout, a_Layout_init, i_Layout_init, kC_Layout⟩,
    n_Layout_threads := nA_Layout_threads,
    n_Layout_pages := nA_Layout_pages,
    n_Layout_records := nA_Layout_records,
    g_Memory := PySem.W.mg_of X G gC_Memory,
    c_Memory := ⟨pg_Memory, hd_Memory, po_Memory, sa_Memory⟩,
    k_Memory := ⟨hc_Memory, sp, tk, hm_Memory⟩,
    kl_Memory := kit_sub kl_Memory (by decide +kernel),
    M_Memory := ⟨mk_Memory, a_Memory_init, i_Memory_init, kC_Memory⟩,
    n_Memory_layout := nA_Memory_layout,
    n_Memory_count := nA_Memory_count,
    n_Memory__cells := nA_Memory__cells,
    n_Memory__accesses := nA_Memory__accesses,
    F_EspalierError_init := fun_mk (st := S_EspalierError_init) l_EspalierError_init cd_EspalierError_init' kp_EspalierError_init,
    b_EspalierError_init := (fun_mk (st := S_EspalierError_init) l_EspalierError_init cd_EspalierError_init' kp_EspalierError_init).binds (ps := ["self"]) fun _ _ _ _ _ _ us hl => match us, hl with | [_], _ => rfl,
    ty_EspalierError_init := ty_EspalierError_init,
    F_is_whole := fun_mk (st := S_is_whole) l_is_whole cd_is_whole' kp_is_whole,
    b_is_whole := (fun_mk (st := S_is_whole) l_is_whole cd_is_whole' kp_is_whole).binds (ps := ["value"]) fun _ _ _ _ _ _ us hl => match us, hl with | [_], _ => rfl,
    g_is_whole := PySem.W.mg_of X G a_is_whole,
    F_is_between := fun_mk (st := S_is_between) l_is_between cd_is_between' kp_is_between,
    b_is_between := (fun_mk (st := S_is_between) l_is_between cd_is_between' kp_is_between).binds (ps := ["value", "least", "most"]) fun _ _ _ _ _ _ us hl => match us, hl with | [_, _, _], _ => rfl,
    g_is_between := PySem.W.mg_of X G a_is_between,
    F_first_record := fun_mk (st := S_first_record) l_first_record cd_first_record' kp_first_record,
    b_first_record := (fun_mk (st := S_first_record) l_first_record cd_first_record' kp_first_record).binds (ps := ["page"]) fun _ _ _ _ _ _ us hl => match us, hl with | [_], _ => rfl,
    g_first_record := PySem.W.mg_of X G a_first_record,
    F_new_cells := fun_mk (st := S_new_cells) l_new_cells cd_new_cells' kp_new_cells,
    b_new_cells := (fun_mk (st := S_new_cells) l_new_cells cd_new_cells' kp_new_cells).binds (ps := ["layout"]) fun _ _ _ _ _ _ us hl => match us, hl with | [_], _ => rfl,
    g_new_cells := PySem.W.mg_of X G a_new_cells,
    F_Layout_init := fun_mk (st := S_Layout_init) l_Layout_init cd_Layout_init' kp_Layout_init,
    b_Layout_init := (fun_mk (st := S_Layout_init) l_Layout_init cd_Layout_init' kp_Layout_init).binds (ps := ["self", "threads", "pages", "records"]) fun _ _ _ _ _ _ us hl => match us, hl with | [_, _, _, _], _ => rfl,
    F_Layout_slot := fun_mk (st := S_Layout_slot) l_Layout_slot cd_Layout_slot' kp_Layout_slot,
    b_Layout_slot := (fun_mk (st := S_Layout_slot) l_Layout_slot cd_Layout_slot' kp_Layout_slot).binds (ps := ["self", "thread"]) fun _ _ _ _ _ _ us hl => match us, hl with | [_, _], _ => rfl,
    m_Layout_slot := ⟨a_Layout_slot, i_Layout_slot, kp_Layout_slot⟩,
    F_Layout_word := fun_mk (st := S_Layout_word) l_Layout_word cd_Layout_word' kp_Layout_word,
    b_Layout_word := (fun_mk (st := S_Layout_word) l_Layout_word cd_Layout_word' kp_Layout_word).binds (ps := ["self", "page"]) fun _ _ _ _ _ _ us hl => match us, hl with | [_, _], _ => rfl,
    m_Layout_word := ⟨a_Layout_word, i_Layout_word, kp_Layout_word⟩,
    F_Layout_record := fun_mk (st := S_Layout_record) l_Layout_record cd_Layout_record' kp_Layout_record,
    b_Layout_record := (fun_mk (st := S_Layout_record) l_Layout_record cd_Layout_record' kp_Layout_record).binds (ps := ["self", "index"]) fun _ _ _ _ _ _ us hl => match us, hl with | [_, _], _ => rfl,
    m_Layout_record := ⟨a_Layout_record, i_Layout_record, kp_Layout_record⟩,
    F_Layout_cells := fun_mk (st := S_Layout_cells) l_Layout_cells cd_Layout_cells' kp_Layout_cells,
    b_Layout_cells := (fun_mk (st := S_Layout_cells) l_Layout_cells cd_Layout_cells' kp_Layout_cells).binds (ps := ["self"]) fun _ _ _ _ _ _ us hl => match us, hl with | [_], _ => rfl,
    m_Layout_cells := ⟨a_Layout_cells, i_Layout_cells, kp_Layout_cells⟩,
    F_Layout_is_record := fun_mk (st := S_Layout_is_record) l_Layout_is_record cd_Layout_is_record' kp_Layout_is_record,
    b_Layout_is_record := (fun_mk (st := S_Layout_is_record) l_Layout_is_record cd_Layout_is_record' kp_Layout_is_record).binds (ps := ["self", "cell"]) fun _ _ _ _ _ _ us hl => match us, hl with | [_, _], _ => rfl,
    m_Layout_is_record := ⟨a_Layout_is_record, i_Layout_is_record, kp_Layout_is_record⟩,
    F_Memory_init := fun_mk (st := S_Memory_init) l_Memory_init cd_Memory_init' kp_Memory_init,
    b_Memory_init := (fun_mk (st := S_Memory_init) l_Memory_init cd_Memory_init' kp_Memory_init).binds (ps := ["self", "layout"]) fun _ _ _ _ _ _ us hl => match us, hl with | [_, _], _ => rfl,
    F_Memory_peek := fun_mk (st := S_Memory_peek) l_Memory_peek cd_Memory_peek' kp_Memory_peek,
    b_Memory_peek := (fun_mk (st := S_Memory_peek) l_Memory_peek cd_Memory_peek' kp_Memory_peek).binds (ps := ["self", "cell"]) fun _ _ _ _ _ _ us hl => match us, hl with | [_, _], _ => rfl,
    m_Memory_peek := ⟨a_Memory_peek, i_Memory_peek, kp_Memory_peek⟩,
    F_Memory_log := fun_mk (st := S_Memory_log) l_Memory_log cd_Memory_log' kp_Memory_log,
    b_Memory_log := (fun_mk (st := S_Memory_log) l_Memory_log cd_Memory_log' kp_Memory_log).binds (ps := ["self"]) fun _ _ _ _ _ _ us hl => match us, hl with | [_], _ => rfl,
    m_Memory_log := ⟨a_Memory_log, i_Memory_log, kp_Memory_log⟩,
    F_Memory_check := fun_mk (st := S_Memory_check) l_Memory_check cd_Memory_check' kp_Memory_check,
    b_Memory_check := (fun_mk (st := S_Memory_check) l_Memory_check cd_Memory_check' kp_Memory_check).binds (ps := ["self", "cell"]) fun _ _ _ _ _ _ us hl => match us, hl with | [_, _], _ => rfl,
    m_Memory_check := ⟨a_Memory_check, i_Memory_check, kp_Memory_check⟩,
    F_law_tape := fun_mk (st := S_law_tape) l_law_tape cd_law_tape' kp_law_tape,
    b_law_tape := (fun_mk (st := S_law_tape) l_law_tape cd_law_tape' kp_law_tape).binds (ps := ["script"]) fun _ _ _ _ _ _ us hl => match us, hl with | [_], _ => rfl,
    g_law_tape := PySem.W.mg_of X G a_law_tape,
    F_law_at := fun_mk (st := S_law_at) l_law_at cd_law_at' kp_law_at,
    b_law_at := (fun_mk (st := S_law_at) l_law_at cd_law_at' kp_law_at).binds (ps := ["tape", "k"]) fun _ _ _ _ _ _ us hl => match us, hl with | [_, _], _ => rfl,
    g_law_at := PySem.W.mg_of X G a_law_at,
    F_law_told := fun_mk (st := S_law_told) l_law_told cd_law_told' kp_law_told,
    b_law_told := (fun_mk (st := S_law_told) l_law_told cd_law_told' kp_law_told).binds (ps := ["threads", "pages", "records"]) fun _ _ _ _ _ _ us hl => match us, hl with | [_, _, _], _ => rfl,
    g_law_told := PySem.W.mg_of X G a_law_told,
    F_law_due := fun_mk (st := S_law_due) l_law_due cd_law_due' kp_law_due,
    b_law_due := (fun_mk (st := S_law_due) l_law_due cd_law_due' kp_law_due).binds (ps := ["layout", "cell"]) fun _ _ _ _ _ _ us hl => match us, hl with | [_, _], _ => rfl,
    g_law_due := PySem.W.mg_of X G a_law_due,
    F_law_same := fun_mk (st := S_law_same) l_law_same cd_law_same' kp_law_same,
    b_law_same := (fun_mk (st := S_law_same) l_law_same cd_law_same' kp_law_same).binds (ps := ["told", "due"]) fun _ _ _ _ _ _ us hl => match us, hl with | [_, _], _ => rfl,
    g_law_same := PySem.W.mg_of X G a_law_same,
    F_law := fun_mk (st := S_law) l_law cd_law' kp_law,
    b_law := (fun_mk (st := S_law) l_law cd_law' kp_law).binds (ps := ["script"]) fun _ _ _ _ _ _ us hl => match us, hl with | [_], _ => rfl,
    g_law := PySem.W.mg_of X G a_law,
    z_ValueError := PySem.W.mg_none_of X G z_ValueError,
    z_abs := PySem.W.mg_none_of X G z_abs,
    z_bool := PySem.W.mg_none_of X G z_bool,
    z_int := PySem.W.mg_none_of X G z_int,
    z_isinstance := PySem.W.mg_none_of X G z_isinstance,
    z_len := PySem.W.mg_none_of X G z_len,
    z_list := PySem.W.mg_none_of X G z_list,
    z_range := PySem.W.mg_none_of X G z_range,
    z_tuple := PySem.W.mg_none_of X G z_tuple,
    v_init := vV,
    k_MOST_THREADS := PySem.W.mg_of X G cn_MOST_THREADS,
    k_LEAST_PAGES := PySem.W.mg_of X G cn_LEAST_PAGES,
    k_MOST_PAGES := PySem.W.mg_of X G cn_MOST_PAGES,
    k_FIRST_SLOT := PySem.W.mg_of X G cn_FIRST_SLOT,
    k_FIRST_WORD := PySem.W.mg_of X G cn_FIRST_WORD }
theorem fin_mk {P : Program} {w : World} {K : PySem.W.Frag} {h : Heap} {mg : Str → Option Value} {fa : Addr} (X : K.In h) (G : h.Ns mainGlobals mg) (hfa : mg "law" = some (.ref fa))
    {C_EspalierError C_NotValid C_Layout C_Memory f_EspalierError_init f_is_whole f_is_between f_first_record f_new_cells f_Layout_init f_Layout_slot f_Layout_word f_Layout_record f_Layout_cells f_Layout_is_record f_Memory_init f_Memory_peek f_Memory_log f_Memory_check f_law_tape f_law_at f_law_told f_law_due f_law_same f_law : Addr}
    {t_MOST_THREADS t_LEAST_PAGES t_MOST_PAGES t_FIRST_SLOT t_FIRST_WORD : Tok}
    {od_EspalierError_init an_EspalierError_init : Option Addr} {sl_EspalierError_init : Array (Option Value)} {oc_EspalierError_init kV_EspalierError_init dc_EspalierError_init pm_EspalierError_init cd_EspalierError_init ct_EspalierError_init : Value}
    {od_is_whole an_is_whole : Option Addr} {sl_is_whole : Array (Option Value)} {oc_is_whole kV_is_whole dc_is_whole pm_is_whole cd_is_whole ct_is_whole : Value}
    {od_is_between an_is_between : Option Addr} {sl_is_between : Array (Option Value)} {oc_is_between kV_is_between dc_is_between pm_is_between cd_is_between ct_is_between : Value}
    {od_first_record an_first_record : Option Addr} {sl_first_record : Array (Option Value)} {oc_first_record kV_first_record dc_first_record pm_first_record cd_first_record ct_first_record : Value}
    {od_new_cells an_new_cells : Option Addr} {sl_new_cells : Array (Option Value)} {oc_new_cells kV_new_cells dc_new_cells pm_new_cells cd_new_cells ct_new_cells : Value}
    {od_Layout_init an_Layout_init : Option Addr} {sl_Layout_init : Array (Option Value)} {oc_Layout_init kV_Layout_init dc_Layout_init pm_Layout_init cd_Layout_init ct_Layout_init : Value}
    {od_Layout_slot an_Layout_slot : Option Addr} {sl_Layout_slot : Array (Option Value)} {oc_Layout_slot kV_Layout_slot dc_Layout_slot pm_Layout_slot cd_Layout_slot ct_Layout_slot : Value}
    {od_Layout_word an_Layout_word : Option Addr} {sl_Layout_word : Array (Option Value)} {oc_Layout_word kV_Layout_word dc_Layout_word pm_Layout_word cd_Layout_word ct_Layout_word : Value}
    {od_Layout_record an_Layout_record : Option Addr} {sl_Layout_record : Array (Option Value)} {oc_Layout_record kV_Layout_record dc_Layout_record pm_Layout_record cd_Layout_record ct_Layout_record : Value}
    {od_Layout_cells an_Layout_cells : Option Addr} {sl_Layout_cells : Array (Option Value)} {oc_Layout_cells kV_Layout_cells dc_Layout_cells pm_Layout_cells cd_Layout_cells ct_Layout_cells : Value}
    {od_Layout_is_record an_Layout_is_record : Option Addr} {sl_Layout_is_record : Array (Option Value)} {oc_Layout_is_record kV_Layout_is_record dc_Layout_is_record pm_Layout_is_record cd_Layout_is_record ct_Layout_is_record : Value}
    {od_Memory_init an_Memory_init : Option Addr} {sl_Memory_init : Array (Option Value)} {oc_Memory_init kV_Memory_init dc_Memory_init pm_Memory_init cd_Memory_init ct_Memory_init : Value}
    {od_Memory_peek an_Memory_peek : Option Addr} {sl_Memory_peek : Array (Option Value)} {oc_Memory_peek kV_Memory_peek dc_Memory_peek pm_Memory_peek cd_Memory_peek ct_Memory_peek : Value}
    {od_Memory_log an_Memory_log : Option Addr} {sl_Memory_log : Array (Option Value)} {oc_Memory_log kV_Memory_log dc_Memory_log pm_Memory_log cd_Memory_log ct_Memory_log : Value}
    {od_Memory_check an_Memory_check : Option Addr} {sl_Memory_check : Array (Option Value)} {oc_Memory_check kV_Memory_check dc_Memory_check pm_Memory_check cd_Memory_check ct_Memory_check : Value}
    {od_law_tape an_law_tape : Option Addr} {sl_law_tape : Array (Option Value)} {oc_law_tape kV_law_tape dc_law_tape pm_law_tape cd_law_tape ct_law_tape : Value}
    {od_law_at an_law_at : Option Addr} {sl_law_at : Array (Option Value)} {oc_law_at kV_law_at dc_law_at pm_law_at cd_law_at ct_law_at : Value}
    {od_law_told an_law_told : Option Addr} {sl_law_told : Array (Option Value)} {oc_law_told kV_law_told dc_law_told pm_law_told cd_law_told ct_law_told : Value}
    {od_law_due an_law_due : Option Addr} {sl_law_due : Array (Option Value)} {oc_law_due kV_law_due dc_law_due pm_law_due cd_law_due ct_law_due : Value}
    {od_law_same an_law_same : Option Addr} {sl_law_same : Array (Option Value)} {oc_law_same kV_law_same dc_law_same pm_law_same cd_law_same ct_law_same : Value}
    {od_law an_law : Option Addr} {sl_law : Array (Option Value)} {oc_law kV_law dc_law pm_law cd_law ct_law : Value}
    {nm_EspalierError qn_EspalierError : Str} {N_EspalierError : Addr} {bs_EspalierError : List Value} {sn_EspalierError : List Str} {sub_EspalierError : List Value} {ab_EspalierError : Bool} {col_EspalierError : Option Bool} {dd_EspalierError : Option Addr} {m0_EspalierError m1_EspalierError m2_EspalierError m3_EspalierError m5_EspalierError : Option Value}
    {nm_NotValid qn_NotValid : Str} {N_NotValid : Addr} {bs_NotValid : List Value} {sn_NotValid : List Str} {sub_NotValid : List Value} {ab_NotValid : Bool} {col_NotValid : Option Bool} {dd_NotValid : Option Addr} {m0_NotValid m1_NotValid m2_NotValid m3_NotValid m5_NotValid : Option Value}
    (gC_EspalierError : PySem.W.nsIn K mainGlobals "EspalierError" = some (some (.ref C_EspalierError)))
    (gC_NotValid : PySem.W.nsIn K mainGlobals "NotValid" = some (some (.ref C_NotValid)))
    (gC_Layout : PySem.W.nsIn K mainGlobals "Layout" = some (some (.ref C_Layout)))
    (gC_Memory : PySem.W.nsIn K mainGlobals "Memory" = some (some (.ref C_Memory)))
    (xL_EspalierError : K.lookup C_EspalierError = some (excClassObj nm_EspalierError qn_EspalierError C_EspalierError N_EspalierError bs_EspalierError [.type "ValueError", .type "Exception", .type "BaseException", .type "object"] true sn_EspalierError sub_EspalierError ab_EspalierError col_EspalierError dd_EspalierError m0_EspalierError m1_EspalierError m2_EspalierError m3_EspalierError m5_EspalierError "ValueError.__new__"))
    (sa_EspalierError : PySem.W.findIn K (.ref C_EspalierError) "__setattr__" = some (some (.builtin "object.__setattr__")))
    (eC_EspalierError : PySem.W.subIn K (.ref C_EspalierError) (.type "BaseException") = some true)
    (tC_EspalierError : PySem.W.typeIn K (.ref C_EspalierError) = some (.type "type"))
    (kC_EspalierError : PySem.W.keepIn K (.ref C_EspalierError) = true)
    (ga_EspalierError : PySem.W.findIn K (.ref C_EspalierError) "__getattribute__" = some (some (.builtin "BaseException.__getattribute__")))
    (gg_EspalierError : PySem.W.findIn K (.ref C_EspalierError) "__getattr__" = some none)
    (hd_EspalierError : PySem.W.hasDictIn K C_EspalierError = true)
    (hc_EspalierError : PySem.W.findIn K (.ref C_EspalierError) "__class__" = some (some (.builtin "object.__class__")))
    (hm_EspalierError : PySem.W.mroIn K C_EspalierError (.type "object") = some true)
    (su_EspalierError_EspalierError : PySem.W.subIn K (.ref C_EspalierError) (.ref C_EspalierError) = some true)
    (fi_EspalierError : PySem.W.findIn K (.ref C_EspalierError) "__init__" = some (some (.ref f_EspalierError_init)))
    (xL_NotValid : K.lookup C_NotValid = some (excClassObj nm_NotValid qn_NotValid C_NotValid N_NotValid bs_NotValid [.ref C_EspalierError, .type "ValueError", .type "Exception", .type "BaseException", .type "object"] true sn_NotValid sub_NotValid ab_NotValid col_NotValid dd_NotValid m0_NotValid m1_NotValid m2_NotValid m3_NotValid m5_NotValid "ValueError.__new__"))
    (sa_NotValid : PySem.W.findIn K (.ref C_NotValid) "__setattr__" = some (some (.builtin "object.__setattr__")))
    (eC_NotValid : PySem.W.subIn K (.ref C_NotValid) (.type "BaseException") = some true)
    (tC_NotValid : PySem.W.typeIn K (.ref C_NotValid) = some (.type "type"))
    (kC_NotValid : PySem.W.keepIn K (.ref C_NotValid) = true)
    (ga_NotValid : PySem.W.findIn K (.ref C_NotValid) "__getattribute__" = some (some (.builtin "BaseException.__getattribute__")))
    (gg_NotValid : PySem.W.findIn K (.ref C_NotValid) "__getattr__" = some none)
    (hd_NotValid : PySem.W.hasDictIn K C_NotValid = true)
    (hc_NotValid : PySem.W.findIn K (.ref C_NotValid) "__class__" = some (some (.builtin "object.__class__")))
    (hm_NotValid : PySem.W.mroIn K C_NotValid (.type "object") = some true)
    (su_NotValid_NotValid : PySem.W.subIn K (.ref C_NotValid) (.ref C_NotValid) = some true)
    (su_NotValid_EspalierError : PySem.W.subIn K (.ref C_NotValid) (.ref C_EspalierError) = some true)
    (fi_NotValid : PySem.W.findIn K (.ref C_NotValid) "__init__" = some (some (.ref f_EspalierError_init)))
    (pg_Layout : PySem.W.plainGet K C_Layout Str.empty = true)
    (hd_Layout : PySem.W.hasDictIn K C_Layout = true)
    (po_Layout : PySem.W.plainOver K C_Layout = true)
    (sa_Layout : PySem.W.findIn K (.ref C_Layout) "__setattr__" = some (some (.builtin "object.__setattr__")))
    (hc_Layout : PySem.W.findIn K (.ref C_Layout) "__class__" = some (some (.builtin "object.__class__")))
    (hm_Layout : PySem.W.mroIn K C_Layout (.type "object") = some true)
    (kl_Layout : PySem.W.subIn K (.ref C_Layout) (.type "list") = some false)
    (mk_Layout : PySem.W.makesIn K C_Layout = true)
    (kC_Layout : PySem.W.keepIn K (.ref C_Layout) = true)
    (nA_Layout_threads : PySem.W.findIn K (.ref C_Layout) "threads" = some none)
    (nA_Layout_pages : PySem.W.findIn K (.ref C_Layout) "pages" = some none)
    (nA_Layout_records : PySem.W.findIn K (.ref C_Layout) "records" = some none)
    (pg_Memory : PySem.W.plainGet K C_Memory Str.empty = true)
    (hd_Memory : PySem.W.hasDictIn K C_Memory = true)
    (po_Memory : PySem.W.plainOver K C_Memory = true)
    (sa_Memory : PySem.W.findIn K (.ref C_Memory) "__setattr__" = some (some (.builtin "object.__setattr__")))
    (hc_Memory : PySem.W.findIn K (.ref C_Memory) "__class__" = some (some (.builtin "object.__class__")))
    (hm_Memory : PySem.W.mroIn K C_Memory (.type "object") = some true)
    (kl_Memory : PySem.W.subIn K (.ref C_Memory) (.type "list") = some false)
    (mk_Memory : PySem.W.makesIn K C_Memory = true)
    (kC_Memory : PySem.W.keepIn K (.ref C_Memory) = true)
    (nA_Memory_layout : PySem.W.findIn K (.ref C_Memory) "layout" = some none)
    (nA_Memory_count : PySem.W.findIn K (.ref C_Memory) "count" = some none)
    (nA_Memory__cells : PySem.W.findIn K (.ref C_Memory) "_cells" = some none)
    (nA_Memory__accesses : PySem.W.findIn K (.ref C_Memory) "_accesses" = some none)
    (ty_EspalierError_init : PySem.W.typeIn K (.ref f_EspalierError_init) = some (.type "function"))
    (l_EspalierError_init : K.lookup f_EspalierError_init = some ⟨oc_EspalierError_init, od_EspalierError_init, .func (PySem.W.fnOf "__init__" "EspalierError.__init__" (defArgs S_EspalierError_init) (defBody S_EspalierError_init) (defScope S_EspalierError_init) .none kV_EspalierError_init dc_EspalierError_init pm_EspalierError_init an_EspalierError_init cd_EspalierError_init ct_EspalierError_init), sl_EspalierError_init⟩)
    (cd_EspalierError_init' : PySem.W.codeIn K cd_EspalierError_init "EspalierError.__init__" = true)
    (kp_EspalierError_init : PySem.W.keepIn K (.ref f_EspalierError_init) = true)
    (a_is_whole : PySem.W.nsIn K mainGlobals "is_whole" = some (some (.ref f_is_whole)))
    (l_is_whole : K.lookup f_is_whole = some ⟨oc_is_whole, od_is_whole, .func (PySem.W.fnOf "is_whole" "is_whole" (defArgs S_is_whole) (defBody S_is_whole) (defScope S_is_whole) .none kV_is_whole dc_is_whole pm_is_whole an_is_whole cd_is_whole ct_is_whole), sl_is_whole⟩)
    (cd_is_whole' : PySem.W.codeIn K cd_is_whole "is_whole" = true)
    (kp_is_whole : PySem.W.keepIn K (.ref f_is_whole) = true)
    (a_is_between : PySem.W.nsIn K mainGlobals "_is_between" = some (some (.ref f_is_between)))
    (l_is_between : K.lookup f_is_between = some ⟨oc_is_between, od_is_between, .func (PySem.W.fnOf "_is_between" "_is_between" (defArgs S_is_between) (defBody S_is_between) (defScope S_is_between) .none kV_is_between dc_is_between pm_is_between an_is_between cd_is_between ct_is_between), sl_is_between⟩)
    (cd_is_between' : PySem.W.codeIn K cd_is_between "_is_between" = true)
    (kp_is_between : PySem.W.keepIn K (.ref f_is_between) = true)
    (a_first_record : PySem.W.nsIn K mainGlobals "_first_record" = some (some (.ref f_first_record)))
    (l_first_record : K.lookup f_first_record = some ⟨oc_first_record, od_first_record, .func (PySem.W.fnOf "_first_record" "_first_record" (defArgs S_first_record) (defBody S_first_record) (defScope S_first_record) .none kV_first_record dc_first_record pm_first_record an_first_record cd_first_record ct_first_record), sl_first_record⟩)
    (cd_first_record' : PySem.W.codeIn K cd_first_record "_first_record" = true)
    (kp_first_record : PySem.W.keepIn K (.ref f_first_record) = true)
    (a_new_cells : PySem.W.nsIn K mainGlobals "_new_cells" = some (some (.ref f_new_cells)))
    (l_new_cells : K.lookup f_new_cells = some ⟨oc_new_cells, od_new_cells, .func (PySem.W.fnOf "_new_cells" "_new_cells" (defArgs S_new_cells) (defBody S_new_cells) (defScope S_new_cells) .none kV_new_cells dc_new_cells pm_new_cells an_new_cells cd_new_cells ct_new_cells), sl_new_cells⟩)
    (cd_new_cells' : PySem.W.codeIn K cd_new_cells "_new_cells" = true)
    (kp_new_cells : PySem.W.keepIn K (.ref f_new_cells) = true)
    (a_Layout_init : PySem.W.findIn K (.ref C_Layout) "__init__" = some (some (.ref f_Layout_init)))
    (i_Layout_init : PySem.W.isFn K (.ref f_Layout_init) = true)
    (l_Layout_init : K.lookup f_Layout_init = some ⟨oc_Layout_init, od_Layout_init, .func (PySem.W.fnOf "__init__" "Layout.__init__" (defArgs S_Layout_init) (defBody S_Layout_init) (defScope S_Layout_init) .none kV_Layout_init dc_Layout_init pm_Layout_init an_Layout_init cd_Layout_init ct_Layout_init), sl_Layout_init⟩)
    (cd_Layout_init' : PySem.W.codeIn K cd_Layout_init "Layout.__init__" = true)
    (kp_Layout_init : PySem.W.keepIn K (.ref f_Layout_init) = true)
    (a_Layout_slot : PySem.W.findIn K (.ref C_Layout) "slot" = some (some (.ref f_Layout_slot)))
    (i_Layout_slot : PySem.W.isFn K (.ref f_Layout_slot) = true)
    (l_Layout_slot : K.lookup f_Layout_slot = some ⟨oc_Layout_slot, od_Layout_slot, .func (PySem.W.fnOf "slot" "Layout.slot" (defArgs S_Layout_slot) (defBody S_Layout_slot) (defScope S_Layout_slot) .none kV_Layout_slot dc_Layout_slot pm_Layout_slot an_Layout_slot cd_Layout_slot ct_Layout_slot), sl_Layout_slot⟩)
    (cd_Layout_slot' : PySem.W.codeIn K cd_Layout_slot "Layout.slot" = true)
    (kp_Layout_slot : PySem.W.keepIn K (.ref f_Layout_slot) = true)
    (a_Layout_word : PySem.W.findIn K (.ref C_Layout) "word" = some (some (.ref f_Layout_word)))
    (i_Layout_word : PySem.W.isFn K (.ref f_Layout_word) = true)
    (l_Layout_word : K.lookup f_Layout_word = some ⟨oc_Layout_word, od_Layout_word, .func (PySem.W.fnOf "word" "Layout.word" (defArgs S_Layout_word) (defBody S_Layout_word) (defScope S_Layout_word) .none kV_Layout_word dc_Layout_word pm_Layout_word an_Layout_word cd_Layout_word ct_Layout_word), sl_Layout_word⟩)
    (cd_Layout_word' : PySem.W.codeIn K cd_Layout_word "Layout.word" = true)
    (kp_Layout_word : PySem.W.keepIn K (.ref f_Layout_word) = true)
    (a_Layout_record : PySem.W.findIn K (.ref C_Layout) "record" = some (some (.ref f_Layout_record)))
    (i_Layout_record : PySem.W.isFn K (.ref f_Layout_record) = true)
    (l_Layout_record : K.lookup f_Layout_record = some ⟨oc_Layout_record, od_Layout_record, .func (PySem.W.fnOf "record" "Layout.record" (defArgs S_Layout_record) (defBody S_Layout_record) (defScope S_Layout_record) .none kV_Layout_record dc_Layout_record pm_Layout_record an_Layout_record cd_Layout_record ct_Layout_record), sl_Layout_record⟩)
    (cd_Layout_record' : PySem.W.codeIn K cd_Layout_record "Layout.record" = true)
    (kp_Layout_record : PySem.W.keepIn K (.ref f_Layout_record) = true)
    (a_Layout_cells : PySem.W.findIn K (.ref C_Layout) "cells" = some (some (.ref f_Layout_cells)))
    (i_Layout_cells : PySem.W.isFn K (.ref f_Layout_cells) = true)
    (l_Layout_cells : K.lookup f_Layout_cells = some ⟨oc_Layout_cells, od_Layout_cells, .func (PySem.W.fnOf "cells" "Layout.cells" (defArgs S_Layout_cells) (defBody S_Layout_cells) (defScope S_Layout_cells) .none kV_Layout_cells dc_Layout_cells pm_Layout_cells an_Layout_cells cd_Layout_cells ct_Layout_cells), sl_Layout_cells⟩)
    (cd_Layout_cells' : PySem.W.codeIn K cd_Layout_cells "Layout.cells" = true)
    (kp_Layout_cells : PySem.W.keepIn K (.ref f_Layout_cells) = true)
    (a_Layout_is_record : PySem.W.findIn K (.ref C_Layout) "is_record" = some (some (.ref f_Layout_is_record)))
    (i_Layout_is_record : PySem.W.isFn K (.ref f_Layout_is_record) = true)
    (l_Layout_is_record : K.lookup f_Layout_is_record = some ⟨oc_Layout_is_record, od_Layout_is_record, .func (PySem.W.fnOf "is_record" "Layout.is_record" (defArgs S_Layout_is_record) (defBody S_Layout_is_record) (defScope S_Layout_is_record) .none kV_Layout_is_record dc_Layout_is_record pm_Layout_is_record an_Layout_is_record cd_Layout_is_record ct_Layout_is_record), sl_Layout_is_record⟩)
    (cd_Layout_is_record' : PySem.W.codeIn K cd_Layout_is_record "Layout.is_record" = true)
    (kp_Layout_is_record : PySem.W.keepIn K (.ref f_Layout_is_record) = true)
    (a_Memory_init : PySem.W.findIn K (.ref C_Memory) "__init__" = some (some (.ref f_Memory_init)))
    (i_Memory_init : PySem.W.isFn K (.ref f_Memory_init) = true)
    (l_Memory_init : K.lookup f_Memory_init = some ⟨oc_Memory_init, od_Memory_init, .func (PySem.W.fnOf "__init__" "Memory.__init__" (defArgs S_Memory_init) (defBody S_Memory_init) (defScope S_Memory_init) .none kV_Memory_init dc_Memory_init pm_Memory_init an_Memory_init cd_Memory_init ct_Memory_init), sl_Memory_init⟩)
    (cd_Memory_init' : PySem.W.codeIn K cd_Memory_init "Memory.__init__" = true)
    (kp_Memory_init : PySem.W.keepIn K (.ref f_Memory_init) = true)
    (a_Memory_peek : PySem.W.findIn K (.ref C_Memory) "peek" = some (some (.ref f_Memory_peek)))
    (i_Memory_peek : PySem.W.isFn K (.ref f_Memory_peek) = true)
    (l_Memory_peek : K.lookup f_Memory_peek = some ⟨oc_Memory_peek, od_Memory_peek, .func (PySem.W.fnOf "peek" "Memory.peek" (defArgs S_Memory_peek) (defBody S_Memory_peek) (defScope S_Memory_peek) .none kV_Memory_peek dc_Memory_peek pm_Memory_peek an_Memory_peek cd_Memory_peek ct_Memory_peek), sl_Memory_peek⟩)
    (cd_Memory_peek' : PySem.W.codeIn K cd_Memory_peek "Memory.peek" = true)
    (kp_Memory_peek : PySem.W.keepIn K (.ref f_Memory_peek) = true)
    (a_Memory_log : PySem.W.findIn K (.ref C_Memory) "log" = some (some (.ref f_Memory_log)))
    (i_Memory_log : PySem.W.isFn K (.ref f_Memory_log) = true)
    (l_Memory_log : K.lookup f_Memory_log = some ⟨oc_Memory_log, od_Memory_log, .func (PySem.W.fnOf "log" "Memory.log" (defArgs S_Memory_log) (defBody S_Memory_log) (defScope S_Memory_log) .none kV_Memory_log dc_Memory_log pm_Memory_log an_Memory_log cd_Memory_log ct_Memory_log), sl_Memory_log⟩)
    (cd_Memory_log' : PySem.W.codeIn K cd_Memory_log "Memory.log" = true)
    (kp_Memory_log : PySem.W.keepIn K (.ref f_Memory_log) = true)
    (a_Memory_check : PySem.W.findIn K (.ref C_Memory) "_check" = some (some (.ref f_Memory_check)))
    (i_Memory_check : PySem.W.isFn K (.ref f_Memory_check) = true)
    (l_Memory_check : K.lookup f_Memory_check = some ⟨oc_Memory_check, od_Memory_check, .func (PySem.W.fnOf "_check" "Memory._check" (defArgs S_Memory_check) (defBody S_Memory_check) (defScope S_Memory_check) .none kV_Memory_check dc_Memory_check pm_Memory_check an_Memory_check cd_Memory_check ct_Memory_check), sl_Memory_check⟩)
    (cd_Memory_check' : PySem.W.codeIn K cd_Memory_check "Memory._check" = true)
    (kp_Memory_check : PySem.W.keepIn K (.ref f_Memory_check) = true)
    (a_law_tape : PySem.W.nsIn K mainGlobals "_law_tape" = some (some (.ref f_law_tape)))
    (l_law_tape : K.lookup f_law_tape = some ⟨oc_law_tape, od_law_tape, .func (PySem.W.fnOf "_law_tape" "_law_tape" (defArgs S_law_tape) (defBody S_law_tape) (defScope S_law_tape) .none kV_law_tape dc_law_tape pm_law_tape an_law_tape cd_law_tape ct_law_tape), sl_law_tape⟩)
    (cd_law_tape' : PySem.W.codeIn K cd_law_tape "_law_tape" = true)
    (kp_law_tape : PySem.W.keepIn K (.ref f_law_tape) = true)
    (a_law_at : PySem.W.nsIn K mainGlobals "_law_at" = some (some (.ref f_law_at)))
    (l_law_at : K.lookup f_law_at = some ⟨oc_law_at, od_law_at, .func (PySem.W.fnOf "_law_at" "_law_at" (defArgs S_law_at) (defBody S_law_at) (defScope S_law_at) .none kV_law_at dc_law_at pm_law_at an_law_at cd_law_at ct_law_at), sl_law_at⟩)
    (cd_law_at' : PySem.W.codeIn K cd_law_at "_law_at" = true)
    (kp_law_at : PySem.W.keepIn K (.ref f_law_at) = true)
    (a_law_told : PySem.W.nsIn K mainGlobals "_law_told" = some (some (.ref f_law_told)))
    (l_law_told : K.lookup f_law_told = some ⟨oc_law_told, od_law_told, .func (PySem.W.fnOf "_law_told" "_law_told" (defArgs S_law_told) (defBody S_law_told) (defScope S_law_told) .none kV_law_told dc_law_told pm_law_told an_law_told cd_law_told ct_law_told), sl_law_told⟩)
    (cd_law_told' : PySem.W.codeIn K cd_law_told "_law_told" = true)
    (kp_law_told : PySem.W.keepIn K (.ref f_law_told) = true)
    (a_law_due : PySem.W.nsIn K mainGlobals "_law_due" = some (some (.ref f_law_due)))
    (l_law_due : K.lookup f_law_due = some ⟨oc_law_due, od_law_due, .func (PySem.W.fnOf "_law_due" "_law_due" (defArgs S_law_due) (defBody S_law_due) (defScope S_law_due) .none kV_law_due dc_law_due pm_law_due an_law_due cd_law_due ct_law_due), sl_law_due⟩)
    (cd_law_due' : PySem.W.codeIn K cd_law_due "_law_due" = true)
    (kp_law_due : PySem.W.keepIn K (.ref f_law_due) = true)
    (a_law_same : PySem.W.nsIn K mainGlobals "_law_same" = some (some (.ref f_law_same)))
    (l_law_same : K.lookup f_law_same = some ⟨oc_law_same, od_law_same, .func (PySem.W.fnOf "_law_same" "_law_same" (defArgs S_law_same) (defBody S_law_same) (defScope S_law_same) .none kV_law_same dc_law_same pm_law_same an_law_same cd_law_same ct_law_same), sl_law_same⟩)
    (cd_law_same' : PySem.W.codeIn K cd_law_same "_law_same" = true)
    (kp_law_same : PySem.W.keepIn K (.ref f_law_same) = true)
    (a_law : PySem.W.nsIn K mainGlobals "law" = some (some (.ref f_law)))
    (l_law : K.lookup f_law = some ⟨oc_law, od_law, .func (PySem.W.fnOf "law" "law" (defArgs S_law) (defBody S_law) (defScope S_law) .none kV_law dc_law pm_law an_law cd_law ct_law), sl_law⟩)
    (cd_law' : PySem.W.codeIn K cd_law "law" = true)
    (kp_law : PySem.W.keepIn K (.ref f_law) = true)
    (z_ValueError : PySem.W.nsIn K mainGlobals "ValueError" = some none)
    (z_abs : PySem.W.nsIn K mainGlobals "abs" = some none)
    (z_bool : PySem.W.nsIn K mainGlobals "bool" = some none)
    (z_int : PySem.W.nsIn K mainGlobals "int" = some none)
    (z_isinstance : PySem.W.nsIn K mainGlobals "isinstance" = some none)
    (z_len : PySem.W.nsIn K mainGlobals "len" = some none)
    (z_list : PySem.W.nsIn K mainGlobals "list" = some none)
    (z_range : PySem.W.nsIn K mainGlobals "range" = some none)
    (z_tuple : PySem.W.nsIn K mainGlobals "tuple" = some none)
    (vV : PySem.W.findCls K (.type "ValueError") (.type "type") "__init__" = some (.val (.builtin "ValueError.__init__")))
    (sp : PySem.W.specialIn K (.builtin "object.__class__") "__get__" = some (some (.builtin "getset_descriptor.__get__")))
    (tk : PySem.W.takesIn K (.builtin "object.__class__") = some true)
    (cn_MOST_THREADS : PySem.W.nsIn K mainGlobals "MOST_THREADS" = some (some (.int 4 t_MOST_THREADS)))
    (cn_LEAST_PAGES : PySem.W.nsIn K mainGlobals "LEAST_PAGES" = some (some (.int 2 t_LEAST_PAGES)))
    (cn_MOST_PAGES : PySem.W.nsIn K mainGlobals "MOST_PAGES" = some (some (.int 48 t_MOST_PAGES)))
    (cn_FIRST_SLOT : PySem.W.nsIn K mainGlobals "FIRST_SLOT" = some (some (.int 1 t_FIRST_SLOT)))
    (cn_FIRST_WORD : PySem.W.nsIn K mainGlobals "FIRST_WORD" = some (some (.int 5 t_FIRST_WORD)))
    : ∃ fd : FuncData, (∀ (s : Shared) (v : Value), BindsTo s fd ⟨[v], []⟩ [("script", v)]) ∧ ∀ base : Heap, K.In base → base.Ns mainGlobals mg → FnOk P w K mg base CX0 30 fa fd ["script"] (spLaw K) := by
  have e := hfa.symm.trans (PySem.W.mg_of X G a_law)
  cases e
  obtain ⟨A, T, e1, e2⟩ := all_mk X G gC_EspalierError gC_NotValid gC_Layout gC_Memory xL_EspalierError sa_EspalierError eC_EspalierError tC_EspalierError kC_EspalierError ga_EspalierError gg_EspalierError hd_EspalierError hc_EspalierError hm_EspalierError su_EspalierError_EspalierError fi_EspalierError xL_NotValid sa_NotValid eC_NotValid tC_NotValid kC_NotValid ga_NotValid gg_NotValid hd_NotValid hc_NotValid hm_NotValid su_NotValid_NotValid su_NotValid_EspalierError fi_NotValid pg_Layout hd_Layout po_Layout sa_Layout hc_Layout hm_Layout kl_Layout mk_Layout kC_Layout nA_Layout_threads nA_Layout_pages nA_Layout_records pg_Memory hd_Memory po_Memory sa_Memory hc_Memory hm_Memory kl_Memory mk_Memory kC_Memory nA_Memory_layout nA_Memory_count nA_Memory__cells nA_Memory__accesses ty_EspalierError_init l_EspalierError_init cd_EspalierError_init' kp_EspalierError_init a_is_whole l_is_whole cd_is_whole' kp_is_whole a_is_between l_is_between cd_is_between' kp_is_between a_first_record l_first_record cd_first_record' kp_first_record a_new_cells l_new_cells cd_new_cells' kp_new_cells a_Layout_init i_Layout_init l_Layout_init cd_Layout_init' kp_Layout_init a_Layout_slot i_Layout_slot l_Layout_slot cd_Layout_slot' kp_Layout_slot a_Layout_word i_Layout_word l_Layout_word cd_Layout_word' kp_Layout_word a_Layout_record i_Layout_record l_Layout_record cd_Layout_record' kp_Layout_record a_Layout_cells i_Layout_cells l_Layout_cells cd_Layout_cells' kp_Layout_cells a_Layout_is_record i_Layout_is_record l_Layout_is_record cd_Layout_is_record' kp_Layout_is_record a_Memory_init i_Memory_init l_Memory_init cd_Memory_init' kp_Memory_init a_Memory_peek i_Memory_peek l_Memory_peek cd_Memory_peek' kp_Memory_peek a_Memory_log i_Memory_log l_Memory_log cd_Memory_log' kp_Memory_log a_Memory_check i_Memory_check l_Memory_check cd_Memory_check' kp_Memory_check a_law_tape l_law_tape cd_law_tape' kp_law_tape a_law_at l_law_at cd_law_at' kp_law_at a_law_told l_law_told cd_law_told' kp_law_told a_law_due l_law_due cd_law_due' kp_law_due a_law_same l_law_same cd_law_same' kp_law_same a_law l_law cd_law' kp_law z_ValueError z_abs z_bool z_int z_isinstance z_len z_list z_range z_tuple vV sp tk cn_MOST_THREADS cn_LEAST_PAGES cn_MOST_PAGES cn_FIRST_SLOT cn_FIRST_WORD
  have F := ok_law (P := P) (w := w) T
  rw [e1, e2] at F
  exact ⟨_, fun s v => .of_eq rfl, fun base _ _ => (F base).mono (by decide)⟩
theorem walk {l : PySem.W.OpenLaw} {q : Program} {loose : List Str} {XP : (Str → Option Value) → Heap → Prop} {YP : World → Heap → Prop} {d : DefRec} {K : Params → PySem.W.Frag} (hn : l.most = some 63) (hdf : d.params.defaults = [])
    (hY : ∀ (w : World) (h : Heap), YP w h → (K w.params).In h)
    (F : ∀ (w : World) (mg : Str → Option Value) (fa : Addr) (h : Heap), (K w.params).In h → h.Ns mainGlobals mg → mg d.name = some (.ref fa) →
      ∃ fd : FuncData, (∀ (s : Shared) (u : Value), BindsTo s fd ⟨[u], []⟩ [("script", u)]) ∧ ∀ base : Heap, (K w.params).In base → base.Ns mainGlobals mg → FnOk l.prog w (K w.params) mg base CX0 30 fa fd ["script"] (spLaw (K w.params))) :
    PySem.W.WalkO q loose XP YP l.row.toRowW d [] (fun f vs => PySem.call f vs) :=
  L2.walk_of (n := 63) (k := 30) (x := "script") (CX := fun _ => CX0) (sp := fun w => spLaw (K w.params)) hn (by decide) hdf ⟨rfl, by decide, by decide⟩ hY F (fun _ _ a ns hl _ hS => ⟨a, ns, rfl, hS, hl, fun _ => rfl⟩) fun _ _ _ _ _ z => z
end K01
open PySem PySem.W PyProof.Rows
set_option maxRecDepth 100000 in
set_option maxHeartbeats 0 in
theorem K01.whole : PySem.Challenge.rw_espalier_k01_layout.Holds := by
  w_on; o_law; k_head; (case hw => w_witness2)
  k_fill
  refine K01.walk (l := PySem.Challenge.rw_espalier_k01_layout) rfl rfl (fun w h Y => PySem.W.kIn_of Y) ?F
  case F =>
    intro w mg fa h KX G hmg
    refine' K01.fin_mk KX G hmg ?gC_EspalierError ?gC_NotValid ?gC_Layout ?gC_Memory ?xL_EspalierError ?sa_EspalierError ?eC_EspalierError ?tC_EspalierError ?kC_EspalierError ?ga_EspalierError ?gg_EspalierError ?hd_EspalierError ?hc_EspalierError ?hm_EspalierError ?su_EspalierError_EspalierError ?fi_EspalierError ?xL_NotValid ?sa_NotValid ?eC_NotValid ?tC_NotValid ?kC_NotValid ?ga_NotValid ?gg_NotValid ?hd_NotValid ?hc_NotValid ?hm_NotValid ?su_NotValid_NotValid ?su_NotValid_EspalierError ?fi_NotValid ?pg_Layout ?hd_Layout ?po_Layout ?sa_Layout ?hc_Layout ?hm_Layout ?kl_Layout ?mk_Layout ?kC_Layout ?nA_Layout_threads ?nA_Layout_pages ?nA_Layout_records ?pg_Memory ?hd_Memory ?po_Memory ?sa_Memory ?hc_Memory ?hm_Memory ?kl_Memory ?mk_Memory ?kC_Memory ?nA_Memory_layout ?nA_Memory_count ?nA_Memory__cells ?nA_Memory__accesses ?ty_EspalierError_init ?l_EspalierError_init ?cd_EspalierError_initq ?kp_EspalierError_init ?a_is_whole ?l_is_whole ?cd_is_wholeq ?kp_is_whole ?a_is_between ?l_is_between ?cd_is_betweenq ?kp_is_between ?a_first_record ?l_first_record ?cd_first_recordq ?kp_first_record ?a_new_cells ?l_new_cells ?cd_new_cellsq ?kp_new_cells ?a_Layout_init ?i_Layout_init ?l_Layout_init ?cd_Layout_initq ?kp_Layout_init ?a_Layout_slot ?i_Layout_slot ?l_Layout_slot ?cd_Layout_slotq ?kp_Layout_slot ?a_Layout_word ?i_Layout_word ?l_Layout_word ?cd_Layout_wordq ?kp_Layout_word ?a_Layout_record ?i_Layout_record ?l_Layout_record ?cd_Layout_recordq ?kp_Layout_record ?a_Layout_cells ?i_Layout_cells ?l_Layout_cells ?cd_Layout_cellsq ?kp_Layout_cells ?a_Layout_is_record ?i_Layout_is_record ?l_Layout_is_record ?cd_Layout_is_recordq ?kp_Layout_is_record ?a_Memory_init ?i_Memory_init ?l_Memory_init ?cd_Memory_initq ?kp_Memory_init ?a_Memory_peek ?i_Memory_peek ?l_Memory_peek ?cd_Memory_peekq ?kp_Memory_peek ?a_Memory_log ?i_Memory_log ?l_Memory_log ?cd_Memory_logq ?kp_Memory_log ?a_Memory_check ?i_Memory_check ?l_Memory_check ?cd_Memory_checkq ?kp_Memory_check ?a_law_tape ?l_law_tape ?cd_law_tapeq ?kp_law_tape ?a_law_at ?l_law_at ?cd_law_atq ?kp_law_at ?a_law_told ?l_law_told ?cd_law_toldq ?kp_law_told ?a_law_due ?l_law_due ?cd_law_dueq ?kp_law_due ?a_law_same ?l_law_same ?cd_law_sameq ?kp_law_same ?a_law ?l_law ?cd_lawq ?kp_law ?z_ValueError ?z_abs ?z_bool ?z_int ?z_isinstance ?z_len ?z_list ?z_range ?z_tuple ?vV ?sp ?tk ?cn_MOST_THREADS ?cn_LEAST_PAGES ?cn_MOST_PAGES ?cn_FIRST_SLOT ?cn_FIRST_WORD
    (case gC_EspalierError => k_is)
    (case gC_NotValid => k_is)
    (case gC_Layout => k_is)
    (case gC_Memory => k_is)
    (case xL_EspalierError => k_is)
    (case sa_EspalierError => k_is)
    (case eC_EspalierError => k_is)
    (case tC_EspalierError => k_is)
    (case kC_EspalierError => k_is)
    (case ga_EspalierError => k_is)
    (case gg_EspalierError => k_is)
    (case hd_EspalierError => k_is)
    (case hc_EspalierError => k_is)
    (case hm_EspalierError => k_is)
    (case su_EspalierError_EspalierError => k_is)
    (case fi_EspalierError => k_is)
    (case xL_NotValid => k_is)
    (case sa_NotValid => k_is)
    (case eC_NotValid => k_is)
    (case tC_NotValid => k_is)
    (case kC_NotValid => k_is)
    (case ga_NotValid => k_is)
    (case gg_NotValid => k_is)
    (case hd_NotValid => k_is)
    (case hc_NotValid => k_is)
    (case hm_NotValid => k_is)
    (case su_NotValid_NotValid => k_is)
    (case su_NotValid_EspalierError => k_is)
    (case fi_NotValid => k_is)
    (case pg_Layout => k_is)
    (case hd_Layout => k_is)
    (case po_Layout => k_is)
    (case sa_Layout => k_is)
    (case hc_Layout => k_is)
    (case hm_Layout => k_is)
    (case kl_Layout => k_is)
    (case mk_Layout => k_is)
    (case kC_Layout => k_is)
    (case nA_Layout_threads => k_is)
    (case nA_Layout_pages => k_is)
    (case nA_Layout_records => k_is)
    (case pg_Memory => k_is)
    (case hd_Memory => k_is)
    (case po_Memory => k_is)
    (case sa_Memory => k_is)
    (case hc_Memory => k_is)
    (case hm_Memory => k_is)
    (case kl_Memory => k_is)
    (case mk_Memory => k_is)
    (case kC_Memory => k_is)
    (case nA_Memory_layout => k_is)
    (case nA_Memory_count => k_is)
    (case nA_Memory__cells => k_is)
    (case nA_Memory__accesses => k_is)
    (case ty_EspalierError_init => k_is)
    (case l_EspalierError_init => k_is)
    (case cd_EspalierError_initq => k_is)
    (case kp_EspalierError_init => k_is)
    (case a_is_whole => k_is)
    (case l_is_whole => k_is)
    (case cd_is_wholeq => k_is)
    (case kp_is_whole => k_is)
    (case a_is_between => k_is)
    (case l_is_between => k_is)
    (case cd_is_betweenq => k_is)
    (case kp_is_between => k_is)
    (case a_first_record => k_is)
    (case l_first_record => k_is)
    (case cd_first_recordq => k_is)
    (case kp_first_record => k_is)
    (case a_new_cells => k_is)
    (case l_new_cells => k_is)
    (case cd_new_cellsq => k_is)
    (case kp_new_cells => k_is)
    (case a_Layout_init => k_is)
    (case i_Layout_init => k_is)
    (case l_Layout_init => k_is)
    (case cd_Layout_initq => k_is)
    (case kp_Layout_init => k_is)
    (case a_Layout_slot => k_is)
    (case i_Layout_slot => k_is)
    (case l_Layout_slot => k_is)
    (case cd_Layout_slotq => k_is)
    (case kp_Layout_slot => k_is)
    (case a_Layout_word => k_is)
    (case i_Layout_word => k_is)
    (case l_Layout_word => k_is)
    (case cd_Layout_wordq => k_is)
    (case kp_Layout_word => k_is)
    (case a_Layout_record => k_is)
    (case i_Layout_record => k_is)
    (case l_Layout_record => k_is)
    (case cd_Layout_recordq => k_is)
    (case kp_Layout_record => k_is)
    (case a_Layout_cells => k_is)
    (case i_Layout_cells => k_is)
    (case l_Layout_cells => k_is)
    (case cd_Layout_cellsq => k_is)
    (case kp_Layout_cells => k_is)
    (case a_Layout_is_record => k_is)
    (case i_Layout_is_record => k_is)
    (case l_Layout_is_record => k_is)
    (case cd_Layout_is_recordq => k_is)
    (case kp_Layout_is_record => k_is)
    (case a_Memory_init => k_is)
    (case i_Memory_init => k_is)
    (case l_Memory_init => k_is)
    (case cd_Memory_initq => k_is)
    (case kp_Memory_init => k_is)
    (case a_Memory_peek => k_is)
    (case i_Memory_peek => k_is)
    (case l_Memory_peek => k_is)
    (case cd_Memory_peekq => k_is)
    (case kp_Memory_peek => k_is)
    (case a_Memory_log => k_is)
    (case i_Memory_log => k_is)
    (case l_Memory_log => k_is)
    (case cd_Memory_logq => k_is)
    (case kp_Memory_log => k_is)
    (case a_Memory_check => k_is)
    (case i_Memory_check => k_is)
    (case l_Memory_check => k_is)
    (case cd_Memory_checkq => k_is)
    (case kp_Memory_check => k_is)
    (case a_law_tape => k_is)
    (case l_law_tape => k_is)
    (case cd_law_tapeq => k_is)
    (case kp_law_tape => k_is)
    (case a_law_at => k_is)
    (case l_law_at => k_is)
    (case cd_law_atq => k_is)
    (case kp_law_at => k_is)
    (case a_law_told => k_is)
    (case l_law_told => k_is)
    (case cd_law_toldq => k_is)
    (case kp_law_told => k_is)
    (case a_law_due => k_is)
    (case l_law_due => k_is)
    (case cd_law_dueq => k_is)
    (case kp_law_due => k_is)
    (case a_law_same => k_is)
    (case l_law_same => k_is)
    (case cd_law_sameq => k_is)
    (case kp_law_same => k_is)
    (case a_law => k_is)
    (case l_law => k_is)
    (case cd_lawq => k_is)
    (case kp_law => k_is)
    (case z_ValueError => k_is)
    (case z_abs => k_is)
    (case z_bool => k_is)
    (case z_int => k_is)
    (case z_isinstance => k_is)
    (case z_len => k_is)
    (case z_list => k_is)
    (case z_range => k_is)
    (case z_tuple => k_is)
    (case vV => k_is)
    (case sp => k_is)
    (case tk => k_is)
    (case cn_MOST_THREADS => k_is)
    (case cn_LEAST_PAGES => k_is)
    (case cn_MOST_PAGES => k_is)
    (case cn_FIRST_SLOT => k_is)
    (case cn_FIRST_WORD => k_is)
theorem PySem.Challenge.cw_espalier_k01_layout_holds : PySem.Challenge.rw_espalier_k01_layout.Holds :=
  K01.whole
#print axioms PySem.Challenge.cw_espalier_k01_layout_holds

