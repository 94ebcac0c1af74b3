import PyProof.Rows.All
import Wide.All
import OpenK.AllK
import Wide.FinOn
import HandS.ForMost
import HandS.ForExc
import HandS.IsInst
import HandS.ExcInit
import HandS.ExcIs
import HandS.TupLe
import HandS.Flow
import HandS.Codes
import HandS.TupAny
import HandS.Dict
import HandS.Zip
import KE.KIndexOf
import HandS.WordsExc
import HandS.Deep
import HandS.Walk
import HandS.WordsDict
import HandS.More
import HandS.Conv
import HandS.Sort
import HandS.ExcBuiltin
import HandS.CallLocal
import KE.SortData
import HandS.DictComp
import PySem.Challenge.RW_espalier_k07_stores
set_option Elab.async false
set_option linter.all false
set_option maxRecDepth 100000
set_option maxHeartbeats 4000000
namespace Esp
open PySem PySem.Spec PyProof.Rows L2

section
variable {fs : List Addr} {H1 H2 : Hp} {h0 h2 G : Heap} {a C : Addr}
theorem un_forget (u : Un fs [] H1 H2 h0 h2) (big : h0.objs.size ≤ a) (hn : H1 a = none) (g : ∀ b, b ≠ a → G.get? b = h2.get? b) : Un fs [] H1 (del H2 a) h0 G := by
  have old : ∀ b o, h0.get? b = some o → b ≠ a := fun b o z e => absurd (Nat.lt_of_lt_of_le (Heap.lt_size z) big) (by rw [e]; exact Nat.lt_irrefl _)
  have seen : ∀ b o, H1 b = some o → b ≠ a := fun b o z e => by
    rw [e, hn] at z
    cases z
  refine ⟨?_, ?_, ?_, ?_, ?_, ?_, ?_⟩
  · intro b o z n p q
    rw [g b (old b o z)]
    exact u.keep b o z n p q
  · intro b o z n p q
    rw [g b (old b o z)]
    exact u.slot b o z n p q
  · intro b o z n q
    rw [del_ne (old b o z)]
    exact u.free b o z n q
  · intro b o z q
    rw [g b (old b o z)]
    exact u.there b o z q
  · intro b xs z
    rw [del_ne (seen b _ z)]
    exact u.tups b xs z
  · intro b o v z
    rw [del_ne (seen b _ z)]
    exact u.frzs b o v z
  · intro b ps z
    rw [del_ne (seen b _ z)]
    exact u.tbls b ps z
theorem hok_forget {P : Program} {w : World} (ok : HOk P w H2 h2) (ea : H2 a = some (exo a C none)) (g : ∀ b, b ≠ a → G.get? b = h2.get? b) : HOk P w (del H2 a) G := by
  intro b o z
  by_cases e : b = a
  · rw [e, del_same] at z
    cases z
  · rw [del_ne e] at z
    have far : ∀ c u, H2 c = some u → exo a C none ≠ u → c ≠ a := fun c u hc d => at_ne ea hc d
    refine (ok b o z).stay (fun c v hc y => ?_) (fun c hc => ?_) fun c xs hc => ?_
    · have nc : c ≠ a := by
        rcases hc with hc | hc
        · rw [hc]
          exact e
        · exact far c _ hc exo_own
      rw [g c nc]
      exact y
    · rw [del_ne (far c _ hc exo_own)]
      exact hc
    · rw [del_ne (far c _ hc exo_tup)]
      exact hc
theorem del_upd {H : Hp} {a : Addr} {o : HO} (h : H a = none) : del (upd H a o) a = H := by
  funext b
  by_cases e : b = a
  · rw [e, del_same, h]
  · rw [del_ne e, upd_ne e]
end

def tMkV (C : Addr) (sp : Sp) : L2.St → Hp → XK → Prop := fun _ H Q => ∀ a, H a = none → sp [.ref a] (upd H a (exo a C none))
  (fun v H2 => v = .non ∧ H2 a = some (exo a C none) ∧ Q (.ref C) none (del H2 a)) (fun _ _ _ => False)
section
variable {X : Cx}
theorem pmk_v {CX : CXT} {x : Str} {C fI : Addr} {k : Nat} {fd : FuncData} {ps : List Str} {sp : Sp} {p pos : Pos} (T : OexC X.K C) (iC : PySem.W.findIn X.K (.ref C) "__init__" = some (some (.ref fI))) (tI : PySem.W.typeIn X.K (.ref fI) = some (.type "function"))
    (F1 : FnOk X.prog X.w X.K X.mg X.base CX k fI fd ps sp) (hr : Room (k + 1) X.A) (hb : Binds X.K fd ps []) (hx : Passes CX X (fun _ _ _ => False)) (hg : Gl X x) (hm : X.mg x = some (.ref C))
    (hdb : (x == ("__debug__" : Str)) = false := by decide) : PMk X (.Call (.Name x p) [] [] pos) (tMkV C sp) := by
  intro pins st σ H Q I ask
  obtain ⟨nm, qn, N, bs, bm, sn, sub, ab, col, dd, e0, e1, e2, e3, e5, hC, hbm⟩ := T.cls
  refine wpAny_Call_Name_kw (ld_glob I hg hm (PySem.W.callWith_K0 I.kIn T.kC ?_) hdb)
  show wpAny _ _ (call (.ref C) []) _ _ _
  obtain ⟨h0, gs, dr, tk, os⟩ := st
  -- the empty tuple of its arguments, then the exception itself
  obtain ⟨a, ea⟩ : ∃ a, a = h0.objs.size + 1 := ⟨_, rfl⟩
  have big : h0.objs.size ≤ a := by rw [ea]; exact Nat.le_succ _
  have hn : H a = none := I.hok.fresh big
  obtain ⟨h1, eh⟩ : ∃ h1, h1 = (h0.push (PySem.W.kdv_tup [])).push (PySem.HandSPX.excO C h0.objs.size) := ⟨_, rfl⟩
  have kp : ∀ b o, h0.get? b = some o → h1.get? b = some o := fun b o z => by
    rw [eh]
    exact Heap.get?_push_of_some _ (Heap.get?_push_of_some _ z)
  have here : h1.get? a = some (PySem.HandSPX.excO C h0.objs.size) := by
    subst eh ea
    heap_get
  have J : Inv X pins σ (upd H a (exo a C none)) ⟨h1, gs, dr, tk, os⟩ := I.laid (t' := tk) (a := a) (o := exo a C none) (h' := h1) kp big (exo_ok here)
  have rel : Vals [V.ref a] [Value.ref a] := .cons rfl .nil
  have hq := ask a hn
  have hl : ([Value.ref a] ++ []).length = ps.length := (F1.len _ _ _ _ hq).symm ▸ rfl
  refine wpAny_call (PySem.HandSPX.call_own F.excBase_ValueError (fun Y => PySem.HandSPX.refsVE_contains Y bm hbm) (I.kIn _ _ hC) (PySem.W.looks_findIn I.kIn iC) (fun self => PySem.W.bind_fn I.kIn self tI) (Nat.zero_le _) ?_)
  show codeAny (model X.prog X.w) _ (.call (.ref fI) ⟨Value.ref (h0.objs.size + 1) :: [], []⟩) _ ⟨(h0.push (PySem.W.kdv_tup [])).push (PySem.HandSPX.excO C h0.objs.size), gs, dr, tk, os⟩
  rw [← eh, ← ea]
  refine codeAny_mono (F1.run _ X.stack _ _ ⟨[Value.ref a], []⟩ [Value.ref a] _ _ (fun _ _ _ => False) (hr.make C [] []) (J.env0.make C [] []) (hb _ [Value.ref a] J.kIn hl) rel hq) fun r s' got => ?_
  match r, got with
  | .error er, got => exact hx pins σ _ _ er s' J got
  | .ok (.ret u), got =>
    obtain ⟨v, H2, os2, bare2, un2, ok2, rv, ev, at2, q2⟩ := got
    subst ev
    obtain ⟨h2, g2, d2, t2, os'⟩ := s'
    obtain ⟨t0, hoe⟩ := exo_at ok2 at2
    obtain ⟨G, gk, ge⟩ := restrict h2 fun b => decide (b ≠ a)
    have g1 : ∀ b, b ≠ a → G.get? b = h2.get? b := fun b n => gk b (decide_eq_true n)
    have g0 : G.get? a = none := ge a (by simp)
    have gone : ∀ b o, G.get? b = some o → h2.get? b = some o := fun b o z => by
      by_cases e : b = a
      · rw [e, g0] at z
        cases z
      · rw [← g1 b e]
        exact z
    have un0 : Un (frs X.stack) [] H H2 h0 h2 := (Un.laid (o := exo a C none) kp big hn).trans un2
    have J2 : Inv X pins σ (del H2 a) ⟨G, g2, d2, t2, os'⟩ := I.call' (s' := ⟨G, g2, d2, t2, os'⟩) (ch := []) os2 (un_forget un0 big hn g1) (hok_forget ok2 at2 g1) bare2 fun b z => absurd z List.not_mem_nil
    exact ⟨rv, a, _, _, ⟨G, g2, d2, t2, os'⟩, _, .ref C, none, rfl, J2, gone, g0, hoe, ⟨rfl, rfl⟩, rfl, rfl, del_same, rfl, bare2, raises_own T.exC T.tyC, q2⟩
  | .ok .next, got => exact False.elim got
  | .ok .brk, got => exact False.elim got
  | .ok .cont, got => exact False.elim got
end
/-- the promise of an __init__ that says ValueError.__init__(self) alone -/
def spVI (K : PySem.W.Frag) : Sp := fun vs H Q _ => ∃ (a C : Addr), vs = [.ref a] ∧ OexC K C ∧ H a = some (exo a C none) ∧ Q .non H
/-- the reading of such a raise -/
theorem mkV_ask {K : PySem.W.Frag} {C : Addr} {σ : L2.St} {H : Hp} {Q : XK} (T : OexC K C) (h : Q (.ref C) none H) : tMkV C (spVI K) σ H Q := fun a ha => by
  refine ⟨a, C, rfl, T, upd_same, rfl, upd_same, ?_⟩
  rw [del_upd ha]
  exact h

def EAll (n : Nat) (W : WX) : XK := fun cls d H => ∀ σ : L2.St, σ.length = n → W cls d σ H
theorem passAll {X : Cx} {W : WX} {n : Nat} (hn : X.N.length = n) (tk : Takes X W) : Passes (L2.CX X.prog X.w) X (EAll n W) := fun _ σ _ _ e s' I c => tk e s' (XE.of_call I (fun _ _ _ h => h σ (I.len.trans hn)) c)
/-- .. in a def that may raise: its own wish -/
theorem passUp {X : Cx} {E : XK} (tk : Takes X fun cls d _ H => E cls d H) : Passes (L2.CX X.prog X.w) X E := passes_call tk fun _ _ _ _ h => h

def rIsX (K : PySem.W.Frag) (D a : Addr) (cls : Value) (d : Option Addr) : List V → Hp → VK → Prop := fun xs H Q => cls = .ref D ∧ d = none ∧ rIsE K D a xs H Q
theorem call_isX {X : Cx} {a D : Addr} {oe : Obj} {cls : Value} {d : Option Addr} {pn : List (Addr × Obj)} (C : ExcC X.K D) (hz : Zc cls d oe) (hf : ∃ vs, oe.data = .fields vs) : CallR (X.suite a ((a, oe) :: pn)) (.builtin "isinstance") (rIsX X.K D a cls d) := by
  intro pins s σ H xs us Q I r h
  obtain ⟨rfl, rfl, h⟩ := h
  exact call_isE C hz hf pins s σ H xs us Q I r h

def rInT (K : PySem.W.Frag) : R2 := fun x y H Q => ∃ d ds, Dp K H x d ∧ Dp K H y (.tuple ds) ∧ SeqAt.shaped d = true ∧ SeqAt.shaped (.tuple ds) = true ∧ Q (.bl (ds.any fun z => PyData.eqv z d)) H
theorem op_inT {X : Cx} (hu : X.A.units + 66 < cLine) : OpR X (compareOp .In) (rInT X.K) := by
  intro pins s σ H x y v u Q I rx ry ⟨d, ds, hd, he, sd, se, q⟩
  obtain ⟨as, r1⟩ := Dp.reads I d x v hd rx
  obtain ⟨bs, r2⟩ := Dp.reads I (.tuple ds) y u he ry
  have deep := SeqAt.depth_of_shaped sd
  have low : min (PyData.depthAll ds) d.depth ≤ d.depth := Nat.min_le_right _ _
  exact SeqAt.in_tuple_reads r2 r1 (SeqAt.canLay_of_shaped se) (SeqAt.canLay_of_shaped sd) (by omega) ⟨.bl _, H, I, rfl, q⟩

theorem room66 {k : Nat} {A : Around} (hr : Room k A) : A.units + 66 < cLine := by
  have z := hr.un
  omega

theorem pe_gi {X : Cx} {x : Str} {i : Int} {t : Tok} {pos : Pos} (hg : Gl X x) (hm : X.mg x = some (.int i t)) (hd : (x == ("__debug__" : Str)) = false := by decide) : PE X (.Name x pos) (tC (.int i)) := pe_glob hg hm ⟨t, rfl⟩ hd

section
variable {X : Cx} {tg : Expr}
theorem cr_range1 : CallR X (.type "range") (fun vs H Q => ∃ j, vs = [V.int j] ∧ ∀ p, H p = none → Q (.ref p) (upd H p (.rng 0 j))) := by
  intro pins s σ H vs us Q I r ⟨j, ev, q⟩
  subst ev
  obtain ⟨u, eu, t, et⟩ := vals1 r
  subst eu et
  have fresh : H s.heap.objs.size = none := I.hok.fresh (Nat.le_refl _)
  refine call_range_1 ⟨.ref s.heap.objs.size, upd H s.heap.objs.size (.rng 0 j), ?_, rfl, q _ fresh⟩
  exact I.laid (fun b o z => Heap.get?_push_of_some _ z) (Nat.le_refl _) ⟨_, t, _, Heap.get?_push_size _ rfl⟩
/-- a range object that a name holds, walked -/
def iRngV (te : TE) : TI := fun σ H R => te σ H fun x H1 => ∃ a lo hi, x = .ref a ∧ H1 a = some (.rng lo hi) ∧ (-(2 ^ 62) ≤ lo ∧ lo < 2 ^ 62 ∧ -(2 ^ 62) ≤ hi ∧ hi < 2 ^ 62) ∧ R (Itr lo (hi - lo).toNat) H1
theorem pi_rngV {l : Expr} {te : TE} (hl : PE X l te) : PI X tg l (iRngV te) := by
  constructor
  intro pins s σ H R I h
  refine thn (hl.run pins s σ H _ I h) fun v s1 hv => ?_
  obtain ⟨x, H1, J, rx, a, lo, hi, ex, ha, ⟨b1, b2, b3, b4⟩, q⟩ := hv
  subst ex
  obtain rfl : v = Value.ref a := rx
  obtain ⟨t, u, w, ho⟩ := (show ObjOk X.prog X.w H1 s1.heap a (.rng lo hi) from J.hok a _ ha)
  refine wpAny_pyIter_range (r := a) (a := lo) (b := hi) (c := 1) (t := t) (u := u) (v := w) ho (small_one b1 b2 b3 b4) ?_
  refine ⟨s1.heap.objs.size, [s1.heap.objs.size], _, _, H1, rfl, J.kept (t' := s1.toks) fun b o z => Heap.get?_push_of_some _ z, turn_range _ lo (hi - lo).toNat, ?_, ?_, q⟩
  · have z1 : lo + ((0 : Nat) : Int) * 1 = lo := by omega
    have z2 : ((hi - lo).toNat : Int) - ((0 : Nat) : Int) = Builtin.Range.rangeSize lo hi 1 := by
      rw [rangeSize_one]
      split <;> omega
    simp only [z1, z2]
    exact Heap.get?_push_size _ rfl
  · intro b hb
    rw [List.mem_singleton.mp hb]
    exact J.fpOk (Nat.le_refl _) (J.hok.fresh (Nat.le_refl _))
end
end Esp
set_option maxRecDepth 100000
set_option maxHeartbeats 4000000
namespace Esp
open PySem PySem.Spec PyProof.Rows L2
/-- a tuple whose object is known, and bears no dict -/
def TupN (H : Hp) (a : Addr) (xs : List V) : Prop := ∃ o : Obj, o.dict = none ∧ H a = some (.frz o (.tup xs))
theorem TupN.sq {K : PySem.W.Frag} {H : Hp} {a : Addr} {xs : List V} (h : TupN H a xs) : SqT K H a xs := let ⟨o, _, e⟩ := h; .inl (.inr ⟨o, e⟩)
theorem TupN.same {H H' : Hp} {a : Addr} {xs : List V} (h : TupN H a xs) (s : Same H H') : TupN H' a xs := let ⟨o, n, e⟩ := h; ⟨o, n, s _ _ e⟩
theorem TupN.new {H : Hp} {a : Addr} {xs : List V} {o : Obj} (n : o.dict = none) : TupN (upd H a (.frz o (.tup xs))) a xs := ⟨o, n, upd_same⟩
theorem TupN.some {H : Hp} {a : Addr} {xs : List V} (h : TupN H a xs) : ∃ u, H a = Option.some u := let ⟨o, n, e⟩ := h; ⟨_, e⟩
mutual
/-- v is the data d, by tuples alone -/
inductive Td (H : Hp) : V → PyData → Prop
  | non : Td H .non .none
  | bl (b : Bool) : Td H (.bl b) (.bool b)
  | int (i : Int) : Td H (.int i) (.int i)
  | str (x : Str) : Td H (.str x) (.str x)
  | tup {a : Addr} {xs : List V} {ds : List PyData} : TupN H a xs → TdAll H xs ds → Td H (.ref a) (.tuple ds)
inductive TdAll (H : Hp) : List V → List PyData → Prop
  | nil : TdAll H [] []
  | cons {v : V} {vs : List V} {d : PyData} {ds : List PyData} : Td H v d → TdAll H vs ds → TdAll H (v :: vs) (d :: ds)
end
/-- the tuples are as they were -/
def Tups (H H' : Hp) : Prop := ∀ b xs, TupN H b xs → TupN H' b xs
theorem Tups.refl (H : Hp) : Tups H H := fun _ _ h => h
theorem Tups.trans {H H1 H2 : Hp} (a : Tups H H1) (b : Tups H1 H2) : Tups H H2 := fun c xs h => b c xs (a c xs h)
theorem Tups.of {H H' : Hp} (s : Same H H') : Tups H H' := fun b xs h => h.same s
/-- no tuple of ours -/
abbrev NoTup (o : HO) : Prop := ∀ z : Obj × List V, o ≠ .frz z.1 (.tup z.2)
/-- an object that is no tuple is changed -/
theorem Tups.wr {H : Hp} {a : Addr} {o u : HO} (h : H a = some o) (n : NoTup o) : Tups H (upd H a u) := fun b xs q => by
  obtain ⟨q, hq, e⟩ := q
  have hb : b ≠ a := fun z => by
    rw [z, h] at e
    exact n (q, xs) (Option.some.inj e)
  exact ⟨q, hq, by rw [upd_ne hb]; exact e⟩
theorem Same.new {H : Hp} {a : Addr} {o : HO} (h : H a = none) : Same H (upd H a o) := fun b u q => by
  rw [upd_ne (ne_of_none q h)]
  exact q
theorem Tups.new {H : Hp} {a : Addr} {o : HO} (h : H a = none) : Tups H (upd H a o) := Tups.of (Same.new h)
mutual
theorem Td.mono {H H' : Hp} (t : Tups H H') : ∀ (d : PyData) (v : V), Td H v d → Td H' v d
  | .none, _, h => by
    cases h
    exact .non
  | .bool _, _, h => by
    cases h
    exact .bl _
  | .int _, _, h => by
    cases h
    exact .int _
  | .str _, _, h => by
    cases h
    exact .str _
  | .tuple ds, _, h => by
    cases h with
    | tup hs ha => exact .tup (t _ _ hs) (TdAll.mono t ds _ ha)
  | .list _, _, h => by cases h
  | .dict _, _, h => by cases h
theorem TdAll.mono {H H' : Hp} (t : Tups H H') : ∀ (ds : List PyData) (vs : List V), TdAll H vs ds → TdAll H' vs ds
  | [], _, h => by
    cases h
    exact .nil
  | d :: ds, _, h => by
    cases h with
    | cons h1 h2 => exact .cons (Td.mono t d _ h1) (TdAll.mono t ds _ h2)
end
theorem Td.up {H H' : Hp} {v : V} {d : PyData} (h : Td H v d) (t : Tups H H') : Td H' v d := Td.mono t d v h
theorem TdAll.up {H H' : Hp} {v : List V} {d : List PyData} (h : TdAll H v d) (t : Tups H H') : TdAll H' v d := TdAll.mono t d v h
mutual
theorem Td.dp {K : PySem.W.Frag} {H : Hp} : ∀ (d : PyData) (v : V), Td H v d → Dp K H v d
  | .none, _, h => by
    cases h
    exact .non
  | .bool _, _, h => by
    cases h
    exact .bl _
  | .int _, _, h => by
    cases h
    exact .int _
  | .str _, _, h => by
    cases h
    exact .str _
  | .tuple ds, _, h => by
    cases h with
    | tup hs ha => exact .tup hs.sq (TdAll.dp ds _ ha)
  | .list _, _, h => by cases h
  | .dict _, _, h => by cases h
theorem TdAll.dp {K : PySem.W.Frag} {H : Hp} : ∀ (ds : List PyData) (vs : List V), TdAll H vs ds → DpAll K H vs ds
  | [], _, h => by
    cases h
    exact .nil
  | d :: ds, _, h => by
    cases h with
    | cons h1 h2 => exact .cons (Td.dp d _ h1) (TdAll.dp ds _ h2)
end
theorem Td.toDp {K : PySem.W.Frag} {H : Hp} {v : V} {d : PyData} (h : Td H v d) : Dp K H v d := Td.dp d v h
theorem TdAll.len {H : Hp} : ∀ {vs : List V} {ds : List PyData}, TdAll H vs ds → vs.length = ds.length
  | [], _, h => by
    cases h
    rfl
  | _ :: _, _, h => by
    cases h with
    | cons h1 h2 => simp [TdAll.len h2]
theorem TdAll.app {H : Hp} : ∀ {xs : List V} {ds : List PyData} {ys : List V} {es : List PyData}, TdAll H xs ds → TdAll H ys es → TdAll H (xs ++ ys) (ds ++ es)
  | [], _, _, _, h, k => by
    cases h
    exact k
  | _ :: _, _, _, _, h, k => by
    cases h with
    | cons h1 h2 => exact .cons h1 (TdAll.app h2 k)
theorem TdAll.rep {H : Hp} {v : V} {d : PyData} (h : Td H v d) : ∀ n : Nat, TdAll H (List.replicate n v) (List.replicate n d)
  | 0 => .nil
  | n + 1 => .cons h (TdAll.rep h n)
theorem TdAll.get {H : Hp} : ∀ {xs : List V} {ds : List PyData} {i : Nat} {d : PyData}, TdAll H xs ds → ds[i]? = some d → ∃ v, xs[i]? = some v ∧ Td H v d
  | [], _, i, d, h, e => by
    cases h
    simp at e
  | _ :: _, _, i, d, h, e => by
    cases h with
    | cons h1 h2 =>
      cases i with
      | zero =>
        simp at e
        subst e
        exact ⟨_, rfl, h1⟩
      | succ i =>
        simp at e
        obtain ⟨v, q, t⟩ := TdAll.get h2 e
        exact ⟨v, by simpa using q, t⟩
theorem TdAll.set {H : Hp} {v : V} {d : PyData} (hv : Td H v d) : ∀ {xs : List V} {ds : List PyData} (i : Nat), TdAll H xs ds → TdAll H (xs.set i v) (ds.set i d)
  | [], _, i, h => by
    cases h
    exact .nil
  | _ :: _, _, i, h => by
    cases h with
    | cons h1 h2 =>
      cases i with
      | zero => exact .cons hv h2
      | succ i => exact .cons h1 (TdAll.set hv i h2)
/-- data that a comparison takes -/
abbrev Shp (d : PyData) : Prop := SeqAt.shaped d = true
theorem Shp.refl {d : PyData} (h : Shp d) : PyData.eqv d d = true := SeqAt.eqv_refl d (SeqAt.canLay_of_shaped h)
/-- the kind's answer to isinstance(v, tuple) -/
def isTupD : PyData → Bool
  | .tuple _ => true
  | _ => false
def isBlD : PyData → Bool
  | .bool _ => true
  | _ => false
theorem Td.typ {K : PySem.W.Frag} {H : Hp} {v : V} {d : PyData} (h : Td H v d) : ∃ t : String, TyX K H v (.type t) ∧ kitB t "tuple" = some (isTupD d) ∧ kitB t "bool" = some (isBlD d) ∧ kitB t "list" = some false := by
  cases h with
  | non => exact ⟨_, .base .non, by decide +kernel, by decide +kernel, by decide +kernel⟩
  | bl b => exact ⟨_, .base (.bl b), (by show kitB "bool" "tuple" = some false; decide +kernel), (by show kitB "bool" "bool" = some true; decide +kernel), by decide +kernel⟩
  | int i => exact ⟨_, .base (.int i), (by show kitB "int" "tuple" = some false; decide +kernel), (by show kitB "int" "bool" = some false; decide +kernel), by decide +kernel⟩
  | str x => exact ⟨_, .base (.str x), (by show kitB "str" "tuple" = some false; decide +kernel), (by show kitB "str" "bool" = some false; decide +kernel), by decide +kernel⟩
  | tup h1 h2 => exact ⟨_, .fTuple h1.choose_spec.2, (by show kitB "tuple" "tuple" = some true; decide +kernel), (by show kitB "tuple" "bool" = some false; decide +kernel), by decide +kernel⟩
theorem kitI (t : String) (b : Bool) {K : PySem.W.Frag} {c : String} (h : kitB t c = some b) : PySem.W.kitOne K (.type t) (.type c) = some b := kit_ty h
theorem flat_rep {α : Type} (v : α) : ∀ n : Nat, (List.replicate n [v]).flatten = List.replicate n v
  | 0 => rfl
  | n + 1 => by
    rw [List.replicate_succ, List.flatten_cons, flat_rep v n]
    rfl
theorem range_more {α : Type} (f : Nat → α) (i : Nat) : (List.range (i + 1)).map f = (List.range i).map f ++ [f i] := by
  rw [List.range_succ, List.map_append]
  rfl
theorem TdAll.ints {H : Hp} (f : Nat → Int) : ∀ l : List Nat, TdAll H (l.map fun j => V.int (f j)) (l.map fun j => PyData.int (f j))
  | [] => .nil
  | _ :: l => .cons (.int _) (TdAll.ints f l)
theorem TdAll.snoc {H : Hp} {xs : List V} {ds : List PyData} {v : V} {d : PyData} (h : TdAll H xs ds) (k : Td H v d) : TdAll H (xs ++ [v]) (ds ++ [d]) := h.app (.cons k .nil)
theorem putF_le (f : Str) (v : V) : ∀ fs : List (Str × V), (putF f v fs).length ≤ fs.length + 1
  | [] => Nat.le_refl _
  | (g, x) :: r => by
    have ih := putF_le f v r
    unfold putF
    split
    · exact Nat.le_succ _
    · exact Nat.succ_le_succ ih
/-- few fields -/
theorem few {fs : List (Str × V)} {f : Str} {v : V} {n : Nat} (h : fs.length ≤ n) : (putF f v fs).length ≤ n + 1 := Nat.le_trans (putF_le f v fs) (Nat.succ_le_succ h)
theorem few0 : ([] : List (Str × V)).length ≤ 0 := Nat.le_refl _
theorem kit_self {K : PySem.W.Frag} {C : Addr} : PySem.W.kitOne K (.ref C) (.ref C) = some true := by
  unfold PySem.W.kitOne
  rw [if_pos (beq_self_eq_true _)]
theorem kit_sub {K : PySem.W.Frag} {C : Addr} {T : String} {b : Bool} (h : PySem.W.subIn K (.ref C) (.type T) = some b) (hm : PySem.W.kitMeta T = true) : PySem.W.kitOne K (.ref C) (.type T) = some b := by
  unfold PySem.W.kitOne
  rw [if_neg (show ¬ (Value.ref C == Value.type T) = true from by simp)]
  show (if PySem.W.kitMeta T = true then PySem.W.subIn K (.ref C) (.type T) else none) = some b
  rw [if_pos hm]
  exact h
theorem ixN_nat {n j : Nat} (h : j < n) : ixN n (j : Int) = some j := by
  unfold ixN
  rw [if_pos (by omega), if_pos (by omega)]
  simp
/-- all but a list is as it was -/
theorem Tups.fr {H H' : Hp} {x : Addr} {o : HO} (hx : H x = some o) (n : NoTup o) (f : ∀ b u, H b = some u → b ≠ x → H' b = some u) : Tups H H' := fun b xs h => by
  obtain ⟨q, hq, e⟩ := h
  exact ⟨q, hq, f b _ e fun z => by
    rw [z, hx] at e
    exact n (q, xs) (Option.some.inj e)⟩
theorem lst_tup {xs ys : List V} {q : Obj} : HO.lst xs ≠ HO.frz q (.tup ys) := fun z => by cases z
theorem lst_ins {xs : List V} {C d : Addr} {fs : List (Str × V)} : HO.lst xs ≠ HO.ins C d fs := fun z => by cases z
theorem tup_lst {xs ys : List V} : HO.tup xs ≠ HO.lst ys := fun z => by cases z
theorem ins_lst {xs : List V} {C d : Addr} {fs : List (Str × V)} : HO.ins C d fs ≠ HO.lst xs := fun z => by cases z
theorem tup_ins {xs : List V} {C d : Addr} {fs : List (Str × V)} : HO.tup xs ≠ HO.ins C d fs := fun z => by cases z
/-- what isinstance asks of an instance's class -/
structure InsK (K : PySem.W.Frag) (C : Addr) : Prop where
  ha : PySem.W.findIn K (.ref C) "__class__" = some (some (.builtin "object.__class__"))
  hn : PySem.W.specialIn K (.builtin "object.__class__") "__get__" = some (some (.builtin "getset_descriptor.__get__"))
  ht : PySem.W.takesIn K (.builtin "object.__class__") = some true
  hm : PySem.W.mroIn K C (.type "object") = some true
end Esp
set_option maxRecDepth 100000
set_option maxHeartbeats 4000000
namespace Esp
open PySem PySem.Spec PyProof.Rows L2
/-- a new tuple at a, of a known object -/
abbrev newT (Q : VK) (H : Hp) (xs : List V) : Prop := ∀ (p : Addr) (o : Obj), o.dict = none → H p = none → Q (.ref p) (upd H p (.frz o (.tup xs)))
theorem laidT {X : Cx} {pins : List (Addr × Obj)} {σ : L2.St} {H : Hp} {s : Shared} {xs : List V} {its : List Value} {Q : VK} (I : Inv X pins σ H s) (r : Vals xs its) (z : xs.length ≤ sizeLine) (q : newT Q H xs) :
    EP X pins σ Q (.ref s.heap.objs.size) { s with heap := s.heap.push { cls := .type "tuple", data := .seq its.toArray } } := by
  have at_ : (s.heap.push { cls := .type "tuple", data := .seq its.toArray }).get? s.heap.objs.size = some { cls := .type "tuple", data := .seq its.toArray } := Heap.get?_push_size _ rfl
  have ok : ObjOk X.prog X.w (upd H s.heap.objs.size (.frz { cls := .type "tuple", data := .seq its.toArray } (.tup xs))) (s.heap.push { cls := .type "tuple", data := .seq its.toArray }) s.heap.objs.size (.frz { cls := .type "tuple", data := .seq its.toArray } (.tup xs)) :=
    ⟨at_, z, its, r, _, at_, rfl, _, rfl⟩
  have I2 := I.laid (t' := s.toks) (h' := s.heap.push { cls := .type "tuple", data := .seq its.toArray }) (fun b u => Heap.get?_push_of_some _) (Nat.le_refl _) ok
  exact ⟨.ref s.heap.objs.size, _, I2, rfl, q _ _ rfl (I.hok.fresh (Nat.le_refl _))⟩
def tTupN (t : TA) : TE := fun σ H Q => t σ H fun vs H1 => vs.length ≤ sizeLine ∧ newT Q H1 vs
theorem pe_tupN {X : Cx} {es : List Expr} {x1 : Nat} {pos : Pos} {t : TA} (h : PA X es t) : PE X (.Tuple es x1 pos) (tTupN t) := ⟨fun pins s σ H Q I hq =>
  wpAny_Tuple_spliced (thn (h.run pos pins s σ H _ I hq) fun us s1 ⟨xs, H1, I1, r, z, q⟩ => ⟨r.length ▸ z, laidT I1 r z q⟩)⟩
def rTupOfN (K : PySem.W.Frag) : List V → Hp → VK → Prop := fun xs H Q => ∃ p ys, xs = [.ref p] ∧ ((SqL K H p ys ∧ newT Q H ys) ∨ (SqT K H p ys ∧ Q (.ref p) H))
theorem call_tuple_ofN {X : Cx} : CallR X (.type "tuple") (rTupOfN X.K) := fun pins s σ H xs us Q I r ⟨p, ys, exs, h⟩ => by
  subst exs
  obtain ⟨u, rfl, rx⟩ := vals1 r
  cases rx
  rcases h with ⟨hq, q⟩ | ⟨hq, q⟩
  · obtain ⟨its, rv, pl, hz⟩ := I.list hq
    refine call_tuple_list pl.isList (fun h' kp => ?_) (by rw [List.size_toArray, ← rv.length]; exact hz)
    exact laidT (s := { s with heap := h' }) (I.kept (t' := s.toks) kp) rv hz q
  · obtain ⟨its, _, pl, _⟩ := I.tuple hq
    exact call_tuple_same pl ⟨.ref p, H, I, rfl, q⟩
def rSlN (K : PySem.W.Frag) : V → Option Int → Option Int → Hp → VK → Prop := fun x lo hi H Q => ∃ a xs, x = .ref a ∧ SqT K H a xs ∧
  (HT.sIx xs.length 0 lo = 0 ∧ HT.sIx xs.length xs.length hi = xs.length → Q (.ref a) H) ∧ (¬ (HT.sIx xs.length 0 lo = 0 ∧ HT.sIx xs.length xs.length hi = xs.length) → newT Q H (cutV xs lo hi))
theorem sl_tupN {X : Cx} : SlR X (rSlN X.K) := fun pins s σ H x v vl vu lo hi sl Q I rx hs pl pu ⟨a, xs, ex, hx, q1, q2⟩ => by
  subst ex
  cases rx
  obtain ⟨its, r, ht, hz⟩ := I.tuple hx
  have ln : its.toArray.size = xs.length := List.size_toArray.trans r.length.symm
  refine ⟨"tuple", _, PyProof.Rows.slot_tuple_getitem.lookup, ht.typeIs, ?_⟩
  by_cases hw : HT.sIx xs.length 0 lo = 0 ∧ HT.sIx xs.length xs.length hi = xs.length
  · exact getItem_tuple_whole ht hs pl pu (by rw [ln]; exact hw) ⟨.ref a, H, I, rfl, q1 hw⟩
  · refine HT.getItem_tuple_cut ht hs pl pu (by rw [ln]; exact hw) ?_ (by rw [ln]; exact hz)
    rw [ln]
    exact laidT (xs := cutV xs lo hi) I ((r.drop _).take _) (Nat.le_trans (cutV_length xs lo hi) hz) (q2 hw)
def rCatN (K : PySem.W.Frag) : R2 := fun x y H Q => ∃ a b xs ys, x = .ref a ∧ y = .ref b ∧ SqT K H a xs ∧ SqT K H b ys ∧ xs.length + ys.length ≤ sizeLine ∧
  (xs = [] → Q (.ref b) H) ∧ (xs ≠ [] → ys = [] → Q (.ref a) H) ∧ (xs ≠ [] → ys ≠ [] → newT Q H (xs ++ ys))
theorem op_catN {X : Cx} : OpR X (binaryOp .Add) (rCatN X.K) := fun pins s σ H x y v u Q I rx ry ⟨a, b, xs, ys, ex, ey, ha, hb, hz, q0, q1, q2⟩ => by
  subst ex ey
  cases rx
  cases ry
  obtain ⟨its, r1, p1, _⟩ := I.tuple ha
  obtain ⟨its2, r2, p2, _⟩ := I.tuple hb
  by_cases hx : xs = []
  · subst hx
    cases r1
    exact cat_tup0 p1 p2 ⟨.ref b, H, I, rfl, q0 rfl⟩
  · refine HT.cat_tup p1 p2 (fun z => hx (r1.nil_iff.mp z)) (fun z => ⟨.ref a, H, I, rfl, q1 hx (r2.nil_iff.mp z)⟩) (fun z => ?_) (by rw [← r1.length, ← r2.length]; exact hz)
    exact laidT I (r1.append r2) (List.length_append ▸ hz) (q2 hx fun w => z (r2.nil_iff.mpr w))
def tTIndex (to te : TE) : TE := fun σ H Q => to σ H fun x H1 => ∃ a xs, x = .ref a ∧ TupN H1 a xs ∧ te σ H1 fun y H2 => ∃ (ys : List Int) (z : Int), y = .int z ∧ TupN H2 a (ys.map V.int) ∧ z ∈ ys ∧ Q (.int (ys.idxOf z : Nat)) H2
theorem pe_tindex {X : Cx} {o e : Expr} {apos cpos : Pos} {to te : TE} (ho : PE X o to) (he : PE X e te) (m : M1 X o "index" apos e cpos) : PE X (.Call (.Attribute o "index" apos) [e] [] cpos) (tTIndex to te) := ⟨fun pins s σ H Q I h => by
  refine wpAny_Call_method m.base m.few m.line PySem.F.plainAttrs_tuple PySem.F.slot_tuple_index PySem.F.type_tuple_index (thn (ho.run pins s σ H _ I h) fun u s1 ⟨x, H1, I1, rx, a, xs, ex, hT, q1⟩ => ?_)
  subst ex
  obtain rfl : u = Value.ref a := rx
  obtain ⟨its, r, pl, _⟩ := I1.tuple (hT.sq (K := X.K))
  obtain ⟨ob, hn, hx⟩ := hT
  refine ⟨pl.typeIs, fun b z => ⟨ob, ?_, hn⟩, ?_⟩
  · cases z
    exact (I1.hok _ _ hx).1
  rw [m.trees]
  refine Calls.callWith_builtin rfl (Calls.evalArgs_plain (Calls.spliced_cons (thn (he.run pins s1 σ H1 _ I1 q1) fun iv s2 ⟨y, H2, I2, ry, ys, z, ey, hq, hm, q2⟩ => Calls.spliced_nil ?_)))
  subst ey
  obtain ⟨t, rfl⟩ := ry
  obtain ⟨its2, r2, pl2, _⟩ := I2.tuple (hq.sq (K := X.K))
  exact PySem.SeqAt.tuple_index_ints pl2 (RZ.intsAre_vals r2) hm ⟨.int (ys.idxOf z : Nat), H2, I2.tok _, ⟨_, rfl⟩, q2⟩⟩
end Esp
set_option maxRecDepth 100000
set_option maxHeartbeats 4000000
namespace Esp
open PySem PySem.Spec PyProof.Rows L2

mutual
/-- v is the data d, lists in it too, as they stand in H -/
inductive Fz (H : Hp) : V → PyData → Prop
  | non : Fz H .non .none
  | bl (b : Bool) : Fz H (.bl b) (.bool b)
  | int (i : Int) : Fz H (.int i) (.int i)
  | str (x : Str) : Fz H (.str x) (.str x)
  | tup {a : Addr} {xs : List V} {ds : List PyData} : TupN H a xs → FzAll H xs ds → Fz H (.ref a) (.tuple ds)
  | lst {a : Addr} {xs : List V} {ds : List PyData} : H a = some (.lst xs) → FzAll H xs ds → Fz H (.ref a) (.list ds)
inductive FzAll (H : Hp) : List V → List PyData → Prop
  | nil : FzAll H [] []
  | cons {v : V} {vs : List V} {d : PyData} {ds : List PyData} : Fz H v d → FzAll H vs ds → FzAll H (v :: vs) (d :: ds)
end
mutual
theorem Fz.mono {H H' : Hp} (t : Same H H') : ∀ (d : PyData) (v : V), Fz H v d → Fz H' v d
  | .none, _, h => by
    cases h
    exact .non
  | .bool _, _, h => by
    cases h
    exact .bl _
  | .int _, _, h => by
    cases h
    exact .int _
  | .str _, _, h => by
    cases h
    exact .str _
  | .tuple ds, _, h => by
    cases h with
    | tup hs ha => exact .tup (hs.same t) (FzAll.mono t ds _ ha)
  | .list ds, _, h => by
    cases h with
    | lst hs ha => exact .lst (t _ _ hs) (FzAll.mono t ds _ ha)
  | .dict _, _, h => by cases h
theorem FzAll.mono {H H' : Hp} (t : Same H H') : ∀ (ds : List PyData) (vs : List V), FzAll H vs ds → FzAll H' vs ds
  | [], _, h => by
    cases h
    exact .nil
  | d :: ds, _, h => by
    cases h with
    | cons h1 h2 => exact .cons (Fz.mono t d _ h1) (FzAll.mono t ds _ h2)
end
/-- a dict's table, of whole numbers -/
abbrev encD (kvs : List (Int × Int)) : List (L2.Key × V) := kvs.map fun p => (Sum.inl p.1, V.int p.2)
inductive Fix
  | obj (C : Addr) (fs : List (Str × V))
  | scr (ns : List Int)
  | fz (d : PyData)
  | dct (kvs : List (Int × Int))
inductive Cell
  | un
  | raw (v : V)
  | dat (d : PyData)
  | cst (d : PyData)
  | rd (ds : List PyData)
  | own (ds : List PyData)
  | rng (lo hi : Int)
  | fix (k : Fix)
/-- the heaps at the start: b: what stays as it is there; h: what is not there is new -/
structure Bs where
  b : Hp
  h : Hp
def FixR (K : PySem.W.Frag) (H : Hp) (a : Addr) : Fix → Prop
  | .obj C fs => ∃ dx, H a = some (.ins C dx fs)
  | .scr ns => SqL K H a (ns.map V.int)
  | .fz d => Fz H (.ref a) d
  | .dct kvs => H a = some (.dK (encD kvs))
theorem FixR.up {K : PySem.W.Frag} {H H' : Hp} {a : Addr} (s : Same H H') : ∀ {k : Fix}, FixR K H a k → FixR K H' a k
  | .obj _ _, ⟨dx, h⟩ => ⟨dx, s _ _ h⟩
  | .scr _, h => s.seq h
  | .fz _, h => Fz.mono s _ _ h
  | .dct _, h => s _ _ h
/-- an instance that stays as it is; a script -/
abbrev Cell.obj (C : Addr) (fs : List (Str × V)) : Cell := .fix (.obj C fs)
abbrev Cell.fz (d : PyData) : Cell := .fix (.fz d)
abbrev Cell.dct (kvs : List (Int × Int)) : Cell := .fix (.dct kvs)
abbrev Cell.scr (ns : List Int) : Cell := .fix (.scr ns)

/-- what a slot holds -/
def SlotR (K : PySem.W.Frag) (H0 : Bs) (H : Hp) (o : Option V) : Cell → Prop
  | .un => True
  | .raw v => o = some v
  | .dat d => ∃ v, o = some v ∧ Td H v d
  | .cst d => ∃ v, o = some v ∧ ∀ H', Dp K H' v d
  | .rd ds => ∃ a xs, o = some (.ref a) ∧ H a = some (.lst xs) ∧ TdAll H xs ds
  | .own ds => ∃ a xs, o = some (.ref a) ∧ H0.h a = none ∧ H a = some (.lst xs) ∧ TdAll H xs ds
  | .rng lo hi => ∃ a, o = some (.ref a) ∧ H a = some (.rng lo hi)
  | .fix k => ∃ a, o = some (.ref a) ∧ FixR K H0.b a k
/-- what an expression gives, from H to H' -/
def ValR (K : PySem.W.Frag) (H H' : Hp) (v : V) : Cell → Prop
  | .un => True
  | .raw u => v = u
  | .dat d => Td H' v d
  | .cst d => ∀ H'', Dp K H'' v d
  | .rd ds => ∃ a xs, v = .ref a ∧ H' a = some (.lst xs) ∧ TdAll H' xs ds
  | .own ds => ∃ a xs, v = .ref a ∧ H a = none ∧ H' a = some (.lst xs) ∧ TdAll H' xs ds
  | .rng lo hi => ∃ a, v = .ref a ∧ H' a = some (.rng lo hi)
  | .fix k => ∃ a, v = .ref a ∧ FixR K H' a k
def ValsR (K : PySem.W.Frag) (H H' : Hp) : List V → List Cell → Prop
  | [], [] => True
  | v :: vs, c :: cs => ValR K H H' v c ∧ ValsR K H H' vs cs
  | _, _ => False
def Slots (K : PySem.W.Frag) (H0 : Bs) (H : Hp) : L2.St → List Cell → Prop
  | [], [] => True
  | o :: os, c :: cs => SlotR K H0 H o c ∧ Slots K H0 H os cs
  | _, _ => False
def isLst : Cell → Bool
  | .rd _ => true
  | .own _ => true
  | _ => false
def isOwn : Cell → Bool
  | .own _ => true
  | _ => false
/-- a list made here has one name alone -/
def Apart (σ : L2.St) (e : List Cell) : Prop := ∀ (i j : Nat) (a : Addr) (c d : Cell), e[i]? = some c → isOwn c = true → e[j]? = some d → isLst d = true → σ[i]? = some (some (.ref a)) → σ[j]? = some (some (.ref a)) → i = j
structure EnvR (K : PySem.W.Frag) (H0 : Bs) (H : Hp) (σ : L2.St) (e : List Cell) : Prop where
  bs : Same H0.b H0.h
  sm : Same H0.h H
  sl : Slots K H0 H σ e
  ap : Apart σ e
def view : Cell → Cell
  | .own ds => .rd ds
  | c => c
section
variable {K : PySem.W.Frag} {H0 : Bs} {H H' H1 : Hp} {σ : L2.St} {e : List Cell}
theorem TdAll.same {xs : List V} {ds : List PyData} (h : TdAll H xs ds) (s : Same H H') : TdAll H' xs ds := h.up (Tups.of s)
theorem SlotR.up {o : Option V} (s : Same H H') : ∀ {c : Cell}, SlotR K H0 H o c → SlotR K H0 H' o c
  | .un, h => h
  | .raw _, h => h
  | .dat _, ⟨v, e, h⟩ => ⟨v, e, h.up (Tups.of s)⟩
  | .cst _, h => h
  | .rd _, ⟨a, xs, e, h, t⟩ => ⟨a, xs, e, s _ _ h, t.same s⟩
  | .own _, ⟨a, xs, e, n, h, t⟩ => ⟨a, xs, e, n, s _ _ h, t.same s⟩
  | .rng _ _, ⟨a, e, h⟩ => ⟨a, e, s _ _ h⟩
  | .fix _, h => h
theorem Slots.up (s : Same H H') : ∀ {σ : L2.St} {e : List Cell}, Slots K H0 H σ e → Slots K H0 H' σ e
  | [], [], h => h
  | _ :: _, _ :: _, ⟨h, t⟩ => ⟨h.up s, Slots.up s t⟩
  | [], _ :: _, h => h
  | _ :: _, [], h => h
theorem EnvR.up (h : EnvR K H0 H σ e) (s : Same H H') : EnvR K H0 H' σ e := ⟨h.bs, h.sm.trans s, h.sl.up s, h.ap⟩
theorem ValR.up {v : V} (s : Same H' H1) : ∀ {c : Cell}, ValR K H H' v c → ValR K H H1 v c
  | .un, h => h
  | .raw _, h => h
  | .dat _, h => Td.up h (Tups.of s)
  | .cst _, h => h
  | .rd _, ⟨a, xs, e, h, t⟩ => ⟨a, xs, e, s _ _ h, t.same s⟩
  | .own _, ⟨a, xs, e, n, h, t⟩ => ⟨a, xs, e, n, s _ _ h, t.same s⟩
  | .rng _ _, ⟨a, e, h⟩ => ⟨a, e, s _ _ h⟩
  | .fix _, ⟨a, e, h⟩ => ⟨a, e, h.up s⟩
theorem ValR.low {v : V} (s : Same H H1) : ∀ {c : Cell}, ValR K H1 H' v c → ValR K H H' v c
  | .un, h => h
  | .raw _, h => h
  | .dat _, h => h
  | .cst _, h => h
  | .rd _, h => h
  | .own _, ⟨a, xs, e, n, h, t⟩ => ⟨a, xs, e, s.free n, h, t⟩
  | .rng _ _, h => h
  | .fix _, h => h
theorem ValR.view {v : V} : ∀ {c : Cell}, ValR K H H' v c → ValR K H' H' v (view c)
  | .un, h => h
  | .raw _, h => h
  | .dat _, h => h
  | .cst _, h => h
  | .rd _, h => h
  | .own _, ⟨a, xs, e, n, h, t⟩ => ⟨a, xs, e, h, t⟩
  | .rng _ _, h => h
  | .fix _, h => h
theorem ValsR.up (s : Same H' H1) : ∀ {vs : List V} {cs : List Cell}, ValsR K H H' vs cs → ValsR K H H1 vs cs
  | [], [], h => h
  | _ :: _, _ :: _, ⟨h, t⟩ => ⟨h.up s, ValsR.up s t⟩
  | [], _ :: _, h => h
  | _ :: _, [], h => h
theorem ValsR.view : ∀ {vs : List V} {cs : List Cell}, ValsR K H H' vs cs → ValsR K H' H' vs (cs.map view)
  | [], [], h => h
  | _ :: _, _ :: _, ⟨h, t⟩ => ⟨h.view, ValsR.view t⟩
  | [], _ :: _, h => h
  | _ :: _, [], h => h
theorem ValsR.low (s : Same H H1) : ∀ {vs : List V} {cs : List Cell}, ValsR K H1 H' vs cs → ValsR K H H' vs cs
  | [], [], h => h
  | _ :: _, _ :: _, ⟨h, t⟩ => ⟨h.low s, ValsR.low s t⟩
  | [], _ :: _, h => h
  | _ :: _, [], h => h
theorem ValsR.len : ∀ {vs : List V} {cs : List Cell}, ValsR K H H' vs cs → vs.length = cs.length
  | [], [], _ => rfl
  | _ :: _, _ :: _, ⟨_, t⟩ => by simp [ValsR.len t]
  | [], _ :: _, h => h.elim
  | _ :: _, [], h => h.elim
theorem ValsR.dats : ∀ {vs : List V} {ds : List PyData}, ValsR K H H' vs (ds.map .dat) → TdAll H' vs ds
  | [], [], _ => .nil
  | _ :: _, _ :: _, ⟨h, t⟩ => .cons h (ValsR.dats t)
  | [], _ :: _, h => h.elim
  | _ :: _, [], h => h.elim
theorem Slots.get : ∀ {σ : L2.St} {e : List Cell} {i : Nat} {c : Cell}, Slots K H0 H σ e → e[i]? = some c → ∃ o, σ[i]? = some o ∧ SlotR K H0 H o c
  | [], [], i, c, _, h => by simp at h
  | o :: os, c :: cs, 0, d, ⟨h, t⟩, q => by
    simp at q
    subst q
    exact ⟨o, rfl, h⟩
  | o :: os, c :: cs, i + 1, d, ⟨h, t⟩, q => by
    simp at q
    obtain ⟨p, e, r⟩ := Slots.get t q
    exact ⟨p, by simpa using e, r⟩
  | [], _ :: _, _, _, h, _ => h.elim
  | _ :: _, [], _, _, h, _ => h.elim
theorem Slots.set : ∀ {σ : L2.St} {e : List Cell} (i : Nat) {c : Cell} {o : Option V}, Slots K H0 H σ e → SlotR K H0 H o c → Slots K H0 H (σ.set i o) (e.set i c)
  | [], [], i, c, o, _, _ => trivial
  | p :: os, d :: cs, 0, c, o, ⟨h, t⟩, q => ⟨q, t⟩
  | p :: os, d :: cs, i + 1, c, o, ⟨h, t⟩, q => ⟨h, Slots.set i t q⟩
  | [], _ :: _, _, _, _, h, _ => h.elim
  | _ :: _, [], _, _, _, h, _ => h.elim
theorem Slots.len : ∀ {σ : L2.St} {e : List Cell}, Slots K H0 H σ e → σ.length = e.length
  | [], [], _ => rfl
  | _ :: _, _ :: _, ⟨_, t⟩ => by simp [Slots.len t]
  | [], _ :: _, h => h.elim
  | _ :: _, [], h => h.elim
/-- the arguments, and slots that hold nothing yet -/
theorem Slots.args : ∀ {vs : List V} {cs : List Cell}, ValsR K H H vs cs → ∀ n, Slots K ⟨H, H⟩ H (vs.map some ++ List.replicate n none) (cs ++ List.replicate n .un)
  | [], [], _, 0 => trivial
  | [], [], _, n + 1 => ⟨trivial, Slots.args (vs := []) (cs := []) trivial n⟩
  | v :: vs, c :: cs, ⟨h, t⟩, n => by
    refine ⟨?_, Slots.args t n⟩
    cases c with
    | un => exact trivial
    | raw u => exact congrArg some h
    | dat d => exact ⟨v, rfl, h⟩
    | cst d => exact ⟨v, rfl, h⟩
    | rd ds =>
      obtain ⟨a, xs, e, h1, t1⟩ := h
      exact ⟨a, xs, congrArg some e, h1, t1⟩
    | own ds =>
      obtain ⟨a, xs, e, n1, h1, t1⟩ := h
      exact ⟨a, xs, congrArg some e, n1, h1, t1⟩
    | rng lo hi =>
      obtain ⟨a, e, h1⟩ := h
      exact ⟨a, congrArg some e, h1⟩
    | fix k =>
      obtain ⟨a, e, h1⟩ := h
      exact ⟨a, congrArg some e, h1⟩
  | [], _ :: _, h, _ => h.elim
  | _ :: _, [], h, _ => h.elim
theorem Apart.noOwn (h : e.all (fun c => !isOwn c) = true) : Apart σ e := by
  intro i j a c d hi ho _ _ _ _
  have := List.all_eq_true.mp h c (List.mem_of_getElem? hi)
  rw [ho] at this
  cases this
theorem EnvR.start {vs : List V} {cs : List Cell} (n : Nat) (h : ValsR K H H vs cs) (ho : cs.all (fun c => !isOwn c) = true) : EnvR K ⟨H, H⟩ H (vs.map some ++ List.replicate n none) (cs ++ List.replicate n .un) := by
  refine ⟨Same.refl H, Same.refl H, Slots.args h n, Apart.noOwn ?_⟩
  rw [List.all_append, ho]
  simp [isOwn]
end
end Esp
set_option autoImplicit false
set_option maxRecDepth 100000
set_option maxHeartbeats 4000000
namespace Esp
open PySem PySem.Spec PyProof.Rows L2
/-- what is known where one stands, and stays so when new objects come -/
class Ctx (ε : Type) where
  R : PySem.W.Frag → Bs → Hp → L2.St → ε → Prop
  up : ∀ {K : PySem.W.Frag} {H0 : Bs} {H H' : Hp} {σ : L2.St} {e : ε}, R K H0 H σ e → Same H H' → R K H0 H' σ e
theorem Ctx.R.up {ε : Type} [Ctx ε] {K : PySem.W.Frag} {H0 : Bs} {H H' : Hp} {σ : L2.St} {e : ε} (h : Ctx.R K H0 H σ e) (s : Same H H') : Ctx.R K H0 H' σ e := Ctx.up h s
instance : Ctx (List Cell) := ⟨EnvR, fun h s => EnvR.up h s⟩
def DE {ε : Type} [Ctx ε] (K : PySem.W.Frag) (t : TE) (e : ε) (c : Cell) : Prop := ∀ H0 H (σ : L2.St) (Q : VK), Ctx.R K H0 H σ e → (∀ v H', Same H H' → ValR K H H' v c → Q v H') → t σ H Q
def DB {ε : Type} [Ctx ε] (K : PySem.W.Frag) (t : TT) (e : ε) (b : Bool) : Prop := ∀ H0 H (σ : L2.St) (Q : Bool → Hp → Prop), Ctx.R K H0 H σ e → (∀ H', Same H H' → Q b H') → t σ H Q
def DA {ε : Type} [Ctx ε] (K : PySem.W.Frag) (t : TA) (e : ε) (cs : List Cell) : Prop := ∀ H0 H (σ : L2.St) (Q : List V → Hp → Prop), Ctx.R K H0 H σ e → (∀ vs H', Same H H' → ValsR K H H' vs cs → Q vs H') → t σ H Q
def DO {ε : Type} [Ctx ε] (K : PySem.W.Frag) (t : TO) (e : ε) (o : Option Int) : Prop := ∀ H0 H (σ : L2.St) (Q : Option Int → Hp → Prop), Ctx.R K H0 H σ e → (∀ H', Same H H' → Q o H') → t σ H Q
def seen : Cell → Bool
  | .un => false
  | _ => true
/-- data, of a value or of a written constant -/
def dOf : Cell → Option PyData
  | .dat d => some d
  | .cst d => some d
  | _ => none
section
variable {K : PySem.W.Frag} {ε : Type} [Ctx ε] {e : ε} {c : Cell} {cs : List Cell} {ta tb tc : TE} {tA tB' : TT} {tr : TA}
theorem ValR.dp {H H' : Hp} {v : V} {d : PyData} : ∀ {c : Cell}, dOf c = some d → ValR K H H' v c → Dp K H' v d
  | .dat _, h, r => by
    cases h
    exact Td.toDp r
  | .cst _, h, r => by
    cases h
    exact r _
  | .un, h, _ => by cases h
  | .raw _, h, _ => by cases h
  | .rd _, h, _ => by cases h
  | .own _, h, _ => by cases h
  | .rng _ _, h, _ => by cases h
  | .fix _, h, _ => by cases h
/-- two operands, one after the other -/
theorem DE.two {r : R2} {ca cb : Cell} (ha : DE K ta e ca) (hb : DE K tb e cb)
    (h : ∀ (H H' : Hp) (x y : V) (Q : VK), ValR K H H' x ca → ValR K H H' y cb → (∀ v H2, Same H' H2 → ValR K H' H2 v c → Q v H2) → r x y H' Q) : DE K (tOp r ta tb) e c := by
  intro H0 H σ Q E q
  refine ha H0 H σ _ E fun x H1 s1 rx => hb H0 H1 σ _ (E.up s1) fun y H2 s2 ry => ?_
  exact h H H2 x y Q (rx.up s2) (ry.low s1) fun v H3 s3 rv => q v H3 (s1.trans (s2.trans s3)) (rv.low (s1.trans s2))
theorem DE.one {r : V → Hp → VK → Prop} {ca : Cell} (ha : DE K ta e ca)
    (h : ∀ (H H' : Hp) (x : V) (Q : VK), ValR K H H' x ca → (∀ v H2, Same H' H2 → ValR K H' H2 v c → Q v H2) → r x H' Q) : DE K (tUn r ta) e c := by
  intro H0 H σ Q E q
  refine ha H0 H σ _ E fun x H1 s1 rx => ?_
  exact h H H1 x Q rx fun v H3 s3 rv => q v H3 (s1.trans s3) (rv.low s1)
theorem DE.var {e : List Cell} {i : Nat} (h : e[i]? = some c) (hs : seen c = true) : DE K (tVar i) e (view c) := by
  intro H0 H σ Q E q
  have E : EnvR K H0 H σ e := E
  obtain ⟨o, eo, r⟩ := E.sl.get h
  cases c with
  | un => cases hs
  | raw v =>
    rw [show o = some v from r] at eo
    exact ⟨v, eo, q v H (Same.refl H) rfl⟩
  | dat d =>
    obtain ⟨v, ev, t⟩ := r
    rw [ev] at eo
    exact ⟨v, eo, q v H (Same.refl H) t⟩
  | cst d =>
    obtain ⟨v, ev, t⟩ := r
    rw [ev] at eo
    exact ⟨v, eo, q v H (Same.refl H) t⟩
  | rd ds =>
    obtain ⟨a, xs, ev, t⟩ := r
    rw [ev] at eo
    exact ⟨_, eo, q _ H (Same.refl H) ⟨a, xs, rfl, t⟩⟩
  | own ds =>
    obtain ⟨a, xs, ev, n, t⟩ := r
    rw [ev] at eo
    exact ⟨_, eo, q _ H (Same.refl H) ⟨a, xs, rfl, t⟩⟩
  | rng lo hi =>
    obtain ⟨a, ev, t⟩ := r
    rw [ev] at eo
    exact ⟨_, eo, q _ H (Same.refl H) ⟨a, rfl, t⟩⟩
  | fix k =>
    obtain ⟨a, ev, t⟩ := r
    rw [ev] at eo
    exact ⟨_, eo, q _ H (Same.refl H) ⟨a, rfl, t.up (E.bs.trans E.sm)⟩⟩
theorem DE.raw {v : V} : DE K (tC v) e (.raw v) := fun _ H _ _ _ q => q v H (Same.refl H) rfl
theorem DE.int {i : Int} : DE K (tC (.int i)) e (.dat (.int i)) := fun _ H _ _ _ q => q _ H (Same.refl H) (.int i)
theorem DE.str {x : Str} : DE K (tC (.str x)) e (.dat (.str x)) := fun _ H _ _ _ q => q _ H (Same.refl H) (.str x)
theorem DE.bl {b : Bool} : DE K (tC (.bl b)) e (.dat (.bool b)) := fun _ H _ _ _ q => q _ H (Same.refl H) (.bl b)
theorem DE.non : DE K (tC .non) e (.dat .none) := fun _ H _ _ _ q => q _ H (Same.refl H) .non
theorem DE.cst {v : V} {d : PyData} (h : ∀ H, Dp K H v d) : DE K (tC v) e (.cst d) := fun _ H _ _ _ q => q v H (Same.refl H) h
theorem int_of {H : Hp} {x : V} {i : Int} (h : Td H x (.int i)) : x = .int i := by
  cases h
  rfl
theorem bl_of {H : Hp} {x : V} {i : Bool} (h : Td H x (.bool i)) : x = .bl i := by
  cases h
  rfl
theorem str_of {H : Hp} {x : V} {i : Str} (h : Td H x (.str i)) : x = .str i := by
  cases h
  rfl
theorem non_of {H : Hp} {x : V} (h : Td H x .none) : x = .non := by
  cases h
  rfl
theorem tup_of {H : Hp} {x : V} {ds : List PyData} (h : Td H x (.tuple ds)) : ∃ a xs, x = .ref a ∧ TupN H a xs ∧ TdAll H xs ds := by
  cases h with
  | tup h1 h2 => exact ⟨_, _, rfl, h1, h2⟩
theorem DE.opI {g : Int → Int → V} {i j k : Int} (ha : DE K ta e (.dat (.int i))) (hb : DE K tb e (.dat (.int j))) (hk : g i j = .int k) : DE K (tOp (rI0 g) ta tb) e (.dat (.int k)) :=
  ha.two hb fun H H' x y Q rx ry q => by
    cases int_of rx
    cases int_of ry
    refine ⟨i, j, rfl, rfl, ?_⟩
    rw [hk]
    exact q _ _ (Same.refl _) (.int k)
theorem DE.opB {g : Int → Int → V} {i j : Int} {k : Bool} (ha : DE K ta e (.dat (.int i))) (hb : DE K tb e (.dat (.int j))) (hk : g i j = .bl k) : DE K (tOp (rI0 g) ta tb) e (.dat (.bool k)) :=
  ha.two hb fun H H' x y Q rx ry q => by
    cases int_of rx
    cases int_of ry
    refine ⟨i, j, rfl, rfl, ?_⟩
    rw [hk]
    exact q _ _ (Same.refl _) (.bl k)
theorem DE.opC {C : Int → Int → Prop} {g : Int → Int → V} {i j k : Int} (ha : DE K ta e (.dat (.int i))) (hb : DE K tb e (.dat (.int j))) (hk : g i j = .int k) (hc : C i j) : DE K (tOp (rI C g) ta tb) e (.dat (.int k)) :=
  ha.two hb fun H H' x y Q rx ry q => by
    cases int_of rx
    cases int_of ry
    refine ⟨i, j, rfl, rfl, hc, ?_⟩
    rw [hk]
    exact q _ _ (Same.refl _) (.int k)
theorem DE.neg {g : Int → V} {i k : Int} (ha : DE K ta e (.dat (.int i))) (hk : g i = .int k) : DE K (tUn (rU g) ta) e (.dat (.int k)) :=
  ha.one fun H H' x Q rx q => by
    cases int_of rx
    refine ⟨i, rfl, ?_⟩
    rw [hk]
    exact q _ _ (Same.refl _) (.int k)
theorem DE.eqI {i j : Int} (ha : DE K ta e (.dat (.int i))) (hb : DE K tb e (.dat (.int j))) : DE K (tOp rEq ta tb) e (.dat (.bool (decide (i = j)))) :=
  ha.two hb fun H H' x y Q rx ry q => by
    cases int_of rx
    cases int_of ry
    refine ⟨rfl, ?_⟩
    rw [show decide (V.int i = V.int j) = decide (i = j) from by simp]
    exact q _ _ (Same.refl _) (.bl _)
theorem DE.neI {i j : Int} (ha : DE K ta e (.dat (.int i))) (hb : DE K tb e (.dat (.int j))) : DE K (tOp rNe ta tb) e (.dat (.bool (!decide (i = j)))) :=
  ha.two hb fun H H' x y Q rx ry q => by
    cases int_of rx
    cases int_of ry
    refine ⟨rfl, ?_⟩
    rw [show decide (V.int i = V.int j) = decide (i = j) from by simp]
    exact q _ _ (Same.refl _) (.bl _)
theorem DE.eqS {i j : Str} (ha : DE K ta e (.dat (.str i))) (hb : DE K tb e (.dat (.str j))) : DE K (tOp rEq ta tb) e (.dat (.bool (decide (i = j)))) :=
  ha.two hb fun H H' x y Q rx ry q => by
    cases str_of rx
    cases str_of ry
    refine ⟨rfl, ?_⟩
    rw [show decide (V.str i = V.str j) = decide (i = j) from by simp]
    exact q _ _ (Same.refl _) (.bl _)
theorem DE.neS {i j : Str} (ha : DE K ta e (.dat (.str i))) (hb : DE K tb e (.dat (.str j))) : DE K (tOp rNe ta tb) e (.dat (.bool (!decide (i = j)))) :=
  ha.two hb fun H H' x y Q rx ry q => by
    cases str_of rx
    cases str_of ry
    refine ⟨rfl, ?_⟩
    rw [show decide (V.str i = V.str j) = decide (i = j) from by simp]
    exact q _ _ (Same.refl _) (.bl _)
theorem DE.eqD {ca cb : Cell} {a b : PyData} (ha : DE K ta e ca) (hb : DE K tb e cb) (ea : dOf ca = some a) (eb : dOf cb = some b) (sa : Shp a) (sb : Shp b) : DE K (tOp (rEqD K) ta tb) e (.dat (.bool (PyData.eqv a b))) :=
  ha.two hb fun H H' x y Q rx ry q => ⟨a, b, rx.dp ea, ry.dp eb, sa, sb, q _ _ (Same.refl _) (.bl _)⟩
theorem DE.neD {ca cb : Cell} {a b : PyData} (ha : DE K ta e ca) (hb : DE K tb e cb) (ea : dOf ca = some a) (eb : dOf cb = some b) (sa : Shp a) (sb : Shp b) : DE K (tOp (rNeD K) ta tb) e (.dat (.bool (!PyData.eqv a b))) :=
  ha.two hb fun H H' x y Q rx ry q => ⟨a, b, rx.dp ea, ry.dp eb, sa, sb, q _ _ (Same.refl _) (.bl _)⟩
theorem DE.inT {ca cb : Cell} {a : PyData} {ds : List PyData} (ha : DE K ta e ca) (hb : DE K tb e cb) (ea : dOf ca = some a) (eb : dOf cb = some (.tuple ds)) (sa : Shp a) (sb : Shp (.tuple ds)) : DE K (tOp (rInT K) ta tb) e (.dat (.bool (ds.any fun z => PyData.eqv z a))) :=
  ha.two hb fun H H' x y Q rx ry q => ⟨a, ds, rx.dp ea, ry.dp eb, sa, sb, q _ _ (Same.refl _) (.bl _)⟩
def isNon : PyData → Bool
  | .none => true
  | _ => false
theorem non_dec {H : Hp} {x : V} {d : PyData} (h : Td H x d) : decide (x = .non) = isNon d := by
  cases h <;> simp [isNon]
theorem DE.isN {tb : TE} {d : PyData} (ha : DE K ta e (.dat d)) (hb : DE K tb e (.dat .none)) : DE K (tOp (fun x y H Q => y = .non ∧ Q (.bl (decide (x = .non))) H) ta tb) e (.dat (.bool (isNon d))) :=
  ha.two hb fun H H' x y Q rx ry q => by
    cases non_of ry
    refine ⟨rfl, ?_⟩
    rw [non_dec rx]
    exact q _ _ (Same.refl _) (.bl _)
theorem DE.notN {tb : TE} {d : PyData} (ha : DE K ta e (.dat d)) (hb : DE K tb e (.dat .none)) : DE K (tOp (fun x y H Q => y = .non ∧ Q (.bl (!decide (x = .non))) H) ta tb) e (.dat (.bool (!isNon d))) :=
  ha.two hb fun H H' x y Q rx ry q => by
    cases non_of ry
    refine ⟨rfl, ?_⟩
    rw [non_dec rx]
    exact q _ _ (Same.refl _) (.bl _)
theorem DB.tB {b : Bool} (h : DE K ta e (.dat (.bool b))) : DB K (L2.tB ta) e b := fun H0 H σ Q E q => h H0 H σ _ E fun v H' s r => by
  cases bl_of r
  exact ⟨b, rfl, q H' s⟩
theorem DB.test {b : Bool} (h : DE K ta e (.dat (.bool b))) : DB K (tTest ta) e b := fun H0 H σ Q E q => h H0 H σ _ E fun v H' s r => by
  cases bl_of r
  exact ⟨b, rfl, q H' s⟩
theorem DB.not {b : Bool} (h : DB K tA e b) : DB K (tNot tA) e (!b) := fun H0 H σ Q E q => h H0 H σ _ E q
theorem DB.andT {b : Bool} (h : DB K tA e true) (h2 : DB K tB' e b) : DB K (tAnd tA tB') e b := fun H0 H σ Q E q => h H0 H σ _ E fun H' s => iteT (h2 H0 H' σ _ (E.up s) fun H2 s2 => q H2 (s.trans s2))
theorem DB.andF (h : DB K tA e false) : DB K (tAnd tA tB') e false := fun H0 H σ Q E q => h H0 H σ _ E fun H' s => iteF (q H' s)
theorem DB.orT (h : DB K tA e true) : DB K (tOr tA tB') e true := fun H0 H σ Q E q => h H0 H σ _ E fun H' s => iteT (q H' s)
theorem DB.orF {b : Bool} (h : DB K tA e false) (h2 : DB K tB' e b) : DB K (tOr tA tB') e b := fun H0 H σ Q E q => h H0 H σ _ E fun H' s => iteF (h2 H0 H' σ _ (E.up s) fun H2 s2 => q H2 (s.trans s2))
theorem DB.and {a b : Bool} (h : DB K tA e a) (h2 : a = true → DB K tB' e b) : DB K (tAnd tA tB') e (a && b) := by
  cases a with
  | true => exact DB.andT h (h2 rfl)
  | false => exact DB.andF h
theorem DB.or {a b : Bool} (h : DB K tA e a) (h2 : a = false → DB K tB' e b) : DB K (tOr tA tB') e (a || b) := by
  cases a with
  | true => exact DB.orT h
  | false => exact DB.orF h (h2 rfl)
theorem DB.as {a b : Bool} (h : DB K tA e a) (q : a = b) : DB K tA e b := q ▸ h
theorem DE.as {c d : Cell} (h : DE K ta e c) (q : c = d) : DE K ta e d := q ▸ h
theorem DE.and {a b : Bool} (h : DE K ta e (.dat (.bool a))) (h2 : a = true → DE K tb e (.dat (.bool b))) : DE K (tAndV ta tb) e (.dat (.bool (a && b))) := fun H0 H σ Q E q => h H0 H σ _ E fun v H' s r => by
  cases bl_of r
  refine ⟨a, rfl, ?_⟩
  cases a with
  | true => exact iteT (h2 rfl H0 H' σ _ (E.up s) fun v H2 s2 r => q v H2 (s.trans s2) (r.low s))
  | false => exact iteF (q _ _ s (.bl false))
theorem DE.or {a b : Bool} (h : DE K ta e (.dat (.bool a))) (h2 : a = false → DE K tb e (.dat (.bool b))) : DE K (tOrV ta tb) e (.dat (.bool (a || b))) := fun H0 H σ Q E q => h H0 H σ _ E fun v H' s r => by
  cases bl_of r
  refine ⟨a, rfl, ?_⟩
  cases a with
  | true => exact iteT (q _ _ s (.bl true))
  | false => exact iteF (h2 rfl H0 H' σ _ (E.up s) fun v H2 s2 r => q v H2 (s.trans s2) (r.low s))
theorem DE.not {a : Bool} (h : DE K ta e (.dat (.bool a))) : DE K (tNotV ta) e (.dat (.bool (!a))) := fun H0 H σ Q E q => h H0 H σ _ E fun v H' s r => by
  cases bl_of r
  exact ⟨a, rfl, q _ _ s (.bl _)⟩
theorem DE.ifE {b : Bool} (h : DB K tA e b) (h1 : b = true → DE K ta e c) (h2 : b = false → DE K tb e c) : DE K (tIf tA ta tb) e c := fun H0 H σ Q E q => h H0 H σ _ E fun H' s => by
  cases b with
  | true => exact iteT (h1 rfl H0 H' σ _ (E.up s) fun v H2 s2 r => q v H2 (s.trans s2) (r.low s))
  | false => exact iteF (h2 rfl H0 H' σ _ (E.up s) fun v H2 s2 r => q v H2 (s.trans s2) (r.low s))
/-- a op1 b op2 c of whole numbers -/
theorem DE.chain {g g' : Int → Int → V} {i j k : Int} {p q : Bool} (ha : DE K ta e (.dat (.int i))) (hb : DE K tb e (.dat (.int j))) (hc : DE K tc e (.dat (.int k))) (hp : g i j = .bl p) (hq : g' j k = .bl q) : DE K (tChain (rI0 g) (rI0 g') ta tb tc) e (.dat (.bool (p && q))) := by
  intro H0 H σ Q E qq
  refine ha H0 H σ _ E fun x H1 s1 rx => hb H0 H1 σ _ (E.up s1) fun y H2 s2 ry => ?_
  cases int_of rx
  cases int_of ry
  refine ⟨i, j, rfl, rfl, p, hp, ?_⟩
  cases p with
  | true =>
    refine iteT (hc H0 H2 σ _ (E.up (s1.trans s2)) fun z H3 s3 rz => ?_)
    cases int_of rz
    refine ⟨j, k, rfl, rfl, ?_⟩
    rw [hq]
    exact qq _ _ (s1.trans (s2.trans s3)) (.bl _)
  | false => exact iteF (qq _ _ (s1.trans s2) (.bl false))
theorem DA.nil : DA K tNil e [] := fun _ H _ _ _ q => q [] H (Same.refl H) trivial
theorem DA.cons (ha : DE K ta e c) (hr : DA K tr e cs) : DA K (tCons ta tr) e (c :: cs) := fun H0 H σ Q E q => ha H0 H σ _ E fun x H1 s1 rx => hr H0 H1 σ _ (E.up s1) fun xs H2 s2 rr => q (x :: xs) H2 (s1.trans s2) ⟨rx.up s2, rr.low s1⟩
theorem DE.tup {ds : List PyData} (h : DA K tr e cs) (hc : cs = ds.map .dat) (hl : ds.length ≤ sizeLine) : DE K (tTupN tr) e (.dat (.tuple ds)) := by
  subst hc
  intro H0 H σ Q E q
  refine h H0 H σ _ E fun vs H1 s1 r => ?_
  have t := r.dats
  refine ⟨by rw [t.len]; exact hl, fun p o ho np => ?_⟩
  have s2 := Same.new (o := .frz o (.tup vs)) np
  exact q _ _ (s1.trans s2) (.tup (.new ho) (t.same s2))
theorem DE.lst {ds : List PyData} (h : DA K tr e cs) (hc : cs = ds.map .dat) (hl : ds.length ≤ sizeLine) : DE K (tLst tr) e (.own ds) := by
  subst hc
  intro H0 H σ Q E q
  refine h H0 H σ _ E fun vs H1 s1 r => ?_
  have t := r.dats
  refine ⟨by rw [t.len]; exact hl, fun p np => ?_⟩
  have s2 := Same.new (o := .lst vs) np
  exact q _ _ (s1.trans s2) ⟨p, vs, rfl, s1.free np, upd_same, t.same s2⟩
theorem TdAll.atI {H : Hp} {xs : List V} {ds : List PyData} {i : Int} {d : PyData} (h : TdAll H xs ds) (e : L2.atI ds i = some d) : ∃ v, L2.atI xs i = some v ∧ Td H v d := by
  unfold L2.atI at e ⊢
  rw [h.len]
  cases z : ixN ds.length i with
  | none =>
    rw [z] at e
    cases e
  | some j =>
    rw [z] at e
    exact h.get e
theorem DE.ixT {ds : List PyData} {i : Int} {d : PyData} (ha : DE K ta e (.dat (.tuple ds))) (hb : DE K tb e (.dat (.int i))) (hd : L2.atI ds i = some d) : DE K (tOp (rIxT K) ta tb) e (.dat d) :=
  ha.two hb fun H H' x y Q rx ry q => by
    cases int_of ry
    obtain ⟨a, xs, rfl, ha, t⟩ := tup_of rx
    obtain ⟨v, ev, tv⟩ := t.atI hd
    exact ⟨a, xs, i, v, rfl, rfl, ha.sq, ev, q _ _ (Same.refl _) tv⟩
def lOf : Cell → Option (List PyData)
  | .rd ds => some ds
  | .own ds => some ds
  | _ => none
theorem ValR.lst {H H' : Hp} {v : V} {ds : List PyData} : ∀ {c : Cell}, lOf c = some ds → ValR K H H' v c → ∃ a xs, v = .ref a ∧ H' a = some (.lst xs) ∧ TdAll H' xs ds
  | .rd _, h, r => by
    cases h
    exact r
  | .own _, h, ⟨a, xs, e, n, r⟩ => by
    cases h
    exact ⟨a, xs, e, r⟩
  | .un, h, _ => by cases h
  | .raw _, h, _ => by cases h
  | .dat _, h, _ => by cases h
  | .cst _, h, _ => by cases h
  | .rng _ _, h, _ => by cases h
  | .fix _, h, _ => by cases h
theorem DE.ixL {ds : List PyData} {ca : Cell} {i : Int} {d : PyData} (ha : DE K ta e ca) (hb : DE K tb e (.dat (.int i))) (hl : lOf ca = some ds) (hd : L2.atI ds i = some d) : DE K (tOp (rIxL K) ta tb) e (.dat d) :=
  ha.two hb fun H H' x y Q rx ry q => by
    cases int_of ry
    obtain ⟨a, xs, rfl, ha, t⟩ := rx.lst hl
    obtain ⟨v, ev, tv⟩ := t.atI hd
    exact ⟨a, xs, i, v, rfl, rfl, SqL.of ha, ev, q _ _ (Same.refl _) tv⟩
/-- a cell of the script, by its index -/
theorem DE.ixS {ns : List Int} {i n : Int} (ha : DE K ta e (.scr ns)) (hb : DE K tb e (.dat (.int i))) (hd : L2.atI ns i = some n) : DE K (tOp (rIxL K) ta tb) e (.dat (.int n)) :=
  ha.two hb fun H H' x y Q rx ry q => by
    cases int_of ry
    obtain ⟨a, rfl, h⟩ := rx
    refine ⟨a, ns.map V.int, i, .int n, rfl, rfl, h, ?_, q _ _ (Same.refl _) (.int n)⟩
    unfold L2.atI at hd ⊢
    rw [List.length_map]
    cases z : ixN ns.length i with
    | none =>
      rw [z] at hd
      cases hd
    | some j =>
      rw [z] at hd
      show (ns.map V.int)[j]? = _
      rw [List.getElem?_map]
      have hd : ns[j]? = some n := hd
      rw [hd]
      rfl
abbrev rLen (K : PySem.W.Frag) : List V → Hp → VK → Prop := fun xs H Q => ∃ p ys, xs = [.ref p] ∧ (SqL K H p ys ∨ SqT K H p ys) ∧ Q (.int ys.length) H
theorem DE.lenT {ds : List PyData} (ha : DE K ta e (.dat (.tuple ds))) : DE K (tCB (rLen K) (tCons ta tNil)) e (.dat (.int ds.length)) := fun H0 H σ Q E q => ha H0 H σ _ E fun x H1 s1 r => by
  obtain ⟨a, xs, rfl, ha, t⟩ := tup_of r
  refine ⟨a, xs, rfl, .inr ha.sq, ?_⟩
  rw [t.len]
  exact q _ _ s1 (.int _)
theorem DE.lenL {ds : List PyData} {ca : Cell} (ha : DE K ta e ca) (hl : lOf ca = some ds) : DE K (tCB (rLen K) (tCons ta tNil)) e (.dat (.int ds.length)) := fun H0 H σ Q E q => ha H0 H σ _ E fun x H1 s1 r => by
  obtain ⟨a, xs, rfl, ha, t⟩ := r.lst hl
  refine ⟨a, xs, rfl, .inl (SqL.of ha), ?_⟩
  rw [t.len]
  exact q _ _ s1 (.int _)
theorem DE.lenS {ns : List Int} (ha : DE K ta e (.scr ns)) : DE K (tCB (rLen K) (tCons ta tNil)) e (.dat (.int ns.length)) := fun H0 H σ Q E q => ha H0 H σ _ E fun x H1 s1 r => by
  obtain ⟨a, rfl, h⟩ := r
  refine ⟨a, ns.map V.int, rfl, .inl h, ?_⟩
  rw [List.length_map]
  exact q _ _ s1 (.int _)
def tyOf : PyData → String
  | .none => "NoneType"
  | .bool _ => "bool"
  | .int _ => "int"
  | .str _ => "str"
  | .tuple _ => "tuple"
  | .list _ => "list"
  | .dict _ => "dict"
theorem tyX_of {H : Hp} {v : V} {d : PyData} (h : Td H v d) : TyX K H v (.type (tyOf d)) := by
  cases h with
  | non => exact .base .non
  | bl b => exact .base (.bl b)
  | int i => exact .base (.int i)
  | str x => exact .base (.str x)
  | tup h1 h2 => exact .fTuple h1.choose_spec.2
theorem DE.isi {d : PyData} {T : String} {b : Bool} (ha : DE K ta e (.dat d)) (hk : kitB (tyOf d) T = some b) : DE K (tCB (rIsi K) (tCons ta (tCons (tC (.ty T)) tNil))) e (.dat (.bool b)) := fun H0 H σ Q E q => ha H0 H σ _ E fun x H1 s1 r => by
  exact ⟨x, .ty T, _, _, b, rfl, .ty T, tyX_of r, kit_ty hk, q _ _ s1 (.bl b)⟩
/-- isinstance of a list -/
theorem DE.isiL {ds : List PyData} {ca : Cell} {T : String} {b : Bool} (ha : DE K ta e ca) (hl : lOf ca = some ds) (hk : kitB "list" T = some b) : DE K (tCB (rIsi K) (tCons ta (tCons (tC (.ty T)) tNil))) e (.dat (.bool b)) := fun H0 H σ Q E q => ha H0 H σ _ E fun x H1 s1 r => by
  obtain ⟨a, xs, rfl, ha, t⟩ := r.lst hl
  exact ⟨_, .ty T, _, _, b, rfl, .ty T, .base (.lst ha), kit_ty hk, q _ _ s1 (.bl b)⟩
def cutD (ds : List PyData) (lo hi : Option Int) : List PyData := (ds.drop (HT.sIx ds.length 0 lo)).take (HT.sIx ds.length ds.length hi - HT.sIx ds.length 0 lo)
theorem TdAll.drop {H : Hp} : ∀ {xs : List V} {ds : List PyData} (n : Nat), TdAll H xs ds → TdAll H (xs.drop n) (ds.drop n)
  | _, _, 0, h => h
  | [], _, n + 1, h => by
    cases h
    exact .nil
  | _ :: _, _, n + 1, h => by
    cases h with
    | cons h1 h2 => exact TdAll.drop n h2
theorem TdAll.take {H : Hp} : ∀ {xs : List V} {ds : List PyData} (n : Nat), TdAll H xs ds → TdAll H (xs.take n) (ds.take n)
  | [], _, 0, h => by
    cases h
    exact .nil
  | _ :: _, _, 0, h => by
    cases h
    exact .nil
  | [], _, n + 1, h => by
    cases h
    exact .nil
  | _ :: _, _, n + 1, h => by
    cases h with
    | cons h1 h2 => exact .cons h1 (TdAll.take n h2)
theorem TdAll.cut {H : Hp} {xs : List V} {ds : List PyData} (h : TdAll H xs ds) (lo hi : Option Int) : TdAll H (cutV xs lo hi) (cutD ds lo hi) := by
  unfold cutV cutD
  rw [h.len]
  exact (h.drop _).take _
theorem DO.no : DO K tNoPart e none := fun _ H _ _ _ q => q H (Same.refl H)
theorem DO.some {i : Int} (h : DE K ta e (.dat (.int i))) : DO K (tPart ta) e (some i) := fun H0 H σ Q E q => h H0 H σ _ E fun v H' s r => by
  cases int_of r
  exact ⟨i, rfl, q H' s⟩
theorem DE.slT {ds : List PyData} {tl th : TO} {lo hi : Option Int} (ha : DE K ta e (.dat (.tuple ds))) (hl : DO K tl e lo) (hh : DO K th e hi) : DE K (tSl (rSlN K) ta tl th) e (.dat (.tuple (cutD ds lo hi))) := by
  intro H0 H σ Q E q
  refine ha H0 H σ _ E fun x H1 s1 rx => hl H0 H1 σ _ (E.up s1) fun H2 s2 => hh H0 H2 σ _ (E.up (s1.trans s2)) fun H3 s3 => ?_
  obtain ⟨a, xs, rfl, ha, t⟩ := tup_of rx
  have s23 := s2.trans s3
  have t3 := t.same s23
  have ln := t.len
  refine ⟨a, xs, rfl, (ha.same s23).sq, fun h => ?_, fun h p o ho np => ?_⟩
  · refine q _ _ (s1.trans s23) (.tup (ha.same s23) ?_)
    rw [show cutD ds lo hi = ds from by
      unfold cutD
      rw [← ln, h.1, h.2, ln]
      simp]
    exact t3
  · have s4 := Same.new (o := .frz o (.tup (cutV xs lo hi))) np
    exact q _ _ (s1.trans (s23.trans s4)) (.tup (.new ho) ((t3.cut lo hi).same s4))
theorem DE.catT {ds es : List PyData} (ha : DE K ta e (.dat (.tuple ds))) (hb : DE K tb e (.dat (.tuple es))) (hl : ds.length + es.length ≤ sizeLine) : DE K (tOp (rCatN K) ta tb) e (.dat (.tuple (ds ++ es))) :=
  ha.two hb fun H H' x y Q rx ry q => by
    obtain ⟨a, xs, rfl, ha, t⟩ := tup_of rx
    obtain ⟨b, ys, rfl, hb, u⟩ := tup_of ry
    refine ⟨a, b, xs, ys, rfl, rfl, ha.sq, hb.sq, by rw [t.len, u.len]; exact hl, fun h => ?_, fun h h2 => ?_, fun h h2 p o ho np => ?_⟩
    · subst h
      cases t
      exact q _ _ (Same.refl _) ry
    · subst h2
      cases u
      rw [List.append_nil] at q
      exact q _ _ (Same.refl _) rx
    · have s := Same.new (o := .frz o (.tup (xs ++ ys))) np
      exact q _ _ s (.tup (.new ho) ((t.app u).same s))
theorem DE.catL {ds es : List PyData} {ca cb : Cell} (ha : DE K ta e ca) (hb : DE K tb e cb) (la : lOf ca = some ds) (lb : lOf cb = some es) (hl : ds.length + es.length ≤ sizeLine) : DE K (tOp rCat ta tb) e (.own (ds ++ es)) :=
  ha.two hb fun H H' x y Q rx ry q => by
    obtain ⟨a, xs, rfl, ha, t⟩ := rx.lst la
    obtain ⟨b, ys, rfl, hb, u⟩ := ry.lst lb
    refine ⟨a, b, xs, ys, rfl, rfl, ha, hb, by rw [t.len, u.len]; exact hl, fun p np => ?_⟩
    have s := Same.new (o := .lst (xs ++ ys)) np
    exact q _ _ s ⟨p, _, rfl, np, upd_same, (t.app u).same s⟩
theorem DE.fld {C : Addr} {fs : List (Str × V)} {f : Str} {v : V} (ha : DE K ta e (.obj C fs)) (hc : Cls K C) (hn : NoAttr K C f) (hf : fs.lookup f = some v) (hv : ∀ H, ValR K H H v c) : DE K (tFld K ta f) e c := fun H0 H σ Q E q => ha H0 H σ _ E fun x H1 s1 r => by
  obtain ⟨a, rfl, dx, h⟩ := r
  exact ⟨a, C, dx, fs, v, rfl, h, hc, hn, hf, q _ _ s1 ((hv H1).low s1)⟩
/-- a def that gives, of arguments cs, c: and changes nothing -/
def spD (K : PySem.W.Frag) (f : List Cell → Cell → Prop) : Sp := fun vs H Q _ => ∃ cs c, f cs c ∧ cs.all (fun c => !isOwn c) = true ∧ ValsR K H H vs cs ∧ ∀ v H', Same H H' → ValR K H H' v c → Q v H'
/-- .. or raises an exception of the class C, without arguments -/
def spDX (K : PySem.W.Frag) (f : List Cell → Cell → Prop) (g : List Cell → Addr → Prop) : Sp := fun vs H Q E => ∃ cs, cs.all (fun c => !isOwn c) = true ∧ ValsR K H H vs cs ∧ ((∃ c, f cs c ∧ ∀ v H', Same H H' → ValR K H H' v c → Q v H') ∨ ∃ C, g cs C ∧ ∀ H', Same H H' → E (.ref C) none H')
theorem all_view : ∀ cs : List Cell, (cs.map view).all (fun c => !isOwn c) = true
  | [] => rfl
  | c :: cs => by
    rw [List.map_cons, List.all_cons, all_view cs]
    cases c <;> rfl
theorem DE.call {f : List Cell → Cell → Prop} {E : XK} (h : DA K tr e cs) (hf : f (cs.map view) c) : DE K (tCall (spD K f) [] E tr) e c := fun H0 H σ Q En q => h H0 H σ _ En fun vs H1 s1 r => by
  rw [List.append_nil]
  exact ⟨_, c, hf, all_view cs, r.view, fun v H' s2 rv => q v H' (s1.trans s2) (rv.low s1)⟩
theorem DE.callX {f : List Cell → Cell → Prop} {g : List Cell → Addr → Prop} {E : XK} (h : DA K tr e cs) (hf : f (cs.map view) c) : DE K (tCall (spDX K f g) [] E tr) e c := fun H0 H σ Q En q => h H0 H σ _ En fun vs H1 s1 r => by
  rw [List.append_nil]
  exact ⟨_, all_view cs, r.view, .inl ⟨c, hf, fun v H' s2 rv => q v H' (s1.trans s2) (rv.low s1)⟩⟩
theorem DE.meth {f : List Cell → Cell → Prop} {E : XK} {C : Addr} {fs : List (Str × V)} {m : Str} (ho : DE K ta e (.obj C fs)) (hm : fs.lookup m = none) (h : DA K tr e cs) (hf : f (.obj C fs :: cs.map view) c) : DE K (tMeth C m (spD K f) [] E ta tr) e c := fun H0 H σ Q En q => ho H0 H σ _ En fun x H1 s1 rx => by
  obtain ⟨a, rfl, dx, hx⟩ := rx
  refine ⟨a, dx, fs, rfl, hx, hm, h H0 H1 σ _ (En.up s1) fun vs H2 s2 r => ?_⟩
  rw [List.append_nil]
  exact ⟨_, c, hf, (by rw [List.all_cons, all_view cs]; rfl), ⟨⟨a, rfl, dx, s2 _ _ hx⟩, r.view⟩, fun v H' s3 rv => q v H' (s1.trans (s2.trans s3)) (rv.low (s1.trans s2))⟩
end
end Esp
set_option autoImplicit false
set_option maxRecDepth 100000
set_option maxHeartbeats 4000000
namespace Esp
open PySem PySem.Spec PyProof.Rows L2
inductive Out
  | ret (c : Cell)
  | next (e : List Cell)
  | brk (e : List Cell)
  | cont (e : List Cell)
  | exc (C : Addr)
def OutK (K : PySem.W.Frag) (D : Ends) (E : XK) (H0 : Bs) : Out → Prop
  | .ret c => ∀ v H', Same H0.h H' → ValR K H0.h H' v c → D.rt v H'
  | .next e => ∀ σ H', EnvR K H0 H' σ e → D.nx σ H'
  | .brk e => ∀ σ H', EnvR K H0 H' σ e → D.bk σ H'
  | .cont e => ∀ σ H', EnvR K H0 H' σ e → D.ct σ H'
  | .exc C => ∀ H', Same H0.h H' → E (.ref C) none H'
def DS (K : PySem.W.Frag) (E : XK) (t : TS) (e : List Cell) (o : Out) : Prop := ∀ H0 H (σ : L2.St) (D : Ends), EnvR K H0 H σ e → OutK K D E H0 o → t D σ H
/-- an expression that raises -/
def DX (K : PySem.W.Frag) (E : XK) (t : TE) (e : List Cell) (C : Addr) : Prop := ∀ H0 H (σ : L2.St) (Q : VK), EnvR K H0 H σ e → (∀ H', Same H0.h H' → E (.ref C) none H') → t σ H Q
def isNext : Out → Bool
  | .next _ => true
  | _ => false
/-- what a name may hold -/
def store : Cell → Bool
  | .rd _ => false
  | .fix _ => false
  | _ => true
section
variable {K : PySem.W.Frag} {E : XK} {e e1 : List Cell} {c : Cell} {o : Out} {ta tb te : TE} {tA : TT} {t u : TS} {tr : TA} {H0 : Bs} {H H' : Hp} {σ : L2.St}
theorem DS.seq (h : DS K E t e (.next e1)) (h2 : DS K E u e1 o) : DS K E (tSeq t u) e o := fun H0 H σ D R q => h H0 H σ _ R fun σ' H' R' => h2 H0 H' σ' D R' q
theorem DS.fin (h : DS K E t e o) (hn : isNext o = false) : DS K E (tSeq t u) e o := fun H0 H σ D R q => h H0 H σ _ R (by
  cases o with
  | next _ => cases hn
  | ret _ => exact q
  | brk _ => exact q
  | cont _ => exact q
  | exc _ => exact q)
theorem DS.nil : DS K E tNext e (.next e) := fun H0 H σ D R q => q σ H R
theorem DS.if_ {b : Bool} (h : DB K tA e b) (h1 : b = true → DS K E t e o) (h2 : b = false → DS K E u e o) : DS K E (tIfS tA t u) e o := fun H0 H σ D R q => h H0 H σ _ R fun H' s => by
  cases b with
  | true => exact iteT (h1 rfl H0 H' σ D (R.up s) q)
  | false => exact iteF (h2 rfl H0 H' σ D (R.up s) q)
theorem DS.ifT (h : DB K tA e true) (h1 : DS K E t e o) : DS K E (tIfS tA t u) e o := DS.if_ h (fun _ => h1) fun z => by cases z
theorem DS.ifF (h : DB K tA e false) (h1 : DS K E u e o) : DS K E (tIfS tA t u) e o := DS.if_ h (fun z => by cases z) fun _ => h1
theorem DS.ret (h : DE K te e c) : DS K E (tRet te) e (.ret c) := fun H0 H σ D R q => h H0 H σ _ R fun v H' s r => q v H' (R.sm.trans s) (r.low R.sm)
theorem DS.retN : DS K E tRetN e (.ret (.dat .none)) := fun H0 H σ D R q => q _ H R.sm .non
/-- a list made here is returned -/
theorem DS.retOwn {i : Nat} {ds : List PyData} (h : e[i]? = some (.own ds)) : DS K E (tRet (tVar i)) e (.ret (.own ds)) := fun H0 H σ D R q => by
  obtain ⟨o, eo, a, xs, ev, n, h1, t⟩ := R.sl.get h
  subst ev
  exact ⟨_, eo, q _ H R.sm ⟨a, xs, rfl, n, h1, t⟩⟩
theorem DS.brk : DS K E tBreak e (.brk e) := fun H0 H σ D R q => q σ H R
theorem DS.cont : DS K E tCont e (.cont e) := fun H0 H σ D R q => q σ H R
theorem DS.drop (h : DE K te e c) : DS K E (tDrop te) e (.next e) := fun H0 H σ D R q => h H0 H σ _ R fun v H' s r => q σ H' (R.up s)
theorem slot_lst {a : Addr} {i : Nat} {d : Cell} (R : EnvR K H0 H σ e) (h : e[i]? = some d) (hl : isLst d = true) (hs : σ[i]? = some (some (.ref a))) : ∃ xs, H a = some (.lst xs) := by
  obtain ⟨o, eo, r⟩ := R.sl.get h
  rw [hs] at eo
  obtain rfl := Option.some.inj eo
  cases d with
  | rd ds =>
    obtain ⟨b, xs, ev, h1, _⟩ := r
    obtain rfl := V.ref.inj (Option.some.inj ev)
    exact ⟨xs, h1⟩
  | own ds =>
    obtain ⟨b, xs, ev, _, h1, _⟩ := r
    obtain rfl := V.ref.inj (Option.some.inj ev)
    exact ⟨xs, h1⟩
  | un => cases hl
  | raw _ => cases hl
  | dat _ => cases hl
  | cst _ => cases hl
  | rng _ _ => cases hl
  | fix _ => cases hl
theorem get_set {α : Type} {l : List α} {i j : Nat} {x y : α} (h : (l.set i x)[j]? = some y) : (i = j ∧ y = x) ∨ (i ≠ j ∧ l[j]? = some y) := by
  by_cases e : i = j
  · subst e
    left
    refine ⟨rfl, ?_⟩
    by_cases hi : i < l.length
    · rw [List.getElem?_set_self hi] at h
      exact (Option.some.inj h).symm
    · rw [List.getElem?_eq_none (by rw [List.length_set]; omega)] at h
      cases h
  · rw [List.getElem?_set_ne e] at h
    exact .inr ⟨e, h⟩
theorem SlotR.ofVal {v : V} (s0 : Same H0.h H) : ∀ {c : Cell}, store c = true → ValR K H H' v c → SlotR K H0 H' (some v) c
  | .un, _, _ => trivial
  | .raw _, _, r => congrArg some r
  | .dat _, _, r => ⟨v, rfl, r⟩
  | .cst _, _, r => ⟨v, rfl, r⟩
  | .own _, _, ⟨a, xs, ev, n, h, t⟩ => ⟨a, xs, congrArg some ev, s0.free n, h, t⟩
  | .rng _ _, _, ⟨a, ev, h⟩ => ⟨a, congrArg some ev, h⟩
  | .rd _, h, _ => by cases h
  | .fix _, h, _ => by cases h
/-- a name gets a value -/
theorem EnvR.put {i : Nat} {v : V} (R : EnvR K H0 H σ e) (s : Same H H') (hs : store c = true) (r : ValR K H H' v c) : EnvR K H0 H' (σ.set i (some v)) (e.set i c) := by
  refine ⟨R.bs, R.sm.trans s, (R.sl.up s).set i (SlotR.ofVal R.sm hs r), ?_⟩
  intro j k a x y hj ox hk ly sj sk
  rcases get_set hj with ⟨rfl, rfl⟩ | ⟨nj, ej⟩
  · rcases get_set hk with ⟨rfl, rfl⟩ | ⟨nk, ek⟩
    · rfl
    · rw [List.getElem?_set_ne nk] at sk
      obtain ⟨xs, hx⟩ := slot_lst R ek ly sk
      cases x with
      | own ds =>
        obtain ⟨b, ys, ev, n, _⟩ := r
        rcases get_set sj with ⟨_, z⟩ | ⟨z, _⟩
        · rw [← Option.some.inj z] at ev
          obtain rfl := V.ref.inj ev
          rw [n] at hx
          cases hx
        · exact absurd rfl z
      | un => cases ox
      | raw _ => cases ox
      | dat _ => cases ox
      | cst _ => cases ox
      | rd _ => cases ox
      | rng _ _ => cases ox
      | fix _ => cases ox
  · rcases get_set hk with ⟨rfl, rfl⟩ | ⟨nk, ek⟩
    · rw [List.getElem?_set_ne nj] at sj
      obtain ⟨o, eo, q⟩ := R.sl.get ej
      cases x with
      | own ds =>
        obtain ⟨b, ys, ev, n, hb, _⟩ := q
        subst ev
        rw [sj] at eo
        obtain rfl := V.ref.inj (Option.some.inj (Option.some.inj eo))
        cases y with
        | own ds =>
          obtain ⟨b, ys, ev, n, _⟩ := r
          rcases get_set sk with ⟨_, z⟩ | ⟨z, _⟩
          · rw [← Option.some.inj z] at ev
            obtain rfl := V.ref.inj ev
            rw [n] at hb
            cases hb
          · exact absurd rfl z
        | rd _ => cases hs
        | un => cases ly
        | raw _ => cases ly
        | dat _ => cases ly
        | cst _ => cases ly
        | rng _ _ => cases ly
        | fix _ => cases ly
      | un => cases ox
      | raw _ => cases ox
      | dat _ => cases ox
      | cst _ => cases ox
      | rd _ => cases ox
      | rng _ _ => cases ox
      | fix _ => cases ox
    · rw [List.getElem?_set_ne nj] at sj
      rw [List.getElem?_set_ne nk] at sk
      exact R.ap j k a x y ej ox ek ly sj sk
theorem DS.set {i : Nat} (h : DE K te e c) (hs : store c = true) : DS K E (tAsg te (gName i)) e (.next (e.set i c)) := fun H0 H σ D R q => h H0 H σ _ R fun v H' s r => q _ H' (R.put s hs r)
/-- a, b = x, y: data -/
theorem DS.par {i j : Nat} {d1 d2 : PyData} (h : DA K tr e [.dat d1, .dat d2]) : DS K E (tPar i j tr) e (.next ((e.set i (.dat d1)).set j (.dat d2))) := fun H0 H σ D R q => h H0 H σ _ R fun vs H' s r => by
  match vs, r with
  | [v, w], ⟨r1, r2, _⟩ => exact ⟨v, w, rfl, q _ _ ((R.put s rfl r1).put (Same.refl H') (c := .dat d2) rfl r2)⟩
  | [], r => exact r.elim
  | [_], ⟨_, r⟩ => exact r.elim
  | _ :: _ :: _ :: _, ⟨_, _, r⟩ => exact r.elim
theorem DS.aug {i : Nat} {a b : Int} {g : Int → Int → Int} (hi : e[i]? = some (.dat (.int a))) (h : DE K te e (.dat (.int b))) : DS K E (tAug i te (ipI g)) e (.next (e.set i (.dat (.int (g a b))))) := fun H0 H σ D R q => by
  obtain ⟨o, eo, v, ev, tv⟩ := R.sl.get hi
  subst ev
  cases int_of tv
  refine ⟨_, eo, h H0 H σ _ R fun y H1 s r => ?_⟩
  cases int_of r
  exact ⟨a, b, rfl, rfl, q _ _ (R.put s (c := .dat (.int (g a b))) rfl (.int _))⟩
theorem EnvR.wr {i : Nat} {a : Addr} {ds ds' : List PyData} {xs ys : List V} (R : EnvR K H0 H σ e) (hi : e[i]? = some (.own ds)) (si : σ[i]? = some (some (.ref a))) (ha : H a = some (.lst xs)) (hn : H0.h a = none) (ty : TdAll H ys ds') :
    EnvR K H0 (upd H a (.lst ys)) σ (e.set i (.own ds')) := by
  have tp : Tups H (upd H a (.lst ys)) := Tups.wr ha fun _ => lst_tup
  have sm : Same H0.h (upd H a (.lst ys)) := fun b o z => by
    rw [upd_ne (ne_of_none z hn)]
    exact R.sm b o z
  have hil : i < e.length := by
    rcases Nat.lt_or_ge i e.length with z | z
    · exact z
    · rw [List.getElem?_eq_none z] at hi
      cases hi
  have key : ∀ (σ' : L2.St) (e' : List Cell) (n : Nat), (∀ j c, e'[j]? = some c → isLst c = true → σ'[j]? = some (some (.ref a)) → j + n = i) → Slots K H0 H σ' e' → Slots K H0 (upd H a (.lst ys)) σ' (if i < n then e' else e'.set (i - n) (.own ds')) ∨ (n ≤ i ∧ ¬ σ'[i - n]? = some (some (.ref a))) := by
    intro σ'
    induction σ' with
    | nil =>
      intro e' n _ S
      cases e' with
      | nil =>
        left
        split <;> exact trivial
      | cons _ _ => exact S.elim
    | cons o σ' ih =>
      intro e' n hap S
      cases e' with
      | nil => exact S.elim
      | cons c e' =>
        obtain ⟨s1, s2⟩ := S
        have hap' : ∀ j c, e'[j]? = some c → isLst c = true → σ'[j]? = some (some (.ref a)) → j + (n + 1) = i := fun j c h1 h2 h3 => by
          have := hap (j + 1) c (by simpa using h1) h2 (by simpa using h3)
          omega
        -- the first slot, when it is not the one that is written
        have first : i ≠ n → SlotR K H0 (upd H a (.lst ys)) o c := fun hne => by
          cases c with
          | un => exact trivial
          | raw v => exact s1
          | dat d =>
            obtain ⟨v, ev, tv⟩ := s1
            exact ⟨v, ev, tv.up tp⟩
          | cst d => exact s1
          | rd es =>
            obtain ⟨b, zs, ev, hb, tz⟩ := s1
            have nb : b ≠ a := fun z => by
              subst z
              have := hap 0 (.rd es) rfl rfl (by rw [ev]; rfl)
              omega
            exact ⟨b, zs, ev, by rw [upd_ne nb]; exact hb, tz.up tp⟩
          | own es =>
            obtain ⟨b, zs, ev, hn', hb, tz⟩ := s1
            have nb : b ≠ a := fun z => by
              subst z
              have := hap 0 (.own es) rfl rfl (by rw [ev]; rfl)
              omega
            exact ⟨b, zs, ev, hn', by rw [upd_ne nb]; exact hb, tz.up tp⟩
          | rng lo hi =>
            obtain ⟨b, ev, hb⟩ := s1
            have nb : b ≠ a := fun z => by
              rw [z, ha] at hb
              cases hb
            exact ⟨b, ev, by rw [upd_ne nb]; exact hb⟩
          | fix k => exact s1
        rcases Nat.lt_trichotomy i n with hlt | heq | hgt
        · left
          rw [if_pos hlt]
          rcases ih e' (n + 1) hap' s2 with z | z
          · rw [if_pos (by omega)] at z
            exact ⟨first (by omega), z⟩
          · omega
        · subst heq
          by_cases ho : o = some (.ref a)
          · left
            rw [if_neg (by omega), Nat.sub_self]
            rcases ih e' (i + 1) hap' s2 with z | z
            · rw [if_pos (by omega)] at z
              exact ⟨⟨a, ys, ho, hn, upd_same, ty.up tp⟩, z⟩
            · omega
          · right
            refine ⟨Nat.le_refl _, ?_⟩
            rw [Nat.sub_self]
            exact fun z => ho (Option.some.inj z)
        · rw [if_neg (by omega)]
          rcases ih e' (n + 1) hap' s2 with z | z
          · rw [if_neg (by omega)] at z
            left
            rw [show i - n = (i - (n + 1)) + 1 from by omega]
            exact ⟨first (by omega), z⟩
          · right
            refine ⟨by omega, ?_⟩
            rw [show i - n = (i - (n + 1)) + 1 from by omega]
            exact z.2
  refine ⟨R.bs, sm, ?_, ?_⟩
  · rcases key σ e 0 (fun j c h1 h2 h3 => (R.ap i j a (.own ds) c hi rfl h1 h2 si h3).symm) R.sl with z | z
    · rw [if_neg (by omega)] at z
      exact z
    · exact absurd si z.2
  · intro j k b x y hj ox hk ly sj sk
    have up : ∀ (l : Nat) (z : Cell), (e.set i (.own ds'))[l]? = some z → isLst z = true → ∃ z', e[l]? = some z' ∧ isLst z' = true ∧ (isOwn z = true → isOwn z' = true) := fun l z h hl => by
      rcases get_set h with ⟨rfl, rfl⟩ | ⟨_, h'⟩
      · exact ⟨_, hi, rfl, fun _ => rfl⟩
      · exact ⟨z, h', hl, id⟩
    have lx : isLst x = true := by
      cases x <;> first | rfl | cases ox
    obtain ⟨x', hx, _, px⟩ := up j x hj lx
    obtain ⟨y', hy, ly', _⟩ := up k y hk ly
    exact R.ap j k b x' y' hx (px ox) hy ly' sj sk
/-- xs.append(x) -/
theorem DS.app {i : Nat} {ds : List PyData} {d : PyData} (hi : e[i]? = some (.own ds)) (h : DE K ta e (.dat d)) (hl : ds.length < sizeLine) : DS K E (tDrop (tBM K "list" rAppend (tVar i) (tCons ta tNil))) e (.next (e.set i (.own (ds ++ [d])))) := fun H0 H σ D R q => by
  obtain ⟨o, eo, a, xs, ev, n, ha, tx⟩ := R.sl.get hi
  subst ev
  refine ⟨_, eo, .inl ⟨rfl, _, SqL.of ha⟩, h H0 H σ _ R fun y H1 s r => ?_⟩
  have t1 := tx.same s
  exact ⟨a, xs, y, rfl, rfl, s _ _ ha, by rw [tx.len]; exact hl, q _ _ ((R.up s).wr hi eo (s _ _ ha) n (t1.snoc r))⟩
/-- xs[i] = x -/
theorem DS.put {i j : Nat} {ds : List PyData} {k : Int} {d : PyData} {ti : TE} (hi : e[i]? = some (.own ds)) (h : DE K ta e (.dat d)) (hk : DE K ti e (.dat (.int k))) (hj : ixN ds.length k = some j) : DS K E (tAsg ta (gSub (tVar i) ti rSetL)) e (.next (e.set i (.own (ds.set j d)))) := fun H0 H σ D R q => by
  obtain ⟨o, eo, a, xs, ev, n, ha, tx⟩ := R.sl.get hi
  subst ev
  refine h H0 H σ _ R fun y H1 s r => ⟨_, eo, hk H0 H1 σ _ (R.up s) fun z H2 s2 rz => ?_⟩
  cases int_of rz
  have s12 := s.trans s2
  exact ⟨a, xs, k, j, rfl, rfl, s12 _ _ ha, by rw [tx.len]; exact hj, q _ _ ((R.up s12).wr hi eo (s12 _ _ ha) n (TdAll.set (Td.up r (Tups.of s2)) j (tx.same s12)))⟩
theorem DS.raise {C : Addr} (T : OexC K C) : DS K E (fun _ σ H => tMkV C (spVI K) σ H fun cls d H' => E cls d H') e (.exc C) := fun H0 H σ D R q => mkV_ask T (q H R.sm)
theorem DX.call {f : List Cell → Cell → Prop} {g : List Cell → Addr → Prop} {cs : List Cell} {C : Addr} (h : DA K tr e cs) (hf : g (cs.map view) C) : DX K E (tCall (spDX K f g) [] E tr) e C := fun H0 H σ Q R q => h H0 H σ _ R fun vs H1 s1 r => by
  rw [List.append_nil]
  exact ⟨_, all_view cs, r.view, .inr ⟨C, hf, fun H' s2 => q H' (R.sm.trans (s1.trans s2))⟩⟩
theorem DS.setX {i : Nat} {C : Addr} (h : DX K E te e C) : DS K E (tAsg te (gName i)) e (.exc C) := fun H0 H σ D R q => h H0 H σ _ R q
theorem DS.dropX {C : Addr} (h : DX K E te e C) : DS K E (tDrop te) e (.exc C) := fun H0 H σ D R q => h H0 H σ _ R q
theorem DS.retX {C : Addr} (h : DX K E te e C) : DS K E (tRet te) e (.exc C) := fun H0 H σ D R q => h H0 H σ _ R q
theorem DS.as {o2 : Out} (h : DS K E t e o) (q : o = o2) : DS K E t e o2 := q ▸ h
end
end Esp
set_option autoImplicit false
set_option maxRecDepth 100000
set_option maxHeartbeats 4000000
namespace Esp
open PySem PySem.Spec PyProof.Rows L2
def isTupO : Option HO → Bool
  | some (.frz _ (.tup _)) => true
  | _ => false
/-- the heap at the start, and the tuples of now -/
def fz0 (H0 H : Hp) : Hp := fun b => if isTupO (H b) = true then H b else H0 b
/-- .. and a list -/
def fzL0 (H0 H : Hp) (a : Addr) : Hp := fun b => if b = a then H b else fz0 H0 H b
def fz (H0 : Bs) (H : Hp) : Bs := ⟨H0.b, fz0 H0.h H⟩
def fzL (H0 : Bs) (H : Hp) (a : Addr) : Bs := ⟨H0.b, fzL0 H0.h H a⟩
section
variable {K : PySem.W.Frag} {H0 : Bs} {H H' : Hp} {σ : L2.St} {e : List Cell}
theorem fz_tup {H0 : Hp} {b : Addr} {xs : List V} (h : TupN H b xs) : TupN (fz0 H0 H) b xs := by
  obtain ⟨o, n, e⟩ := h
  refine ⟨o, n, ?_⟩
  unfold fz0
  rw [e]
  rfl
theorem fz_no {H0 : Hp} {b : Addr} (h : isTupO (H b) = false) : fz0 H0 H b = H0 b := by
  unfold fz0
  rw [h]
  rfl
theorem fz_same {H0 : Hp} (s : Same H0 H) : Same (fz0 H0 H) H := fun b o h => by
  unfold fz0 at h
  split at h
  · exact h
  · exact s b o h
theorem fz_base {H0 : Hp} (s : Same H0 H) : Same H0 (fz0 H0 H) := fun b o h => by
  unfold fz0
  split
  · exact s b o h
  · exact h
/-- another base, that knows more -/
theorem EnvR.rebase {G : Bs} (R : EnvR K H0 H σ e) (eb : G.b = H0.b) (s : Same H0.h G.h) (sm : Same G.h H) (fr : ∀ (i : Nat) (c : Cell) (a : Addr), e[i]? = some c → isOwn c = true → σ[i]? = some (some (V.ref a)) → G.h a = none) : EnvR K G H σ e := by
  refine ⟨by rw [eb]; exact R.bs.trans s, sm, ?_, R.ap⟩
  have key : ∀ (σ : L2.St) (e : List Cell), (∀ (i : Nat) (c : Cell) (a : Addr), e[i]? = some c → isOwn c = true → σ[i]? = some (some (V.ref a)) → G.h a = none) → Slots K H0 H σ e → Slots K G H σ e := by
    intro σ
    induction σ with
    | nil => intro e _ h; cases e <;> exact h
    | cons o σ ih =>
      intro e fr h
      cases e with
      | nil => exact h
      | cons c e =>
        refine ⟨?_, ih e (fun i c a h1 h2 h3 => fr (i + 1) c a (by simpa using h1) h2 (by simpa using h3)) h.2⟩
        have h1 := h.1
        cases c with
        | own ds =>
          obtain ⟨a, xs, ev, n, ha, t⟩ := h1
          exact ⟨a, xs, ev, fr 0 (.own ds) a rfl rfl (by rw [ev]; rfl), ha, t⟩
        | fix k =>
          obtain ⟨a, ev, ha⟩ := h1
          exact ⟨a, ev, by rw [eb]; exact ha⟩
        | un => exact h1
        | raw _ => exact h1
        | dat _ => exact h1
        | cst _ => exact h1
        | rd _ => exact h1
        | rng _ _ => exact h1
  exact key σ e fr R.sl
/-- .. and back -/
theorem EnvR.ofBase {G : Bs} (eb : G.b = H0.b) (bs : Same H0.b H0.h) (s : Same H0.h G.h) (R : EnvR K G H σ e) : EnvR K H0 H σ e := by
  refine ⟨bs, s.trans R.sm, ?_, R.ap⟩
  have key : ∀ (σ : L2.St) (e : List Cell), Slots K G H σ e → Slots K H0 H σ e := by
    intro σ
    induction σ with
    | nil => intro e h; cases e <;> exact h
    | cons o σ ih =>
      intro e h
      cases e with
      | nil => exact h
      | cons c e =>
        refine ⟨?_, ih e h.2⟩
        have h1 := h.1
        cases c with
        | own ds =>
          obtain ⟨a, xs, ev, n, ha, t⟩ := h1
          exact ⟨a, xs, ev, s.free n, ha, t⟩
        | fix k =>
          obtain ⟨a, ev, ha⟩ := h1
          exact ⟨a, ev, by rw [← eb]; exact ha⟩
        | un => exact h1
        | raw _ => exact h1
        | dat _ => exact h1
        | cst _ => exact h1
        | rd _ => exact h1
        | rng _ _ => exact h1
  exact key σ e R.sl
/-- an own slot's list is not there at the start -/
theorem own_new {i : Nat} {c : Cell} {a : Addr} (R : EnvR K H0 H σ e) (h : e[i]? = some c) (ho : isOwn c = true) (hs : σ[i]? = some (some (V.ref a))) : H0.h a = none ∧ ∃ xs, H a = some (.lst xs) := by
  obtain ⟨o, eo, r⟩ := R.sl.get h
  rw [hs] at eo
  obtain rfl := Option.some.inj eo
  cases c with
  | own ds =>
    obtain ⟨b, xs, ev, n, h1, _⟩ := r
    obtain rfl := V.ref.inj (Option.some.inj ev)
    exact ⟨n, xs, h1⟩
  | un => cases ho
  | raw _ => cases ho
  | dat _ => cases ho
  | cst _ => cases ho
  | rd _ => cases ho
  | rng _ _ => cases ho
  | fix _ => cases ho
/-- in a loop: the tuples of now stay -/
theorem EnvR.fz (R : EnvR K H0 H σ e) : EnvR K (Esp.fz H0 H) H σ e := R.rebase rfl (fz_base R.sm) (fz_same R.sm) fun i c a h1 h2 h3 => by
  obtain ⟨n, xs, h⟩ := own_new R h1 h2 h3
  show fz0 H0.h H a = none
  rw [fz_no (by rw [h]; rfl)]
  exact n
theorem EnvR.tups (R : EnvR K (Esp.fz H0 H) H' σ e) : Tups H H' := fun b xs h => (fz_tup h).same R.sm
/-- the same with a list that no name owns -/
theorem fzL_same {H0 : Hp} {a : Addr} (s : Same H0 H) : Same (fzL0 H0 H a) H := fun b o h => by
  unfold fzL0 at h
  split at h
  · exact h
  · exact fz_same s b o h
theorem fzL_base {H0 : Hp} {a : Addr} (s : Same H0 H) : Same H0 (fzL0 H0 H a) := fun b o h => by
  unfold fzL0
  split
  · exact s b o h
  · exact fz_base s b o h
theorem EnvR.fzL {a : Addr} (R : EnvR K H0 H σ e) (no : ∀ (i : Nat) (c : Cell), e[i]? = some c → isOwn c = true → ¬ σ[i]? = some (some (V.ref a))) : EnvR K (Esp.fzL H0 H a) H σ e := R.rebase rfl (fzL_base R.sm) (fzL_same R.sm) fun i c b h1 h2 h3 => by
  obtain ⟨n, xs, h⟩ := own_new R h1 h2 h3
  have nb : b ≠ a := fun z => no i c h1 h2 (by rw [h3, z])
  show fzL0 H0.h H a b = none
  unfold fzL0
  rw [if_neg nb, fz_no (by rw [h]; rfl)]
  exact n
theorem EnvR.tupsL {a : Addr} {ys : List V} (h0 : H a = some (.lst ys)) (R : EnvR K (Esp.fzL H0 H a) H' σ e) : Tups H H' := fun b xs h => TupN.same (H := fzL0 H0.h H a) (by
  have nb : b ≠ a := fun z => by
    obtain ⟨o, n, e⟩ := h
    rw [z, h0] at e
    cases e
  obtain ⟨o, n, e⟩ := fz_tup (H0 := H0.h) h
  refine ⟨o, n, ?_⟩
  unfold fzL0
  rw [if_neg nb]
  exact e) R.sm
theorem EnvR.lstL {a : Addr} {ys : List V} (h0 : H a = some (.lst ys)) (R : EnvR K (Esp.fzL H0 H a) H' σ e) : H' a = some (.lst ys) := R.sm _ _ (by
  show fzL0 H0.h H a a = _
  unfold fzL0
  rw [if_pos rfl]
  exact h0)
def DG (K : PySem.W.Frag) (g : TG) (e : List Cell) (d : PyData) (e' : List Cell) : Prop := ∀ H0 H (σ : L2.St) (v : V) (Q : L2.St → Hp → Prop), EnvR K H0 H σ e → Td H v d → (∀ σ', EnvR K H0 H σ' e' → Q σ' H) → g v σ H Q
def DGs (K : PySem.W.Frag) (g : TGs) (e : List Cell) (ds : List PyData) (e' : List Cell) : Prop := ∀ H0 H (σ : L2.St) (vs : List V) (Q : L2.St → Hp → Prop), EnvR K H0 H σ e → TdAll H vs ds → (∀ σ', EnvR K H0 H σ' e' → Q σ' H) → g vs σ H Q
theorem DG.name {i : Nat} {d : PyData} : DG K (gName i) e d (e.set i (.dat d)) := fun H0 H σ v Q R t q => q _ (R.put (Same.refl H) (c := .dat d) rfl t)
theorem DGs.nil : DGs K gNil e [] e := fun H0 H σ vs Q R t q => by
  cases t
  exact ⟨rfl, q σ R⟩
theorem DGs.cons {g : TG} {gs : TGs} {d : PyData} {ds : List PyData} {e1 e2 : List Cell} (h : DG K g e d e1) (hs : DGs K gs e1 ds e2) : DGs K (gCons g gs) e (d :: ds) e2 := fun H0 H σ vs Q R t q => by
  cases t with
  | cons t1 t2 => exact ⟨_, _, rfl, h H0 H σ _ _ R t1 fun σ' R' => hs H0 H σ' _ _ R' t2 q⟩
theorem DG.tup {n : Nat} {gs : TGs} {ds : List PyData} {e' : List Cell} (h : DGs K gs e ds e') (hn : ds.length = n) : DG K (gTup K n gs) e (.tuple ds) e' := fun H0 H σ v Q R t q => by
  obtain ⟨a, xs, rfl, ha, t⟩ := tup_of t
  exact ⟨a, xs, rfl, ha.sq, by rw [t.len]; exact hn, h H0 H σ xs Q R t q⟩
theorem DS.asg {E : XK} {te : TE} {g : TG} {d : PyData} {e' : List Cell} (h : DE K te e (.dat d)) (hg : DG K g e d e') : DS K E (tAsg te g) e (.next e') := fun H0 H σ D R q => h H0 H σ _ R fun v H' s r => hg H0 H' σ v _ (R.up s) r fun σ' R' => q σ' H' R'
/-- the turns before m go on; at m the loop ends: behind all, by a break, a return, an exception -/
def Turns (K : PySem.W.Frag) (E : XK) (tb : TS) (g : TG) (n : Nat) (at_ : Nat → Option PyData) (Es : Nat → List Cell) (o : Out) : Prop :=
  ∃ m, m ≤ n ∧ (∀ j d, j < m → at_ j = some d → ∃ e1 o', DG K g (Es j) d e1 ∧ DS K E tb e1 o' ∧ (o' = .next (Es (j + 1)) ∨ o' = .cont (Es (j + 1)))) ∧
    ((m = n ∧ o = .next (Es n)) ∨ (m < n ∧ ∃ d e1 o', at_ m = some d ∧ DG K g (Es m) d e1 ∧ DS K E tb e1 o' ∧ ((∃ e', o' = .brk e' ∧ o = .next e') ∨ (∃ c, o' = .ret c ∧ o = .ret c) ∨ (∃ C, o' = .exc C ∧ o = .exc C))))
/-- one turn, in the loop's own words -/
theorem turn_step {E : XK} {tb : TS} {g : TG} {n : Nat} {at_ : Nat → Option PyData} {Es : Nat → List Cell} {o : Out} {G : Bs} {D : Ends} (T : Turns K E tb g n at_ Es o) (sG : Same H0.h G.h)
    (un : ∀ σ H e, EnvR K G H σ e → EnvR K H0 H σ e) (q : OutK K D E H0 o) {j : Nat} {d : PyData} {v : V} (hj : j < n) (ed : at_ j = some d) (hd : at_ j = some d → Td H' v d)
    (m : Nat) (hm : m = T.choose) (hjm : j ≤ m) (R : EnvR K G H' σ (Es j)) : g v σ H' fun σ2 H2 => tb { D with nx := fun σ H => (j + 1 ≤ m ∧ EnvR K G H σ (Es (j + 1))), ct := fun σ H => (j + 1 ≤ m ∧ EnvR K G H σ (Es (j + 1))), bk := D.nx } σ2 H2 := by
  subst hm
  obtain ⟨hmn, go, last⟩ := T.choose_spec
  rcases Nat.lt_or_ge j T.choose with hlt | hge
  · obtain ⟨e1, o', hg, h, ho⟩ := go j d hlt ed
    refine hg G H' σ v _ R (hd ed) fun σ' R' => ?_
    refine h G H' _ _ R' ?_
    rcases ho with rfl | rfl
    · exact fun σ H r => ⟨hlt, r⟩
    · exact fun σ H r => ⟨hlt, r⟩
  · have ej : j = T.choose := Nat.le_antisymm hjm hge
    rcases last with ⟨e1, _⟩ | ⟨_, d', e1, o', ed', hg, h, ho⟩
    · omega
    · rw [← ej] at ed' hg
      rw [ed] at ed'
      obtain rfl := Option.some.inj ed'
      refine hg G H' σ v _ R (hd ed) fun σ' R' => ?_
      refine h G H' _ _ R' ?_
      rcases ho with ⟨e', rfl, rfl⟩ | ⟨c, rfl, rfl⟩ | ⟨C, rfl, rfl⟩
      · exact fun σ H r => q σ H (un σ H e' r)
      · exact fun v H s r => q v H (sG.trans s) (r.low sG)
      · exact fun H s => q H (sG.trans s)
theorem turn_end {E : XK} {tb : TS} {g : TG} {n : Nat} {at_ : Nat → Option PyData} {Es : Nat → List Cell} {o : Out} {G : Bs} {D : Ends} (T : Turns K E tb g n at_ Es o) (un : ∀ σ H e, EnvR K G H σ e → EnvR K H0 H σ e) (q : OutK K D E H0 o)
    (hjm : n ≤ T.choose) (R : EnvR K G H' σ (Es n)) : D.nx σ H' := by
  obtain ⟨hmn, go, last⟩ := T.choose_spec
  rcases last with ⟨e1, rfl⟩ | ⟨z, _⟩
  · exact q _ _ (un _ _ _ R)
  · omega
theorem DS.forT {E : XK} {tl : TE} {g : TG} {tb : TS} {ds : List PyData} {Es : Nat → List Cell} {o : Out} (hl : DE K tl (Es 0) (.dat (.tuple ds))) (T : Turns K E tb g ds.length (fun j => ds[j]?) Es o) :
    DS K E (tFor (iTup K tl) g tb) (Es 0) o := fun H0 H σ D R q => hl H0 H σ _ R fun v H1 s r => by
  obtain ⟨a, xs, rfl, ha, t⟩ := tup_of r
  have R1 := R.up s
  have un : ∀ σ H e, EnvR K (fz H0 H1) H σ e → EnvR K H0 H σ e := fun σ H e z => EnvR.ofBase (G := fz H0 H1) rfl R1.bs (fz_base R1.sm) z
  have ln := t.len
  refine ⟨a, rfl, ⟨xs, ha.sq⟩, for_tup (xs := xs) (fun j σ H => j ≤ T.choose ∧ EnvR K (fz H0 H1) H σ (Es j)) ⟨Nat.zero_le _, R1.fz⟩ (fun j σ H _ z => (z.2.tups _ _ ha).sq) (fun j x σ H ex z => ?_) fun σ H z => ?_⟩
  · have hj : j < ds.length := by
      rcases Nat.lt_or_ge j xs.length with w | w
      · omega
      · rw [List.getElem?_eq_none w] at ex
        cases ex
    obtain ⟨v, ev, tv⟩ := (t.up z.2.tups).get (List.getElem?_eq_getElem hj)
    rw [ex] at ev
    obtain rfl := Option.some.inj ev
    exact turn_step T (fz_base R1.sm) un q hj (List.getElem?_eq_getElem hj) (fun _ => tv) _ rfl z.1 z.2
  · rw [ln] at z
    exact turn_end T un q z.1 z.2
theorem DS.forR1 {E : XK} {ta : TA} {g : TG} {tb : TS} {n : Int} {Es : Nat → List Cell} {o : Out} (hl : DA K ta (Es 0) [.dat (.int n)]) (b1 : -(2 ^ 62) ≤ n) (b2 : n < 2 ^ 62) (T : Turns K E tb g n.toNat (fun j => some (.int j)) Es o) :
    DS K E (tFor (iRng1 ta) g tb) (Es 0) o := fun H0 H σ D R q => hl H0 H σ _ R fun vs H1 s r => by
  match vs, r with
  | [v], ⟨r1, _⟩ =>
    cases int_of r1
    have R1 := R.up s
    have un : ∀ σ H e, EnvR K H0 H σ e → EnvR K H0 H σ e := fun σ H e z => z
    refine ⟨n, rfl, b1, b2, for_range (fun j σ H => j ≤ T.choose ∧ EnvR K H0 H σ (Es j)) ⟨Nat.zero_le _, R1⟩ (fun j σ H hj z => ?_) fun σ H z => turn_end T un q z.1 z.2⟩
    have step := turn_step (v := .int (0 + j)) T (Same.refl H0.h) un q hj rfl (fun _ => by rw [Int.zero_add]; exact .int _) _ rfl z.1 z.2
    exact step
  | [], r => exact r.elim
  | _ :: _ :: _, ⟨_, r⟩ => exact r.elim
theorem DS.forR2 {E : XK} {ta : TA} {g : TG} {tb : TS} {a b : Int} {Es : Nat → List Cell} {o : Out} (hl : DA K ta (Es 0) [.dat (.int a), .dat (.int b)]) (h : -(2 ^ 62) ≤ a ∧ a < 2 ^ 62 ∧ -(2 ^ 62) ≤ b ∧ b < 2 ^ 62) (T : Turns K E tb g (b - a).toNat (fun j => some (.int (a + j))) Es o) :
    DS K E (tFor (iRng2 ta) g tb) (Es 0) o := fun H0 H σ D R q => hl H0 H σ _ R fun vs H1 s r => by
  match vs, r with
  | [v, w], ⟨r1, r2, _⟩ =>
    cases int_of r1
    cases int_of r2
    have R1 := R.up s
    have un : ∀ σ H e, EnvR K H0 H σ e → EnvR K H0 H σ e := fun σ H e z => z
    refine ⟨a, b, rfl, h, for_range (fun j σ H => j ≤ T.choose ∧ EnvR K H0 H σ (Es j)) ⟨Nat.zero_le _, R1⟩ (fun j σ H hj z => ?_) fun σ H z => turn_end T un q z.1 z.2⟩
    exact turn_step (v := .int (a + j)) T (Same.refl H0.h) un q hj rfl (fun _ => .int _) _ rfl z.1 z.2
  | [], r => exact r.elim
  | [_], ⟨_, r⟩ => exact r.elim
  | _ :: _ :: _ :: _, ⟨_, _, r⟩ => exact r.elim
/-- over a list: of an expression that makes it, or of a name that does not own it -/
theorem forL_core {E : XK} {g : TG} {tb : TS} {ds : List PyData} {Es : Nat → List Cell} {o : Out} {D : Ends} {H1 : Hp} {a : Addr} {xs : List V} (T : Turns K E tb g ds.length (fun j => ds[j]?) Es o) (R1 : EnvR K H0 H1 σ (Es 0)) (q : OutK K D E H0 o)
    (ha : H1 a = some (.lst xs)) (t : TdAll H1 xs ds) (no : ∀ (j : Nat) (c : Cell), (Es 0)[j]? = some c → isOwn c = true → ¬ σ[j]? = some (some (V.ref a))) :
    ∃ W : Nat → Nat → L2.St → Hp → Prop, (∃ m, W 0 m σ H1) ∧ ∀ i' m σ H, W i' m σ H → ((Itl K a).stop i' H ∧ D.nx σ H) ∨ ((Itl K a).go i' H ∧ ∃ N : L2.St → Hp → Prop, (∀ σ' H', N σ' H' → ∃ m', m' < m ∧ W (i' + 1) m' σ' H') ∧ ∀ x H', (Itl K a).yld i' H x H' → g x σ H' fun σ2 H2 => tb { D with nx := N, ct := N, bk := D.nx } σ2 H2) := by
  have un : ∀ σ H e, EnvR K (fzL H0 H1 a) H σ e → EnvR K H0 H σ e := fun σ H e z => EnvR.ofBase (G := fzL H0 H1 a) rfl R1.bs (fzL_base R1.sm) z
  have ln := t.len
  refine for_list (xs := xs) (fun j σ H => j ≤ T.choose ∧ EnvR K (fzL H0 H1 a) H σ (Es j)) ⟨Nat.zero_le _, R1.fzL no⟩ (fun j σ H _ z => SqL.of (z.2.lstL ha)) (fun j x σ H ex z => ?_) fun σ H z => ?_
  · have hj : j < ds.length := by
      rcases Nat.lt_or_ge j xs.length with w | w
      · omega
      · rw [List.getElem?_eq_none w] at ex
        cases ex
    obtain ⟨v, ev, tv⟩ := (t.up (z.2.tupsL ha)).get (List.getElem?_eq_getElem hj)
    rw [ex] at ev
    obtain rfl := Option.some.inj ev
    exact turn_step T (fzL_base R1.sm) un q hj (List.getElem?_eq_getElem hj) (fun _ => tv) _ rfl z.1 z.2
  · rw [ln] at z
    exact turn_end T un q z.1 z.2
theorem own_lst {i : Nat} {c : Cell} {a : Addr} (R : EnvR K H0 H σ e) (h : e[i]? = some c) (ho : isOwn c = true) (hs : σ[i]? = some (some (V.ref a))) : ∃ xs, H a = some (.lst xs) := slot_lst R h (by cases c <;> first | rfl | cases ho) hs
theorem DS.forN {E : XK} {tl : TE} {g : TG} {tb : TS} {ds : List PyData} {Es : Nat → List Cell} {o : Out} (hl : DE K tl (Es 0) (.own ds)) (T : Turns K E tb g ds.length (fun j => ds[j]?) Es o) :
    DS K E (tFor (iList K tl) g tb) (Es 0) o := fun H0 H σ D R q => hl H0 H σ _ R fun v H1 s r => by
  obtain ⟨a, xs, rfl, n, ha, t⟩ := r
  refine ⟨a, rfl, ⟨xs, SqL.of ha⟩, forL_core T (R.up s) q ha t fun j c h1 h2 h3 => ?_⟩
  obtain ⟨ys, hy⟩ := own_lst R h1 h2 h3
  rw [n] at hy
  cases hy
theorem DS.forL {E : XK} {k : Nat} {g : TG} {tb : TS} {ds : List PyData} {Es : Nat → List Cell} {o : Out} (hk : (Es 0)[k]? = some (.rd ds)) (T : Turns K E tb g ds.length (fun j => ds[j]?) Es o) :
    DS K E (tFor (iList K (tVar k)) g tb) (Es 0) o := fun H0 H σ D R q => by
  obtain ⟨p, ep, a, xs, ev, ha, t⟩ := R.sl.get hk
  subst ev
  refine ⟨_, ep, a, rfl, ⟨xs, SqL.of ha⟩, forL_core T R q ha t fun j c h1 h2 h3 => ?_⟩
  obtain rfl := R.ap j k a c _ h1 h2 hk rfl h3 ep
  rw [hk] at h1
  cases h1
  cases h2
/-- a name's own list becomes one that is read -/
theorem DS.toRd {E : XK} {k : Nat} {t : TS} {ds : List PyData} {o : Out} (hk : e[k]? = some (.own ds)) (h : DS K E t (e.set k (.rd ds)) o) : DS K E t e o := fun H0 H σ D R q => by
  obtain ⟨p, ep, a, xs, ev, n, ha, t⟩ := R.sl.get hk
  subst ev
  refine h H0 H σ D ⟨R.bs, R.sm, ?_, ?_⟩ q
  · have := R.sl.set k (c := .rd ds) (o := some (.ref a)) ⟨a, xs, rfl, ha, t⟩
    have e1 : σ.set k (some (.ref a)) = σ := by
      apply List.ext_getElem?
      intro j
      by_cases z : k = j
      · subst z
        rw [ep]
        exact List.getElem?_set_self (by
          rcases Nat.lt_or_ge k σ.length with w | w
          · exact w
          · rw [List.getElem?_eq_none w] at ep
            cases ep)
      · rw [List.getElem?_set_ne z]
    rw [e1] at this
    exact this
  · intro i j b x y hi ox hj ly si sj
    rcases get_set hi with ⟨rfl, rfl⟩ | ⟨ni, ei⟩
    · cases ox
    · rcases get_set hj with ⟨rfl, rfl⟩ | ⟨nj, ej⟩
      · exact R.ap i k b x _ ei ox hk rfl si sj
      · exact R.ap i j b x y ei ox ej ly si sj
theorem DB.yes : DB K tYes e true := fun H0 H σ Q R q => q H (Same.refl H)
theorem wipe1 (σ : L2.St) (i : Nat) (v : Option V) : wipe ((wipe σ [i]).set i v) [i] = wipe σ [i] := by
  show ((σ.set i none).set i v).set i none = σ.set i none
  rw [List.set_set, List.set_set]
theorem EnvR.wipe {i : Nat} (R : EnvR K H0 H σ e) : EnvR K H0 H (L2.wipe σ [i]) (e.set i .un) := by
  show EnvR K H0 H (σ.set i none) (e.set i .un)
  refine ⟨R.bs, R.sm, R.sl.set i (c := .un) trivial, ?_⟩
  intro j k a x y hj ox hk ly sj sk
  rcases get_set hj with ⟨rfl, rfl⟩ | ⟨nj, ej⟩
  · cases ox
  · rcases get_set hk with ⟨rfl, rfl⟩ | ⟨nk, ek⟩
    · cases ly
    · rw [List.getElem?_set_ne nj] at sj
      rw [List.getElem?_set_ne nk] at sk
      exact R.ap j k a x y ej ox ek ly sj sk
/-- one turn -/
theorem lc_turn {i : Nat} {tt : TT} {te : TE} {d r : PyData} {b : Bool} {acc acc' : List PyData} {H1 : Hp} {D : Addr} {x : V} (R1 : EnvR K H0 H1 σ e) (nD : H1 D = none) (hb : DB K tt ((e.set i .un).set i (.dat d)) b)
    (ht : b = true → DE K te ((e.set i .un).set i (.dat d)) (.dat r) ∧ acc' = acc ++ [r]) (hf : b = false → acc' = acc) (la : acc.length < sizeLine) (s : Same H1 H) (hx : Td H x d) (hD : ∃ ys, H D = some (.lst ys) ∧ TdAll H ys acc) :
    gName i x (L2.wipe σ [i]) H fun σ2 H2 => L2.wipe σ2 [i] = L2.wipe σ [i] ∧ tt σ2 H2 fun b H3 =>
      if b = true then te σ2 H3 fun y H4 => ∃ ac, H4 D = some (.lst ac) ∧ ac.length < sizeLine ∧ ((∃ ys, (upd H4 D (.lst (ac ++ [y]))) D = some (.lst ys) ∧ TdAll (upd H4 D (.lst (ac ++ [y]))) ys acc') ∧ Same H1 (upd H4 D (.lst (ac ++ [y])))) else ((∃ ys, H3 D = some (.lst ys) ∧ TdAll H3 ys acc') ∧ Same H1 H3) := by
  obtain ⟨ys, hy, ty⟩ := hD
  have R2 := ((R1.up s).wipe (i := i)).put (i := i) (v := x) (Same.refl H) (c := .dat d) rfl hx
  refine ⟨wipe1 σ i _, hb H0 H _ _ R2 fun H3 s3 => ?_⟩
  cases b with
  | false =>
    refine iteF ?_
    rw [hf rfl]
    exact ⟨⟨ys, s3 _ _ hy, ty.same s3⟩, s.trans s3⟩
  | true =>
    obtain ⟨h1, h2⟩ := ht rfl
    refine iteT (h1 H0 H3 _ _ (R2.up s3) fun y H4 s4 ry => ?_)
    have s34 := s3.trans s4
    have hy4 := s34 _ _ hy
    have tp : Tups H4 (upd H4 D (.lst (ys ++ [y]))) := Tups.wr hy4 fun _ => lst_tup
    refine ⟨ys, hy4, by rw [ty.len]; exact la, ⟨_, upd_same, ?_⟩, fun b o z => ?_⟩
    · rw [h2]
      exact ((ty.same s34).up tp).snoc (Td.up ry tp)
    · rw [upd_ne (ne_of_none z nD)]
      exact s34 _ _ (s _ _ z)
/-- how the list grows -/
structure Grow (K : PySem.W.Frag) (tt : TT) (te : TE) (e : List Cell) (i : Nat) (n : Nat) (at_ : Nat → Option PyData) (acc : Nat → List PyData) : Prop where
  zero : acc 0 = []
  len : ∀ j, j ≤ n → (acc j).length < sizeLine
  turn : ∀ j d, j < n → at_ j = some d → ∃ b r, DB K tt ((e.set i .un).set i (.dat d)) b ∧ (b = true → DE K te ((e.set i .un).set i (.dat d)) (.dat r) ∧ acc (j + 1) = acc j ++ [r]) ∧ (b = false → acc (j + 1) = acc j)
theorem DE.lcT {tl te : TE} {tt : TT} {i : Nat} {ds : List PyData} {acc : Nat → List PyData} (hl : DE K tl e (.dat (.tuple ds))) (G : Grow K tt te e i ds.length (fun j => ds[j]?) acc) :
    DE K (tLc (iTup K tl) (gName i) tt te [i]) e (.own (acc ds.length)) := fun H0 H σ Q R q => hl H0 H σ _ R fun v H1 s r => by
  obtain ⟨a, xs, rfl, ha, t⟩ := tup_of r
  have R1 := R.up s
  have ln := t.len
  refine ⟨a, rfl, ⟨xs, ha.sq⟩, fun D nD => lc_tup (xs := xs) (fun j H2 => (∃ ys, H2 D = some (.lst ys) ∧ TdAll H2 ys (acc j)) ∧ Same H1 H2) ⟨⟨[], upd_same, by rw [G.zero]; exact .nil⟩, Same.new nD⟩ (fun j H2 _ z => (ha.same z.2).sq) (fun j x H2 ex z => ?_) fun H2 z => ?_⟩
  · have hj : j < ds.length := by
      rcases Nat.lt_or_ge j xs.length with w | w
      · omega
      · rw [List.getElem?_eq_none w] at ex
        cases ex
    obtain ⟨v, ev, tv⟩ := (t.same z.2).get (List.getElem?_eq_getElem hj)
    rw [ex] at ev
    obtain rfl := Option.some.inj ev
    obtain ⟨b, rr, g1, g2, g3⟩ := G.turn j _ hj (List.getElem?_eq_getElem hj)
    exact lc_turn R1 nD g1 g2 g3 (G.len j (Nat.le_of_lt hj)) z.2 tv z.1
  · rw [ln] at z
    obtain ⟨ys, hy, ty⟩ := z.1
    exact q _ _ (s.trans z.2) ⟨D, ys, rfl, s.free nD, hy, ty⟩
/-- over a list that stands -/
theorem DE.lcL {tl te : TE} {tt : TT} {i : Nat} {ds : List PyData} {ca : Cell} {acc : Nat → List PyData} (hl : DE K tl e ca) (la : lOf ca = some ds) (G : Grow K tt te e i ds.length (fun j => ds[j]?) acc) :
    DE K (tLc (iList K tl) (gName i) tt te [i]) e (.own (acc ds.length)) := fun H0 H σ Q R q => hl H0 H σ _ R fun v H1 s r => by
  obtain ⟨a, xs, rfl, ha, t⟩ := r.lst la
  have R1 := R.up s
  have ln := t.len
  refine ⟨a, rfl, ⟨xs, SqL.of ha⟩, fun D nD => lc_list (xs := xs) (fun j H2 => (∃ ys, H2 D = some (.lst ys) ∧ TdAll H2 ys (acc j)) ∧ Same H1 H2) ⟨⟨[], upd_same, by rw [G.zero]; exact .nil⟩, Same.new nD⟩ (fun j H2 _ z => SqL.of (z.2 _ _ ha)) (fun j x H2 ex z => ?_) fun H2 z => ?_⟩
  · have hj : j < ds.length := by
      rcases Nat.lt_or_ge j xs.length with w | w
      · omega
      · rw [List.getElem?_eq_none w] at ex
        cases ex
    obtain ⟨v, ev, tv⟩ := (t.same z.2).get (List.getElem?_eq_getElem hj)
    rw [ex] at ev
    obtain rfl := Option.some.inj ev
    obtain ⟨b, rr, g1, g2, g3⟩ := G.turn j _ hj (List.getElem?_eq_getElem hj)
    exact lc_turn R1 nD g1 g2 g3 (G.len j (Nat.le_of_lt hj)) z.2 tv z.1
  · rw [ln] at z
    obtain ⟨ys, hy, ty⟩ := z.1
    exact q _ _ (s.trans z.2) ⟨D, ys, rfl, s.free nD, hy, ty⟩
/-- over numbers -/
theorem lcR_core {te : TE} {tt : TT} {i : Nat} {acc : Nat → List PyData} {H1 : Hp} {Q : VK} {lo : Int} {n : Nat} (R1 : EnvR K H0 H1 σ e) (s : Same H H1) (q : ∀ v H', Same H H' → ValR K H H' v (.own (acc n)) → Q v H') (G : Grow K tt te e i n (fun j => some (.int (lo + j))) acc) :
    ∀ D, H1 D = none → ∃ W : Nat → Nat → Hp → Prop, (∃ m, W 0 m (upd H1 D (.lst []))) ∧ ∀ i' m H, W i' m H → ((Itr lo n).stop i' H ∧ Q (.ref D) H) ∨ ((Itr lo n).go i' H ∧ ∃ Nx : Hp → Prop, (∀ H', Nx H' → ∃ m', m' < m ∧ W (i' + 1) m' H') ∧ ∀ x H', (Itr lo n).yld i' H x H' → gName i x (L2.wipe σ [i]) H' fun σ2 H2 => L2.wipe σ2 [i] = L2.wipe σ [i] ∧ tt σ2 H2 fun b H3 =>
      if b = true then te σ2 H3 fun y H4 => ∃ acc, H4 D = some (.lst acc) ∧ acc.length < sizeLine ∧ Nx (upd H4 D (.lst (acc ++ [y]))) else Nx H3) := by
  intro D nD
  refine lc_range (fun j H2 => (∃ ys, H2 D = some (.lst ys) ∧ TdAll H2 ys (acc j)) ∧ Same H1 H2) ⟨⟨[], upd_same, by rw [G.zero]; exact .nil⟩, Same.new nD⟩ (fun j H2 hj z => ?_) fun H2 z => ?_
  · obtain ⟨b, rr, g1, g2, g3⟩ := G.turn j _ hj rfl
    exact lc_turn R1 nD g1 g2 g3 (G.len j (Nat.le_of_lt hj)) z.2 (.int _) z.1
  · obtain ⟨ys, hy, ty⟩ := z.1
    exact q _ _ (s.trans z.2) ⟨D, ys, rfl, s.free nD, hy, ty⟩
theorem DE.lcR1 {ta : TA} {te : TE} {tt : TT} {i : Nat} {n : Int} {acc : Nat → List PyData} (hl : DA K ta e [.dat (.int n)]) (b1 : -(2 ^ 62) ≤ n) (b2 : n < 2 ^ 62) (G : Grow K tt te e i n.toNat (fun j => some (.int (0 + j))) acc) :
    DE K (tLc (iRng1 ta) (gName i) tt te [i]) e (.own (acc n.toNat)) := fun H0 H σ Q R q => hl H0 H σ _ R fun vs H1 s r => by
  match vs, r with
  | [v], ⟨r1, _⟩ =>
    cases int_of r1
    exact ⟨n, rfl, b1, b2, lcR_core (R.up s) s q G⟩
  | [], r => exact r.elim
  | _ :: _ :: _, ⟨_, r⟩ => exact r.elim
theorem DE.lcR2 {ta : TA} {te : TE} {tt : TT} {i : Nat} {a b : Int} {acc : Nat → List PyData} (hl : DA K ta e [.dat (.int a), .dat (.int b)]) (h : -(2 ^ 62) ≤ a ∧ a < 2 ^ 62 ∧ -(2 ^ 62) ≤ b ∧ b < 2 ^ 62) (G : Grow K tt te e i (b - a).toNat (fun j => some (.int (a + j))) acc) :
    DE K (tLc (iRng2 ta) (gName i) tt te [i]) e (.own (acc (b - a).toNat)) := fun H0 H σ Q R q => hl H0 H σ _ R fun vs H1 s r => by
  match vs, r with
  | [v, w], ⟨r1, r2, _⟩ =>
    cases int_of r1
    cases int_of r2
    exact ⟨a, b, rfl, h, lcR_core (R.up s) s q G⟩
  | [], r => exact r.elim
  | [_], ⟨_, r⟩ => exact r.elim
  | _ :: _ :: _ :: _, ⟨_, _, r⟩ => exact r.elim
/-- every one is turned into another -/
theorem Grow.map {te : TE} {i n : Nat} {at_ : Nat → Option PyData} (f : Nat → PyData) (hn : n < sizeLine) (h : ∀ j d, j < n → at_ j = some d → DE K te ((e.set i .un).set i (.dat d)) (.dat (f j))) : Grow K tYes te e i n at_ (fun j => (List.range j).map f) := by
  refine ⟨rfl, fun j hj => ?_, fun j d hj ed => ⟨true, f j, DB.yes, fun _ => ⟨h j d hj ed, range_more f j⟩, fun z => by cases z⟩⟩
  rw [List.length_map, List.length_range]
  omega
/-- some are left out -/
theorem Grow.filter {tt : TT} {te : TE} {i : Nat} {ds : List PyData} (p : PyData → Bool) (f : PyData → PyData) (hn : ds.length < sizeLine) (h : ∀ d ∈ ds, DB K tt ((e.set i .un).set i (.dat d)) (p d) ∧ (p d = true → DE K te ((e.set i .un).set i (.dat d)) (.dat (f d)))) :
    Grow K tt te e i ds.length (fun j => ds[j]?) (fun j => ((ds.take j).filter p).map f) := by
  refine ⟨by simp, fun j hj => ?_, fun j d hj ed => ?_⟩
  · rw [List.length_map]
    refine Nat.lt_of_le_of_lt (List.length_filter_le _ _) ?_
    rw [List.length_take]
    omega
  · obtain ⟨h1, h2⟩ := h d (List.mem_of_getElem? ed)
    have e1 : ds.take (j + 1) = ds.take j ++ [d] := by
      rw [List.take_succ, ed]
      rfl
    refine ⟨p d, f d, h1, fun z => ⟨h2 z, ?_⟩, fun z => ?_⟩
    · show ((ds.take (j + 1)).filter p).map f = _
      rw [e1, List.filter_append, List.map_append]
      simp [z]
    · show ((ds.take (j + 1)).filter p).map f = _
      rw [e1, List.filter_append, List.map_append]
      simp [z]
end
end Esp
set_option autoImplicit false
set_option maxRecDepth 100000
set_option maxHeartbeats 4000000
namespace Esp
open PySem PySem.Spec PyProof.Rows L2
/-- the way a def ends -/
def Ends_ (c : Cell) (o : Out) : Prop := o = .ret c ∨ (∃ e, o = .next e) ∧ c = .dat .none
theorem DS.run {K : PySem.W.Frag} {E : XK} {t : TS} {N : List Str} {vs : List V} {cs : List Cell} {c : Cell} {o : Out} {H : Hp} {Q : VK} (h : DS K E t (cs ++ List.replicate (N.length - vs.length) .un) o) (he : Ends_ c o) (ho : cs.all (fun c => !isOwn c) = true) (hv : ValsR K H H vs cs)
    (q : ∀ v H', Same H H' → ValR K H H' v c → Q v H') : t { nx := fun _ H' => Q .non H', rt := Q } (start N vs) H := by
  refine h ⟨H, H⟩ H _ _ (EnvR.start _ hv ho) ?_
  rcases he with rfl | ⟨⟨e, rfl⟩, rfl⟩
  · exact q
  · exact fun σ H' R => q _ _ R.sm .non
section
variable {P : Program} {w : World} {K : PySem.W.Frag} {mg : Str → Option Value} {base : Heap}
/-- a def that gives f -/
theorem fnD {x qual : Str} {st : Stmt} {fa : Addr} {fd : FuncData} {N ps : List Str} {k : Nat} {f : List Cell → Cell → Prop} (F : Fun K x qual st fa fd) (S : FnScope N ps (defScope st)) (len : ∀ cs c, f cs c → cs.length = ps.length)
    (body : ∀ (cdv : Value) (A : Around) (outer : List Env) (s : Shared) (H : Hp) (E : XK), Room k (A.deeper (envOfC qual (defScope st) s.heap.objs.size fa cdv)) →
      ∃ t, PSs (cxOf CX0 P w K mg base N qual (defScope st) fa cdv A outer s H E).nox (defBody st) t ∧ ∀ cs c, f cs c → ∃ o, DS K E t (cs ++ List.replicate (N.length - ps.length) .un) o ∧ Ends_ c o) : FnOk P w K mg base CX0 (k + 1) fa fd ps (spD K f) := by
  refine F.ok S (fun vs H Q E h => ?_) (fun cdv A outer s H vs Q E hr h => ?_)
  · obtain ⟨cs, c, hf, ho, hv, q⟩ := h
    rw [hv.len]
    exact len cs c hf
  · obtain ⟨cs, c, hf, ho, hv, q⟩ := h
    obtain ⟨t, hp, hd⟩ := body cdv A outer s H E hr
    obtain ⟨o, h, he⟩ := hd cs c hf
    refine ⟨t, hp, DS.run (E := E) ?_ he ho hv q⟩
    rw [hv.len, len cs c hf]
    exact h
/-- .. or raises -/
theorem fnX {x qual : Str} {st : Stmt} {fa : Addr} {fd : FuncData} {N ps : List Str} {k : Nat} {f : List Cell → Cell → Prop} {g : List Cell → Addr → Prop} (F : Fun K x qual st fa fd) (S : FnScope N ps (defScope st)) (len : ∀ cs c, f cs c → cs.length = ps.length) (lenX : ∀ cs C, g cs C → cs.length = ps.length)
    (body : ∀ (cdv : Value) (A : Around) (outer : List Env) (s : Shared) (H : Hp) (E : XK), Room k (A.deeper (envOfC qual (defScope st) s.heap.objs.size fa cdv)) →
      ∃ t, PSs (cxOf (L2.CX P w) P w K mg base N qual (defScope st) fa cdv A outer s H E) (defBody st) t ∧ (∀ cs c, f cs c → ∃ o, DS K E t (cs ++ List.replicate (N.length - ps.length) .un) o ∧ Ends_ c o) ∧ ∀ cs C, g cs C → DS K E t (cs ++ List.replicate (N.length - ps.length) .un) (.exc C)) :
    FnOk P w K mg base (L2.CX P w) (k + 1) fa fd ps (spDX K f g) := by
  refine F.okX S (fun vs H Q E h => ?_) (fun cdv A outer s H vs Q E hr h => ?_)
  · obtain ⟨cs, ho, hv, ⟨c, hf, q⟩ | ⟨C, hg, q⟩⟩ := h
    · rw [hv.len]
      exact len cs c hf
    · rw [hv.len]
      exact lenX cs C hg
  · obtain ⟨t, hp, hd, hx⟩ := body cdv A outer s H E hr
    obtain ⟨cs, ho, hv, ⟨c, hf, q⟩ | ⟨C, hg, q⟩⟩ := h
    · obtain ⟨o, h, he⟩ := hd cs c hf
      refine ⟨t, hp, DS.run (E := E) ?_ he ho hv q⟩
      rw [hv.len, len cs c hf]
      exact h
    · refine ⟨t, hp, ?_⟩
      have h := hx cs C hg
      rw [← lenX cs C hg, ← hv.len] at h
      exact h ⟨H, H⟩ H _ _ (EnvR.start _ hv ho) q
end
section
variable {K : PySem.W.Frag} {E : XK} {e : List Cell} {i : Nat} {te : TE}
theorem DE.varD {d : PyData} (h : e[i]? = some (.dat d)) : DE K (tVar i) e (.dat d) := DE.var h rfl
theorem DE.varC {d : PyData} (h : e[i]? = some (.cst d)) : DE K (tVar i) e (.cst d) := DE.var h rfl
theorem DE.varO {ds : List PyData} (h : e[i]? = some (.own ds)) : DE K (tVar i) e (.rd ds) := DE.var h rfl
theorem DE.varR {ds : List PyData} (h : e[i]? = some (.rd ds)) : DE K (tVar i) e (.rd ds) := DE.var h rfl
theorem DE.varJ {C : Addr} {fs : List (Str × V)} (h : e[i]? = some (.obj C fs)) : DE K (tVar i) e (.obj C fs) := DE.var h rfl
theorem DE.varS {ns : List Int} (h : e[i]? = some (.scr ns)) : DE K (tVar i) e (.scr ns) := DE.var h rfl
theorem DE.varW {v : V} (h : e[i]? = some (.raw v)) : DE K (tVar i) e (.raw v) := DE.var h rfl
theorem DE.varG {a b : Int} (h : e[i]? = some (.rng a b)) : DE K (tVar i) e (.rng a b) := DE.var h rfl
theorem lt9 : 1000000 < sizeLine := by
  rw [sizeLine_eq]
  omega
theorem small9 {n : Nat} (h : n ≤ 1000000) : n ≤ sizeLine := by
  rw [sizeLine_eq]
  omega
/-- the set list is written out -/
theorem DS.setTo {c : Cell} {e' : List Cell} (h : DE K te e c) (hs : store c = true) (he : e.set i c = e') : DS K E (tAsg te (gName i)) e (.next e') := he ▸ DS.set h hs
end
/-- isinstance of data, by the built-in class -/
def isIntD : PyData → Bool
  | .int _ => true
  | .bool _ => true
  | _ => false
def isStrD : PyData → Bool
  | .str _ => true
  | _ => false
def noL : PyData → Bool
  | .list _ => false
  | .dict _ => false
  | _ => true
section
variable {K : PySem.W.Frag} {ε : Type} [Ctx ε] {e : ε} {ta : TE} {d : PyData}
theorem tyX_int {H : Hp} {v : V} (h : Td H v d) : ∃ t : String, TyX K H v (.type t) ∧ kitB t "int" = some (isIntD d) ∧ kitB t "str" = some (isStrD d) := by
  cases h with
  | non => exact ⟨_, .base .non, by decide +kernel, by decide +kernel⟩
  | bl b => exact ⟨_, .base (.bl b), (by show kitB "bool" "int" = some true; decide +kernel), (by show kitB "bool" "str" = some false; decide +kernel)⟩
  | int i => exact ⟨_, .base (.int i), (by show kitB "int" "int" = some true; decide +kernel), (by show kitB "int" "str" = some false; decide +kernel)⟩
  | str x => exact ⟨_, .base (.str x), (by show kitB "str" "int" = some false; decide +kernel), (by show kitB "str" "str" = some true; decide +kernel)⟩
  | tup h1 h2 => exact ⟨_, .fTuple h1.choose_spec.2, (by show kitB "tuple" "int" = some false; decide +kernel), (by show kitB "tuple" "str" = some false; decide +kernel)⟩
theorem DE.isiOf {T : String} {b : Bool} (ha : DE K ta e (.dat d)) (hk : ∀ H v, Td H v d → ∃ t : String, TyX K H v (.type t) ∧ kitB t T = some b) : DE K (tCB (rIsi K) (tCons ta (tCons (tC (.ty T)) tNil))) e (.dat (.bool b)) := fun H0 H σ Q E q => ha H0 H σ _ E fun x H1 s1 r => by
  obtain ⟨t, h1, h2⟩ := hk H1 x r
  exact ⟨x, .ty T, _, _, b, rfl, .ty T, h1, kit_ty h2, q _ _ s1 (.bl b)⟩
theorem DE.isiI (ha : DE K ta e (.dat d)) : DE K (tCB (rIsi K) (tCons ta (tCons (tC (.ty "int")) tNil))) e (.dat (.bool (isIntD d))) := ha.isiOf fun H v h => let ⟨t, a, b, _⟩ := tyX_int h; ⟨t, a, b⟩
theorem DE.isiS (ha : DE K ta e (.dat d)) : DE K (tCB (rIsi K) (tCons ta (tCons (tC (.ty "str")) tNil))) e (.dat (.bool (isStrD d))) := ha.isiOf fun H v h => let ⟨t, a, _, b⟩ := tyX_int h; ⟨t, a, b⟩
theorem DE.isiB (ha : DE K ta e (.dat d)) : DE K (tCB (rIsi K) (tCons ta (tCons (tC (.ty "bool")) tNil))) e (.dat (.bool (isBlD d))) := ha.isiOf fun H v h => let ⟨t, a, _, b, _⟩ := h.typ (K := K); ⟨t, a, b⟩
theorem DE.isiT (ha : DE K ta e (.dat d)) : DE K (tCB (rIsi K) (tCons ta (tCons (tC (.ty "tuple")) tNil))) e (.dat (.bool (isTupD d))) := ha.isiOf fun H v h => let ⟨t, a, b, _, _⟩ := h.typ (K := K); ⟨t, a, b⟩
theorem DE.isiN (ha : DE K ta e (.dat d)) : DE K (tCB (rIsi K) (tCons ta (tCons (tC (.ty "list")) tNil))) e (.dat (.bool false)) := ha.isiOf fun H v h => let ⟨t, a, _, _, b⟩ := h.typ (K := K); ⟨t, a, b⟩
theorem DE.isiLL {ds : List PyData} {ca : Cell} (ha : DE K ta e ca) (hl : lOf ca = some ds) : DE K (tCB (rIsi K) (tCons ta (tCons (tC (.ty "list")) tNil))) e (.dat (.bool true)) := ha.isiL hl (by decide +kernel)
theorem DE.isiLT {ds : List PyData} {ca : Cell} (ha : DE K ta e ca) (hl : lOf ca = some ds) : DE K (tCB (rIsi K) (tCons ta (tCons (tC (.ty "tuple")) tNil))) e (.dat (.bool false)) := ha.isiL hl (by decide +kernel)
end
/-- arguments that are data all -/
def DD {ε : Type} [Ctx ε] (K : PySem.W.Frag) (t : TA) (e : ε) (ds : List PyData) : Prop := DA K t e (ds.map .dat)
section
variable {K : PySem.W.Frag} {ε : Type} [Ctx ε] {e : ε} {ta : TE} {tr : TA} {d : PyData} {ds : List PyData}
theorem DD.nil : DD K tNil e [] := DA.nil
theorem DD.cons (h : DE K ta e (.dat d)) (hr : DD K tr e ds) : DD K (tCons ta tr) e (d :: ds) := DA.cons h hr
theorem DE.tupD (h : DD K tr e ds) (hl : ds.length ≤ sizeLine) : DE K (tTupN tr) e (.dat (.tuple ds)) := DE.tup h rfl hl
theorem DE.lstD (h : DD K tr e ds) (hl : ds.length ≤ sizeLine) : DE K (tLst tr) e (.own ds) := DE.lst h rfl hl
end
theorem cxK {CX : CXT} {P : Program} {w : World} {K : PySem.W.Frag} {mg : Str → Option Value} {base : Heap} {N : List Str} {qual : Str} {sc : Scope} {f : Addr} {cd : Value} {A : Around} {outer : List Env} {s : Shared} {H : Hp} {E : XK} : (cxOf CX P w K mg base N qual sc f cd A outer s H E).K = K := rfl
theorem cxKn {CX : CXT} {P : Program} {w : World} {K : PySem.W.Frag} {mg : Str → Option Value} {base : Heap} {N : List Str} {qual : Str} {sc : Scope} {f : Addr} {cd : Value} {A : Around} {outer : List Env} {s : Shared} {H : Hp} {E : XK} : (cxOf CX P w K mg base N qual sc f cd A outer s H E).nox.K = K := rfl
end Esp
set_option autoImplicit false
set_option maxRecDepth 100000
set_option maxHeartbeats 4000000
namespace Esp
open PySem PySem.Spec PyProof.Rows L2
section
variable {K : PySem.W.Frag} {E : XK} {ε : Type} [Ctx ε] {e : ε} {ta tb te : TE} {c : Cell} {ds : List PyData}
abbrev rTupOfX (K : PySem.W.Frag) : List V → Hp → VK → Prop := fun xs H Q => ∃ p ys, xs = [.ref p] ∧ ((SqL K H p ys ∧ newT Q H ys) ∨ (SqT K H p ys ∧ Q (.ref p) H))
abbrev rLstOf (K : PySem.W.Frag) : List V → Hp → VK → Prop := fun xs H Q => ∃ p ys, xs = [.ref p] ∧ (SqL K H p ys ∨ SqT K H p ys) ∧ ∀ l, H l = none → Q (.ref l) (upd H l (.lst ys))
theorem DE.tupOfL (ha : DE K ta e c) (hl : lOf c = some ds) : DE K (tCB (rTupOfN K) (tCons ta tNil)) e (.dat (.tuple ds)) := fun H0 H σ Q R q => ha H0 H σ _ R fun x H1 s1 r => by
  obtain ⟨a, xs, rfl, ha, t⟩ := r.lst hl
  refine ⟨a, xs, rfl, .inl ⟨SqL.of ha, fun l o ho nl => ?_⟩⟩
  have s2 := Same.new (o := .frz o (.tup xs)) nl
  exact q _ _ (s1.trans s2) (.tup (.new ho) (t.same s2))
theorem DE.tupOfT (ha : DE K ta e (.dat (.tuple ds))) : DE K (tCB (rTupOfN K) (tCons ta tNil)) e (.dat (.tuple ds)) := fun H0 H σ Q R q => ha H0 H σ _ R fun x H1 s1 r => by
  obtain ⟨a, xs, rfl, ha, t⟩ := tup_of r
  exact ⟨a, xs, rfl, .inr ⟨ha.sq, q _ _ s1 (.tup ha t)⟩⟩
theorem DE.lstOfL (ha : DE K ta e c) (hl : lOf c = some ds) : DE K (tCB (rLstOf K) (tCons ta tNil)) e (.own ds) := fun H0 H σ Q R q => ha H0 H σ _ R fun x H1 s1 r => by
  obtain ⟨a, xs, rfl, ha, t⟩ := r.lst hl
  refine ⟨a, xs, rfl, .inl (SqL.of ha), fun l nl => ?_⟩
  have s2 := Same.new (o := .lst xs) nl
  exact q _ _ (s1.trans s2) ⟨l, xs, rfl, s1.free nl, upd_same, t.same s2⟩
theorem DE.lstOfT (ha : DE K ta e (.dat (.tuple ds))) : DE K (tCB (rLstOf K) (tCons ta tNil)) e (.own ds) := fun H0 H σ Q R q => ha H0 H σ _ R fun x H1 s1 r => by
  obtain ⟨a, xs, rfl, ha, t⟩ := tup_of r
  refine ⟨a, xs, rfl, .inr ha.sq, fun l nl => ?_⟩
  have s2 := Same.new (o := .lst xs) nl
  exact q _ _ (s1.trans s2) ⟨l, xs, rfl, s1.free nl, upd_same, t.same s2⟩
theorem DE.abs {i : Int} (ha : DE K ta e (.dat (.int i))) : DE K (tCB (fun xs H Q => ∃ i, xs = [.int i] ∧ Q (.int (if i < 0 then -i else i)) H) (tCons ta tNil)) e (.dat (.int (if i < 0 then -i else i))) := fun H0 H σ Q R q => ha H0 H σ _ R fun x H1 s1 r => by
  cases int_of r
  exact ⟨i, rfl, q _ _ s1 (.int _)⟩
theorem DE.max2 {i j : Int} (ha : DE K ta e (.dat (.int i))) (hb : DE K tb e (.dat (.int j))) : DE K (tCB (fun xs H Q => ∃ i j, xs = [.int i, .int j] ∧ Q (.int (if j > i then j else i)) H) (tCons ta (tCons tb tNil))) e (.dat (.int (if j > i then j else i))) := fun H0 H σ Q R q => ha H0 H σ _ R fun x H1 s1 r => hb H0 H1 σ _ (R.up s1) fun y H2 s2 r2 => by
  cases int_of r
  cases int_of r2
  exact ⟨i, j, rfl, q _ _ (s1.trans s2) (.int _)⟩
theorem DE.min2 {i j : Int} (ha : DE K ta e (.dat (.int i))) (hb : DE K tb e (.dat (.int j))) : DE K (tCB (fun xs H Q => ∃ i j, xs = [.int i, .int j] ∧ Q (.int (if j < i then j else i)) H) (tCons ta (tCons tb tNil))) e (.dat (.int (if j < i then j else i))) := fun H0 H σ Q R q => ha H0 H σ _ R fun x H1 s1 r => hb H0 H1 σ _ (R.up s1) fun y H2 s2 r2 => by
  cases int_of r
  cases int_of r2
  exact ⟨i, j, rfl, q _ _ (s1.trans s2) (.int _)⟩
theorem DE.int1 {i : Int} (ha : DE K ta e (.dat (.int i))) : DE K (tCB (fun xs H Q => (∃ i, xs = [V.int i] ∧ Q (.int i) H) ∨ ∃ k, xs = [V.bl k] ∧ Q (.int (if k then 1 else 0)) H) (tCons ta tNil)) e (.dat (.int i)) := fun H0 H σ Q R q => ha H0 H σ _ R fun x H1 s1 r => by
  cases int_of r
  exact .inl ⟨i, rfl, q _ _ s1 (.int _)⟩
/-- a part of a list -/
theorem DE.slL {tl th : TO} {lo hi : Option Int} (ha : DE K ta e c) (hc : lOf c = some ds) (hl : DO K tl e lo) (hh : DO K th e hi) : DE K (tSl (rSlL K) ta tl th) e (.own (cutD ds lo hi)) := by
  intro H0 H σ Q R q
  refine ha H0 H σ _ R fun x H1 s1 rx => hl H0 H1 σ _ (R.up s1) fun H2 s2 => hh H0 H2 σ _ (R.up (s1.trans s2)) fun H3 s3 => ?_
  obtain ⟨a, xs, rfl, ha, t⟩ := rx.lst hc
  have s23 := s2.trans s3
  refine ⟨a, xs, rfl, SqL.of (s23 _ _ ha), fun p np => ?_⟩
  have s4 := Same.new (o := .lst (cutV xs lo hi)) np
  have s123 := s1.trans s23
  exact q _ _ (s123.trans s4) ⟨p, _, rfl, s123.free np, upd_same, ((t.same s23).cut lo hi).same s4⟩
theorem dpl_of {H : Hp} {v : V} {H' : Hp} (hl : lOf c = some ds) (r : ValR K H H' v c) : Dp K H' v (.list ds) := by
  obtain ⟨a, xs, rfl, ha, t⟩ := r.lst hl
  exact .lst (SqL.of ha) (TdAll.dp _ _ t)
theorem DE.inL {ca cb : Cell} {a : PyData} (ha : DE K ta e ca) (hb : DE K tb e cb) (ea : dOf ca = some a) (eb : lOf cb = some ds) (sa : Shp a) (sb : Shp (.list ds)) : DE K (tOp (rInD K) ta tb) e (.dat (.bool (ds.any fun z => PyData.eqv z a))) :=
  ha.two hb fun H H' x y Q rx ry q => ⟨a, ds, rx.dp ea, dpl_of eb ry, sa, sb, q _ _ (Same.refl _) (.bl _)⟩
/-- two lists -/
theorem DE.eqL {ca cb : Cell} {es : List PyData} (ha : DE K ta e ca) (hb : DE K tb e cb) (ea : lOf ca = some ds) (eb : lOf cb = some es) (sa : Shp (.list ds)) (sb : Shp (.list es)) : DE K (tOp (rEqD K) ta tb) e (.dat (.bool (PyData.eqv (.list ds) (.list es)))) :=
  ha.two hb fun H H' x y Q rx ry q => ⟨_, _, dpl_of ea rx, dpl_of eb ry, sa, sb, q _ _ (Same.refl _) (.bl _)⟩
theorem DE.neL {ca cb : Cell} {es : List PyData} (ha : DE K ta e ca) (hb : DE K tb e cb) (ea : lOf ca = some ds) (eb : lOf cb = some es) (sa : Shp (.list ds)) (sb : Shp (.list es)) : DE K (tOp (rNeD K) ta tb) e (.dat (.bool (!PyData.eqv (.list ds) (.list es)))) :=
  ha.two hb fun H H' x y Q rx ry q => ⟨_, _, dpl_of ea rx, dpl_of eb ry, sa, sb, q _ _ (Same.refl _) (.bl _)⟩
/-- a list and data that is no list -/
theorem DE.neLD {ca cb : Cell} {b : PyData} (ha : DE K ta e ca) (hb : DE K tb e cb) (ea : lOf ca = some ds) (eb : dOf cb = some b) (sa : Shp (.list ds)) (sb : Shp b) : DE K (tOp (rNeD K) ta tb) e (.dat (.bool (!PyData.eqv (.list ds) b))) :=
  ha.two hb fun H H' x y Q rx ry q => ⟨_, _, dpl_of ea rx, ry.dp eb, sa, sb, q _ _ (Same.refl _) (.bl _)⟩
theorem DE.neDL {ca cb : Cell} {b : PyData} (ha : DE K ta e ca) (hb : DE K tb e cb) (ea : dOf ca = some b) (eb : lOf cb = some ds) (sb : Shp b) (sa : Shp (.list ds)) : DE K (tOp (rNeD K) ta tb) e (.dat (.bool (!PyData.eqv b (.list ds)))) :=
  ha.two hb fun H H' x y Q rx ry q => ⟨_, _, rx.dp ea, dpl_of eb ry, sb, sa, q _ _ (Same.refl _) (.bl _)⟩
theorem DE.fldI {C : Addr} {fs : List (Str × V)} {f : Str} {i : Int} (ha : DE K ta e (.obj C fs)) (hc : Cls K C) (hn : NoAttr K C f) (hf : fs.lookup f = some (.int i)) : DE K (tFld K ta f) e (.dat (.int i)) := DE.fld ha hc hn hf fun _ => .int i
section
variable {tb : TS} {g : TG} {n : Nat} {at_ : Nat → Option PyData} {Es : Nat → List Cell} {o : Out}
/-- every turn goes on -/
theorem Turns.all (h : ∀ j d, j < n → at_ j = some d → ∃ e1, DG K g (Es j) d e1 ∧ (DS K E tb e1 (.next (Es (j + 1))) ∨ DS K E tb e1 (.cont (Es (j + 1))))) : Turns K E tb g n at_ Es (.next (Es n)) :=
  ⟨n, Nat.le_refl n, fun j d hj ed => by
    obtain ⟨e1, h1, h2 | h2⟩ := h j d hj ed
    · exact ⟨e1, _, h1, h2, .inl rfl⟩
    · exact ⟨e1, _, h1, h2, .inr rfl⟩, .inl ⟨rfl, rfl⟩⟩
/-- at turn m it ends by a return -/
theorem Turns.ret {m : Nat} {c : Cell} {d : PyData} {e1 : List Cell} (hm : m < n) (h : ∀ j d, j < m → at_ j = some d → ∃ e1, DG K g (Es j) d e1 ∧ (DS K E tb e1 (.next (Es (j + 1))) ∨ DS K E tb e1 (.cont (Es (j + 1))))) (hd : at_ m = some d) (hg : DG K g (Es m) d e1) (hr : DS K E tb e1 (.ret c)) : Turns K E tb g n at_ Es (.ret c) :=
  ⟨m, Nat.le_of_lt hm, fun j d hj ed => by
    obtain ⟨e1, h1, h2 | h2⟩ := h j d hj ed
    · exact ⟨e1, _, h1, h2, .inl rfl⟩
    · exact ⟨e1, _, h1, h2, .inr rfl⟩, .inr ⟨hm, d, e1, _, hd, hg, hr, .inr (.inl ⟨c, rfl, rfl⟩)⟩⟩
theorem Turns.exc {m : Nat} {C : Addr} {d : PyData} {e1 : List Cell} (hm : m < n) (h : ∀ j d, j < m → at_ j = some d → ∃ e1, DG K g (Es j) d e1 ∧ (DS K E tb e1 (.next (Es (j + 1))) ∨ DS K E tb e1 (.cont (Es (j + 1))))) (hd : at_ m = some d) (hg : DG K g (Es m) d e1) (hr : DS K E tb e1 (.exc C)) : Turns K E tb g n at_ Es (.exc C) :=
  ⟨m, Nat.le_of_lt hm, fun j d hj ed => by
    obtain ⟨e1, h1, h2 | h2⟩ := h j d hj ed
    · exact ⟨e1, _, h1, h2, .inl rfl⟩
    · exact ⟨e1, _, h1, h2, .inr rfl⟩, .inr ⟨hm, d, e1, _, hd, hg, hr, .inr (.inr ⟨C, rfl, rfl⟩)⟩⟩
theorem Turns.brk {m : Nat} {e2 : List Cell} {d : PyData} {e1 : List Cell} (hm : m < n) (h : ∀ j d, j < m → at_ j = some d → ∃ e1, DG K g (Es j) d e1 ∧ (DS K E tb e1 (.next (Es (j + 1))) ∨ DS K E tb e1 (.cont (Es (j + 1))))) (hd : at_ m = some d) (hg : DG K g (Es m) d e1) (hr : DS K E tb e1 (.brk e2)) : Turns K E tb g n at_ Es (.next e2) :=
  ⟨m, Nat.le_of_lt hm, fun j d hj ed => by
    obtain ⟨e1, h1, h2 | h2⟩ := h j d hj ed
    · exact ⟨e1, _, h1, h2, .inl rfl⟩
    · exact ⟨e1, _, h1, h2, .inr rfl⟩, .inr ⟨hm, d, e1, _, hd, hg, hr, .inl ⟨e2, rfl, rfl⟩⟩⟩
end
/-- while: the turns before M go on; at M the test is false, or the turn ends the loop -/
def WTurns (K : PySem.W.Frag) (E : XK) (tc : TT) (tw : TS) (Es : Nat → List Cell) (o : Out) : Prop :=
  ∃ M, (∀ j, j < M → DB K tc (Es j) true ∧ ∃ o', DS K E tw (Es j) o' ∧ (o' = .next (Es (j + 1)) ∨ o' = .cont (Es (j + 1)))) ∧
    ((DB K tc (Es M) false ∧ o = .next (Es M)) ∨ (DB K tc (Es M) true ∧ ∃ o', DS K E tw (Es M) o' ∧ ((∃ e', o' = .brk e' ∧ o = .next e') ∨ (∃ c, o' = .ret c ∧ o = .ret c) ∨ (∃ C, o' = .exc C ∧ o = .exc C))))
theorem DS.while_ {tc : TT} {tw : TS} {Es : Nat → List Cell} {o : Out} (W : WTurns K E tc tw Es o) : DS K E (tWhile tc tw) (Es 0) o := fun H0 H σ D R q => by
  obtain ⟨M, go, last⟩ := W
  refine ⟨fun m σ H => ∃ j, j + m = M ∧ EnvR K H0 H σ (Es j), ⟨M, 0, by omega, R⟩, ?_⟩
  rintro m σ H ⟨j, hj, R⟩
  rcases Nat.lt_or_ge j M with hlt | hge
  · obtain ⟨hc, o', hw, ho⟩ := go j hlt
    refine hc H0 H σ _ R fun H1 s => iteT ⟨fun σ' H' => EnvR K H0 H' σ' (Es (j + 1)), fun σ' H' R' => ⟨m - 1, by omega, j + 1, by omega, R'⟩, hw H0 H1 σ _ (R.up s) ?_⟩
    rcases ho with rfl | rfl
    · exact fun σ H r => r
    · exact fun σ H r => r
  · obtain rfl : j = M := by omega
    rcases last with ⟨hc, rfl⟩ | ⟨hc, o', hw, ho⟩
    · exact hc H0 H σ _ R fun H1 s => iteF (q σ H1 (R.up s))
    · refine hc H0 H σ _ R fun H1 s => iteT ⟨fun σ' H' => False, fun σ' H' z => z.elim, hw H0 H1 σ _ (R.up s) ?_⟩
      rcases ho with ⟨e', rfl, rfl⟩ | ⟨c, rfl, rfl⟩ | ⟨C, rfl, rfl⟩
      · exact q
      · exact q
      · exact q
theorem DE.lcV {e : List Cell} {tl te : TE} {tt : TT} {i : Nat} {a b : Int} {acc : Nat → List PyData} (hl : DE K tl e (.rng a b)) (h : -(2 ^ 62) ≤ a ∧ a < 2 ^ 62 ∧ -(2 ^ 62) ≤ b ∧ b < 2 ^ 62) (G : Grow K tt te e i (b - a).toNat (fun j => some (.int (a + j))) acc) :
    DE K (tLc (iRngV tl) (gName i) tt te [i]) e (.own (acc (b - a).toNat)) := fun H0 H σ Q R q => hl H0 H σ _ R fun v H1 s r => by
  obtain ⟨p, rfl, hp⟩ := r
  exact ⟨p, a, b, rfl, hp, h, lcR_core (R.up s) s q G⟩
theorem DS.forV {tl : TE} {g : TG} {tb : TS} {a b : Int} {Es : Nat → List Cell} {o : Out} (hl : DE K tl (Es 0) (.rng a b)) (h : -(2 ^ 62) ≤ a ∧ a < 2 ^ 62 ∧ -(2 ^ 62) ≤ b ∧ b < 2 ^ 62) (T : Turns K E tb g (b - a).toNat (fun j => some (.int (a + j))) Es o) :
    DS K E (tFor (iRngV tl) g tb) (Es 0) o := fun H0 H σ D R q => hl H0 H σ _ R fun v H1 s r => by
  obtain ⟨p, rfl, hp⟩ := r
  have un : ∀ σ H e, EnvR K H0 H σ e → EnvR K H0 H σ e := fun σ H e z => z
  refine ⟨p, a, b, rfl, hp, h, for_range (fun j σ H => j ≤ T.choose ∧ EnvR K H0 H σ (Es j)) ⟨Nat.zero_le _, R.up s⟩ (fun j σ H hj z => ?_) fun σ H z => turn_end T un q z.1 z.2⟩
  exact turn_step (v := .int (a + j)) T (Same.refl H0.h) un q hj rfl (fun _ => .int _) _ rfl z.1 z.2
abbrev rRange1 : List V → Hp → VK → Prop := fun vs H Q => ∃ j, vs = [V.int j] ∧ ∀ p, H p = none → Q (.ref p) (upd H p (.rng 0 j))
theorem DE.range1 {n : Int} (ha : DE K ta e (.dat (.int n))) : DE K (tCB rRange1 (tCons ta tNil)) e (.rng 0 n) := fun H0 H σ Q R q => ha H0 H σ _ R fun x H1 s1 r => by
  cases int_of r
  refine ⟨n, rfl, fun p np => ?_⟩
  exact q _ _ (s1.trans (Same.new np)) ⟨p, rfl, upd_same⟩
/-- [x] * n -/
theorem DE.rep {k : Int} (ha : DE K ta e c) (hc : lOf c = some ds) (hb : DE K tb e (.dat (.int k))) (h0 : -(2 ^ 63) ≤ k) (h1 : k < 2 ^ 63) (hl : ds.length * k.toNat ≤ sizeLine) : DE K (tOp rRep ta tb) e (.own (List.replicate k.toNat ds).flatten) :=
  ha.two hb fun H H' x y Q rx ry q => by
    cases int_of ry
    obtain ⟨a, xs, rfl, ha, t⟩ := rx.lst hc
    refine ⟨a, k, xs, rfl, rfl, ha, h0, h1, by rw [t.len]; exact hl, fun p np => ?_⟩
    have s := Same.new (o := .lst (List.replicate k.toNat xs).flatten) np
    have tt : ∀ n : Nat, TdAll H' (List.replicate n xs).flatten (List.replicate n ds).flatten := fun n => by
      induction n with
      | zero => exact .nil
      | succ n ih =>
        rw [List.replicate_succ, List.replicate_succ, List.flatten_cons, List.flatten_cons]
        exact t.app ih
    exact q _ _ s ⟨p, _, rfl, np, upd_same, (tt _).same s⟩
theorem room65 {k : Nat} {A : Around} (hr : Room k A) : A.units + 65 < cLine := by
  have z := hr.un
  omega
/-- cell k of the script, 0 beyond it -/
def cellAt (ns : List Int) (k : Int) : Int := ns.getD k.toNat 0
theorem cellAt_in {ns : List Int} {k : Int} (h0 : 0 ≤ k) (h : k < ns.length) : L2.atI ns k = some (cellAt ns k) := by
  unfold L2.atI cellAt
  have hj : k.toNat < ns.length := by omega
  rw [show ixN ns.length k = some k.toNat from by
    unfold ixN
    rw [if_pos h0, if_pos h]]
  show ns[k.toNat]? = some (ns.getD k.toNat 0)
  rw [List.getD_eq_getElem?_getD, List.getElem?_eq_getElem hj]
  rfl
theorem cellAt_out {ns : List Int} {k : Int} (h : ¬ k < ns.length) : cellAt ns k = 0 := by
  unfold cellAt
  rw [List.getD_eq_getElem?_getD, List.getElem?_eq_none (by omega)]
  rfl
/-- entry k of data, None beyond it -/
def dAt (ds : List PyData) (k : Int) : PyData := ds.getD k.toNat .none
theorem dAt_in {ds : List PyData} {k : Int} (h0 : 0 ≤ k) (h : k < ds.length) : L2.atI ds k = some (dAt ds k) := by
  unfold L2.atI dAt
  have hj : k.toNat < ds.length := by omega
  rw [show ixN ds.length k = some k.toNat from by
    unfold ixN
    rw [if_pos h0, if_pos h]]
  show ds[k.toNat]? = some (ds.getD k.toNat .none)
  rw [List.getD_eq_getElem?_getD, List.getElem?_eq_getElem hj]
  rfl
/-- what _law_cell gives -/
abbrev fCell : List Cell → Cell → Prop := fun cs c => ∃ (ns : List Int) (k : Int), cs = [.scr ns, .dat (.int k)] ∧ 0 ≤ k ∧ c = .dat (.int (cellAt ns k))
section
variable {e : List Cell} {n i : Nat} {cv : Value} {C D0 : Addr} {tb : WX → TS} {ts : Addr → Value → Option Addr → TS} {Wout : WX} {o : Out}
def isExc : Out → Bool
  | .exc _ => true
  | _ => false
theorem DS.tryOk (h : ∀ W, DS K (EAll n W) (tb W) e o) (ho : isExc o = false) : DS K E (fun D σ H => tb (wAs K cv i ts Wout D) D σ H) e o := fun H0 H σ D R q => h (wAs K cv i ts Wout D) H0 H σ D R (by
  cases o with
  | exc _ => cases ho
  | ret _ => exact q
  | next _ => exact q
  | brk _ => exact q
  | cont _ => exact q)
theorem slots_un {H0 : Bs} {H : Hp} : ∀ (σ : L2.St), Slots K H0 H σ (List.replicate σ.length .un)
  | [] => trivial
  | _ :: σ => ⟨trivial, slots_un σ⟩
/-- the body raises C, of which the clause takes note; the suite returns -/
theorem DS.tryX {r : Cell} (h : ∀ W, DS K (EAll n W) (tb W) e (.exc C)) (hx : PySem.W.exmOne K (.ref C) cv = some true) (hs : ∀ (a : Addr) (E : XK), DS K E (ts a (.ref C) none) ((List.replicate n Cell.un).set i (.raw (.ref a))) (.ret r)) :
    DS K E (fun D σ H => tb (wAs K cv i ts Wout D) D σ H) e (.ret r) := fun H0 H σ D R q => h (wAs K cv i ts Wout D) H0 H σ D R (by
  intro H' s σ' hσ
  refine ⟨true, hx, fun _ a na => ?_, fun z => by cases z⟩
  refine hs a (fun _ _ _ => True) H0 H' _ _ ⟨R.bs, s, ?_, ?_⟩ q
  · have := (slots_un (K := K) (H0 := H0) (H := H') σ').set i (c := .raw (.ref a)) (o := some (.ref a)) rfl
    rw [hσ] at this
    exact this
  · intro j k b c d hj ho
    rcases get_set hj with ⟨_, rfl⟩ | ⟨_, z⟩
    · cases ho
    · have := List.mem_of_getElem? z
      rw [List.mem_replicate] at this
      rw [this.2] at ho
      cases ho)
theorem DE.isX {ε : Type} [Ctx ε] {e : ε} {a D : Addr} {b : Bool} {ta : TE} (ha : DE K ta e (.raw (.ref a))) (hk : PySem.W.kitOne K (.ref C) (.ref D) = some b) : DE K (tCB (rIsX K C a (.ref C) none) (tCons ta (tCons (tC (.ref D)) tNil))) e (.dat (.bool b)) := fun H0 H σ Q R q => ha H0 H σ _ R fun x H1 s1 r => by
  cases r
  exact ⟨rfl, rfl, .ref D, .ref D, b, rfl, fun u ru => ru, hk, q _ _ s1 (.bl b)⟩
end
end
/-- the law's promise: of every script of at most 63 numbers it returns True -/
def spLaw (K : PySem.W.Frag) : Sp := fun vs H Q _ => ∃ (a : Addr) (ns : List Int), vs = [.ref a] ∧ SqL K H a (ns.map V.int) ∧ ns.length ≤ 63 ∧ ∀ H', Q (.bl true) H'
def fLaw : List Cell → Cell → Prop := fun cs c => ∃ ns : List Int, cs = [.scr ns] ∧ ns.length ≤ 63 ∧ c = .dat (.bool true)
theorem law_of {P : Program} {w : World} {K : PySem.W.Frag} {mg : Str → Option Value} {base : Heap} {CX : CXT} {k : Nat} {f : Addr} {fd : FuncData} {ps : List Str} (F : FnOk P w K mg base CX k f fd ps (spD K fLaw)) : FnOk P w K mg base CX k f fd ps (spLaw K) :=
  F.imp fun vs H Q E ⟨a, ns, ev, hS, hl, q⟩ => by
    subst ev
    refine ⟨[.scr ns], .dat (.bool true), ⟨ns, rfl, hl, rfl⟩, rfl, ⟨⟨a, rfl, hS⟩, trivial⟩, fun v H' s r => ?_⟩
    cases bl_of r
    exact q H'
def spN (K : PySem.W.Frag) (pre : List Cell → Prop) (post : List Cell → Cell → Prop) : Sp := fun vs H Q _ => ∃ cs, pre cs ∧ cs.all (fun c => !isOwn c) = true ∧ ValsR K H H vs cs ∧ ∀ c v H', post cs c → Same H H' → ValR K H H' v c → Q v H'
section
variable {P : Program} {w : World} {K : PySem.W.Frag} {mg : Str → Option Value} {base : Heap}
theorem fnN {x qual : Str} {st : Stmt} {fa : Addr} {fd : FuncData} {N ps : List Str} {k : Nat} {pre : List Cell → Prop} {post : List Cell → Cell → Prop} (F : Fun K x qual st fa fd) (S : FnScope N ps (defScope st)) (len : ∀ cs, pre cs → cs.length = ps.length)
    (body : ∀ (cdv : Value) (A : Around) (outer : List Env) (s : Shared) (H : Hp) (E : XK), Room k (A.deeper (envOfC qual (defScope st) s.heap.objs.size fa cdv)) →
      ∃ t, PSs (cxOf CX0 P w K mg base N qual (defScope st) fa cdv A outer s H E).nox (defBody st) t ∧ ∀ cs, pre cs → ∃ c o, post cs c ∧ DS K E t (cs ++ List.replicate (N.length - ps.length) .un) o ∧ Ends_ c o) : FnOk P w K mg base CX0 (k + 1) fa fd ps (spN K pre post) := by
  refine F.ok S (fun vs H Q E h => ?_) (fun cdv A outer s H vs Q E hr h => ?_)
  · obtain ⟨cs, hf, ho, hv, q⟩ := h
    rw [hv.len]
    exact len cs hf
  · obtain ⟨cs, hf, ho, hv, q⟩ := h
    obtain ⟨t, hp, hd⟩ := body cdv A outer s H E hr
    obtain ⟨c, o, hc, h, he⟩ := hd cs hf
    refine ⟨t, hp, DS.run (E := E) ?_ he ho hv fun v H' => q c v H' hc⟩
    rw [hv.len, len cs hf]
    exact h
end
/-- x = f(..) and what follows, whatever f gives -/
theorem DS.setN {K : PySem.W.Frag} {E E' : XK} {e cs : List Cell} {i : Nat} {tr : TA} {u : TS} {o : Out} {pre : List Cell → Prop} {post : List Cell → Cell → Prop} (h : DA K tr e cs) (hp : pre (cs.map view)) (hu : ∀ c, post (cs.map view) c → store c = true ∧ DS K E u (e.set i c) o) :
    DS K E (tSeq (tAsg (tCall (spN K pre post) [] E' tr) (gName i)) u) e o := fun H0 H σ D R q => h H0 H σ _ R fun vs H1 s1 r => by
  rw [List.append_nil]
  refine ⟨_, hp, all_view cs, r.view, fun c v H' hc s2 rv => ?_⟩
  obtain ⟨hs, hd⟩ := hu c hc
  exact hd H0 H' _ D ((R.up s1).put s2 hs rv) q
end Esp
set_option autoImplicit false
set_option maxRecDepth 100000
set_option maxHeartbeats 4000000
namespace Esp
open PySem PySem.Spec PyProof.Rows L2
def DW (K : PySem.W.Frag) (E : XK) (t : TS) (e : List Cell) (P : Out → Prop) : Prop := ∀ H0 H (σ : L2.St) (D : Ends), EnvR K H0 H σ e → (∀ o, P o → OutK K D E H0 o) → t D σ H
/-- the ends of a turn -/
def TurnP (I : List Cell → Prop) (P : Out → Prop) : Out → Prop
  | .next e => I e
  | .cont e => I e
  | .brk e => P (.next e)
  | .ret c => P (.ret c)
  | .exc C => P (.exc C)
section
variable {K : PySem.W.Frag} {E : XK} {e e1 : List Cell} {o : Out} {P P1 : Out → Prop} {t u : TS} {tA : TT} {H0 : Bs} {H H' : Hp} {σ : L2.St}
theorem DW.of (h : DS K E t e o) (p : P o) : DW K E t e P := fun H0 H σ D R q => h H0 H σ D R (q o p)
theorem DW.mono (h : DW K E t e P1) (p : ∀ o, P1 o → P o) : DW K E t e P := fun H0 H σ D R q => h H0 H σ D R fun o z => q o (p o z)
theorem DW.seq (h : DW K E t e P1) (hn : ∀ e1, P1 (.next e1) → DW K E u e1 P) (hp : ∀ o, isNext o = false → P1 o → P o) : DW K E (tSeq t u) e P := fun H0 H σ D R q => h H0 H σ _ R fun o z => by
  cases o with
  | next e1 => exact fun σ' H' R' => hn e1 z H0 H' σ' D R' q
  | ret c => exact q _ (hp _ rfl z)
  | brk e => exact q _ (hp _ rfl z)
  | cont e => exact q _ (hp _ rfl z)
  | exc C => exact q _ (hp _ rfl z)
theorem DW.seqS (h : DS K E t e (.next e1)) (h2 : DW K E u e1 P) : DW K E (tSeq t u) e P := fun H0 H σ D R q => h H0 H σ _ R fun σ' H' R' => h2 H0 H' σ' D R' q
theorem DW.if_ {b : Bool} (h : DB K tA e b) (h1 : b = true → DW K E t e P) (h2 : b = false → DW K E u e P) : DW K E (tIfS tA t u) e P := fun H0 H σ D R q => h H0 H σ _ R fun H' s => by
  cases b with
  | true => exact iteT (h1 rfl H0 H' σ D (R.up s) q)
  | false => exact iteF (h2 rfl H0 H' σ D (R.up s) q)
theorem DW.setN {E' : XK} {cs : List Cell} {i : Nat} {tr : TA} {pre : List Cell → Prop} {post : List Cell → Cell → Prop} (h : DA K tr e cs) (hp : pre (cs.map view)) (hu : ∀ c, post (cs.map view) c → store c = true ∧ P (.next (e.set i c))) : DW K E (tAsg (tCall (spN K pre post) [] E' tr) (gName i)) e P := fun H0 H σ D R q => h H0 H σ _ R fun vs H1 s1 r => by
  rw [List.append_nil]
  refine ⟨_, hp, all_view cs, r.view, fun c v H' hc s2 rv => ?_⟩
  obtain ⟨hs, hd⟩ := hu c hc
  exact q _ hd _ _ ((R.up s1).put s2 hs rv)
/-- one turn, in the loop's own words -/
theorem turnW {tb : TS} {g : TG} {d : PyData} {I J : List Cell → Prop} {G : Bs} {D : Ends} {v : V} (hs : ∀ e, I e → ∃ e1, DG K g e d e1 ∧ DW K E tb e1 (TurnP J P)) (sG : Same H0.h G.h) (un : ∀ σ H e, EnvR K G H σ e → EnvR K H0 H σ e) (q : ∀ o, P o → OutK K D E H0 o) (hd : Td H' v d) (hI : I e) (R : EnvR K G H' σ e) :
    g v σ H' fun σ2 H2 => tb { D with nx := fun σ H => ∃ e, J e ∧ EnvR K G H σ e, ct := fun σ H => ∃ e, J e ∧ EnvR K G H σ e, bk := D.nx } σ2 H2 := by
  obtain ⟨e1, hg, hw⟩ := hs e hI
  refine hg G H' σ v _ R hd fun σ' R' => hw G H' _ _ R' fun o z => ?_
  cases o with
  | next e => exact fun σ H r => ⟨e, z, r⟩
  | cont e => exact fun σ H r => ⟨e, z, r⟩
  | brk e => exact fun σ H r => q _ z σ H (un σ H e r)
  | ret c => exact fun v H s r => q _ z v H (sG.trans s) (r.low sG)
  | exc C => exact fun H s => q _ z H (sG.trans s)
section
variable {tl : TE} {ta : TA} {g : TG} {tb : TS} {ds : List PyData} {Inv : Nat → List Cell → Prop}
theorem DW.forT (hl : DE K tl e (.dat (.tuple ds))) (h0 : Inv 0 e) (hs : ∀ j d, ds[j]? = some d → ∀ e, Inv j e → ∃ e1, DG K g e d e1 ∧ DW K E tb e1 (TurnP (Inv (j + 1)) P)) (hend : ∀ e, Inv ds.length e → P (.next e)) : DW K E (tFor (iTup K tl) g tb) e P := fun H0 H σ D R q => hl H0 H σ _ R fun v H1 s r => by
  obtain ⟨a, xs, rfl, ha, t⟩ := tup_of r
  have R1 := R.up s
  have un : ∀ σ H e, EnvR K (fz H0 H1) H σ e → EnvR K H0 H σ e := fun σ H e z => EnvR.ofBase (G := fz H0 H1) rfl R1.bs (fz_base R1.sm) z
  have ln := t.len
  refine ⟨a, rfl, ⟨xs, ha.sq⟩, for_tup (xs := xs) (fun j σ H => ∃ e, Inv j e ∧ EnvR K (fz H0 H1) H σ e) ⟨e, h0, R1.fz⟩ (fun j σ H _ z => let ⟨_, _, z⟩ := z; (z.tups _ _ ha).sq) (fun j x σ H ex z => ?_) fun σ H z => ?_⟩
  · obtain ⟨e', hI, R'⟩ := z
    have hj : j < ds.length := by
      rcases Nat.lt_or_ge j xs.length with w | w
      · omega
      · rw [List.getElem?_eq_none w] at ex
        cases ex
    obtain ⟨v, ev, tv⟩ := (t.up R'.tups).get (List.getElem?_eq_getElem hj)
    rw [ex] at ev
    obtain rfl := Option.some.inj ev
    exact turnW (hs j _ (List.getElem?_eq_getElem hj)) (fz_base R1.sm) un q tv hI R'
  · obtain ⟨e', hI, R'⟩ := z
    rw [ln] at hI
    exact q _ (hend e' hI) _ _ (un _ _ _ R')
theorem DW.forR1 {n : Int} (hl : DA K ta e [.dat (.int n)]) (b1 : -(2 ^ 62) ≤ n) (b2 : n < 2 ^ 62) (h0 : Inv 0 e) (hs : ∀ j : Nat, j < n.toNat → ∀ e, Inv j e → ∃ e1, DG K g e (.int j) e1 ∧ DW K E tb e1 (TurnP (Inv (j + 1)) P)) (hend : ∀ e, Inv n.toNat e → P (.next e)) :
    DW K E (tFor (iRng1 ta) g tb) e P := fun H0 H σ D R q => hl H0 H σ _ R fun vs H1 s r => by
  match vs, r with
  | [v], ⟨r1, _⟩ =>
    cases int_of r1
    have un : ∀ σ H e, EnvR K H0 H σ e → EnvR K H0 H σ e := fun σ H e z => z
    refine ⟨n, rfl, b1, b2, for_range (fun j σ H => ∃ e, Inv j e ∧ EnvR K H0 H σ e) ⟨e, h0, R.up s⟩ (fun j σ H hj z => ?_) fun σ H z => let ⟨e', hI, R'⟩ := z; q _ (hend e' hI) _ _ R'⟩
    obtain ⟨e', hI, R'⟩ := z
    exact turnW (v := .int (0 + j)) (hs j hj) (Same.refl H0.h) un q (by rw [Int.zero_add]; exact .int _) hI R'
  | [], r => exact r.elim
  | _ :: _ :: _, ⟨_, r⟩ => exact r.elim
theorem DW.forR2 {a b : Int} (hl : DA K ta e [.dat (.int a), .dat (.int b)]) (h : -(2 ^ 62) ≤ a ∧ a < 2 ^ 62 ∧ -(2 ^ 62) ≤ b ∧ b < 2 ^ 62) (h0 : Inv 0 e) (hs : ∀ j : Nat, j < (b - a).toNat → ∀ e, Inv j e → ∃ e1, DG K g e (.int (a + j)) e1 ∧ DW K E tb e1 (TurnP (Inv (j + 1)) P)) (hend : ∀ e, Inv (b - a).toNat e → P (.next e)) :
    DW K E (tFor (iRng2 ta) g tb) e P := fun H0 H σ D R q => hl H0 H σ _ R fun vs H1 s r => by
  match vs, r with
  | [v, w], ⟨r1, r2, _⟩ =>
    cases int_of r1
    cases int_of r2
    have un : ∀ σ H e, EnvR K H0 H σ e → EnvR K H0 H σ e := fun σ H e z => z
    refine ⟨a, b, rfl, h, for_range (fun j σ H => ∃ e, Inv j e ∧ EnvR K H0 H σ e) ⟨e, h0, R.up s⟩ (fun j σ H hj z => ?_) fun σ H z => let ⟨e', hI, R'⟩ := z; q _ (hend e' hI) _ _ R'⟩
    obtain ⟨e', hI, R'⟩ := z
    exact turnW (v := .int (a + j)) (hs j hj) (Same.refl H0.h) un q (.int _) hI R'
  | [], r => exact r.elim
  | [_], ⟨_, r⟩ => exact r.elim
  | _ :: _ :: _ :: _, ⟨_, _, r⟩ => exact r.elim
theorem forLW_core {D : Ends} {H1 : Hp} {a : Addr} {xs : List V} (R1 : EnvR K H0 H1 σ e) (q : ∀ o, P o → OutK K D E H0 o) (ha : H1 a = some (.lst xs)) (t : TdAll H1 xs ds) (no : ∀ (j : Nat) (c : Cell), e[j]? = some c → isOwn c = true → ¬ σ[j]? = some (some (V.ref a)))
    (h0 : Inv 0 e) (hs : ∀ j d, ds[j]? = some d → ∀ e, Inv j e → ∃ e1, DG K g e d e1 ∧ DW K E tb e1 (TurnP (Inv (j + 1)) P)) (hend : ∀ e, Inv ds.length e → P (.next e)) :
    ∃ W : Nat → Nat → L2.St → Hp → Prop, (∃ m, W 0 m σ H1) ∧ ∀ i' m σ H, W i' m σ H → ((Itl K a).stop i' H ∧ D.nx σ H) ∨ ((Itl K a).go i' H ∧ ∃ N : L2.St → Hp → Prop, (∀ σ' H', N σ' H' → ∃ m', m' < m ∧ W (i' + 1) m' σ' H') ∧ ∀ x H', (Itl K a).yld i' H x H' → g x σ H' fun σ2 H2 => tb { D with nx := N, ct := N, bk := D.nx } σ2 H2) := by
  have un : ∀ σ H e, EnvR K (fzL H0 H1 a) H σ e → EnvR K H0 H σ e := fun σ H e z => EnvR.ofBase (G := fzL H0 H1 a) rfl R1.bs (fzL_base R1.sm) z
  have ln := t.len
  refine for_list (xs := xs) (fun j σ H => ∃ e, Inv j e ∧ EnvR K (fzL H0 H1 a) H σ e) ⟨e, h0, R1.fzL no⟩ (fun j σ H _ z => let ⟨_, _, z⟩ := z; SqL.of (z.lstL ha)) (fun j x σ H ex z => ?_) fun σ H z => ?_
  · obtain ⟨e', hI, R'⟩ := z
    have hj : j < ds.length := by
      rcases Nat.lt_or_ge j xs.length with w | w
      · omega
      · rw [List.getElem?_eq_none w] at ex
        cases ex
    obtain ⟨v, ev, tv⟩ := (t.up (R'.tupsL ha)).get (List.getElem?_eq_getElem hj)
    rw [ex] at ev
    obtain rfl := Option.some.inj ev
    exact turnW (hs j _ (List.getElem?_eq_getElem hj)) (fzL_base R1.sm) un q tv hI R'
  · obtain ⟨e', hI, R'⟩ := z
    rw [ln] at hI
    exact q _ (hend e' hI) _ _ (un _ _ _ R')
theorem DW.forN (hl : DE K tl e (.own ds)) (h0 : Inv 0 e) (hs : ∀ j d, ds[j]? = some d → ∀ e, Inv j e → ∃ e1, DG K g e d e1 ∧ DW K E tb e1 (TurnP (Inv (j + 1)) P)) (hend : ∀ e, Inv ds.length e → P (.next e)) : DW K E (tFor (iList K tl) g tb) e P := fun H0 H σ D R q => hl H0 H σ _ R fun v H1 s r => by
  obtain ⟨a, xs, rfl, n, ha, t⟩ := r
  refine ⟨a, rfl, ⟨xs, SqL.of ha⟩, forLW_core (R.up s) q ha t (fun j c h1 h2 h3 => ?_) h0 hs hend⟩
  obtain ⟨ys, hy⟩ := own_lst R h1 h2 h3
  rw [n] at hy
  cases hy
theorem DW.forL {k : Nat} (hk : e[k]? = some (.rd ds)) (h0 : Inv 0 e) (hs : ∀ j d, ds[j]? = some d → ∀ e, Inv j e → ∃ e1, DG K g e d e1 ∧ DW K E tb e1 (TurnP (Inv (j + 1)) P)) (hend : ∀ e, Inv ds.length e → P (.next e)) : DW K E (tFor (iList K (tVar k)) g tb) e P := fun H0 H σ D R q => by
  obtain ⟨p, ep, a, xs, ev, ha, t⟩ := R.sl.get hk
  subst ev
  refine ⟨_, ep, a, rfl, ⟨xs, SqL.of ha⟩, forLW_core R q ha t (fun j c h1 h2 h3 => ?_) h0 hs hend⟩
  obtain rfl := R.ap j k a c _ h1 h2 hk rfl h3 ep
  rw [hk] at h1
  cases h1
  cases h2
theorem DW.while_ {tc : TT} {tw : TS} {Inw : List Cell → Prop} (μ : List Cell → Nat) (h0 : Inw e) (hs : ∀ e, Inw e → ∃ b, DB K tc e b ∧ (b = true → DW K E tw e (TurnP (fun e' => Inw e' ∧ μ e' < μ e) P)) ∧ (b = false → P (.next e))) : DW K E (tWhile tc tw) e P := fun H0 H σ D R q => by
  refine ⟨fun m σ H => ∃ e, Inw e ∧ μ e = m ∧ EnvR K H0 H σ e, ⟨_, e, h0, rfl, R⟩, ?_⟩
  rintro m σ H ⟨e', hI, hm, R'⟩
  obtain ⟨b, hb, ht, hf⟩ := hs e' hI
  refine hb H0 H σ _ R' fun H1 s => ?_
  cases b with
  | true =>
    refine iteT ⟨fun σ H => ∃ e2, (Inw e2 ∧ μ e2 < μ e') ∧ EnvR K H0 H σ e2, fun σ' H' ⟨e2, h2, R2⟩ => ⟨μ e2, by omega, e2, h2.1, rfl, R2⟩, ht rfl H0 H1 σ _ (R'.up s) fun o z => ?_⟩
    cases o with
    | next e2 => exact fun σ H r => ⟨e2, z, r⟩
    | cont e2 => exact fun σ H r => ⟨e2, z, r⟩
    | brk e2 => exact q _ z
    | ret c => exact q _ z
    | exc C => exact q _ z
  | false => exact iteF (q _ (hf rfl) _ _ (R'.up s))
end
end
/-- what the ends of a def's body keep to -/
def EndsP (p : Cell → Prop) : Out → Prop := fun o => ∃ c, Ends_ c o ∧ p c
theorem DW.run {K : PySem.W.Frag} {E : XK} {t : TS} {N : List Str} {vs : List V} {cs : List Cell} {p : Cell → Prop} {H : Hp} {Q : VK} (h : DW K E t (cs ++ List.replicate (N.length - vs.length) .un) (EndsP p)) (ho : cs.all (fun c => !isOwn c) = true) (hv : ValsR K H H vs cs)
    (q : ∀ c v H', p c → Same H H' → ValR K H H' v c → Q v H') : t { nx := fun _ H' => Q .non H', rt := Q } (start N vs) H := by
  refine h ⟨H, H⟩ H _ _ (EnvR.start _ hv ho) fun o z => ?_
  obtain ⟨c, rfl | ⟨⟨e, rfl⟩, rfl⟩, pc⟩ := z
  · exact fun v H' => q c v H' pc
  · exact fun σ H' R => q _ _ _ pc R.sm .non
section
variable {P : Program} {w : World} {K : PySem.W.Frag} {mg : Str → Option Value} {base : Heap}
theorem fnW {x qual : Str} {st : Stmt} {fa : Addr} {fd : FuncData} {N ps : List Str} {k : Nat} {pre : List Cell → Prop} {post : List Cell → Cell → Prop} (F : Fun K x qual st fa fd) (S : FnScope N ps (defScope st)) (len : ∀ cs, pre cs → cs.length = ps.length)
    (body : ∀ (cdv : Value) (A : Around) (outer : List Env) (s : Shared) (H : Hp) (E : XK), Room k (A.deeper (envOfC qual (defScope st) s.heap.objs.size fa cdv)) →
      ∃ t, PSs (cxOf CX0 P w K mg base N qual (defScope st) fa cdv A outer s H E).nox (defBody st) t ∧ ∀ cs, pre cs → DW K E t (cs ++ List.replicate (N.length - ps.length) .un) (EndsP (post cs))) : FnOk P w K mg base CX0 (k + 1) fa fd ps (spN K pre post) := by
  refine F.ok S (fun vs H Q E h => ?_) (fun cdv A outer s H vs Q E hr h => ?_)
  · obtain ⟨cs, hf, ho, hv, q⟩ := h
    rw [hv.len]
    exact len cs hf
  · obtain ⟨cs, hf, ho, hv, q⟩ := h
    obtain ⟨t, hp, hd⟩ := body cdv A outer s H E hr
    refine ⟨t, hp, DW.run (E := E) ?_ ho hv q⟩
    rw [hv.len, len cs hf]
    exact hd cs hf
/-- the law itself, by its ends -/
theorem law_ofN {CX : CXT} {k : Nat} {f : Addr} {fd : FuncData} {ps : List Str} (F : FnOk P w K mg base CX k f fd ps (spN K (fun cs => ∃ ns : List Int, cs = [.scr ns] ∧ ns.length ≤ 63) fun _ c => c = .dat (.bool true))) : FnOk P w K mg base CX k f fd ps (spLaw K) :=
  F.imp fun vs H Q E ⟨a, ns, ev, hS, hl, q⟩ => by
    subst ev
    refine ⟨[.scr ns], ⟨ns, rfl, hl⟩, rfl, ⟨⟨a, rfl, hS⟩, trivial⟩, fun c v H' hc s r => ?_⟩
    subst hc
    cases bl_of r
    exact q H'
end
section
variable {K : PySem.W.Frag} {E : XK} {e e' : List Cell} {ta te ti : TE} {tr : TA}
theorem DS.appTo {i : Nat} {ds : List PyData} {d : PyData} (hi : e[i]? = some (.own ds)) (h : DE K ta e (.dat d)) (hl : ds.length < sizeLine) (he : e.set i (.own (ds ++ [d])) = e') : DS K E (tDrop (tBM K "list" rAppend (tVar i) (tCons ta tNil))) e (.next e') := he ▸ DS.app hi h hl
theorem DS.putTo {i j : Nat} {ds : List PyData} {k : Int} {d : PyData} (hi : e[i]? = some (.own ds)) (h : DE K ta e (.dat d)) (hk : DE K ti e (.dat (.int k))) (hj : ixN ds.length k = some j) (he : e.set i (.own (ds.set j d)) = e') : DS K E (tAsg ta (gSub (tVar i) ti rSetL)) e (.next e') := he ▸ DS.put hi h hk hj
theorem DS.augTo {i : Nat} {a b : Int} {g : Int → Int → Int} (hi : e[i]? = some (.dat (.int a))) (h : DE K te e (.dat (.int b))) (he : e.set i (.dat (.int (g a b))) = e') : DS K E (tAug i te (ipI g)) e (.next e') := he ▸ DS.aug hi h
theorem DS.parTo {i j : Nat} {d1 d2 : PyData} (h : DA K tr e [.dat d1, .dat d2]) (he : (e.set i (.dat d1)).set j (.dat d2) = e') : DS K E (tPar i j tr) e (.next e') := he ▸ DS.par h
theorem DS.nilTo (he : e = e') : DS K E tNext e (.next e') := he ▸ DS.nil
theorem DS.dropTo {c : Cell} (h : DE K te e c) (he : e = e') : DS K E (tDrop te) e (.next e') := he ▸ DS.drop h
end
end Esp
set_option autoImplicit false
set_option maxRecDepth 100000
set_option maxHeartbeats 4000000
namespace Esp
open PySem PySem.Spec PyProof.Rows L2
inductive Chunk
  | ins (C : Addr) (fs : List (Str × Cell))
  | lst (cs : List Cell)
  | dct (kvs : List (Int × Int))
  /-- a bound method, f of x -/
  | met (f x : Addr)
  /-- a tuple of anything, which stays as it is -/
  | tup (cs : List Cell)
def Chunk.fixd : Chunk → Bool
  | .tup _ => true
  | _ => false
abbrev Hs := List (Addr × Chunk)
/-- the objects that may be written -/
def dom : Hs → List Addr
  | [] => []
  | (a, .ins _ _) :: hs => a :: dom hs
  | (a, .lst _) :: hs => a :: dom hs
  | (a, .dct _) :: hs => a :: dom hs
  | (a, .met _ _) :: hs => a :: dom hs
  | (_, .tup _) :: hs => dom hs
/-- what a field or an entry may hold -/
def okC : Cell → Bool
  | .un => true
  | .raw _ => true
  | .dat _ => true
  | .cst _ => true
  | .fix _ => true
  | _ => false
/-- what an expression may bring there -/
def okV : Cell → Bool
  | .un => true
  | .raw _ => true
  | .dat _ => true
  | .cst _ => true
  | _ => false
def FldR (K : PySem.W.Frag) (H0 : Bs) (H : Hp) : List (Str × V) → List (Str × Cell) → Prop
  | [], [] => True
  | (f, v) :: vs, (g, c) :: fs => f = g ∧ (okC c = true ∧ SlotR K H0 H (some v) c) ∧ FldR K H0 H vs fs
  | _, _ => False
def ChunkR (K : PySem.W.Frag) (H0 : Bs) (H : Hp) (a : Addr) : Chunk → Prop
  | .ins C fs => ∃ dx vs, H a = some (.ins C dx vs) ∧ FldR K H0 H vs fs
  | .lst cs => ∃ xs, H a = some (.lst xs) ∧ Slots K H0 H (xs.map some) cs ∧ cs.all okC = true
  | .dct kvs => H a = some (.dK (encD kvs))
  | .met f x => H a = some (.met f x)
  | .tup cs => ∃ xs, TupN H a xs ∧ Slots K H0 H (xs.map some) cs ∧ cs.all okC = true
structure HsR (K : PySem.W.Frag) (H0 : Bs) (H : Hp) (hs : Hs) : Prop where
  at_ : ∀ p ∈ hs, (p.2.fixd = false → H0.h p.1 = none) ∧ ChunkR K H0 H p.1 p.2
  nd : (dom hs).Nodup
structure EnvM (K : PySem.W.Frag) (H0 : Bs) (H : Hp) (σ : L2.St) (e : List Cell × Hs) : Prop where
  ev : EnvR K H0 H σ e.1
  hp : HsR K H0 H e.2
  sep : ∀ (i : Nat) (c : Cell) (a : Addr), e.1[i]? = some c → isLst c = true → σ[i]? = some (some (V.ref a)) → a ∉ dom e.2
section
variable {K : PySem.W.Frag} {H0 G : Bs} {H H' : Hp} {σ : L2.St}
theorem SlotR.tp (t : Tups H H') {o : Option V} : ∀ {c : Cell}, okC c = true → SlotR K H0 H o c → SlotR K H0 H' o c
  | .un, _, h => h
  | .raw _, _, h => h
  | .dat _, _, ⟨v, e, h⟩ => ⟨v, e, h.up t⟩
  | .cst _, _, h => h
  | .fix _, _, h => h
  | .rd _, z, _ => by cases z
  | .own _, z, _ => by cases z
  | .rng _ _, z, _ => by cases z
theorem SlotR.bs (eb : Same H0.b G.b) {o : Option V} : ∀ {c : Cell}, okC c = true → SlotR K H0 H o c → SlotR K G H o c
  | .un, _, h => h
  | .raw _, _, h => h
  | .dat _, _, h => h
  | .cst _, _, h => h
  | .fix _, _, ⟨a, e, h⟩ => ⟨a, e, h.up eb⟩
  | .rd _, z, _ => by cases z
  | .own _, z, _ => by cases z
  | .rng _ _, z, _ => by cases z
theorem SlotR.val (s : Same H0.b H) {v : V} : ∀ {c : Cell}, okC c = true → SlotR K H0 H (some v) c → ValR K H H v c
  | .un, _, _ => trivial
  | .raw _, _, h => Option.some.inj h
  | .dat _, _, ⟨v, e, h⟩ => by
    cases e
    exact h
  | .cst _, _, ⟨v, e, h⟩ => by
    cases e
    exact h
  | .fix _, _, ⟨a, e, h⟩ => ⟨a, Option.some.inj e, h.up s⟩
  | .rd _, z, _ => by cases z
  | .own _, z, _ => by cases z
  | .rng _ _, z, _ => by cases z
theorem SlotR.ofV {v : V} : ∀ {c : Cell}, okV c = true → ValR K H H' v c → SlotR K H0 H' (some v) c
  | .un, _, _ => trivial
  | .raw _, _, h => congrArg some h
  | .dat _, _, h => ⟨v, rfl, h⟩
  | .cst _, _, h => ⟨v, rfl, h⟩
  | .fix _, z, _ => by cases z
  | .rd _, z, _ => by cases z
  | .own _, z, _ => by cases z
  | .rng _ _, z, _ => by cases z
theorem okC_of {c : Cell} (h : okV c = true) : okC c = true := by
  cases c <;> first | rfl | cases h
theorem FldR.map {f : ∀ {o : Option V} {c : Cell}, okC c = true → SlotR K H0 H o c → SlotR K G H' o c} : ∀ {vs : List (Str × V)} {fs : List (Str × Cell)}, FldR K H0 H vs fs → FldR K G H' vs fs
  | [], [], h => h
  | (_, _) :: _, (_, _) :: _, ⟨e, ⟨k, h⟩, t⟩ => ⟨e, ⟨k, f k h⟩, FldR.map (f := f) t⟩
  | [], _ :: _, h => h
  | _ :: _, [], h => h
theorem Slots.map {f : ∀ {o : Option V} {c : Cell}, okC c = true → SlotR K H0 H o c → SlotR K G H' o c} : ∀ {vs : L2.St} {cs : List Cell}, cs.all okC = true → Slots K H0 H vs cs → Slots K G H' vs cs
  | [], [], _, h => h
  | _ :: _, c :: cs, k, ⟨h, t⟩ => by
    rw [List.all_cons, Bool.and_eq_true] at k
    exact ⟨f k.1 h, Slots.map (f := f) k.2 t⟩
  | [], _ :: _, _, h => h
  | _ :: _, [], _, h => h
theorem ChunkR.map (f : ∀ {o : Option V} {c : Cell}, okC c = true → SlotR K H0 H o c → SlotR K G H' o c) {a : Addr} (ha : H' a = H a) : ∀ {c : Chunk}, ChunkR K H0 H a c → ChunkR K G H' a c
  | .ins _ _, ⟨dx, vs, e, h⟩ => ⟨dx, vs, ha.trans e, FldR.map (f := f) h⟩
  | .lst _, ⟨xs, e, h, k⟩ => ⟨xs, ha.trans e, Slots.map (f := f) k h, k⟩
  | .dct _, e => ha.trans e
  | .met _ _, e => ha.trans e
  | .tup _, ⟨xs, ⟨o, n, e⟩, h, k⟩ => ⟨xs, ⟨o, n, ha.trans e⟩, Slots.map (f := f) k h, k⟩
theorem ChunkR.mapT (f : ∀ {o : Option V} {c : Cell}, okC c = true → SlotR K H0 H o c → SlotR K G H' o c) {a : Addr} : ∀ {c : Chunk}, (c.fixd = false → H' a = H a) → Tups H H' → ChunkR K H0 H a c → ChunkR K G H' a c
  | .ins _ _, ha, _, ⟨dx, vs, e, h⟩ => ⟨dx, vs, (ha rfl).trans e, FldR.map (f := f) h⟩
  | .lst _, ha, _, ⟨xs, e, h, k⟩ => ⟨xs, (ha rfl).trans e, Slots.map (f := f) k h, k⟩
  | .dct _, ha, _, e => (ha rfl).trans e
  | .met _ _, ha, _, e => (ha rfl).trans e
  | .tup _, _, tp, ⟨xs, t, h, k⟩ => ⟨xs, tp _ _ t, Slots.map (f := f) k h, k⟩
theorem ChunkR.some {a : Addr} : ∀ {c : Chunk}, ChunkR K H0 H a c → ∃ o, H a = some o ∧ (c.fixd = false → NoTup o) ∧ ∀ lo hi, o ≠ .rng lo hi
  | .ins _ _, ⟨dx, vs, e, h⟩ => ⟨_, e, (fun _ _ z => by cases z), fun _ _ z => by cases z⟩
  | .lst _, ⟨xs, e, h, k⟩ => ⟨_, e, (fun _ _ z => by cases z), fun _ _ z => by cases z⟩
  | .dct _, e => ⟨_, e, (fun _ _ z => by cases z), fun _ _ z => by cases z⟩
  | .met _ _, e => ⟨_, e, (fun _ _ z => by cases z), fun _ _ z => by cases z⟩
  | .tup _, ⟨xs, ⟨o, n, e⟩, h, k⟩ => ⟨_, e, (fun z => by cases z), fun _ _ z => by cases z⟩
/-- a tuple is another object than one that is written -/
theorem ChunkR.apart {a b : Addr} {c : Chunk} {cs : List Cell} (h : ChunkR K H0 H a c) (hc : c.fixd = false) (k : ChunkR K H0 H b (.tup cs)) : b ≠ a := fun z => by
  obtain ⟨o, ho, nt, _⟩ := h.some
  obtain ⟨xs, ⟨o', _, e⟩, _⟩ := k
  rw [z, ho] at e
  exact nt hc (o', xs) (Option.some.inj e)
theorem dom_cons {a : Addr} {c : Chunk} {hs : Hs} (h : c.fixd = false) : dom ((a, c) :: hs) = a :: dom hs := by
  cases c <;> first | rfl | (cases h; done)
theorem dom_tup {a : Addr} {c : Chunk} {hs : Hs} (h : c.fixd = true) : dom ((a, c) :: hs) = dom hs := by
  cases c <;> first | rfl | (cases h; done)
theorem mem_dom_of : ∀ {hs : Hs} {p : Addr × Chunk}, p ∈ hs → p.2.fixd = false → p.1 ∈ dom hs
  | q :: hs, p, h, hf => by
    obtain ⟨b, d⟩ := q
    rcases List.mem_cons.mp h with rfl | h
    · rw [dom_cons hf]
      exact List.mem_cons_self
    · have := mem_dom_of h hf
      cases hd : d.fixd with
      | true =>
        rw [dom_tup hd]
        exact this
      | false =>
        rw [dom_cons hd]
        exact List.mem_cons_of_mem _ this
theorem dom_mem : ∀ {hs : Hs} {a : Addr}, a ∈ dom hs → ∃ c, (a, c) ∈ hs ∧ c.fixd = false
  | (b, d) :: hs, a, h => by
    cases hd : d.fixd with
    | true =>
      rw [dom_tup hd] at h
      obtain ⟨c, hc, hf⟩ := dom_mem h
      exact ⟨c, List.mem_cons_of_mem _ hc, hf⟩
    | false =>
      rw [dom_cons hd] at h
      rcases List.mem_cons.mp h with rfl | h
      · exact ⟨d, List.mem_cons_self, hd⟩
      · obtain ⟨c, hc, hf⟩ := dom_mem h
        exact ⟨c, List.mem_cons_of_mem _ hc, hf⟩
  | [], _, h => by cases h
theorem dom_sub : ∀ {hs hs' : Hs}, hs'.Sublist hs → (dom hs').Sublist (dom hs)
  | _, _, .slnil => List.Sublist.refl _
  | (b, d) :: hs, hs', .cons _ h => by
    have := dom_sub h
    cases hd : d.fixd with
    | true =>
      rw [dom_tup hd]
      exact this
    | false =>
      rw [dom_cons hd]
      exact this.cons _
  | (b, d) :: hs, _, .cons₂ _ h => by
    have := dom_sub h
    cases hd : d.fixd with
    | true =>
      rw [dom_tup hd, dom_tup hd]
      exact this
    | false =>
      rw [dom_cons hd, dom_cons hd]
      exact this.cons₂ _
theorem dom_filter : ∀ hs : Hs, dom hs = (hs.filter fun p => !p.2.fixd).map (·.1)
  | [] => rfl
  | (b, d) :: hs => by
    cases hd : d.fixd with
    | true =>
      rw [dom_tup hd, dom_filter hs, List.filter_cons_of_neg (by rw [hd]; decide)]
    | false =>
      rw [dom_cons hd, dom_filter hs, List.filter_cons_of_pos (by rw [hd]; rfl)]
      rfl
theorem dom_perm {hs hs' : Hs} (h : hs.Perm hs') : (dom hs).Perm (dom hs') := by
  rw [dom_filter, dom_filter]
  exact (h.filter _).map _
/-- a place of an object -/
theorem dom_inj : ∀ {hs : Hs} {i j : Nat} {a : Addr} {c d : Chunk}, (dom hs).Nodup → hs[i]? = some (a, c) → hs[j]? = some (a, d) → c.fixd = false → d.fixd = false → i = j
  | [], _, _, _, _, _, _, hi, _, _, _ => by cases hi
  | (b, e) :: hs, 0, 0, _, _, _, _, _, _, _, _ => rfl
  | (b, e) :: hs, 0, j + 1, a, c, d, nd, hi, hj, hc, hd => by
    cases hi
    rw [dom_cons hc, List.nodup_cons] at nd
    exact absurd (mem_dom_of (List.mem_of_getElem? (by simpa using hj)) hd) nd.1
  | (b, e) :: hs, i + 1, 0, a, c, d, nd, hi, hj, hc, hd => by
    cases hj
    rw [dom_cons hd, List.nodup_cons] at nd
    exact absurd (mem_dom_of (List.mem_of_getElem? (by simpa using hi)) hc) nd.1
  | (b, e) :: hs, i + 1, j + 1, a, c, d, nd, hi, hj, hc, hd => by
    have nd2 : (dom hs).Nodup := nd.sublist (dom_sub (List.sublist_cons_self _ _))
    exact congrArg (· + 1) (dom_inj (hs := hs) nd2 (by simpa using hi) (by simpa using hj) hc hd)
theorem dom_set : ∀ {hs : Hs} {i : Nat} {a : Addr} {c d : Chunk}, hs[i]? = some (a, c) → c.fixd = false → d.fixd = false → dom (hs.set i (a, d)) = dom hs
  | (b, e) :: hs, 0, a, c, d, h, hc, hd => by
    cases h
    rw [List.set_cons_zero, dom_cons hd, dom_cons hc]
  | (b, e) :: hs, i + 1, a, c, d, h, hc, hd => by
    have := dom_set (hs := hs) (i := i) (by simpa using h) hc hd
    rw [List.set_cons_succ]
    cases he : e.fixd with
    | true => rw [dom_tup he, dom_tup he, this]
    | false => rw [dom_cons he, dom_cons he, this]
  | [], _, _, _, _, h, _, _ => by cases h
theorem HsR.up {hs : Hs} (h : HsR K H0 H hs) (s : Same H H') : HsR K H0 H' hs := by
  refine ⟨fun p hp => ?_, h.nd⟩
  obtain ⟨n, r⟩ := h.at_ p hp
  obtain ⟨o, e, _⟩ := r.some
  exact ⟨n, r.map (fun k z => z.tp (Tups.of s) k) ((s _ _ e).trans e.symm)⟩
theorem EnvM.up {e : List Cell × Hs} (h : EnvM K H0 H σ e) (s : Same H H') : EnvM K H0 H' σ e := ⟨h.ev.up s, h.hp.up s, h.sep⟩
instance : Ctx (List Cell × Hs) := ⟨EnvM, fun h s => EnvM.up h s⟩
theorem SlotR.tp' (t : Tups H H') : ∀ {o : Option V} {c : Cell}, okC c = true → SlotR K H0 H o c → SlotR K H0 H' o c := fun k h => h.tp t k
theorem mem_dom {hs : Hs} {i : Nat} {a : Addr} {c : Chunk} (h : hs[i]? = some (a, c)) (hf : c.fixd = false) : a ∈ dom hs := mem_dom_of (List.mem_of_getElem? h) hf
theorem HsR.get {hs : Hs} {i : Nat} {a : Addr} {c : Chunk} (h : HsR K H0 H hs) (hi : hs[i]? = some (a, c)) : (c.fixd = false → H0.h a = none) ∧ ChunkR K H0 H a c := h.at_ _ (List.mem_of_getElem? hi)
theorem FldR.get {f : Str} {c : Cell} : ∀ {vs : List (Str × V)} {fs : List (Str × Cell)}, FldR K H0 H vs fs → fs.lookup f = some c → ∃ v, vs.lookup f = some v ∧ okC c = true ∧ SlotR K H0 H (some v) c
  | [], [], _, h => by cases h
  | (g, v) :: vs, (g', d) :: fs, ⟨e, ⟨k, r⟩, t⟩, h => by
    subst e
    rw [List.lookup_cons] at h ⊢
    cases z : f == g with
    | true =>
      rw [z] at h
      cases h
      exact ⟨v, rfl, k, r⟩
    | false =>
      rw [z] at h
      exact FldR.get t h
  | [], _ :: _, h, _ => h.elim
  | _ :: _, [], h, _ => h.elim
theorem FldR.none {f : Str} : ∀ {vs : List (Str × V)} {fs : List (Str × Cell)}, FldR K H0 H vs fs → fs.lookup f = none → vs.lookup f = none
  | [], [], _, _ => rfl
  | (g, v) :: vs, (g', d) :: fs, ⟨e, ⟨k, r⟩, t⟩, h => by
    subst e
    rw [List.lookup_cons] at h ⊢
    cases z : f == g with
    | true =>
      rw [z] at h
      cases h
    | false =>
      rw [z] at h
      exact FldR.none t h
  | [], _ :: _, h, _ => h.elim
  | _ :: _, [], h, _ => h.elim
theorem FldR.len : ∀ {vs : List (Str × V)} {fs : List (Str × Cell)}, FldR K H0 H vs fs → vs.length = fs.length
  | [], [], _ => rfl
  | (_, _) :: _, (_, _) :: _, ⟨_, _, t⟩ => by simp [FldR.len t]
  | [], _ :: _, h => h.elim
  | _ :: _, [], h => h.elim
/-- a field is written -/
def putC (f : Str) (c : Cell) : List (Str × Cell) → List (Str × Cell)
  | [] => [(f, c)]
  | (g, d) :: r => if g = f then (g, c) :: r else (g, d) :: putC f c r
theorem FldR.put {f : Str} {v : V} {c : Cell} (k : okC c = true) (r : SlotR K H0 H (some v) c) : ∀ {vs : List (Str × V)} {fs : List (Str × Cell)}, FldR K H0 H vs fs → FldR K H0 H (putF f v vs) (putC f c fs)
  | [], [], _ => ⟨rfl, ⟨k, r⟩, trivial⟩
  | (g, w) :: vs, (g', d) :: fs, ⟨e, ⟨k', r'⟩, t⟩ => by
    subst e
    unfold putF putC
    by_cases z : g = f
    · rw [if_pos z, if_pos z]
      exact ⟨rfl, ⟨k, r⟩, t⟩
    · rw [if_neg z, if_neg z]
      exact ⟨rfl, ⟨k', r'⟩, FldR.put k r t⟩
  | [], _ :: _, h => h.elim
  | _ :: _, [], h => h.elim
end
section
variable {K : PySem.W.Frag} {H0 G : Bs} {H H' : Hp} {σ : L2.St} {e : List Cell × Hs} {ta tb : TE}
theorem DE.lift {t : TE} {l : List Cell} {hs : Hs} {c : Cell} (h : DE K t l c) : DE K t (l, hs) c := fun H0 H σ Q R q => h H0 H σ Q (EnvM.ev R) q
/-- a field of an object -/
theorem DE.getF {a C : Addr} {fs : List (Str × Cell)} {f : Str} {c : Cell} {i : Nat} (ha : DE K ta e (.raw (.ref a))) (hi : e.2[i]? = some (a, .ins C fs)) (hc : Cls K C) (hn : NoAttr K C f) (hf : fs.lookup f = some c) : DE K (tFld K ta f) e c := fun H0 H σ Q R q => ha H0 H σ _ R fun x H1 s1 r => by
  have R1 : EnvM K H0 H1 σ e := EnvM.up R s1
  cases r
  obtain ⟨n, dx, vs, ea, hF⟩ := R1.hp.get hi
  obtain ⟨v, ev, k, rv⟩ := hF.get hf
  have rv2 := rv.val (R1.ev.bs.trans R1.ev.sm) k
  exact ⟨a, C, dx, vs, v, rfl, ea, hc, hn, ev, q _ _ s1 (rv2.low s1)⟩
/-- an entry of a list, its length -/
theorem DE.getL {a : Addr} {cs : List Cell} {i : Nat} {k : Int} {j : Nat} {c : Cell} (ha : DE K ta e (.raw (.ref a))) (hb : DE K tb e (.dat (.int k))) (hi : e.2[i]? = some (a, .lst cs)) (hj : ixN cs.length k = some j) (hc : cs[j]? = some c) : DE K (tOp (rIxL K) ta tb) e c := fun H0 H σ Q R q => ha H0 H σ _ R fun x H1 s1 r => hb H0 H1 σ _ (Ctx.R.up R s1) fun y H2 s2 r2 => by
  have R2 : EnvM K H0 H2 σ e := EnvM.up R (s1.trans s2)
  cases r
  cases int_of r2
  obtain ⟨n, xs, ea, hS, ok⟩ := R2.hp.get hi
  obtain ⟨o, eo, rv⟩ := hS.get hc
  have kc := List.all_eq_true.mp ok c (List.mem_of_getElem? hc)
  rw [List.getElem?_map] at eo
  cases z : xs[j]? with
  | none =>
    rw [z] at eo
    cases eo
  | some v =>
    rw [z] at eo
    obtain rfl := Option.some.inj eo
    have ln := hS.len
    rw [List.length_map] at ln
    refine ⟨a, xs, k, v, rfl, rfl, SqL.of ea, ?_, ?_⟩
    · unfold L2.atI
      rw [ln, hj]
      exact z
    · exact q _ _ (s1.trans s2) ((rv.val (R2.ev.bs.trans R2.ev.sm) kc).low (s1.trans s2))
theorem DE.lenC {a : Addr} {cs : List Cell} {i : Nat} (ha : DE K ta e (.raw (.ref a))) (hi : e.2[i]? = some (a, .lst cs)) : DE K (tCB (rLen K) (tCons ta tNil)) e (.dat (.int cs.length)) := fun H0 H σ Q R q => ha H0 H σ _ R fun x H1 s1 r => by
  have R1 : EnvM K H0 H1 σ e := EnvM.up R s1
  cases r
  obtain ⟨n, xs, ea, hS, ok⟩ := R1.hp.get hi
  have ln := hS.len
  rw [List.length_map] at ln
  refine ⟨a, xs, rfl, .inl (SqL.of ea), ?_⟩
  rw [ln]
  exact q _ _ s1 (.int _)
end
inductive OutM
  | ret (c : Cell) (hs : Hs)
  | next (e : List Cell × Hs)
  | brk (e : List Cell × Hs)
  | cont (e : List Cell × Hs)
  | exc (C : Addr) (hs : Hs)
def OutMK (K : PySem.W.Frag) (D : Ends) (E : XK) (H0 : Bs) : OutM → Prop
  | .ret c hs => ∀ v H', Same H0.h H' → HsR K H0 H' hs → ValR K H0.h H' v c → D.rt v H'
  | .next e => ∀ σ H', EnvM K H0 H' σ e → D.nx σ H'
  | .brk e => ∀ σ H', EnvM K H0 H' σ e → D.bk σ H'
  | .cont e => ∀ σ H', EnvM K H0 H' σ e → D.ct σ H'
  | .exc C hs => ∀ H', Same H0.h H' → HsR K H0 H' hs → E (.ref C) none H'
def DM (K : PySem.W.Frag) (E : XK) (t : TS) (e : List Cell × Hs) (P : OutM → Prop) : Prop := ∀ H0 H (σ : L2.St) (D : Ends), EnvM K H0 H σ e → (∀ o, P o → OutMK K D E H0 o) → t D σ H
def outM (hs : Hs) : Out → OutM
  | .ret c => .ret c hs
  | .next e => .next (e, hs)
  | .brk e => .brk (e, hs)
  | .cont e => .cont (e, hs)
  | .exc C => .exc C hs
def isRd : Cell → Bool
  | .rd _ => true
  | _ => false
def noRdO : Out → Bool
  | .ret _ => true
  | .next e => e.all fun c => !isRd c
  | .brk e => e.all fun c => !isRd c
  | .cont e => e.all fun c => !isRd c
  | .exc _ => true
def isNextM : OutM → Bool
  | .next _ => true
  | _ => false
section
variable {K : PySem.W.Frag} {E : XK} {e e1 : List Cell × Hs} {P P1 : OutM → Prop} {t u : TS} {tA : TT} {H0 G : Bs} {H H' : Hp} {σ : L2.St}
/-- the base that knows the objects, and the tuples of now -/
def fzM (H0 : Bs) (H : Hp) (hs : Hs) : Bs := ⟨H0.b, fun b => if b ∈ dom hs then H b else fz0 H0.h H b⟩
theorem fzM_base (R : EnvM K H0 H σ e) : Same H0.h (fzM H0 H e.2).h := fun b o h => by
  show (if b ∈ dom e.2 then H b else fz0 H0.h H b) = some o
  split
  · exact R.ev.sm b o h
  · exact fz_base R.ev.sm b o h
theorem fzM_same (R : EnvM K H0 H σ e) : Same (fzM H0 H e.2).h H := fun b o h => by
  have h : (if b ∈ dom e.2 then H b else fz0 H0.h H b) = some o := h
  split at h
  · exact h
  · exact fz_same R.ev.sm b o h
theorem fzM_env (R : EnvM K H0 H σ e) : EnvR K (fzM H0 H e.2) H σ e.1 := R.ev.rebase rfl (fzM_base R) (fzM_same R) fun i c a h1 h2 h3 => by
  obtain ⟨n, xs, h⟩ := own_new R.ev h1 h2 h3
  have na := R.sep i c a h1 (by cases c <;> first | rfl | cases h2) h3
  show (if a ∈ dom e.2 then H a else fz0 H0.h H a) = none
  rw [if_neg na, fz_no (by rw [h]; rfl)]
  exact n
theorem fzM_tups (R : EnvM K H0 H σ e) (s : Same (fzM H0 H e.2).h H') : Tups H H' := fun b xs h => TupN.same (H := (fzM H0 H e.2).h) (by
  obtain ⟨o, n, w⟩ := fz_tup (H0 := H0.h) h
  obtain ⟨o', n', w'⟩ := h
  by_cases z : b ∈ dom e.2
  · refine ⟨o', n', ?_⟩
    show (if b ∈ dom e.2 then H b else fz0 H0.h H b) = _
    rw [if_pos z]
    exact w'
  · refine ⟨o, n, ?_⟩
    show (if b ∈ dom e.2 then H b else fz0 H0.h H b) = _
    rw [if_neg z]
    exact w) s
theorem fzM_hs (R : EnvM K H0 H σ e) (s : Same (fzM H0 H e.2).h H') : HsR K H0 H' e.2 := by
  refine ⟨fun p hp => ?_, R.hp.nd⟩
  obtain ⟨n, r⟩ := R.hp.at_ p hp
  obtain ⟨o, ho, _⟩ := r.some
  refine ⟨n, r.mapT (fun k z => z.tp (fzM_tups R s) k) (fun hf => ?_) (fzM_tups R s)⟩
  have hd : p.1 ∈ dom e.2 := mem_dom_of hp hf
  rw [ho]
  refine s _ _ ?_
  show (if p.1 ∈ dom e.2 then H p.1 else fz0 H0.h H p.1) = _
  rw [if_pos hd]
  exact ho
/-- what does not touch the objects -/
theorem DM.of {o : Out} (h : DS K E t e.1 o) (hr : noRdO o = true) (p : P (outM e.2 o)) : DM K E t e P := fun H0 H σ D R q => h (fzM H0 H e.2) H σ D (fzM_env R) (by
  have back : ∀ (l : List Cell) (σ' : L2.St) (H' : Hp), (l.all fun c => !isRd c) = true → EnvR K (fzM H0 H e.2) H' σ' l → EnvM K H0 H' σ' (l, e.2) := fun l σ' H' hl R' => by
    have hh : HsR K H0 H' e.2 := fzM_hs R R'.sm
    refine ⟨EnvR.ofBase (G := fzM H0 H e.2) rfl R.ev.bs (fzM_base R) R', hh, fun i c a h1 h2 h3 hd => ?_⟩
    have hc := List.all_eq_true.mp hl c (List.mem_of_getElem? h1)
    have ho : isOwn c = true := by
      cases c <;> first | rfl | (cases h2; done) | (cases hc; done)
    obtain ⟨n, xs, hx⟩ := own_new R' h1 ho h3
    obtain ⟨ch, hm, _⟩ := dom_mem hd
    obtain ⟨_, r⟩ := R.hp.at_ _ hm
    obtain ⟨o, ho, _⟩ := r.some
    have n : (if a ∈ dom e.2 then H a else fz0 H0.h H a) = none := n
    rw [if_pos hd, ho] at n
    cases n
  have p := q _ p
  cases o with
  | ret c => exact fun v H' s r => p v H' ((fzM_base R).trans s) (fzM_hs R s) (r.low (fzM_base R))
  | next l => exact fun σ' H' R' => p σ' H' (back l σ' H' hr R')
  | brk l => exact fun σ' H' R' => p σ' H' (back l σ' H' hr R')
  | cont l => exact fun σ' H' R' => p σ' H' (back l σ' H' hr R')
  | exc C => exact fun H' s => p H' ((fzM_base R).trans s) (fzM_hs R s))
theorem DM.mono (h : DM K E t e P1) (p : ∀ o, P1 o → P o) : DM K E t e P := fun H0 H σ D R q => h H0 H σ D R fun o z => q o (p o z)
theorem DM.seq (h : DM K E t e P1) (hn : ∀ e1, P1 (.next e1) → DM K E u e1 P) (hp : ∀ o, isNextM o = false → P1 o → P o) : DM K E (tSeq t u) e P := fun H0 H σ D R q => h H0 H σ _ R fun o z => by
  cases o with
  | next e1 => exact fun σ' H' R' => hn e1 z H0 H' σ' D R' q
  | ret c hs => exact q _ (hp _ rfl z)
  | brk e => exact q _ (hp _ rfl z)
  | cont e => exact q _ (hp _ rfl z)
  | exc C hs => exact q _ (hp _ rfl z)
/-- one statement that goes on, then the rest -/
theorem DM.then (h : DM K E t e (· = .next e1)) (h2 : DM K E u e1 P) : DM K E (tSeq t u) e P := DM.seq h (fun e z => by cases z; exact h2) fun o ho z => by
  subst z
  cases ho
theorem DM.nil (p : P (.next e)) : DM K E tNext e P := fun H0 H σ D R q => q _ p σ H R
theorem DM.if_ {b : Bool} (h : DB K tA e b) (h1 : b = true → DM K E t e P) (h2 : b = false → DM K E u e P) : DM K E (tIfS tA t u) e P := fun H0 H σ D R q => h H0 H σ _ R fun H' s => by
  cases b with
  | true => exact iteT (h1 rfl H0 H' σ D (EnvM.up R s) q)
  | false => exact iteF (h2 rfl H0 H' σ D (EnvM.up R s) q)
theorem DM.ret {te : TE} {c : Cell} (h : DE K te e c) (p : P (.ret c e.2)) : DM K E (tRet te) e P := fun H0 H σ D R q => h H0 H σ _ R fun v H' s r => by
  have R : EnvM K H0 H σ e := R
  exact q _ p v H' (R.ev.sm.trans s) (R.hp.up s) (r.low R.ev.sm)
theorem DM.retN (p : P (.ret (.dat .none) e.2)) : DM K E tRetN e P := fun H0 H σ D R q => q _ p _ H R.ev.sm R.hp .non
theorem DM.brk (p : P (.brk e)) : DM K E tBreak e P := fun H0 H σ D R q => q _ p σ H R
theorem DM.cont (p : P (.cont e)) : DM K E tCont e P := fun H0 H σ D R q => q _ p σ H R
theorem DM.drop {te : TE} {c : Cell} (h : DE K te e c) (p : P (.next e)) : DM K E (tDrop te) e P := fun H0 H σ D R q => h H0 H σ _ R fun v H' s r => q _ p σ H' (EnvM.up R s)
/-- a name gets a value -/
theorem DM.set {te : TE} {c : Cell} {i : Nat} (h : DE K te e c) (hs : okV c = true) (p : P (.next (e.1.set i c, e.2))) : DM K E (tAsg te (gName i)) e P := fun H0 H σ D R q => h H0 H σ _ R fun v H' s r => by
  have R : EnvM K H0 H σ e := R
  refine q _ p _ H' ⟨R.ev.put s (by cases c <;> first | rfl | cases hs) r, R.hp.up s, fun j d a h1 h2 h3 => ?_⟩
  rcases get_set h1 with ⟨rfl, rfl⟩ | ⟨nj, ej⟩
  · cases d <;> first | (cases hs; done) | (cases h2; done)
  · rw [List.getElem?_set_ne nj] at h3
    exact R.sep j d a ej h2 h3
/-- an object is written -/
theorem Slots.out {a : Addr} (tp : Tups H H') (g : ∀ b, b ≠ a → H' b = H b) (nr : ∀ lo hi, H a ≠ some (.rng lo hi)) : ∀ {σ : L2.St} {l : List Cell}, (∀ (i : Nat) (c : Cell) (b : Addr), l[i]? = some c → isLst c = true → σ[i]? = some (some (V.ref b)) → b ≠ a) → Slots K H0 H σ l → Slots K H0 H' σ l
  | [], [], _, h => h
  | o :: σ, c :: l, sp, ⟨h, t⟩ => by
    refine ⟨?_, Slots.out tp g nr (fun i c b h1 h2 h3 => sp (i + 1) c b (by simpa using h1) h2 (by simpa using h3)) t⟩
    cases c with
    | un => exact trivial
    | raw v => exact h
    | dat d =>
      obtain ⟨v, ev, tv⟩ := h
      exact ⟨v, ev, tv.up tp⟩
    | cst d => exact h
    | rd ds =>
      obtain ⟨b, xs, ev, hb, tx⟩ := h
      have nb := sp 0 (.rd ds) b rfl rfl (by rw [ev]; rfl)
      exact ⟨b, xs, ev, (g b nb).trans hb, tx.up tp⟩
    | own ds =>
      obtain ⟨b, xs, ev, n, hb, tx⟩ := h
      have nb := sp 0 (.own ds) b rfl rfl (by rw [ev]; rfl)
      exact ⟨b, xs, ev, n, (g b nb).trans hb, tx.up tp⟩
    | rng lo hi =>
      obtain ⟨b, ev, hb⟩ := h
      have nb : b ≠ a := fun z => nr lo hi (by rw [← z]; exact hb)
      exact ⟨b, ev, (g b nb).trans hb⟩
    | fix k => exact h
  | [], _ :: _, _, h => h
  | _ :: _, [], _, h => h
theorem EnvM.wr {i : Nat} {a : Addr} {ch ch' : Chunk} {o' : HO} (R : EnvM K H0 H σ e) (hi : e.2[i]? = some (a, ch)) (hc : ChunkR K H0 (upd H a o') a ch') (hx : ch.fixd = false := by rfl) (hy : ch'.fixd = false := by rfl) : EnvM K H0 (upd H a o') σ (e.1, e.2.set i (a, ch')) := by
  obtain ⟨n0, r⟩ := R.hp.get hi
  have n := n0 hx
  obtain ⟨o, eo, nt0, nr⟩ := r.some
  have nt := nt0 hx
  have tp : Tups H (upd H a o') := Tups.wr eo nt
  have g : ∀ b, b ≠ a → upd H a o' b = H b := fun b nb => upd_ne nb
  have sp : ∀ (i : Nat) (c : Cell) (b : Addr), e.1[i]? = some c → isLst c = true → σ[i]? = some (some (V.ref b)) → b ≠ a := fun i c b h1 h2 h3 z => R.sep i c b h1 h2 h3 (by rw [z]; exact mem_dom hi hx)
  refine ⟨⟨R.ev.bs, fun b u h => ?_, Slots.out tp g (fun lo hi z => nr lo hi (by rw [eo] at z; exact Option.some.inj z)) sp R.ev.sl, R.ev.ap⟩, ⟨fun p hp => ?_, ?_⟩, fun j c b h1 h2 h3 => ?_⟩
  · rw [upd_ne (ne_of_none h n)]
    exact R.ev.sm b u h
  · obtain ⟨j, hj⟩ := List.getElem?_of_mem hp
    rcases get_set hj with ⟨_, rfl⟩ | ⟨nj, ej⟩
    · exact ⟨fun _ => n, hc⟩
    · obtain ⟨n2, r2⟩ := R.hp.get (a := p.1) (c := p.2) ej
      have np : p.1 ≠ a := fun z => by
        cases hf : p.2.fixd with
        | true =>
          obtain ⟨b, d⟩ := p
          cases d with
          | tup cs => exact r.apart hx r2 z
          | ins _ _ => cases hf
          | lst _ => cases hf
          | dct _ => cases hf
          | met _ _ => cases hf
        | false => exact nj (dom_inj R.hp.nd hi (by rw [ej, ← z]) hx hf)
      exact ⟨n2, r2.map (fun k z => z.tp tp k) (g _ np)⟩
  · show (dom (e.2.set i (a, ch'))).Nodup
    rw [dom_set hi hx hy]
    exact R.hp.nd
  · show b ∉ dom (e.2.set i (a, ch'))
    rw [dom_set hi hx hy]
    exact R.sep j c b h1 h2 h3
/-- a field is written -/
theorem DM.setF {ta te : TE} {a C : Addr} {fs : List (Str × Cell)} {f : Str} {c : Cell} {i : Nat} (h : DE K te e c) (hc : okV c = true) (ha : DE K ta e (.raw (.ref a))) (hi : e.2[i]? = some (a, .ins C fs)) (cl : Cls K C) (hn : NoAttr K C f) (hl : fs.length < 1000)
    (p : P (.next (e.1, e.2.set i (a, .ins C (putC f c fs))))) : DM K E (sFld K ta te f) e P := fun H0 H σ D R q => h H0 H σ _ R fun v H1 s1 r1 => ha H0 H1 σ _ (Ctx.R.up R s1) fun x H2 s2 r2 => by
  have R2 : EnvM K H0 H2 σ e := EnvM.up R (s1.trans s2)
  cases r2
  obtain ⟨n, dx, vs, ea, hF⟩ := R2.hp.get hi
  refine ⟨a, C, dx, vs, rfl, ea, cl, hn, by rw [hF.len]; exact hl, ?_⟩
  have tp : Tups H2 (upd H2 a (.ins C dx (putF f v vs))) := Tups.wr ea fun _ z => by cases z
  refine q _ p σ _ (R2.wr hi ⟨dx, _, upd_same, FldR.put (okC_of hc) ((SlotR.ofV hc (r1.up s2)).tp tp (okC_of hc)) (FldR.map (f := fun k z => z.tp tp k) hF)⟩)
/-- .. by what a name holds -/
theorem DM.setFv {ta : TE} {a C : Addr} {fs : List (Str × Cell)} {f : Str} {c : Cell} {i j : Nat} (hj : e.1[j]? = some c) (hc : okC c = true) (hu : seen c = true) (ha : DE K ta e (.raw (.ref a))) (hi : e.2[i]? = some (a, .ins C fs)) (cl : Cls K C) (hn : NoAttr K C f) (hl : fs.length < 1000)
    (p : P (.next (e.1, e.2.set i (a, .ins C (putC f c fs))))) : DM K E (sFld K ta (tVar j) f) e P := fun H0 H σ D R q => by
  have R : EnvM K H0 H σ e := R
  obtain ⟨o, eo, r⟩ := R.ev.sl.get hj
  have hv : ∃ v, o = some v := by
    cases c with
    | un => cases hu
    | raw v => exact ⟨v, r⟩
    | dat d => exact ⟨_, r.choose_spec.1⟩
    | cst d => exact ⟨_, r.choose_spec.1⟩
    | fix k => exact ⟨_, r.choose_spec.1⟩
    | rd _ => cases hc
    | own _ => cases hc
    | rng _ _ => cases hc
  obtain ⟨v, rfl⟩ := hv
  refine ⟨v, eo, ha H0 H σ _ R fun x H2 s2 r2 => ?_⟩
  have R2 : EnvM K H0 H2 σ e := EnvM.up R s2
  cases r2
  obtain ⟨n, dx, vs, ea, hF⟩ := R2.hp.get hi
  refine ⟨a, C, dx, vs, rfl, ea, cl, hn, by rw [hF.len]; exact hl, ?_⟩
  have tp : Tups H2 (upd H2 a (.ins C dx (putF f v vs))) := Tups.wr ea fun _ z => by cases z
  exact q _ p σ _ (R2.wr hi ⟨dx, _, upd_same, FldR.put hc ((r.tp (Tups.of s2) hc).tp tp hc) (FldR.map (f := fun k z => z.tp tp k) hF)⟩)
theorem Slots.app : ∀ {σ τ : L2.St} {l m : List Cell}, Slots K H0 H σ l → Slots K H0 H τ m → Slots K H0 H (σ ++ τ) (l ++ m)
  | [], _, [], _, _, k => k
  | _ :: _, _, _ :: _, _, ⟨h, t⟩, k => ⟨h, Slots.app t k⟩
  | [], _, _ :: _, _, h, _ => h.elim
  | _ :: _, _, [], _, h, _ => h.elim
/-- xs.append(x) of a list that is held apart -/
theorem DM.appC {tl ta : TE} {a : Addr} {cs : List Cell} {c : Cell} {i : Nat} (hl : DE K tl e (.raw (.ref a))) (h : DE K ta e c) (hc : okV c = true) (hi : e.2[i]? = some (a, .lst cs)) (hn : cs.length < sizeLine) (p : P (.next (e.1, e.2.set i (a, .lst (cs ++ [c]))))) :
    DM K E (tDrop (tBM K "list" rAppend tl (tCons ta tNil))) e P := fun H0 H σ D R q => hl H0 H σ _ R fun x H1 s1 r1 => by
  have R1 : EnvM K H0 H1 σ e := EnvM.up R s1
  cases r1
  obtain ⟨_, xs, ea, _⟩ := R1.hp.get hi
  refine ⟨.inl ⟨rfl, _, SqL.of ea⟩, h H0 H1 σ _ R1 fun y H2 s2 r2 => ?_⟩
  have R2 : EnvM K H0 H2 σ e := EnvM.up R1 s2
  obtain ⟨n, xs, ea, hS, ok⟩ := R2.hp.get hi
  have ln := hS.len
  rw [List.length_map] at ln
  have tp : Tups H2 (upd H2 a (.lst (xs ++ [y]))) := Tups.wr ea fun _ => lst_tup
  refine ⟨a, xs, y, rfl, rfl, ea, by rw [ln]; exact hn, q _ p σ _ (R2.wr hi ⟨_, upd_same, ?_, ?_⟩)⟩
  · rw [List.map_append]
    exact (Slots.map (f := fun k z => z.tp tp k) ok hS).app ⟨(SlotR.ofV hc r2).tp tp (okC_of hc), trivial⟩
  · rw [List.all_append, ok]
    show (okC c && true) = true
    rw [okC_of hc]
    rfl
/-- the heap without the objects -/
def cutH (H : Hp) (hs : Hs) : Hp := fun b => if b ∈ dom hs then none else H b
theorem cut_same (hs : Hs) : Same (cutH H hs) H := fun b o h => by
  unfold cutH at h
  split at h
  · cases h
  · exact h
/-- pre: of the arguments and the objects; post: .. and of what is given and the objects then; exc: .. of what is raised -/
def spM (K : PySem.W.Frag) (pre : List Cell → Hs → Prop) (post : List Cell → Hs → Cell → Hs → Prop) (exc : List Cell → Hs → Addr → Hs → Prop) : Sp := fun vs H Q Ex => ∃ (B : Hp) (cs : List Cell) (hs : Hs), pre cs hs ∧ cs.all okC = true ∧ Same B (cutH H hs) ∧
  Slots K ⟨B, cutH H hs⟩ H (vs.map some) cs ∧ HsR K ⟨B, cutH H hs⟩ H hs ∧
  (∀ c hs' v H', post cs hs c hs' → okV c = true → Same (cutH H hs) H' → HsR K ⟨B, cutH H hs⟩ H' hs' → ValR K H' H' v c → Q v H') ∧
  (∀ C hs' H', exc cs hs C hs' → Same (cutH H hs) H' → HsR K ⟨B, cutH H hs⟩ H' hs' → Ex (.ref C) none H')
def EndsM (post : Cell → Hs → Prop) (exc : Addr → Hs → Prop) : OutM → Prop
  | .ret c hs => okV c = true ∧ post c hs
  | .next e => post (.dat .none) e.2
  | .exc C hs => exc C hs
  | _ => False
theorem Slots.un_app : ∀ {σ : L2.St} {l : List Cell} (n : Nat), Slots K H0 H σ l → Slots K H0 H (σ ++ List.replicate n none) (l ++ List.replicate n .un)
  | [], [], 0, _ => trivial
  | [], [], n + 1, _ => ⟨trivial, Slots.un_app (σ := []) (l := []) n trivial⟩
  | _ :: _, _ :: _, n, ⟨h, t⟩ => ⟨h, Slots.un_app n t⟩
  | [], _ :: _, _, h => h.elim
  | _ :: _, [], _, h => h.elim
theorem okC_noOwn {c : Cell} (h : okC c = true) : isLst c = false := by
  cases c <;> first | rfl | (cases h; done)
theorem DM.run {N : List Str} {vs : List V} {cs : List Cell} {hs : Hs} {B : Hp} {Q : VK} {post : Cell → Hs → Prop} {exc : Addr → Hs → Prop} (h : DM K E t (cs ++ List.replicate (N.length - vs.length) .un, hs) (EndsM post exc)) (ok : cs.all okC = true) (sB : Same B (cutH H hs)) (hS : Slots K ⟨B, cutH H hs⟩ H (vs.map some) cs) (hp : HsR K ⟨B, cutH H hs⟩ H hs)
    (q : ∀ c hs' v H', post c hs' → okV c = true → Same (cutH H hs) H' → HsR K ⟨B, cutH H hs⟩ H' hs' → ValR K H' H' v c → Q v H') (qx : ∀ C hs' H', exc C hs' → Same (cutH H hs) H' → HsR K ⟨B, cutH H hs⟩ H' hs' → E (.ref C) none H') : t { nx := fun _ H' => Q .non H', rt := Q } (start N vs) H := by
  have nl : ∀ (i : Nat) (c : Cell), (cs ++ List.replicate (N.length - vs.length) .un)[i]? = some c → isLst c = false := fun i c hi => by
    rcases List.mem_append.mp (List.mem_of_getElem? hi) with z | z
    · exact okC_noOwn (List.all_eq_true.mp ok c z)
    · rw [List.mem_replicate] at z
      rw [z.2]
      rfl
  refine h ⟨B, cutH H hs⟩ H _ _ ⟨⟨sB, cut_same hs, Slots.un_app _ hS, fun i j a c d h1 h2 h3 h4 => ?_⟩, hp, fun i c a h1 h2 => ?_⟩ fun o z => ?_
  · rw [nl j d h3] at h4
    cases h4
  · rw [nl i c h1] at h2
    cases h2
  · cases o with
    | ret c hs' => exact fun v H' s r w => q c hs' v H' z.2 z.1 s r (by
        cases c with
        | un => trivial
        | raw _ => exact w
        | dat _ => exact w
        | cst _ => exact w
        | fix _ => cases z.1
        | rd _ => cases z.1
        | own _ => cases z.1
        | rng _ _ => cases z.1)
    | next e => exact fun σ H' R => q _ _ _ _ z rfl R.ev.sm R.hp .non
    | exc C hs' => exact fun H' s r => qx C hs' H' z s r
    | brk e => exact z.elim
    | cont e => exact z.elim
/-- arguments that keep their base -/
def DAs (K : PySem.W.Frag) (t : TA) (e : List Cell × Hs) (cs : List Cell) : Prop := cs.all okC = true ∧ ∀ H0 H (σ : L2.St) (Q : List V → Hp → Prop), EnvM K H0 H σ e → (∀ vs H', Same H H' → Slots K H0 H' (vs.map some) cs → Q vs H') → t σ H Q
theorem DAs.nil : DAs K tNil e [] := ⟨rfl, fun H0 H σ Q R q => q [] H (Same.refl H) trivial⟩
theorem DAs.cons {ta : TE} {tr : TA} {c : Cell} {cs : List Cell} (h : DE K ta e c) (hc : okV c = true) (hr : DAs K tr e cs) : DAs K (tCons ta tr) e (c :: cs) := ⟨by rw [List.all_cons, okC_of hc, hr.1]; rfl, fun H0 H σ Q R q => h H0 H σ _ R fun x H1 s1 r => hr.2 H0 H1 σ _ (EnvM.up R s1) fun xs H2 s2 rr => q (x :: xs) H2 (s1.trans s2) ⟨(SlotR.ofV hc (r.up s2)), rr⟩⟩
theorem DAs.consV {i : Nat} {tr : TA} {c : Cell} {cs : List Cell} (h : e.1[i]? = some c) (hc : okC c = true) (hu : seen c = true) (hr : DAs K tr e cs) : DAs K (tCons (tVar i) tr) e (c :: cs) := ⟨by rw [List.all_cons, hc, hr.1]; rfl, fun H0 H σ Q R q => by
  obtain ⟨o, eo, r⟩ := R.ev.sl.get h
  have hv : ∃ v, o = some v := by
    cases c with
    | un => cases hu
    | raw v => exact ⟨v, r⟩
    | dat d => exact ⟨_, r.choose_spec.1⟩
    | cst d => exact ⟨_, r.choose_spec.1⟩
    | fix k => exact ⟨_, r.choose_spec.1⟩
    | rd _ => cases hc
    | own _ => cases hc
    | rng _ _ => cases hc
  obtain ⟨v, rfl⟩ := hv
  exact ⟨v, eo, hr.2 H0 H σ _ R fun xs H2 s2 rr => q (v :: xs) H2 s2 ⟨r.tp (Tups.of s2) hc, rr⟩⟩⟩
theorem base_cut (R : EnvM K H0 H σ e) : Same H0.b (cutH H e.2) := fun b o h => by
  unfold cutH
  rw [if_neg fun z => by
    obtain ⟨c, hm, hfx⟩ := dom_mem z
    have n := (R.hp.at_ _ hm).1 hfx
    have h2 := R.ev.bs _ _ h
    rw [n] at h2
    cases h2]
  exact R.ev.sm _ _ (R.ev.bs _ _ h)
theorem base_cut' (R : EnvM K H0 H σ e) : Same H0.h (cutH H e.2) := fun b o h => by
  unfold cutH
  rw [if_neg fun z => by
    obtain ⟨c, hm, hfx⟩ := dom_mem z
    have n := (R.hp.at_ _ hm).1 hfx
    rw [n] at h
    cases h]
  exact R.ev.sm _ _ h
/-- the objects, by the callee's base and by ours -/
theorem HsR.into (R : EnvM K H0 H σ e) : HsR K ⟨H0.b, cutH H e.2⟩ H e.2 := ⟨fun p hp => by
  refine ⟨fun hf => ?_, (R.hp.at_ p hp).2.map (fun k z => SlotR.bs (G := ⟨H0.b, cutH H e.2⟩) (Same.refl H0.b) k z) rfl⟩
  show (if p.1 ∈ dom e.2 then none else H p.1) = none
  rw [if_pos (mem_dom_of hp hf)], R.hp.nd⟩
theorem HsR.back (R : EnvM K H0 H σ e) {hs' : Hs} (h : HsR K ⟨H0.b, cutH H e.2⟩ H' hs') : HsR K H0 H' hs' := ⟨fun p hp => by
  obtain ⟨n, r⟩ := h.at_ p hp
  exact ⟨fun hf => (base_cut' R).free (n hf), r.map (fun k z => SlotR.bs (H0 := ⟨H0.b, cutH H e.2⟩) (G := H0) (Same.refl H0.b) k z) rfl⟩, h.nd⟩
theorem cut_tups (R : EnvM K H0 H σ e) (s : Same (cutH H e.2) H') : Tups H H' := fun b xs h => by
  obtain ⟨q, nq, w⟩ := h
  refine ⟨q, nq, s _ _ ?_⟩
  unfold cutH
  rw [if_neg fun z => by
    obtain ⟨c, hm, hfx⟩ := dom_mem z
    obtain ⟨o, ho, nt, _⟩ := (R.hp.at_ _ hm).2.some
    rw [w] at ho
    exact nt hfx (q, xs) (Option.some.inj ho).symm]
  exact w
/-- our names behind the call -/
theorem EnvM.called (R : EnvM K H0 H σ e) (s : Same (cutH H e.2) H') {hs' : Hs} (h : HsR K ⟨H0.b, cutH H e.2⟩ H' hs') : EnvM K H0 H' σ (e.1, hs') := by
  have tp := cut_tups R s
  have kp : ∀ b o, H b = some o → b ∉ dom e.2 → H' b = some o := fun b o hb nb => s _ _ (by
    unfold cutH
    rw [if_neg nb]
    exact hb)
  refine ⟨⟨R.ev.bs, (base_cut' R).trans s, ?_, R.ev.ap⟩, h.back R, fun i c a h1 h2 h3 hd => ?_⟩
  · have key : ∀ (σ : L2.St) (l : List Cell), (∀ (i : Nat) (c : Cell) (b : Addr), l[i]? = some c → isLst c = true → σ[i]? = some (some (V.ref b)) → b ∉ dom e.2) → Slots K H0 H σ l → Slots K H0 H' σ l := by
      intro σ
      induction σ with
      | nil => intro l _ h; cases l <;> exact h
      | cons o σ ih =>
        intro l sp h
        cases l with
        | nil => exact h
        | cons c l =>
          refine ⟨?_, ih l (fun i c b h1 h2 h3 => sp (i + 1) c b (by simpa using h1) h2 (by simpa using h3)) h.2⟩
          have h1 := h.1
          cases c with
          | un => exact trivial
          | raw v => exact h1
          | dat d =>
            obtain ⟨v, ev, tv⟩ := h1
            exact ⟨v, ev, tv.up tp⟩
          | cst d => exact h1
          | rd ds =>
            obtain ⟨b, xs, ev, hb, tx⟩ := h1
            exact ⟨b, xs, ev, kp _ _ hb (sp 0 (.rd ds) b rfl rfl (by rw [ev]; rfl)), tx.up tp⟩
          | own ds =>
            obtain ⟨b, xs, ev, n, hb, tx⟩ := h1
            exact ⟨b, xs, ev, n, kp _ _ hb (sp 0 (.own ds) b rfl rfl (by rw [ev]; rfl)), tx.up tp⟩
          | rng lo hi =>
            obtain ⟨b, ev, hb⟩ := h1
            refine ⟨b, ev, kp _ _ hb fun z => ?_⟩
            obtain ⟨c, hm, hfx⟩ := dom_mem z
            obtain ⟨o, ho, _, nr⟩ := (R.hp.at_ _ hm).2.some
            rw [hb] at ho
            exact nr lo hi (Option.some.inj ho).symm
          | fix k => exact h1
    exact key σ e.1 R.sep R.ev.sl
  · have na := R.sep i c a h1 h2 h3
    obtain ⟨xs, hx⟩ := slot_lst R.ev h1 h2 h3
    obtain ⟨ch, hm, hfx⟩ := dom_mem hd
    have n := (h.at_ _ hm).1 hfx
    have n : (if a ∈ dom e.2 then none else H a) = none := n
    rw [if_neg na, hx] at n
    cases n
/-- x = f(..), what f gives is known by its promise alone -/
theorem DM.callSet {i : Nat} {tr : TA} {cs : List Cell} {E' : XK} {pre : List Cell → Hs → Prop} {post : List Cell → Hs → Cell → Hs → Prop} (h : DAs K tr e cs) (hp : pre cs e.2) (p : ∀ c hs', post cs e.2 c hs' → okV c = true → P (.next (e.1.set i c, hs'))) :
    DM K E (tAsg (tCall (spM K pre post fun _ _ _ _ => False) [] E' tr) (gName i)) e P := fun H0 H σ D R q => h.2 H0 H σ _ R fun vs H1 s1 rr => by
  have R1 := EnvM.up R s1
  rw [List.append_nil]
  refine ⟨H0.b, cs, e.2, hp, h.1, base_cut R1, Slots.map (f := fun k z => SlotR.bs (G := ⟨H0.b, cutH H1 e.2⟩) (Same.refl H0.b) k z) h.1 rr, HsR.into R1, fun c hs' v H' hc ok s r rv => ?_, fun C hs' H' z => z.elim⟩
  have R2 := R1.called s r
  refine q _ (p c hs' hc ok) _ _ ⟨R2.ev.put (Same.refl H') (by cases c <;> first | rfl | (cases ok; done)) rv, R2.hp, fun j d a h1 h2 h3 => ?_⟩
  rcases get_set h1 with ⟨rfl, rfl⟩ | ⟨nj, ej⟩
  · cases d <;> first | (cases ok; done) | (cases h2; done)
  · rw [List.getElem?_set_ne nj] at h3
    exact R2.sep j d a ej h2 h3
end
end Esp
set_option autoImplicit false
set_option maxRecDepth 100000
set_option maxHeartbeats 4000000
namespace Esp
open PySem PySem.Spec PyProof.Rows L2
/-- an expression that works on objects: R: what it gives, and the objects then; X: what it raises -/
def DF (K : PySem.W.Frag) (E : XK) (t : TE) (e : List Cell × Hs) (R : Cell → Hs → Prop) (X : Addr → Hs → Prop) : Prop := ∀ H0 H (σ : L2.St) (Q : VK), EnvM K H0 H σ e → (∀ c hs' v H', R c hs' → okV c = true → EnvM K H0 H' σ (e.1, hs') → ValR K H' H' v c → Q v H') →
  (∀ C hs' H', X C hs' → Same H0.h H' → HsR K H0 H' hs' → E (.ref C) none H') → t σ H Q
section
variable {K : PySem.W.Frag} {E : XK} {e : List Cell × Hs} {P P1 : OutM → Prop} {t u : TS} {tA : TT} {te ta : TE} {tr : TA} {cs : List Cell} {H0 G : Bs} {H H' : Hp} {σ : L2.St} {R : Cell → Hs → Prop} {X : Addr → Hs → Prop}
  {pre : List Cell → Hs → Prop} {post : List Cell → Hs → Cell → Hs → Prop} {exc : List Cell → Hs → Addr → Hs → Prop}
/-- the call itself, of the arguments' values -/
theorem sp_call {vs : List V} {Q : VK} (R : EnvM K H0 H σ e) (ok : cs.all okC = true) (hS : Slots K H0 H (vs.map some) cs) (hp : pre cs e.2) (q : ∀ c hs' v H', post cs e.2 c hs' → okV c = true → EnvM K H0 H' σ (e.1, hs') → ValR K H' H' v c → Q v H') (qx : ∀ C hs' H', exc cs e.2 C hs' → Same H0.h H' → HsR K H0 H' hs' → E (.ref C) none H') :
    spM K pre post exc vs H Q E := by
  refine ⟨H0.b, cs, e.2, hp, ok, base_cut R, Slots.map (f := fun k z => SlotR.bs (G := ⟨H0.b, cutH H e.2⟩) (Same.refl H0.b) k z) ok hS, HsR.into R, fun c hs' v H' hc okc s r rv => ?_, fun C hs' H' z s r => ?_⟩
  · exact q c hs' v H' hc okc (R.called s r) rv
  · exact qx C hs' H' z ((base_cut' R).trans s) (r.back R)
theorem DF.call (h : DAs K tr e cs) (hp : pre cs e.2) : DF K E (tCall (spM K pre post exc) [] E tr) e (post cs e.2) (exc cs e.2) := fun H0 H σ Q R q qx => h.2 H0 H σ _ R fun vs H1 s1 rr => by
  rw [List.append_nil]
  exact sp_call (EnvM.up R s1) h.1 rr hp q qx
theorem DF.meth {a C : Addr} {fs : List (Str × Cell)} {m : Str} {i : Nat} (ho : DE K ta e (.raw (.ref a))) (hi : e.2[i]? = some (a, .ins C fs)) (hm : fs.lookup m = none) (h : DAs K tr e cs) (hp : pre (.raw (.ref a) :: cs) e.2) : DF K E (tMeth C m (spM K pre post exc) [] E ta tr) e (post (.raw (.ref a) :: cs) e.2) (exc (.raw (.ref a) :: cs) e.2) := fun H0 H σ Q R q qx => ho H0 H σ _ R fun x H1 s1 rx => by
  have R1 := EnvM.up R s1
  cases rx
  obtain ⟨n, dx, vs, ea, hF⟩ := R1.hp.get hi
  refine ⟨a, dx, vs, rfl, ea, hF.none hm, h.2 H0 H1 σ _ R1 fun ws H2 s2 rr => ?_⟩
  rw [List.append_nil]
  exact sp_call (cs := .raw (.ref a) :: cs) (EnvM.up R1 s2) (by rw [List.all_cons, h.1]; rfl) ⟨rfl, rr⟩ hp q qx
/-- a new object -/
theorem EnvM.new {x dx : Addr} {C : Addr} (R : EnvM K H0 H σ e) (nx : H x = none) (nd : H dx = none) (ne : dx ≠ x) : EnvM K H0 (upd (upd H dx (.own x)) x (.ins C dx [])) σ (e.1, (x, .ins C []) :: e.2) := by
  have nx' : upd H dx (.own x) x = none := by
    rw [upd_ne ne.symm]
    exact nx
  have s : Same H (upd (upd H dx (.own x)) x (.ins C dx [])) := (Same.new nd).trans (Same.new nx')
  have R1 := R.up s
  have far : ∀ p ∈ e.2, p.1 ≠ x := fun p hp z => by
    obtain ⟨o, ho, _⟩ := (R.hp.at_ p hp).2.some
    rw [z, nx] at ho
    cases ho
  refine ⟨R1.ev, ⟨fun p hp => ?_, ?_⟩, fun i c a h1 h2 h3 hd => ?_⟩
  · rcases List.mem_cons.mp hp with rfl | hp
    · exact ⟨fun _ => R.ev.sm.free nx, dx, [], upd_same, trivial⟩
    · exact R1.hp.at_ p hp
  · show (x :: dom e.2).Nodup
    rw [List.nodup_cons]
    refine ⟨fun z => ?_, R.hp.nd⟩
    obtain ⟨c, hm, hfx⟩ := dom_mem z
    exact far _ hm rfl
  · rcases List.mem_cons.mp hd with z | z
    · obtain ⟨xs, hx⟩ := slot_lst R.ev h1 h2 h3
      have z : a = x := z
      rw [z, nx] at hx
      cases hx
    · exact R.sep i c a h1 h2 h3 z
theorem DF.make {C : Addr} (h : DAs K tr e cs) (hp : ∀ x, pre (.raw (.ref x) :: cs) ((x, .ins C []) :: e.2)) (hn : ∀ x c hs', post (.raw (.ref x) :: cs) ((x, .ins C []) :: e.2) c hs' → c = .dat .none) :
    DF K E (tMake C (spM K pre post exc) [] E tr) e (fun c hs' => ∃ x, c = .raw (.ref x) ∧ post (.raw (.ref x) :: cs) ((x, .ins C []) :: e.2) (.dat .none) hs') (fun D hs' => ∃ x, exc (.raw (.ref x) :: cs) ((x, .ins C []) :: e.2) D hs') := fun H0 H σ Q R q qx => h.2 H0 H σ _ R fun vs H1 s1 rr x dx nx nd ne => by
  have R1 := EnvM.up R s1
  have R2 := EnvM.new (C := C) R1 nx nd ne
  have s : Same H1 (upd (upd H1 dx (.own x)) x (.ins C dx [])) := (Same.new nd).trans (Same.new (by rw [upd_ne ne.symm]; exact nx))
  rw [List.append_nil]
  refine sp_call (cs := .raw (.ref x) :: cs) (e := (e.1, (x, .ins C []) :: e.2)) R2 (by rw [List.all_cons, h.1]; rfl) ⟨rfl, Slots.up s rr⟩ (hp x) (fun c hs' v H' hc ok R3 rv => ?_) fun D hs' H' z s3 r => qx D hs' H' ⟨x, z⟩ s3 r
  have := hn x c hs' hc
  subst this
  exact ⟨non_of rv, q _ hs' _ H' ⟨x, rfl, hc⟩ rfl R3 rfl⟩
theorem EnvM.put {i : Nat} {c : Cell} {v : V} (R : EnvM K H0 H σ e) (ok : okV c = true) (rv : ValR K H H v c) : EnvM K H0 H (σ.set i (some v)) (e.1.set i c, e.2) := by
  refine ⟨R.ev.put (Same.refl H) (by cases c <;> first | rfl | (cases ok; done)) rv, R.hp, fun j d a h1 h2 h3 => ?_⟩
  rcases get_set h1 with ⟨rfl, rfl⟩ | ⟨nj, ej⟩
  · cases d <;> first | (cases ok; done) | (cases h2; done)
  · rw [List.getElem?_set_ne nj] at h3
    exact R.sep j d a ej h2 h3
theorem DM.setE {i : Nat} (h : DF K E te e R X) (p : ∀ c hs', R c hs' → okV c = true → P (.next (e.1.set i c, hs'))) (px : ∀ C hs', X C hs' → P (.exc C hs')) : DM K E (tAsg te (gName i)) e P := fun H0 H σ D Rr q => h H0 H σ _ Rr (fun c hs' v H' hc ok R2 rv => q _ (p c hs' hc ok) _ _ (EnvM.put R2 ok rv)) fun C hs' H' z s r => q _ (px C hs' z) H' s r
theorem DM.dropE (h : DF K E te e R X) (p : ∀ c hs', R c hs' → okV c = true → P (.next (e.1, hs'))) (px : ∀ C hs', X C hs' → P (.exc C hs')) : DM K E (tDrop te) e P := fun H0 H σ D Rr q => h H0 H σ _ Rr (fun c hs' v H' hc ok R2 rv => q _ (p c hs' hc ok) _ _ R2) fun C hs' H' z s r => q _ (px C hs' z) H' s r
theorem DM.retE (h : DF K E te e R X) (p : ∀ c hs', R c hs' → okV c = true → P (.ret c hs')) (px : ∀ C hs', X C hs' → P (.exc C hs')) : DM K E (tRet te) e P := fun H0 H σ D Rr q => h H0 H σ _ Rr (fun c hs' v H' hc ok R2 rv => q _ (p c hs' hc ok) v H' R2.ev.sm R2.hp (by
  cases c with
  | un => trivial
  | raw _ => exact rv
  | dat _ => exact rv
  | cst _ => exact rv
  | fix _ => cases ok
  | rd _ => cases ok
  | own _ => cases ok
  | rng _ _ => cases ok)) fun C hs' H' z s r => q _ (px C hs' z) H' s r
/-- self.f = g(..) -/
theorem DM.raise {C : Addr} (T : OexC K C) (p : P (.exc C e.2)) : DM K E (fun _ σ H => tMkV C (spVI K) σ H fun cls d H' => E cls d H') e P := fun H0 H σ D R q => by
  have R : EnvM K H0 H σ e := R
  exact mkV_ask T (q _ p H R.ev.sm R.hp)
/-- the objects in another order -/
theorem DM.perm {l : List Cell} {hs hs' : Hs} (h : DM K E t (l, hs') P) (p : hs.Perm hs') : DM K E t (l, hs) P := fun H0 H σ D R q => by
  have R : EnvM K H0 H σ (l, hs) := R
  have pd : (dom hs).Perm (dom hs') := dom_perm p
  exact h H0 H σ D ⟨R.ev, ⟨fun x hx => R.hp.at_ x (p.mem_iff.mpr hx), pd.nodup_iff.mp R.hp.nd⟩, fun i c a h1 h2 h3 hd => R.sep i c a h1 h2 h3 (pd.mem_iff.mpr hd)⟩ q
def TurnM (I : List Cell × Hs → Prop) (P : OutM → Prop) : OutM → Prop
  | .next e => I e
  | .cont e => I e
  | .brk e => P (.next e)
  | .ret c hs => P (.ret c hs)
  | .exc C hs => P (.exc C hs)
variable {Inv : Nat → List Cell × Hs → Prop} {tb : TS} {i : Nat}
theorem turnM {d : PyData} {I J : List Cell × Hs → Prop} {D : Ends} {v : V} (hs : ∀ e, I e → DM K E tb (e.1.set i (.dat d), e.2) (TurnM J P)) (q : ∀ o, P o → OutMK K D E H0 o) (hd : Td H' v d) (hI : I e) (R : EnvM K H0 H' σ e) :
    gName i v σ H' fun σ2 H2 => tb { D with nx := fun σ H => ∃ e, J e ∧ EnvM K H0 H σ e, ct := fun σ H => ∃ e, J e ∧ EnvM K H0 H σ e, bk := D.nx } σ2 H2 := by
  refine hs e hI H0 H' _ _ (EnvM.put R (c := .dat d) rfl hd) fun o z => ?_
  cases o with
  | next e => exact fun σ H r => ⟨e, z, r⟩
  | cont e => exact fun σ H r => ⟨e, z, r⟩
  | brk e => exact q _ z
  | ret c hs => exact q _ z
  | exc C hs => exact q _ z
theorem DM.forR1 {ta : TA} {n : Int} (hl : DA K ta e [.dat (.int n)]) (b1 : -(2 ^ 62) ≤ n) (b2 : n < 2 ^ 62) (h0 : Inv 0 e) (hs : ∀ j : Nat, j < n.toNat → ∀ e, Inv j e → DM K E tb (e.1.set i (.dat (.int j)), e.2) (TurnM (Inv (j + 1)) P)) (hend : ∀ e, Inv n.toNat e → P (.next e)) :
    DM K E (tFor (iRng1 ta) (gName i) tb) e P := fun H0 H σ D R q => hl H0 H σ _ R fun vs H1 s r => by
  match vs, r with
  | [v], ⟨r1, _⟩ =>
    cases int_of r1
    refine ⟨n, rfl, b1, b2, for_range (fun j σ H => ∃ e, Inv j e ∧ EnvM K H0 H σ e) ⟨e, h0, EnvM.up R s⟩ (fun j σ H hj z => ?_) fun σ H z => let ⟨e', hI, R'⟩ := z; q _ (hend e' hI) _ _ R'⟩
    obtain ⟨e', hI, R'⟩ := z
    exact turnM (v := .int (0 + j)) (hs j hj) q (by rw [Int.zero_add]; exact .int _) hI R'
  | [], r => exact r.elim
  | _ :: _ :: _, ⟨_, r⟩ => exact r.elim
theorem DM.forR2 {ta : TA} {a b : Int} (hl : DA K ta e [.dat (.int a), .dat (.int b)]) (h : -(2 ^ 62) ≤ a ∧ a < 2 ^ 62 ∧ -(2 ^ 62) ≤ b ∧ b < 2 ^ 62) (h0 : Inv 0 e) (hs : ∀ j : Nat, j < (b - a).toNat → ∀ e, Inv j e → DM K E tb (e.1.set i (.dat (.int (a + j))), e.2) (TurnM (Inv (j + 1)) P)) (hend : ∀ e, Inv (b - a).toNat e → P (.next e)) :
    DM K E (tFor (iRng2 ta) (gName i) tb) e P := fun H0 H σ D R q => hl H0 H σ _ R fun vs H1 s r => by
  match vs, r with
  | [v, w], ⟨r1, r2, _⟩ =>
    cases int_of r1
    cases int_of r2
    refine ⟨a, b, rfl, h, for_range (fun j σ H => ∃ e, Inv j e ∧ EnvM K H0 H σ e) ⟨e, h0, EnvM.up R s⟩ (fun j σ H hj z => ?_) fun σ H z => let ⟨e', hI, R'⟩ := z; q _ (hend e' hI) _ _ R'⟩
    obtain ⟨e', hI, R'⟩ := z
    exact turnM (v := .int (a + j)) (hs j hj) q (.int _) hI R'
  | [], r => exact r.elim
  | [_], ⟨_, r⟩ => exact r.elim
  | _ :: _ :: _ :: _, ⟨_, _, r⟩ => exact r.elim
theorem DM.while_ {tc : TT} {Inw : List Cell × Hs → Prop} (μ : List Cell × Hs → Nat) (h0 : Inw e) (hs : ∀ e, Inw e → ∃ b, DB K tc e b ∧ (b = true → DM K E tb e (TurnM (fun e' => Inw e' ∧ μ e' < μ e) P)) ∧ (b = false → P (.next e))) : DM K E (tWhile tc tb) e P := fun H0 H σ D R q => by
  refine ⟨fun m σ H => ∃ e, Inw e ∧ μ e = m ∧ EnvM K H0 H σ e, ⟨_, e, h0, rfl, R⟩, ?_⟩
  rintro m σ H ⟨e', hI, hm, R'⟩
  obtain ⟨b, hb, ht, hf⟩ := hs e' hI
  refine hb H0 H σ _ R' fun H1 s => ?_
  cases b with
  | true =>
    refine iteT ⟨fun σ H => ∃ e2, (Inw e2 ∧ μ e2 < μ e') ∧ EnvM K H0 H σ e2, fun σ' H' ⟨e2, h2, R2⟩ => ⟨μ e2, by omega, e2, h2.1, rfl, R2⟩, ht rfl H0 H1 σ _ (EnvM.up R' s) fun o z => ?_⟩
    cases o with
    | next e2 => exact fun σ H r => ⟨e2, z, r⟩
    | cont e2 => exact fun σ H r => ⟨e2, z, r⟩
    | brk e2 => exact q _ z
    | ret c hs => exact q _ z
    | exc C hs => exact q _ z
  | false => exact iteF (q _ (hf rfl) _ _ (EnvM.up R' s))
end
section
variable {P : Program} {w : World} {K : PySem.W.Frag} {mg : Str → Option Value} {base : Heap} {pre : List Cell → Hs → Prop} {post : List Cell → Hs → Cell → Hs → Prop} {exc : List Cell → Hs → Addr → Hs → Prop}
theorem slots_len {H0 : Bs} {H : Hp} {vs : List V} {cs : List Cell} (h : Slots K H0 H (vs.map some) cs) : vs.length = cs.length := by
  have := h.len
  rw [List.length_map] at this
  exact this
/-- a def that works on objects and raises nothing -/
theorem fnM {x qual : Str} {st : Stmt} {fa : Addr} {fd : FuncData} {N ps : List Str} {k : Nat} (F : Fun K x qual st fa fd) (S : FnScope N ps (defScope st)) (len : ∀ cs hs, pre cs hs → cs.length = ps.length)
    (body : ∀ (cdv : Value) (A : Around) (outer : List Env) (s : Shared) (H : Hp) (E : XK), Room k (A.deeper (envOfC qual (defScope st) s.heap.objs.size fa cdv)) →
      ∃ t, PSs (cxOf CX0 P w K mg base N qual (defScope st) fa cdv A outer s H E).nox (defBody st) t ∧ ∀ cs hs, pre cs hs → DM K E t (cs ++ List.replicate (N.length - ps.length) .un, hs) (EndsM (post cs hs) fun _ _ => False)) : FnOk P w K mg base CX0 (k + 1) fa fd ps (spM K pre post fun _ _ _ _ => False) := by
  refine F.ok S (fun vs H Q E h => ?_) (fun cdv A outer s H vs Q E hr h => ?_)
  · obtain ⟨B, cs, hs, hp, ok, sB, hS, hh, q, qx⟩ := h
    rw [slots_len hS]
    exact len cs hs hp
  · obtain ⟨B, cs, hs, hp, ok, sB, hS, hh, q, qx⟩ := h
    obtain ⟨t, hps, hd⟩ := body cdv A outer s H E hr
    refine ⟨t, hps, DM.run (E := E) ?_ ok sB hS hh q fun C hs' H' z => False.elim z⟩
    rw [slots_len hS, len cs hs hp]
    exact hd cs hs hp
/-- .. or may raise -/
theorem fnMX {x qual : Str} {st : Stmt} {fa : Addr} {fd : FuncData} {N ps : List Str} {k : Nat} (F : Fun K x qual st fa fd) (S : FnScope N ps (defScope st)) (len : ∀ cs hs, pre cs hs → cs.length = ps.length)
    (body : ∀ (cdv : Value) (A : Around) (outer : List Env) (s : Shared) (H : Hp) (E : XK), Room k (A.deeper (envOfC qual (defScope st) s.heap.objs.size fa cdv)) →
      ∃ t, PSs (cxOf (L2.CX P w) P w K mg base N qual (defScope st) fa cdv A outer s H E) (defBody st) t ∧ ∀ cs hs, pre cs hs → DM K E t (cs ++ List.replicate (N.length - ps.length) .un, hs) (EndsM (post cs hs) (exc cs hs))) : FnOk P w K mg base (L2.CX P w) (k + 1) fa fd ps (spM K pre post exc) := by
  refine F.okX S (fun vs H Q E h => ?_) (fun cdv A outer s H vs Q E hr h => ?_)
  · obtain ⟨B, cs, hs, hp, ok, sB, hS, hh, q, qx⟩ := h
    rw [slots_len hS]
    exact len cs hs hp
  · obtain ⟨B, cs, hs, hp, ok, sB, hS, hh, q, qx⟩ := h
    obtain ⟨t, hps, hd⟩ := body cdv A outer s H E hr
    refine ⟨t, hps, DM.run (E := E) ?_ ok sB hS hh q qx⟩
    rw [slots_len hS, len cs hs hp]
    exact hd cs hs hp
/-- the law itself, from such a promise -/
theorem law_ofM {CX : CXT} {k : Nat} {f : Addr} {fd : FuncData} {ps : List Str} {exc : List Cell → Hs → Addr → Hs → Prop} (hx : ∀ cs hs C hs', ¬ exc cs hs C hs') (F : FnOk P w K mg base CX k f fd ps (spM K (fun cs hs => (∃ ns : List Int, cs = [.scr ns] ∧ ns.length ≤ 63) ∧ hs = []) (fun _ _ c _ => c = .dat (.bool true)) exc)) : FnOk P w K mg base CX k f fd ps (spLaw K) :=
  F.imp fun vs H Q E ⟨a, ns, ev, hS, hl, q⟩ => by
    subst ev
    have hc : cutH H [] = H := by
      funext b
      unfold cutH
      rw [if_neg (fun z => by cases z)]
    refine ⟨H, [.scr ns], [], ⟨⟨ns, rfl, hl⟩, rfl⟩, rfl, by rw [hc]; exact Same.refl H, ⟨⟨a, rfl, hS⟩, trivial⟩, ⟨(fun p hp => by cases hp), List.nodup_nil⟩, fun c hs' v H' hcc _ s r rv => ?_, fun C hs' H' z => absurd z (hx _ _ _ _)⟩
    subst hcc
    cases bl_of rv
    exact q H'
end
end Esp
set_option autoImplicit false
set_option maxRecDepth 100000
set_option maxHeartbeats 4000000
namespace Esp
open PySem PySem.Spec PyProof.Rows L2
theorem ix0 {x : Addr × Chunk} {l : Hs} : (x :: l)[0]? = some x := rfl
theorem ix1 {y0 x : Addr × Chunk} {l : Hs} : (y0 :: x :: l)[1]? = some x := rfl
theorem ix2 {y0 y1 x : Addr × Chunk} {l : Hs} : (y0 :: y1 :: x :: l)[2]? = some x := rfl
theorem ix3 {y0 y1 y2 x : Addr × Chunk} {l : Hs} : (y0 :: y1 :: y2 :: x :: l)[3]? = some x := rfl
theorem ix4 {y0 y1 y2 y3 x : Addr × Chunk} {l : Hs} : (y0 :: y1 :: y2 :: y3 :: x :: l)[4]? = some x := rfl
theorem ix5 {y0 y1 y2 y3 y4 x : Addr × Chunk} {l : Hs} : (y0 :: y1 :: y2 :: y3 :: y4 :: x :: l)[5]? = some x := rfl
theorem ix6 {y0 y1 y2 y3 y4 y5 x : Addr × Chunk} {l : Hs} : (y0 :: y1 :: y2 :: y3 :: y4 :: y5 :: x :: l)[6]? = some x := rfl
theorem ix7 {y0 y1 y2 y3 y4 y5 y6 x : Addr × Chunk} {l : Hs} : (y0 :: y1 :: y2 :: y3 :: y4 :: y5 :: y6 :: x :: l)[7]? = some x := rfl
theorem ix8 {y0 y1 y2 y3 y4 y5 y6 y7 x : Addr × Chunk} {l : Hs} : (y0 :: y1 :: y2 :: y3 :: y4 :: y5 :: y6 :: y7 :: x :: l)[8]? = some x := rfl
theorem ix9 {y0 y1 y2 y3 y4 y5 y6 y7 y8 x : Addr × Chunk} {l : Hs} : (y0 :: y1 :: y2 :: y3 :: y4 :: y5 :: y6 :: y7 :: y8 :: x :: l)[9]? = some x := rfl
section
variable {K : PySem.W.Frag} {E : XK} {e : List Cell × Hs} {P : OutM → Prop} {te ta ti tl : TE} {tr : TA} {H0 : Bs} {H H' : Hp} {σ : L2.St}
theorem slots_dats : ∀ {xs : List V} {ds : List PyData}, Slots K H0 H (xs.map some) (ds.map .dat) → TdAll H xs ds
  | [], [], _ => .nil
  | x :: xs, d :: ds, ⟨⟨v, ev, tv⟩, t⟩ => by
    cases ev
    exact .cons tv (slots_dats t)
  | [], _ :: _, h => h.elim
  | _ :: _, [], h => h.elim
theorem dats_slots : ∀ {xs : List V} {ds : List PyData}, TdAll H xs ds → Slots K H0 H (xs.map some) (ds.map .dat)
  | [], _, h => by
    cases h
    exact trivial
  | _ :: _, _, h => by
    cases h with
    | cons h1 h2 => exact ⟨⟨_, rfl, h1⟩, dats_slots h2⟩
theorem dats_ok (ds : List PyData) : (ds.map Cell.dat).all okC = true := by
  rw [List.all_map]
  exact List.all_eq_true.mpr fun _ _ => rfl
/-- a list of data that is held apart is read -/
theorem DE.viewC {a : Addr} {ds : List PyData} {i : Nat} (ha : DE K ta e (.raw (.ref a))) (hi : e.2[i]? = some (a, .lst (ds.map .dat))) : DE K ta e (.rd ds) := fun H0 H σ Q R q => ha H0 H σ _ R fun x H1 s1 r => by
  have R1 : EnvM K H0 H1 σ e := EnvM.up R s1
  cases r
  obtain ⟨n, xs, ea, hS, ok⟩ := R1.hp.get hi
  exact q _ _ s1 ⟨a, xs, rfl, ea, slots_dats hS⟩
theorem DE.ixC {a : Addr} {ds : List PyData} {d : PyData} {k : Int} {i : Nat} (ha : DE K ta e (.raw (.ref a))) (hb : DE K ti e (.dat (.int k))) (hi : e.2[i]? = some (a, .lst (ds.map .dat))) (hd : L2.atI ds k = some d) : DE K (tOp (rIxL K) ta ti) e (.dat d) := DE.ixL (DE.viewC ha hi) hb rfl hd
theorem DE.lenD {a : Addr} {ds : List PyData} {i : Nat} (ha : DE K ta e (.raw (.ref a))) (hi : e.2[i]? = some (a, .lst (ds.map .dat))) : DE K (tCB (rLen K) (tCons ta tNil)) e (.dat (.int ds.length)) := DE.lenL (DE.viewC ha hi) rfl
theorem DE.lstC {a : Addr} {ds : List PyData} {i : Nat} (ha : DE K ta e (.raw (.ref a))) (hi : e.2[i]? = some (a, .lst (ds.map .dat))) : DE K (tCB (rLstOf K) (tCons ta tNil)) e (.own ds) := DE.lstOfL (DE.viewC ha hi) rfl
/-- .. gets one more -/
theorem DM.appD {a : Addr} {ds : List PyData} {d : PyData} {i : Nat} (hl : DE K tl e (.raw (.ref a))) (h : DE K ta e (.dat d)) (hi : e.2[i]? = some (a, .lst (ds.map .dat))) (hn : ds.length < sizeLine) (p : P (.next (e.1, e.2.set i (a, .lst ((ds ++ [d]).map .dat))))) :
    DM K E (tDrop (tBM K "list" rAppend tl (tCons ta tNil))) e P := DM.appC hl h rfl hi (by rw [List.length_map]; exact hn) (by
  rw [List.map_append] at p
  exact p)
/-- .. gets another entry -/
theorem DM.putD {a : Addr} {ds : List PyData} {d : PyData} {k : Int} {i j : Nat} (h : DE K ta e (.dat d)) (hl : DE K tl e (.raw (.ref a))) (hk : DE K ti e (.dat (.int k))) (hi : e.2[i]? = some (a, .lst (ds.map .dat))) (hj : ixN ds.length k = some j) (p : P (.next (e.1, e.2.set i (a, .lst ((ds.set j d).map .dat))))) :
    DM K E (tAsg ta (gSub tl ti rSetL)) e P := fun H0 H σ D R q => h H0 H σ _ R fun y H1 s1 r1 => hl H0 H1 σ _ (Ctx.R.up R s1) fun x H2 s2 r2 => hk H0 H2 σ _ (Ctx.R.up R (s1.trans s2)) fun z H3 s3 r3 => by
  have R3 : EnvM K H0 H3 σ e := EnvM.up R (s1.trans (s2.trans s3))
  cases r2
  cases int_of r3
  obtain ⟨n, xs, ea, hS, ok⟩ := R3.hp.get hi
  have tx := slots_dats hS
  have tp : Tups H3 (upd H3 a (.lst (xs.set j y))) := Tups.wr ea fun _ => lst_tup
  refine ⟨a, xs, k, j, rfl, rfl, ea, by rw [tx.len]; exact hj, q _ p σ _ (R3.wr hi ⟨_, upd_same, dats_slots ?_, dats_ok _⟩)⟩
  exact (TdAll.set (Td.up r1 (Tups.of (s2.trans s3))) j tx).up tp
/-- the last one is taken off -/
theorem DM.popD {a : Addr} {ds : List PyData} {i : Nat} (hl : DE K tl e (.raw (.ref a))) (hi : e.2[i]? = some (a, .lst (ds.map .dat))) (hn : 0 < ds.length) (p : P (.next (e.1, e.2.set i (a, .lst (ds.dropLast.map .dat))))) :
    DM K E (tDrop (fun σ H Q => tl σ H fun x H1 => tyV K "list" x H1 ∧ rPop x [] H1 Q)) e P := fun H0 H σ D R q => hl H0 H σ _ R fun x H1 s1 r1 => by
  have R1 : EnvM K H0 H1 σ e := EnvM.up R s1
  cases r1
  obtain ⟨n, xs, ea, hS, ok⟩ := R1.hp.get hi
  have tx := slots_dats hS
  have ln := tx.len
  have hx : xs.length - 1 < xs.length := by omega
  have tp : Tups H1 (upd H1 a (.lst xs.dropLast)) := Tups.wr ea fun _ => lst_tup
  have td : TdAll H1 xs.dropLast ds.dropLast := by
    rw [List.dropLast_eq_take, List.dropLast_eq_take, ln]
    exact tx.take _
  exact ⟨.inl ⟨rfl, _, SqL.of ea⟩, a, xs, _, rfl, rfl, ea, List.getElem?_eq_getElem hx, q _ p σ _ (R1.wr hi ⟨_, upd_same, dats_slots (td.up tp), dats_ok _⟩)⟩
/-- a new list of data goes into an object, where it is held apart from now on -/
theorem DM.setFown {te ta : TE} {a C : Addr} {fs : List (Str × Cell)} {f : Str} {ds : List PyData} {i : Nat} (h : DE K te e (.own ds)) (ha : DE K ta e (.raw (.ref a))) (hi : e.2[i]? = some (a, .ins C fs)) (cl : Cls K C) (hn : NoAttr K C f) (hl : fs.length < 1000)
    (p : ∀ l, P (.next (e.1, (l, .lst (ds.map .dat)) :: e.2.set i (a, .ins C (putC f (.raw (.ref l)) fs))))) : DM K E (sFld K ta te f) e P := fun H0 H σ D R q => h H0 H σ _ R fun v H1 s1 r1 => ha H0 H1 σ _ (Ctx.R.up R s1) fun x H2 s2 r2 => by
  have R : EnvM K H0 H σ e := R
  have R2 : EnvM K H0 H2 σ e := EnvM.up R (s1.trans s2)
  cases r2
  obtain ⟨l, xs, rfl, nl, el, tx⟩ := r1
  have el2 := s2 _ _ el
  have tx2 := tx.same s2
  obtain ⟨n, dx, vs, ea, hF⟩ := R2.hp.get hi
  have nal : l ≠ a := fun z => by
    rw [z, ea] at el2
    cases el2
  refine ⟨a, C, dx, vs, rfl, ea, cl, hn, by rw [hF.len]; exact hl, ?_⟩
  have tp : Tups H2 (upd H2 a (.ins C dx (putF f (.ref l) vs))) := Tups.wr ea fun _ z => by cases z
  have W := R2.wr (ch' := .ins C (putC f (.raw (.ref l)) fs)) (o' := .ins C dx (putF f (.ref l) vs)) hi ⟨dx, _, upd_same, FldR.put (c := .raw (.ref l)) rfl rfl (FldR.map (f := fun k z => z.tp tp k) hF)⟩
  have out : ∀ p ∈ e.2, p.1 ≠ l := fun p hp z => by
    obtain ⟨o, ho, _⟩ := (R.hp.at_ p hp).2.some
    rw [z, nl] at ho
    cases ho
  have dm : dom (e.2.set i (a, .ins C (putC f (.raw (.ref l)) fs))) = dom e.2 := dom_set hi rfl rfl
  refine q _ (p l) σ _ ⟨W.ev, ⟨fun p hp => ?_, ?_⟩, fun j c b h1 h2 h3 hd => ?_⟩
  · rcases List.mem_cons.mp hp with rfl | hp
    · exact ⟨fun _ => R.ev.sm.free nl, xs, by show upd H2 a _ l = _; rw [upd_ne nal]; exact el2, dats_slots (tx2.up tp), dats_ok _⟩
    · exact W.hp.at_ p hp
  · show (l :: dom (e.2.set i _)).Nodup
    rw [List.nodup_cons, dm]
    refine ⟨fun z => ?_, R.hp.nd⟩
    obtain ⟨c, hm, hfx⟩ := dom_mem z
    exact out _ hm rfl
  · rcases List.mem_cons.mp hd with z | z
    · obtain ⟨ys, hy⟩ := slot_lst R.ev h1 h2 h3
      have z : b = l := z
      rw [z, nl] at hy
      cases hy
    · exact W.sep j c b h1 h2 h3 z
/-- .. what a def of objects gives -/
theorem DM.setFE {R : Cell → Hs → Prop} {X : Addr → Hs → Prop} {a C : Addr} {f : Str} (h : DF K E te e R X) (ha : ∀ c hs', R c hs' → DE K ta (e.1, hs') (.raw (.ref a))) (cl : Cls K C) (hn : NoAttr K C f)
    (p : ∀ c hs', R c hs' → okV c = true → ∃ i fs, hs'[i]? = some (a, .ins C fs) ∧ fs.length < 1000 ∧ P (.next (e.1, hs'.set i (a, .ins C (putC f c fs))))) (px : ∀ C hs', X C hs' → P (.exc C hs')) : DM K E (sFld K ta te f) e P := fun H0 H σ D Rr q => h H0 H σ _ Rr (fun c hs' v H1 hc ok R1 rv => ha c hs' hc H0 H1 σ _ R1 fun x H2 s2 r2 => by
  obtain ⟨i, fs, hi, hl, pp⟩ := p c hs' hc ok
  have R2 : EnvM K H0 H2 σ (e.1, hs') := R1.up s2
  cases r2
  obtain ⟨n, dx, vs, ea, hF⟩ := R2.hp.get hi
  refine ⟨a, C, dx, vs, rfl, ea, cl, hn, by rw [hF.len]; exact hl, ?_⟩
  have tp : Tups H2 (upd H2 a (.ins C dx (putF f v vs))) := Tups.wr ea fun _ z => by cases z
  exact q _ pp σ _ (R2.wr hi ⟨dx, _, upd_same, FldR.put (okC_of ok) ((SlotR.ofV ok (rv.up s2)).tp tp (okC_of ok)) (FldR.map (f := fun k z => z.tp tp k) hF)⟩)) fun C hs' H' z s r => q _ (px C hs' z) H' s r
theorem HsR.lay {l : Addr} {xs : List V} {ds : List PyData} {hs : Hs} (R : HsR K H0 H hs) (nl : H0.h l = none) (far : ∀ p ∈ hs, p.2.fixd = false → p.1 ≠ l) (el : H l = some (.lst xs)) (tx : TdAll H xs ds) : HsR K H0 H ((l, .lst (ds.map .dat)) :: hs) := by
  refine ⟨fun p hp => ?_, ?_⟩
  · rcases List.mem_cons.mp hp with rfl | hp
    · exact ⟨fun _ => nl, xs, el, dats_slots tx, dats_ok _⟩
    · exact R.at_ p hp
  · show (l :: dom hs).Nodup
    rw [List.nodup_cons]
    refine ⟨fun z => ?_, R.nd⟩
    obtain ⟨c, hm, hfx⟩ := dom_mem z
    exact far _ hm hfx rfl
/-- a new list is returned -/
theorem DM.retOwn {te : TE} {ds : List PyData} (h : DE K te e (.own ds)) (p : ∀ l, P (.ret (.raw (.ref l)) ((l, .lst (ds.map .dat)) :: e.2))) : DM K E (tRet te) e P := fun H0 H σ D R q => h H0 H σ _ R fun v H' s r => by
  have R : EnvM K H0 H σ e := R
  obtain ⟨l, xs, rfl, nl, el, tx⟩ := r
  refine q _ (p l) _ H' (R.ev.sm.trans s) ((R.hp.up s).lay (R.ev.sm.free nl) (fun p hp _ z => ?_) el tx) rfl
  obtain ⟨o, ho, _⟩ := (R.hp.at_ p hp).2.some
  rw [z, nl] at ho
  cases ho
/-- a name gets a new list, held apart -/
theorem DM.setOwn {te : TE} {ds : List PyData} {i : Nat} (h : DE K te e (.own ds)) (p : ∀ l, P (.next (e.1.set i (.raw (.ref l)), (l, .lst (ds.map .dat)) :: e.2))) : DM K E (tAsg te (gName i)) e P := fun H0 H σ D R q => h H0 H σ _ R fun v H' s r => by
  have R : EnvM K H0 H σ e := R
  obtain ⟨l, xs, rfl, nl, el, tx⟩ := r
  have R1 := R.up s
  have far : ∀ p ∈ e.2, p.2.fixd = false → p.1 ≠ l := fun p hp _ z => by
    obtain ⟨o, ho, _⟩ := (R.hp.at_ p hp).2.some
    rw [z, nl] at ho
    cases ho
  have R2 : EnvM K H0 H' σ (e.1, (l, .lst (ds.map .dat)) :: e.2) := by
    refine ⟨R1.ev, R1.hp.lay (R.ev.sm.free nl) far el tx, fun j c b h1 h2 h3 hd => ?_⟩
    rcases List.mem_cons.mp hd with z | z
    · obtain ⟨ys, hy⟩ := slot_lst R.ev h1 h2 h3
      have z : b = l := z
      rw [z, nl] at hy
      cases hy
    · exact R.sep j c b h1 h2 h3 z
  exact q _ (p l) _ _ (R2.put (c := .raw (.ref l)) rfl rfl)
end
end Esp
set_option autoImplicit false
set_option maxRecDepth 100000
set_option maxHeartbeats 4000000
namespace Esp
open PySem PySem.Spec PyProof.Rows L2
structure Pro (γ : Type) where
  ok : γ → Prop := fun _ => True
  cs : γ → List Cell
  hs : γ → Hs
  post : γ → Cell → Hs → Prop
  exc : γ → Addr → Hs → Prop := fun _ _ _ => False
def spG {γ : Type} (K : PySem.W.Frag) (p : Pro γ) : Sp := fun vs H Q E => ∃ g, p.ok g ∧ spM K (fun c h => c = p.cs g ∧ h = p.hs g) (fun _ _ => p.post g) (fun _ _ => p.exc g) vs H Q E
section
variable {γ : Type} {K : PySem.W.Frag} {E : XK} {e : List Cell × Hs} {te ta : TE} {tr : TA} {H0 : Bs} {H H' : Hp} {σ : L2.St} {p : Pro γ}
theorem DF.callG (g : γ) (h : DAs K tr e (p.cs g)) (hh : e.2 = p.hs g) (ok : p.ok g) : DF K E (tCall (spG K p) [] E tr) e (p.post g) (p.exc g) := fun H0 H σ Q R q qx => h.2 H0 H σ _ R fun vs H1 s1 rr => by
  rw [List.append_nil]
  exact ⟨g, ok, sp_call (EnvM.up R s1) h.1 rr ⟨rfl, hh⟩ q qx⟩
theorem DF.methG {a C : Addr} {fs : List (Str × Cell)} {m : Str} {i : Nat} {cs : List Cell} (g : γ) (ho : DE K ta e (.raw (.ref a))) (hi : e.2[i]? = some (a, .ins C fs)) (hm : fs.lookup m = none) (h : DAs K tr e cs) (hc : .raw (.ref a) :: cs = p.cs g) (hh : e.2 = p.hs g) (ok : p.ok g) :
    DF K E (tMeth C m (spG K p) [] E ta tr) e (p.post g) (p.exc g) := fun H0 H σ Q R q qx => ho H0 H σ _ R fun x H1 s1 rx => by
  have R1 := EnvM.up R s1
  cases rx
  obtain ⟨n, dx, vs, ea, hF⟩ := R1.hp.get hi
  refine ⟨a, dx, vs, rfl, ea, hF.none hm, h.2 H0 H1 σ _ R1 fun ws H2 s2 rr => ?_⟩
  rw [List.append_nil]
  exact ⟨g, ok, sp_call (cs := .raw (.ref a) :: cs) (EnvM.up R1 s2) (by rw [List.all_cons, h.1]; rfl) ⟨rfl, rr⟩ ⟨hc, hh⟩ q qx⟩
theorem DF.makeG {C : Addr} {cs : List Cell} (g : Addr → γ) (h : DAs K tr e cs) (hc : ∀ x, .raw (.ref x) :: cs = p.cs (g x)) (hh : ∀ x, (x, .ins C []) :: e.2 = p.hs (g x)) (ok : ∀ x, p.ok (g x)) (hn : ∀ x c hs', p.post (g x) c hs' → c = .dat .none) :
    DF K E (tMake C (spG K p) [] E tr) e (fun c hs' => ∃ x, c = .raw (.ref x) ∧ p.post (g x) (.dat .none) hs') (fun D hs' => ∃ x, p.exc (g x) D hs') := fun H0 H σ Q R q qx => h.2 H0 H σ _ R fun vs H1 s1 rr x dx nx nd ne => by
  have R1 := EnvM.up R s1
  have R2 := EnvM.new (C := C) R1 nx nd ne
  have s : Same H1 (upd (upd H1 dx (.own x)) x (.ins C dx [])) := (Same.new nd).trans (Same.new (by rw [upd_ne ne.symm]; exact nx))
  rw [List.append_nil]
  refine ⟨g x, ok x, sp_call (cs := .raw (.ref x) :: cs) (e := (e.1, (x, .ins C []) :: e.2)) R2 (by rw [List.all_cons, h.1]; rfl) ⟨rfl, Slots.up s rr⟩ ⟨hc x, hh x⟩ (fun c hs' v H' hc ok R3 rv => ?_) fun D hs' H' z s3 r => qx D hs' H' ⟨x, z⟩ s3 r⟩
  have := hn x c hs' hc
  subst this
  exact ⟨non_of rv, q _ hs' _ H' ⟨x, rfl, hc⟩ rfl R3 rfl⟩
/-- nothing is raised: whatever is wished of it -/
theorem DF.quiet {E' : XK} {R : Cell → Hs → Prop} {X : Addr → Hs → Prop} (h : DF K E te e R X) (nx : ∀ C hs, ¬ X C hs) : DF K E' te e R X := fun H0 H σ Q Rr q _ => h H0 H σ Q Rr q fun C hs H' z => absurd z (nx C hs)
end
section
variable {γ : Type} {P : Program} {w : World} {K : PySem.W.Frag} {mg : Str → Option Value} {base : Heap} {p : Pro γ}
theorem fnG {x qual : Str} {st : Stmt} {fa : Addr} {fd : FuncData} {N ps : List Str} {k : Nat} (F : Fun K x qual st fa fd) (S : FnScope N ps (defScope st)) (len : ∀ g, (p.cs g).length = ps.length) (hx : ∀ g C hs, ¬ p.exc g C hs)
    (body : ∀ (cdv : Value) (A : Around) (outer : List Env) (s : Shared) (H : Hp) (E : XK), Room k (A.deeper (envOfC qual (defScope st) s.heap.objs.size fa cdv)) →
      ∃ t, PSs (cxOf CX0 P w K mg base N qual (defScope st) fa cdv A outer s H E).nox (defBody st) t ∧ ∀ g, p.ok g → DM K E t (p.cs g ++ List.replicate (N.length - ps.length) .un, p.hs g) (EndsM (p.post g) fun _ _ => False)) : FnOk P w K mg base CX0 (k + 1) fa fd ps (spG K p) := by
  refine F.ok S (fun vs H Q E h => ?_) (fun cdv A outer s H vs Q E hr h => ?_)
  · obtain ⟨g, og, B, cs, hs, ⟨rfl, rfl⟩, ok, sB, hS, hh, q, qx⟩ := h
    rw [slots_len hS]
    exact len g
  · obtain ⟨g, og, B, cs, hs, ⟨rfl, rfl⟩, ok, sB, hS, hh, q, qx⟩ := h
    obtain ⟨t, hps, hd⟩ := body cdv A outer s H E hr
    refine ⟨t, hps, DM.run (E := E) ?_ ok sB hS hh q fun C hs' H' z => False.elim z⟩
    rw [slots_len hS, len g]
    exact hd g og
theorem fnGX {x qual : Str} {st : Stmt} {fa : Addr} {fd : FuncData} {N ps : List Str} {k : Nat} (F : Fun K x qual st fa fd) (S : FnScope N ps (defScope st)) (len : ∀ g, (p.cs g).length = ps.length)
    (body : ∀ (cdv : Value) (A : Around) (outer : List Env) (s : Shared) (H : Hp) (E : XK), Room k (A.deeper (envOfC qual (defScope st) s.heap.objs.size fa cdv)) →
      ∃ t, PSs (cxOf (L2.CX P w) P w K mg base N qual (defScope st) fa cdv A outer s H E) (defBody st) t ∧ ∀ g, p.ok g → DM K E t (p.cs g ++ List.replicate (N.length - ps.length) .un, p.hs g) (EndsM (p.post g) (p.exc g))) : FnOk P w K mg base (L2.CX P w) (k + 1) fa fd ps (spG K p) := by
  refine F.okX S (fun vs H Q E h => ?_) (fun cdv A outer s H vs Q E hr h => ?_)
  · obtain ⟨g, og, B, cs, hs, ⟨rfl, rfl⟩, ok, sB, hS, hh, q, qx⟩ := h
    rw [slots_len hS]
    exact len g
  · obtain ⟨g, og, B, cs, hs, ⟨rfl, rfl⟩, ok, sB, hS, hh, q, qx⟩ := h
    obtain ⟨t, hps, hd⟩ := body cdv A outer s H E hr
    refine ⟨t, hps, DM.run (E := E) ?_ ok sB hS hh q qx⟩
    rw [slots_len hS, len g]
    exact hd g og
end
end Esp
set_option autoImplicit false
set_option maxRecDepth 100000
set_option maxHeartbeats 4000000
namespace Esp
open PySem PySem.Spec PyProof.Rows L2
/-- a comprehension's target -/
def LcG (K : PySem.W.Frag) (g : TG) (vs : List Nat) (e : List Cell) (d : PyData) (e1 : List Cell) : Prop := ∀ H0 H (σ : L2.St) (v : V) (Q : L2.St → Hp → Prop), EnvR K H0 H σ e → Td H v d → (∀ σ2, L2.wipe σ2 vs = L2.wipe σ vs → EnvR K H0 H σ2 e1 → Q σ2 H) → g v (L2.wipe σ vs) H Q
section
variable {K : PySem.W.Frag} {E : XK} {H0 : Bs} {H H' : Hp} {σ : L2.St} {e e1 : List Cell}
theorem LcG.name {i : Nat} {d : PyData} : LcG K (gName i) [i] e d ((e.set i .un).set i (.dat d)) := fun H0 H σ v Q R t q => q _ (wipe1 σ i _) (R.wipe.put (Same.refl H) (c := .dat d) rfl t)
theorem wipe2 (σ : L2.St) {i j : Nat} (hij : i ≠ j) (v u : Option V) : L2.wipe (((L2.wipe σ [i, j]).set i v).set j u) [i, j] = L2.wipe σ [i, j] := by
  show (((((σ.set j none).set i none).set i v).set j u).set j none).set i none = (σ.set j none).set i none
  apply List.ext_getElem?
  intro k
  by_cases h1 : k = i
  · subst h1
    by_cases hl : k < σ.length
    · rw [List.getElem?_set_self (by simpa using hl), List.getElem?_set_self (by simpa using hl)]
    · rw [List.getElem?_eq_none (by simp; omega), List.getElem?_eq_none (by simp; omega)]
  · rw [List.getElem?_set_ne (fun z => h1 z.symm), List.getElem?_set_ne (fun z => h1 z.symm)]
    by_cases h2 : k = j
    · subst h2
      by_cases hl : k < σ.length
      · rw [List.getElem?_set_self (by simpa using hl), List.getElem?_set_self (by simpa using hl)]
      · rw [List.getElem?_eq_none (by simp; omega), List.getElem?_eq_none (by simp; omega)]
    · rw [List.getElem?_set_ne (fun z => h2 z.symm), List.getElem?_set_ne (fun z => h2 z.symm), List.getElem?_set_ne (fun z => h1 z.symm), List.getElem?_set_ne (fun z => h1 z.symm), List.getElem?_set_ne (fun z => h2 z.symm)]
theorem LcG.pair {i j : Nat} {x y : PyData} (hij : i ≠ j) : LcG K (gTup K 2 (gCons (gName i) (gCons (gName j) gNil))) [i, j] e (.tuple [x, y]) ((((e.set j .un).set i .un).set i (.dat x)).set j (.dat y)) := fun H0 H σ v Q R t q => by
  obtain ⟨a, xs, rfl, ha, t⟩ := tup_of t
  cases t with
  | cons t1 t =>
    cases t with
    | cons t2 t =>
      cases t
      refine ⟨a, _, rfl, ha.sq, rfl, _, _, rfl, _, _, rfl, rfl, ?_⟩
      have R2 : EnvR K H0 H (L2.wipe σ [i, j]) ((e.set j .un).set i .un) := (R.wipe (i := j)).wipe (i := i)
      exact q _ (wipe2 σ hij _ _) ((R2.put (Same.refl H) (c := .dat x) rfl t1).put (Same.refl H) (c := .dat y) rfl t2)
/-- a new pair, of no known object -/
def LcP (K : PySem.W.Frag) (g : TG) (vs : List Nat) (e : List Cell) (d1 d2 : PyData) (e1 : List Cell) : Prop := ∀ H0 H (σ : L2.St) (T : Addr) (x y : V) (Q : L2.St → Hp → Prop), EnvR K H0 H σ e → H T = some (.tup [x, y]) → Td H x d1 → Td H y d2 → (∀ σ2, L2.wipe σ2 vs = L2.wipe σ vs → EnvR K H0 H σ2 e1 → Q σ2 H) → g (.ref T) (L2.wipe σ vs) H Q
theorem LcP.pair {i j : Nat} {x y : PyData} (hij : i ≠ j) : LcP K (gTup K 2 (gCons (gName i) (gCons (gName j) gNil))) [i, j] e x y ((((e.set j .un).set i .un).set i (.dat x)).set j (.dat y)) := fun H0 H σ T v w Q R ha t1 t2 q => by
  refine ⟨T, _, rfl, SqT.of ha, rfl, _, _, rfl, _, _, rfl, rfl, ?_⟩
  have R2 : EnvR K H0 H (L2.wipe σ [i, j]) ((e.set j .un).set i .un) := (R.wipe (i := j)).wipe (i := i)
  exact q _ (wipe2 σ hij _ _) ((R2.put (Same.refl H) (c := .dat x) rfl t1).put (Same.refl H) (c := .dat y) rfl t2)
/-- one turn -/
theorem lc_turnG {g : TG} {vs : List Nat} {tt : TT} {te : TE} {r : PyData} {b : Bool} {acc acc' : List PyData} {H1 : Hp} {D : Addr} {x : V} (R1 : EnvR K H0 H1 σ e) (nD : H1 D = none) (hg : ∀ Q : L2.St → Hp → Prop, (∀ σ2, L2.wipe σ2 vs = L2.wipe σ vs → EnvR K H0 H σ2 e1 → Q σ2 H) → g x (L2.wipe σ vs) H Q) (hb : DB K tt e1 b)
    (ht : b = true → DE K te e1 (.dat r) ∧ acc' = acc ++ [r]) (hf : b = false → acc' = acc) (la : acc.length < sizeLine) (s : Same H1 H) (hD : ∃ ys, H D = some (.lst ys) ∧ TdAll H ys acc) :
    g x (L2.wipe σ vs) H fun σ2 H2 => L2.wipe σ2 vs = L2.wipe σ vs ∧ tt σ2 H2 fun b H3 =>
      if b = true then te σ2 H3 fun y H4 => ∃ ac, H4 D = some (.lst ac) ∧ ac.length < sizeLine ∧ ((∃ ys, (upd H4 D (.lst (ac ++ [y]))) D = some (.lst ys) ∧ TdAll (upd H4 D (.lst (ac ++ [y]))) ys acc') ∧ Same H1 (upd H4 D (.lst (ac ++ [y])))) else ((∃ ys, H3 D = some (.lst ys) ∧ TdAll H3 ys acc') ∧ Same H1 H3) := by
  obtain ⟨ys, hy, ty⟩ := hD
  refine hg _ fun σ2 hw R2 => ⟨hw, hb H0 H _ _ R2 fun H3 s3 => ?_⟩
  cases b with
  | false =>
    refine iteF ?_
    rw [hf rfl]
    exact ⟨⟨ys, s3 _ _ hy, ty.same s3⟩, s.trans s3⟩
  | true =>
    obtain ⟨h1, h2⟩ := ht rfl
    refine iteT (h1 H0 H3 _ _ (R2.up s3) fun y H4 s4 ry => ?_)
    have s34 := s3.trans s4
    have hy4 := s34 _ _ hy
    have tp : Tups H4 (upd H4 D (.lst (ys ++ [y]))) := Tups.wr hy4 fun _ => lst_tup
    refine ⟨ys, hy4, by rw [ty.len]; exact la, ⟨_, upd_same, ?_⟩, fun b o z => ?_⟩
    · rw [h2]
      exact ((ty.same s34).up tp).snoc (Td.up ry tp)
    · rw [upd_ne (ne_of_none z nD)]
      exact s34 _ _ (s _ _ z)
/-- how the list grows -/
structure GrowG (K : PySem.W.Frag) (tt : TT) (te : TE) (e : List Cell) (g : TG) (vs : List Nat) (n : Nat) (at_ : Nat → Option PyData) (acc : Nat → List PyData) : Prop where
  zero : acc 0 = []
  len : ∀ j, j ≤ n → (acc j).length < sizeLine
  turn : ∀ j d, j < n → at_ j = some d → ∃ x y e1 b r, d = .tuple [x, y] ∧ LcP K g vs e x y e1 ∧ DB K tt e1 b ∧ (b = true → DE K te e1 (.dat r) ∧ acc (j + 1) = acc j ++ [r]) ∧ (b = false → acc (j + 1) = acc j)
theorem walk_zipT {a b : Addr} {xs ys : List V} {n : Nat} (hn : n = min xs.length ys.length) : L2.Walk (RZ.ItzT K a b) n (fun H => SqT K H a xs ∧ SqT K H b ys) (L2.YPair (fun i => xs[i]?) (fun i => ys[i]?)) := by
  subst hn
  refine ⟨fun i _ hi q => ?_, fun _ q => ⟨xs, ys, q.1, q.2, by omega⟩, fun i H v H' _ q y => ?_⟩
  · have h1 : i < xs.length := by omega
    have h2 : i < ys.length := by omega
    exact ⟨xs, ys, xs[i], ys[i], q.1, q.2, by simp [h1], by simp [h2]⟩
  · obtain ⟨T, x, z, h1, h2, h3, h4, h5⟩ := y
    exact ⟨T, x, z, h1, h2, h3, h4 xs q.1, h5 ys q.2⟩
def zipD (ds es : List PyData) (j : Nat) : Option PyData := match ds[j]?, es[j]? with
  | some x, some y => some (.tuple [x, y])
  | _, _ => none
theorem DE.lcZT {tr : TA} {te : TE} {tt : TT} {g : TG} {vs : List Nat} {n : Nat} {ds es : List PyData} {acc : Nat → List PyData} (hl : DA K tr e [.dat (.tuple ds), .dat (.tuple es)]) (hn : n = min ds.length es.length) (G : GrowG K tt te e g vs n (zipD ds es) acc) :
    DE K (tLc (RZ.iZipA K tr) g tt te vs) e (.own (acc n)) := fun H0 H σ Q R q => hl H0 H σ _ R fun ws H1 s r => by
  match ws, r with
  | [v, w], ⟨r1, r2, _⟩ =>
    obtain ⟨a, xs, rfl, ha, t⟩ := tup_of r1
    obtain ⟨b, ys, rfl, hb, u⟩ := tup_of r2
    have R1 : EnvR K H0 H1 σ e := EnvR.up R s
    refine ⟨a, b, xs, ys, rfl, .inr ⟨ha.sq, hb.sq, fun D nD => L2.lc_it (walk_zipT (n := n) (by rw [t.len, u.len]; exact hn)) (fun j H2 => (∃ ys, H2 D = some (.lst ys) ∧ TdAll H2 ys (acc j)) ∧ Same H1 H2) ⟨⟨[], upd_same, by rw [G.zero]; exact .nil⟩, Same.new nD⟩ (fun j H2 _ z => ⟨(ha.same z.2).sq, (hb.same z.2).sq⟩) (fun j x H2 H3 hj z y => ?_) fun H2 z => ?_⟩⟩
    · obtain ⟨T, x1, x2, rfl, nT, rfl, e1, e2⟩ := y
      have hx : j < ds.length := by omega
      have hy : j < es.length := by omega
      have s3 : Same H2 (upd H2 T (.tup [x1, x2])) := Same.new nT
      obtain ⟨v1, ev1, tv1⟩ := (t.same (z.2.trans s3)).get (List.getElem?_eq_getElem hx)
      obtain ⟨v2, ev2, tv2⟩ := (u.same (z.2.trans s3)).get (List.getElem?_eq_getElem hy)
      rw [show xs[j]? = some x1 from e1] at ev1
      rw [show ys[j]? = some x2 from e2] at ev2
      obtain rfl := Option.some.inj ev1
      obtain rfl := Option.some.inj ev2
      obtain ⟨d1, d2, e1, b, rr, ed, g0, g1, g2, g3⟩ := G.turn j (.tuple [ds[j], es[j]]) hj (by unfold zipD; rw [List.getElem?_eq_getElem hx, List.getElem?_eq_getElem hy])
      obtain ⟨zs, hz, tz⟩ := z.1
      cases ed
      exact lc_turnG R1 nD (fun Q => g0 H0 _ σ T x1 x2 Q (R1.up (z.2.trans s3)) upd_same tv1 tv2) g1 g2 g3 (G.len j (Nat.le_of_lt hj)) (z.2.trans s3) ⟨zs, s3 _ _ hz, tz.same s3⟩
    · obtain ⟨ys, hy, ty⟩ := z.1
      exact q _ _ (s.trans z.2) ⟨D, ys, rfl, s.free nD, hy, ty⟩
  | [], r => exact r.elim
  | [_], ⟨_, r⟩ => exact r.elim
  | _ :: _ :: _ :: _, ⟨_, _, r⟩ => exact r.elim
/-- two lists -/
theorem DE.lcZL {tr : TA} {te : TE} {tt : TT} {g : TG} {vs : List Nat} {n : Nat} {ds es : List PyData} {ca cb : Cell} {acc : Nat → List PyData} (hl : DA K tr e [ca, cb]) (la : lOf ca = some ds) (lb : lOf cb = some es) (hn : n = min ds.length es.length) (G : GrowG K tt te e g vs n (zipD ds es) acc) :
    DE K (tLc (RZ.iZipA K tr) g tt te vs) e (.own (acc n)) := fun H0 H σ Q R q => hl H0 H σ _ R fun ws H1 s r => by
  match ws, r with
  | [v, w], ⟨r1, r2, _⟩ =>
    obtain ⟨a, xs, rfl, ha, t⟩ := r1.lst la
    obtain ⟨b, ys, rfl, hb, u⟩ := r2.lst lb
    have R1 : EnvR K H0 H1 σ e := EnvR.up R s
    refine ⟨a, b, xs, ys, rfl, .inl ⟨SqL.of ha, SqL.of hb, fun D nD => L2.lc_it (walk_zip (n := n) (by rw [t.len, u.len]; exact hn)) (fun j H2 => (∃ ys, H2 D = some (.lst ys) ∧ TdAll H2 ys (acc j)) ∧ Same H1 H2) ⟨⟨[], upd_same, by rw [G.zero]; exact .nil⟩, Same.new nD⟩ (fun j H2 _ z => ⟨SqL.of (z.2 _ _ ha), SqL.of (z.2 _ _ hb)⟩) (fun j x H2 H3 hj z y => ?_) fun H2 z => ?_⟩⟩
    · obtain ⟨T, x1, x2, rfl, nT, rfl, e1, e2⟩ := y
      have hx : j < ds.length := by omega
      have hy : j < es.length := by omega
      have s3 : Same H2 (upd H2 T (.tup [x1, x2])) := Same.new nT
      obtain ⟨v1, ev1, tv1⟩ := (t.same (z.2.trans s3)).get (List.getElem?_eq_getElem hx)
      obtain ⟨v2, ev2, tv2⟩ := (u.same (z.2.trans s3)).get (List.getElem?_eq_getElem hy)
      rw [show xs[j]? = some x1 from e1] at ev1
      rw [show ys[j]? = some x2 from e2] at ev2
      obtain rfl := Option.some.inj ev1
      obtain rfl := Option.some.inj ev2
      obtain ⟨d1, d2, e1, b, rr, ed, g0, g1, g2, g3⟩ := G.turn j (.tuple [ds[j], es[j]]) hj (by unfold zipD; rw [List.getElem?_eq_getElem hx, List.getElem?_eq_getElem hy])
      obtain ⟨zs, hz, tz⟩ := z.1
      cases ed
      exact lc_turnG R1 nD (fun Q => g0 H0 _ σ T x1 x2 Q (R1.up (z.2.trans s3)) upd_same tv1 tv2) g1 g2 g3 (G.len j (Nat.le_of_lt hj)) (z.2.trans s3) ⟨zs, s3 _ _ hz, tz.same s3⟩
    · obtain ⟨ys, hy, ty⟩ := z.1
      exact q _ _ (s.trans z.2) ⟨D, ys, rfl, s.free nD, hy, ty⟩
  | [], r => exact r.elim
  | [_], ⟨_, r⟩ => exact r.elim
  | _ :: _ :: _ :: _, ⟨_, _, r⟩ => exact r.elim
theorem GrowG.map {te : TE} {n : Nat} {g : TG} {vs : List Nat} {at_ : Nat → Option PyData} (f : Nat → PyData) (hn : n < sizeLine) (h : ∀ j d, j < n → at_ j = some d → ∃ x y e1, d = .tuple [x, y] ∧ LcP K g vs e x y e1 ∧ DE K te e1 (.dat (f j))) : GrowG K tYes te e g vs n at_ (fun j => (List.range j).map f) := by
  refine ⟨rfl, fun j hj => ?_, fun j d hj ed => ?_⟩
  · rw [List.length_map, List.length_range]
    omega
  · obtain ⟨x, y, e1, h0, h1, h2⟩ := h j d hj ed
    exact ⟨x, y, e1, true, f j, h0, h1, DB.yes, fun _ => ⟨h2, range_more f j⟩, fun z => by cases z⟩
/-- all(a list of bools) -/
theorem TdAll.bls : ∀ {xs : List V} {bs : List Bool}, TdAll H xs (bs.map .bool) → xs = bs.map V.bl
  | _, [], h => by
    cases h
    rfl
  | _, b :: bs, h => by
    cases h with
    | cons h1 h2 =>
      cases h1
      rw [TdAll.bls h2]
      rfl
end
section
variable {K : PySem.W.Frag} {ε : Type} [Ctx ε] {e : ε} {c : Cell} {ta tb tc : TE} {tA : TT}
theorem DE.all {bs : List Bool} (ha : DE K ta e c) (hc : lOf c = some (bs.map .bool)) : DE K (tCB (rAll K) (tCons ta tNil)) e (.dat (.bool (bs.all id))) := fun H0 H σ Q R q => ha H0 H σ _ R fun x H1 s1 r => by
  obtain ⟨a, xs, rfl, ha, t⟩ := r.lst hc
  rw [t.bls] at ha
  exact ⟨a, bs, rfl, SqL.of ha, q _ _ s1 (.bl _)⟩
theorem DE.ifT (h : DB K tA e true) (h1 : DE K ta e c) : DE K (tIf tA ta tb) e c := DE.ifE h (fun _ => h1) fun z => by cases z
theorem DE.ifF (h : DB K tA e false) (h1 : DE K tb e c) : DE K (tIf tA ta tb) e c := DE.ifE h (fun z => by cases z) fun _ => h1
end
def Dk (k : Nat) (d : PyData) : Prop := d.canLay0 = true ∧ d.depth ≤ k
def DkAll (k : Nat) (ds : List PyData) : Prop := PyData.canLayAll0 ds = true ∧ PyData.depthAll ds ≤ k
theorem Dk.shp {k : Nat} {d : PyData} (h : Dk k d) (hk : k ≤ 64) : Shp d := by
  show SeqAt.shaped d = true
  unfold SeqAt.shaped
  rw [h.1, decide_eq_true (Nat.le_trans h.2 hk)]
  rfl
theorem Dk.int {k : Nat} (i : Int) : Dk k (.int i) := ⟨by simp [PyData.canLay0], by simp [PyData.depth]⟩
theorem Dk.non {k : Nat} : Dk k .none := ⟨rfl, by simp [PyData.depth]⟩
theorem Dk.bl {k : Nat} (b : Bool) : Dk k (.bool b) := ⟨by cases b <;> simp [PyData.canLay0], by simp [PyData.depth]⟩
theorem Dk.str {k : Nat} {x : Str} (h : (PyData.str x).canLay0 = true) : Dk k (.str x) := ⟨h, by simp [PyData.depth]⟩
theorem DkAll.nil {k : Nat} : DkAll k [] := ⟨rfl, by simp [PyData.depthAll]⟩
theorem DkAll.cons {k : Nat} {d : PyData} {ds : List PyData} (h : Dk k d) (t : DkAll k ds) : DkAll k (d :: ds) := ⟨by unfold PyData.canLayAll0; rw [h.1, t.1]; rfl, by unfold PyData.depthAll; exact Nat.max_le.mpr ⟨h.2, t.2⟩⟩
theorem DkAll.app {k : Nat} {es : List PyData} (t : DkAll k es) : ∀ {ds : List PyData}, DkAll k ds → DkAll k (ds ++ es)
  | [], _ => t
  | d :: ds, h => by
    have h1 := h.1
    have h2 := h.2
    unfold PyData.canLayAll0 at h1
    unfold PyData.depthAll at h2
    rw [Bool.and_eq_true] at h1
    have h2 := Nat.max_le.mp h2
    exact DkAll.cons ⟨h1.1, h2.1⟩ (DkAll.app t ⟨h1.2, h2.2⟩)
theorem DkAll.mem {k : Nat} : ∀ {ds : List PyData}, (∀ d ∈ ds, Dk k d) → DkAll k ds
  | [], _ => .nil
  | d :: ds, h => .cons (h d (List.mem_cons_self ..)) (DkAll.mem fun x hx => h x (List.mem_cons_of_mem _ hx))
theorem DkAll.ints {k : Nat} (ks : List Int) : DkAll k (ks.map .int) := DkAll.mem fun d hd => by
  obtain ⟨i, _, rfl⟩ := List.mem_map.mp hd
  exact Dk.int i
theorem Dk.tup {k : Nat} {ds : List PyData} (h : DkAll k ds) : Dk (k + 1) (.tuple ds) := ⟨by unfold PyData.canLay0; exact h.1, by unfold PyData.depth; have := h.2; omega⟩
theorem Dk.lst {k : Nat} {ds : List PyData} (h : DkAll k ds) : Dk (k + 1) (.list ds) := ⟨by unfold PyData.canLay0; exact h.1, by unfold PyData.depth; have := h.2; omega⟩
end Esp
set_option autoImplicit false
set_option maxRecDepth 100000
set_option maxHeartbeats 4000000
namespace Esp
open PySem PySem.Spec PyProof.Rows L2
section
variable {K : PySem.W.Frag} {ε : Type} [Ctx ε] {e : ε} {c : Cell} {ta tb tc : TE} {tA tB' : TT} {d d' : PyData}
theorem DE.eqSame (ha : DE K ta e (.dat d)) (hb : DE K tb e (.dat d')) (q : d = d') (h : Shp d) : DE K (tOp (rEqD K) ta tb) e (.dat (.bool true)) := by
  subst q
  exact DE.as (DE.eqD ha hb rfl rfl h h) (by rw [h.refl])
theorem DE.neSame (ha : DE K ta e (.dat d)) (hb : DE K tb e (.dat d')) (q : d = d') (h : Shp d) : DE K (tOp (rNeD K) ta tb) e (.dat (.bool false)) := by
  subst q
  exact DE.as (DE.neD ha hb rfl rfl h h) (by rw [h.refl]; rfl)
theorem DE.orT (h : DE K ta e (.dat (.bool true))) : DE K (tOrV ta tb) e (.dat (.bool true)) := DE.as (DE.or (b := true) h fun z => by cases z) rfl
theorem DE.andF (h : DE K ta e (.dat (.bool false))) : DE K (tAndV ta tb) e (.dat (.bool false)) := DE.as (DE.and (b := true) h fun z => by cases z) rfl
theorem DE.orF {b : Bool} (h : DE K ta e (.dat (.bool false))) (h2 : DE K tb e (.dat (.bool b))) : DE K (tOrV ta tb) e (.dat (.bool b)) := DE.as (DE.or (b := b) h fun _ => h2) rfl
theorem DE.andT {b : Bool} (h : DE K ta e (.dat (.bool true))) (h2 : DE K tb e (.dat (.bool b))) : DE K (tAndV ta tb) e (.dat (.bool b)) := DE.as (DE.and (b := b) h fun _ => h2) rfl
end
theorem DS.asgTo {K : PySem.W.Frag} {E : XK} {te : TE} {g : TG} {d : PyData} {e e' e2 : List Cell} (h : DE K te e (.dat d)) (hg : DG K g e d e') (he : e' = e2) : DS K E (tAsg te g) e (.next e2) := he ▸ DS.asg h hg
theorem cutD_from {ds : List PyData} {k : Int} (h : 0 ≤ k) : cutD ds (some k) none = ds.drop k.toNat := by
  obtain ⟨n, rfl⟩ := Int.eq_ofNat_of_zero_le h
  unfold cutD
  rw [HT.sIx_nat, HT.sIx_none]
  show List.take (ds.length - min n ds.length) (List.drop (min n ds.length) ds) = List.drop n ds
  by_cases q : n ≤ ds.length
  · rw [Nat.min_eq_left q]
    rw [List.take_of_length_le (by rw [List.length_drop]; omega)]
  · rw [Nat.min_eq_right (by omega), List.drop_eq_nil_of_le (Nat.le_refl _), List.drop_eq_nil_of_le (by omega)]
    simp
theorem cutD_to {ds : List PyData} {k : Int} (h : 0 ≤ k) : cutD ds none (some k) = ds.take k.toNat := by
  obtain ⟨n, rfl⟩ := Int.eq_ofNat_of_zero_le h
  unfold cutD
  rw [HT.sIx_nat, HT.sIx_none]
  show List.take (min n ds.length - 0) (List.drop 0 ds) = List.take n ds
  rw [List.drop_zero, Nat.sub_zero]
  by_cases q : n ≤ ds.length
  · rw [Nat.min_eq_left q]
  · rw [Nat.min_eq_right (by omega), List.take_length, List.take_of_length_le (by omega)]
def kAt (ks : List Int) (i : Int) : Int := ks.getD i.toNat 0
theorem atI_kAt {ks : List Int} {i : Int} (h0 : 0 ≤ i) (h1 : i < ks.length) : L2.atI (ks.map PyData.int) i = some (.int (kAt ks i)) := by
  obtain ⟨n, rfl⟩ := Int.eq_ofNat_of_zero_le h0
  unfold L2.atI
  rw [List.length_map, ixN_nat (by omega)]
  show (ks.map PyData.int)[n]? = _
  rw [List.getElem?_map, List.getElem?_eq_getElem (by omega)]
  unfold kAt
  show some (PyData.int ks[n]) = some (PyData.int (ks.getD n 0))
  rw [List.getD_eq_getElem?_getD, List.getElem?_eq_getElem (by omega)]
  rfl
theorem ixN_neg {n : Nat} (h : 0 < n) : ixN n (-1) = some (n - 1) := by
  unfold ixN
  rw [if_neg (by omega), if_pos (by omega)]
  congr 1
  omega
theorem atI_last {ks : List Int} (h : 0 < ks.length) : L2.atI (ks.map PyData.int) (-1) = some (.int (kAt ks ((ks.length : Int) - 1))) := by
  unfold L2.atI
  rw [List.length_map, ixN_neg h]
  show (ks.map PyData.int)[ks.length - 1]? = _
  rw [List.getElem?_map, List.getElem?_eq_getElem (by omega)]
  unfold kAt
  rw [show ((ks.length : Int) - 1).toNat = ks.length - 1 from by omega, List.getD_eq_getElem?_getD, List.getElem?_eq_getElem (by omega)]
  rfl
theorem any_int {a : Int} : ∀ ks : List Int, (ks.map PyData.int).any (fun z => PyData.eqv z (.int a)) = decide (a ∈ ks)
  | [] => by simp
  | k :: ks => by
    rw [List.map_cons, List.any_cons, any_int ks]
    show (PyData.eqv (.int k) (.int a) || _) = _
    have : PyData.eqv (.int k) (.int a) = decide (a = k) := by
      by_cases h : k = a
      · subst h
        simp [PyData.eqv]
      · rw [decide_eq_false (fun z : a = k => h z.symm)]
        simp [PyData.eqv]
        exact h
    rw [this]
    simp [List.mem_cons]
theorem any_non : ∀ ks : List Int, (ks.map PyData.int).any (fun z => PyData.eqv z .none) = false
  | [] => by simp
  | k :: ks => by
    rw [List.map_cons, List.any_cons, any_non ks]
    simp [PyData.eqv]
def bD : Option Int → PyData
  | none => .none
  | some i => .int i
abbrev ksD (ks : List Int) : PyData := .tuple (ks.map .int)
def btw (lo hi : Option Int) (k : Int) : Bool := (match lo with
  | none => true
  | some a => decide (a ≤ k)) && (match hi with
  | none => true
  | some b => decide (k < b))
def bok : Option Int → Option Int → Bool
  | some a, some b => decide (a < b)
  | _, _ => true
def ascB (ks : List Int) : Bool := decide (ks.Pairwise (· < ·))
def leafOk (lo hi : Option Int) (ks vs : List Int) : Bool := bok lo hi && decide (ks.length = vs.length) && (ascB ks && ks.all (btw lo hi))
def lowIn (lo : Option Int) (ks : List Int) : Bool := match lo with
  | none => false
  | some a => decide (a ∈ ks)
def innOk (lv : Int) (lo hi : Option Int) (ks ps : List Int) : Bool := decide (1 ≤ lv) && bok lo hi && decide (ps.length = ks.length + 1) && !lowIn lo ks && (ascB ks && ks.all (btw lo hi))
abbrev leafD (lo hi : Option Int) (ks vs : List Int) : PyData := .tuple [.str "leaf", bD lo, bD hi, ksD ks, ksD vs]
abbrev innD (lv : Int) (lo hi : Option Int) (ks ps : List Int) : PyData := .tuple [.str "inner", .int lv, bD lo, bD hi, ksD ks, ksD ps]
/-- records, and whether they are sound -/
inductive RecD : PyData → Bool → Prop
  | leaf (lo hi : Option Int) (ks vs : List Int) : ks.length ≤ 1000 → vs.length ≤ 1000 → RecD (leafD lo hi ks vs) (leafOk lo hi ks vs)
  | inn (lv : Int) (lo hi : Option Int) (ks ps : List Int) : ks.length ≤ 1000 → ps.length ≤ 1000 → RecD (innD lv lo hi ks ps) (innOk lv lo hi ks ps)
  | free (n : Int) : RecD (.tuple [.str "free", .int n]) true
theorem Dk.bD {k : Nat} (o : Option Int) : Dk k (Esp.bD o) := by
  cases o with
  | none => exact Dk.non
  | some i => exact Dk.int i
theorem Dk.ks {k : Nat} (ks : List Int) : Dk (k + 1) (ksD ks) := Dk.tup (DkAll.ints ks)
theorem dk_leaf {lo hi : Option Int} {ks vs : List Int} : Dk 3 (leafD lo hi ks vs) := Dk.tup (.cons (Dk.str (by decide +kernel)) (.cons (Dk.bD _) (.cons (Dk.bD _) (.cons (Dk.ks _) (.cons (Dk.ks _) .nil)))))
theorem dk_inn {lv : Int} {lo hi : Option Int} {ks vs : List Int} : Dk 3 (innD lv lo hi ks vs) := Dk.tup (.cons (Dk.str (by decide +kernel)) (.cons (Dk.int _) (.cons (Dk.bD _) (.cons (Dk.bD _) (.cons (Dk.ks _) (.cons (Dk.ks _) .nil))))))
/-- the pairs of neighbours -/
theorem asc_pairs : ∀ ks : List Int, ((List.range (ks.length - 1)).map fun j => decide (ks.getD j 0 < ks.getD (j + 1) 0)).all id = ascB ks
  | [] => by simp [ascB]
  | [a] => by simp [ascB]
  | a :: b :: r => by
    have ih := asc_pairs (b :: r)
    have e1 : (a :: b :: r).length - 1 = (b :: r).length - 1 + 1 := by simp
    rw [e1, List.range_succ_eq_map, List.map_cons, List.all_cons, List.map_map]
    have e2 : ((fun j => decide ((a :: b :: r).getD j 0 < (a :: b :: r).getD (j + 1) 0)) ∘ Nat.succ) = fun j => decide ((b :: r).getD j 0 < (b :: r).getD (j + 1) 0) := by
      funext j
      simp [Function.comp]
    rw [e2, ih]
    show (decide (a < b) && ascB (b :: r)) = ascB (a :: b :: r)
    unfold ascB
    rw [Bool.eq_iff_iff, Bool.and_eq_true, decide_eq_true_eq, decide_eq_true_eq, decide_eq_true_eq]
    constructor
    · rintro ⟨h1, h2⟩
      refine List.pairwise_cons.mpr ⟨fun x hx => ?_, h2⟩
      rcases List.mem_cons.mp hx with rfl | hx
      · exact h1
      · exact Int.lt_trans h1 ((List.pairwise_cons.mp h2).1 x hx)
    · intro h
      have := List.pairwise_cons.mp h
      exact ⟨this.1 b (List.mem_cons_self ..), this.2⟩
theorem all_keys (lo hi : Option Int) (ks : List Int) : ((List.range ks.length).map fun j => btw lo hi (ks.getD j 0)).all id = ks.all (btw lo hi) := by
  induction ks with
  | nil => rfl
  | cons a r ih =>
    rw [List.length_cons, List.range_succ_eq_map, List.map_cons, List.all_cons, List.map_map, List.all_cons, ← ih]
    rfl
theorem range_bools (f : Nat → Bool) (n : Nat) : ((List.range n).map fun j => PyData.bool (f j)) = ((List.range n).map f).map PyData.bool := by rw [List.map_map]; rfl
theorem getD_ints {ks : List Int} {j : Nat} {d : PyData} (h : (ks.map PyData.int)[j]? = some d) : d = .int (ks.getD j 0) := by
  rw [List.getElem?_map] at h
  rw [List.getD_eq_getElem?_getD]
  cases q : ks[j]? with
  | none =>
    rw [q] at h
    cases h
  | some x =>
    rw [q] at h
    exact (Option.some.inj h).symm
theorem zip_ints {ks : List Int} {j : Nat} {d : PyData} (h : zipD (ks.map PyData.int) ((ks.map PyData.int).drop 1) j = some d) : d = .tuple [.int (ks.getD j 0), .int (ks.getD (j + 1) 0)] := by
  unfold zipD at h
  rw [List.getElem?_drop, Nat.add_comm 1 j] at h
  cases q1 : (ks.map PyData.int)[j]? with
  | none =>
    rw [q1] at h
    cases h
  | some x =>
    cases q2 : (ks.map PyData.int)[j + 1]? with
    | none =>
      rw [q1, q2] at h
      cases h
    | some y =>
      rw [q1, q2] at h
      rw [← Option.some.inj h, getD_ints q1, getD_ints q2]
end Esp
set_option autoImplicit false
set_option maxRecDepth 100000
set_option maxHeartbeats 4000000
namespace Esp
open PySem PySem.Spec PyProof.Rows L2
abbrev PD := List Cell → Cell → Prop
abbrev PX := List Cell → Addr → Prop
def wh (d : PyData) : Bool := isIntD d && !isBlD d
@[simp] theorem wh_int (i : Int) : wh (.int i) = true := rfl
def KC (c : Cell) (ks : List Int) : Prop := c = .rd (ks.map .int) ∨ c = .dat (ksD ks)
theorem any_bD (lo : Option Int) (ks : List Int) : ((ks.map PyData.int).any fun z => PyData.eqv z (bD lo)) = lowIn lo ks := by
  cases lo with
  | none => exact any_non ks
  | some a => exact any_int ks
abbrev fWhole : PD := fun cs c => ∃ d : PyData, cs = [.dat d] ∧ c = .dat (.bool (wh d))
abbrev fAscend : PD := fun cs c => ∃ ks : List Int, cs = [.dat (ksD ks)] ∧ ks.length ≤ 1000 ∧ c = .dat (.bool (ascB ks))
abbrev fIsBound : PD := fun cs c => ∃ lo : Option Int, cs = [.dat (bD lo)] ∧ c = .dat (.bool true)
abbrev fBounds : PD := fun cs c => ∃ lo hi : Option Int, cs = [.dat (bD lo), .dat (bD hi)] ∧ c = .dat (.bool (bok lo hi))
abbrev fInts : PD := fun cs c => ∃ ks : List Int, cs = [.dat (ksD ks)] ∧ ks.length ≤ 1000 ∧ c = .dat (.bool true)
abbrev fBetween : PD := fun cs c => ∃ (lo hi : Option Int) (k : Int), cs = [.dat (bD lo), .dat (bD hi), .dat (.int k)] ∧ c = .dat (.bool (btw lo hi k))
abbrev fKeys : PD := fun cs c => ∃ (lo hi : Option Int) (ks : List Int), cs = [.dat (bD lo), .dat (bD hi), .dat (ksD ks)] ∧ ks.length ≤ 1000 ∧ c = .dat (.bool (ascB ks && ks.all (btw lo hi)))
abbrev fIsLeaf : PD := fun cs c => ∃ (lo hi : Option Int) (ks vs : List Int), cs = [.dat (leafD lo hi ks vs)] ∧ ks.length ≤ 1000 ∧ vs.length ≤ 1000 ∧ c = .dat (.bool (leafOk lo hi ks vs))
abbrev fIsInner : PD := fun cs c => ∃ (lv : Int) (lo hi : Option Int) (ks ps : List Int), cs = [.dat (innD lv lo hi ks ps)] ∧ ks.length ≤ 1000 ∧ ps.length ≤ 1000 ∧ c = .dat (.bool (innOk lv lo hi ks ps))
abbrev fIsRec : PD := fun cs c => ∃ (d : PyData) (b : Bool), cs = [.dat d] ∧ RecD d b ∧ c = .dat (.bool b)
abbrev fRow : PD := fun cs c => ∃ (ks : List Int) (cK : Cell), cs = [cK] ∧ KC cK ks ∧ c = .dat (ksD ks)
abbrev fSound : PD := fun cs c => ∃ d : PyData, cs = [.dat d] ∧ RecD d true ∧ c = .dat d
abbrev xSound (B : Addr) : PX := fun cs C => ∃ d : PyData, cs = [.dat d] ∧ RecD d false ∧ C = B
abbrev fLeaf : PD := fun cs c => ∃ (lo hi : Option Int) (ks vs : List Int) (cK cV : Cell), cs = [.dat (bD lo), .dat (bD hi), cK, cV] ∧ (KC cK ks ∧ KC cV vs ∧ ks.length ≤ 1000 ∧ vs.length ≤ 1000 ∧ leafOk lo hi ks vs = true) ∧ c = .dat (leafD lo hi ks vs)
abbrev xLeaf (B : Addr) : PX := fun cs C => ∃ (lo hi : Option Int) (ks vs : List Int) (cK cV : Cell), cs = [.dat (bD lo), .dat (bD hi), cK, cV] ∧ (KC cK ks ∧ KC cV vs ∧ ks.length ≤ 1000 ∧ vs.length ≤ 1000 ∧ leafOk lo hi ks vs = false) ∧ C = B
abbrev fInner : PD := fun cs c => ∃ (lv : Int) (lo hi : Option Int) (ks ps : List Int) (cK cP : Cell), cs = [.dat (.int lv), .dat (bD lo), .dat (bD hi), cK, cP] ∧ (KC cK ks ∧ KC cP ps ∧ ks.length ≤ 1000 ∧ ps.length ≤ 1000 ∧ innOk lv lo hi ks ps = true) ∧ c = .dat (innD lv lo hi ks ps)
abbrev xInner (B : Addr) : PX := fun cs C => ∃ (lv : Int) (lo hi : Option Int) (ks ps : List Int) (cK cP : Cell), cs = [.dat (.int lv), .dat (bD lo), .dat (bD hi), cK, cP] ∧ (KC cK ks ∧ KC cP ps ∧ ks.length ≤ 1000 ∧ ps.length ≤ 1000 ∧ innOk lv lo hi ks ps = false) ∧ C = B
/-- a leaf or an inner node -/
inductive Node : PyData → Int → Nat → Option Int → Option Int → Prop
  | leaf (lo hi : Option Int) (ks vs : List Int) : Node (leafD lo hi ks vs) 0 ks.length lo hi
  | inn (lv : Int) (lo hi : Option Int) (ks ps : List Int) : Node (innD lv lo hi ks ps) lv ps.length lo hi
abbrev fLevel : PD := fun cs c => ∃ (d : PyData) (lv : Int) (n : Nat) (lo hi : Option Int), cs = [.dat d] ∧ Node d lv n lo hi ∧ c = .dat (.int lv)
abbrev fSize : PD := fun cs c => ∃ (d : PyData) (lv : Int) (n : Nat) (lo hi : Option Int), cs = [.dat d] ∧ Node d lv n lo hi ∧ c = .dat (.int n)
abbrev fBoundsOf : PD := fun cs c => ∃ (d : PyData) (lv : Int) (n : Nat) (lo hi : Option Int), cs = [.dat d] ∧ Node d lv n lo hi ∧ c = .dat (.tuple [bD lo, bD hi])
section
variable {K : PySem.W.Frag} {E : XK} {e : List Cell}
theorem row_of {i : Nat} {cK : Cell} {ks : List Int} (hi : e[i]? = some cK) (hK : KC cK ks) : DE K (tCall (spD K fRow) [] E (tCons (tVar i) tNil)) e (.dat (ksD ks)) := by
  rcases hK with rfl | rfl
  · exact DE.call (DA.cons (DE.varR hi) DA.nil) ⟨_, _, rfl, .inl rfl, rfl⟩
  · exact DE.call (DA.cons (DE.varD hi) DA.nil) ⟨_, _, rfl, .inr rfl, rfl⟩
end
end Esp
set_option autoImplicit false
set_option maxRecDepth 100000
set_option maxHeartbeats 4000000
namespace Esp
open PySem PySem.Spec PyProof.Rows L2
section
variable {K : PySem.W.Frag} {ε : Type} [Ctx ε] {e : ε} {c : Cell} {ta tb tc : TE} {tr : TA}
theorem DE.slTo {ks : List Int} {k : Int} (ha : DE K ta e (.dat (.tuple (ks.map .int)))) (hb : DE K tb e (.dat (.int k))) (h : 0 ≤ k) : DE K (tSl (rSlN K) ta tNoPart (tPart tb)) e (.dat (.tuple ((ks.take k.toNat).map .int))) :=
  DE.as (DE.slT ha DO.no (DO.some hb)) (by rw [cutD_to h, List.map_take])
theorem DE.slFrom {ks : List Int} {k : Int} (ha : DE K ta e (.dat (.tuple (ks.map .int)))) (hb : DE K tb e (.dat (.int k))) (h : 0 ≤ k) : DE K (tSl (rSlN K) ta (tPart tb) tNoPart) e (.dat (.tuple ((ks.drop k.toNat).map .int))) :=
  DE.as (DE.slT ha (DO.some hb) DO.no) (by rw [cutD_from h, List.map_drop])
theorem DE.catK {ks ls : List Int} (ha : DE K ta e (.dat (.tuple (ks.map .int)))) (hb : DE K tb e (.dat (.tuple (ls.map .int)))) (h : ks.length + ls.length ≤ 1000000) : DE K (tOp (rCatN K) ta tb) e (.dat (.tuple ((ks ++ ls).map .int))) :=
  DE.as (DE.catT ha hb (by rw [List.length_map, List.length_map]; exact small9 h)) (by rw [List.map_append])
theorem DE.one1 {a : Int} (ha : DE K ta e (.dat (.int a))) : DE K (tTupN (tCons ta tNil)) e (.dat (.tuple ([a].map .int))) := DE.tupD (DD.cons ha DD.nil) (small9 (Nat.le_of_ble_eq_true rfl))
theorem leaf_of {E : XK} {C : Addr} {lo hi : Option Int} {ks vs : List Int} (h : DA K tr e [.dat (bD lo), .dat (bD hi), .dat (ksD ks), .dat (ksD vs)]) (hk : ks.length ≤ 1000) (hv : vs.length ≤ 1000) (ok : leafOk lo hi ks vs = true) : DE K (tCall (spDX K fLeaf (xLeaf C)) [] E tr) e (.dat (leafD lo hi ks vs)) :=
  DE.callX h ⟨_, _, _, _, _, _, rfl, ⟨.inr rfl, .inr rfl, hk, hv, ok⟩, rfl⟩
theorem inner_of {E : XK} {C : Addr} {lv : Int} {lo hi : Option Int} {ks vs : List Int} (h : DA K tr e [.dat (.int lv), .dat (bD lo), .dat (bD hi), .dat (ksD ks), .dat (ksD vs)]) (hk : ks.length ≤ 1000) (hv : vs.length ≤ 1000) (ok : innOk lv lo hi ks vs = true) : DE K (tCall (spDX K fInner (xInner C)) [] E tr) e (.dat (innD lv lo hi ks vs)) :=
  DE.callX h ⟨_, _, _, _, _, _, _, rfl, ⟨.inr rfl, .inr rfl, hk, hv, ok⟩, rfl⟩
end
theorem bok_iff {lo hi : Option Int} : bok lo hi = true ↔ ∀ a b, lo = some a → hi = some b → a < b := by
  cases lo <;> cases hi <;> simp [bok]
theorem btw_iff {lo hi : Option Int} {k : Int} : btw lo hi k = true ↔ (∀ a, lo = some a → a ≤ k) ∧ ∀ b, hi = some b → k < b := by
  cases lo <;> cases hi <;> simp [btw]
theorem asc_iff {ks : List Int} : ascB ks = true ↔ ks.Pairwise (· < ·) := by simp [ascB]
theorem lowIn_iff {lo : Option Int} {ks : List Int} : lowIn lo ks = false ↔ ∀ a, lo = some a → a ∉ ks := by
  cases lo <;> simp [lowIn]
structure LeafP (lo hi : Option Int) (ks vs : List Int) : Prop where
  b : ∀ a b, lo = some a → hi = some b → a < b
  l : ks.length = vs.length
  p : ks.Pairwise (· < ·)
  k : ∀ k ∈ ks, (∀ a, lo = some a → a ≤ k) ∧ ∀ b, hi = some b → k < b
theorem leafOk_iff {lo hi : Option Int} {ks vs : List Int} : leafOk lo hi ks vs = true ↔ LeafP lo hi ks vs := by
  unfold leafOk
  rw [Bool.and_eq_true, Bool.and_eq_true, Bool.and_eq_true, bok_iff, decide_eq_true_eq, asc_iff, List.all_eq_true]
  constructor
  · rintro ⟨⟨h1, h2⟩, h3, h4⟩
    exact ⟨h1, h2, h3, fun k hk => btw_iff.mp (h4 k hk)⟩
  · rintro ⟨h1, h2, h3, h4⟩
    exact ⟨⟨h1, h2⟩, h3, fun k hk => btw_iff.mpr (h4 k hk)⟩
structure InnP (lv : Int) (lo hi : Option Int) (ks ps : List Int) : Prop where
  v : 1 ≤ lv
  b : ∀ a b, lo = some a → hi = some b → a < b
  l : ps.length = ks.length + 1
  p : ks.Pairwise (· < ·)
  k : ∀ k ∈ ks, (∀ a, lo = some a → a < k) ∧ ∀ b, hi = some b → k < b
theorem innOk_iff {lv : Int} {lo hi : Option Int} {ks ps : List Int} : innOk lv lo hi ks ps = true ↔ InnP lv lo hi ks ps := by
  unfold innOk
  rw [Bool.and_eq_true, Bool.and_eq_true, Bool.and_eq_true, Bool.and_eq_true, Bool.and_eq_true, bok_iff, decide_eq_true_eq, decide_eq_true_eq, asc_iff, List.all_eq_true, Bool.not_eq_true', lowIn_iff]
  constructor
  · rintro ⟨⟨⟨⟨h0, h1⟩, h2⟩, h5⟩, h3, h4⟩
    refine ⟨h0, h1, h2, h3, fun k hk => ⟨fun a ha => ?_, (btw_iff.mp (h4 k hk)).2⟩⟩
    have h6 := (btw_iff.mp (h4 k hk)).1 a ha
    have h7 : a ≠ k := fun z => h5 a ha (z ▸ hk)
    omega
  · rintro ⟨h0, h1, h2, h3, h4⟩
    refine ⟨⟨⟨⟨h0, h1⟩, h2⟩, fun a ha hm => ?_⟩, h3, fun k hk => btw_iff.mpr ⟨fun a ha => ?_, (h4 k hk).2⟩⟩
    · have := (h4 a hm).1 a ha
      omega
    · have := (h4 k hk).1 a ha
      omega
theorem kAt_mem {ks : List Int} {i : Int} (h0 : 0 ≤ i) (h1 : i < ks.length) : kAt ks i ∈ ks := by
  unfold kAt
  rw [List.getD_eq_getElem?_getD, List.getElem?_eq_getElem (by omega)]
  exact List.getElem_mem _
theorem take_lt {ks : List Int} (p : ks.Pairwise (· < ·)) {h : Nat} (hh : h < ks.length) : ∀ k ∈ ks.take h, k < kAt ks h := by
  intro k hk
  obtain ⟨i, hi, rfl⟩ := List.mem_take_iff_getElem.mp hk
  unfold kAt
  rw [Int.toNat_natCast, List.getD_eq_getElem?_getD, List.getElem?_eq_getElem hh]
  exact List.pairwise_iff_getElem.mp p i h _ hh (by omega)
theorem drop_ge {ks : List Int} (p : ks.Pairwise (· < ·)) {h : Nat} (hh : h < ks.length) : ∀ k ∈ ks.drop h, kAt ks h ≤ k := by
  intro k hk
  obtain ⟨i, hi, rfl⟩ := List.mem_drop_iff_getElem.mp hk
  unfold kAt
  rw [Int.toNat_natCast, List.getD_eq_getElem?_getD, List.getElem?_eq_getElem hh]
  show ks[h] ≤ ks[h + i]
  by_cases z : i = 0
  · subst z
    exact Int.le_refl _
  · exact Int.le_of_lt (List.pairwise_iff_getElem.mp p h (h + i) hh (by omega) (by omega))
theorem drop_gt {ks : List Int} (p : ks.Pairwise (· < ·)) {h : Nat} (hh : h < ks.length) : ∀ k ∈ ks.drop (h + 1), kAt ks h < k := by
  intro k hk
  obtain ⟨i, hi, rfl⟩ := List.mem_drop_iff_getElem.mp hk
  unfold kAt
  rw [Int.toNat_natCast, List.getD_eq_getElem?_getD, List.getElem?_eq_getElem hh]
  exact List.pairwise_iff_getElem.mp p h (h + 1 + i) hh (by omega) (by omega)
theorem LeafP.low {lo hi : Option Int} {ks vs : List Int} (L : LeafP lo hi ks vs) {h : Nat} (h0 : 0 < h) (hh : h < ks.length) : LeafP lo (some (kAt ks h)) (ks.take h) (vs.take h) := by
  refine ⟨fun a b ha hb => ?_, by rw [List.length_take, List.length_take, L.l], L.p.sublist (List.take_sublist _ _), fun k hk => ⟨(L.k k (List.mem_of_mem_take hk)).1, fun b hb => ?_⟩⟩
  · cases hb
    have h1 : kAt ks ((0 : Nat) : Int) ∈ ks.take h := by
      unfold kAt
      rw [Int.toNat_natCast, List.getD_eq_getElem?_getD, List.getElem?_eq_getElem (by omega)]
      exact List.mem_take_iff_getElem.mpr ⟨0, by omega, rfl⟩
    have h2 := take_lt L.p hh _ h1
    have h3 := (L.k _ (List.mem_of_mem_take h1)).1 a ha
    omega
  · cases hb
    exact take_lt L.p hh k hk
theorem LeafP.high {lo hi : Option Int} {ks vs : List Int} (L : LeafP lo hi ks vs) {h : Nat} (hh : h < ks.length) : LeafP (some (kAt ks h)) hi (ks.drop h) (vs.drop h) := by
  refine ⟨fun a b ha hb => ?_, by rw [List.length_drop, List.length_drop, L.l], L.p.sublist (List.drop_sublist _ _), fun k hk => ⟨fun a ha => ?_, (L.k k (List.mem_of_mem_drop hk)).2⟩⟩
  · cases ha
    exact (L.k _ (kAt_mem (by omega) (by omega))).2 b hb
  · cases ha
    exact drop_ge L.p hh k hk
theorem InnP.low {lv : Int} {lo hi : Option Int} {ks ps : List Int} (L : InnP lv lo hi ks ps) {h : Nat} (hh : h < ks.length) : InnP lv lo (some (kAt ks h)) (ks.take h) (ps.take (h + 1)) := by
  refine ⟨L.v, fun a b ha hb => ?_, ?_, L.p.sublist (List.take_sublist _ _), fun k hk => ⟨(L.k k (List.mem_of_mem_take hk)).1, fun b hb => ?_⟩⟩
  · cases hb
    exact (L.k _ (kAt_mem (by omega) (by omega))).1 a ha
  · have := L.l
    rw [List.length_take, List.length_take]
    omega
  · cases hb
    exact take_lt L.p hh k hk
theorem InnP.high {lv : Int} {lo hi : Option Int} {ks ps : List Int} (L : InnP lv lo hi ks ps) {h : Nat} (hh : h < ks.length) : InnP lv (some (kAt ks h)) hi (ks.drop (h + 1)) (ps.drop (h + 1)) := by
  refine ⟨L.v, fun a b ha hb => ?_, ?_, L.p.sublist (List.drop_sublist _ _), fun k hk => ⟨fun a ha => ?_, (L.k k (List.mem_of_mem_drop hk)).2⟩⟩
  · cases ha
    exact (L.k _ (kAt_mem (by omega) (by omega))).2 b hb
  · have := L.l
    rw [List.length_drop, List.length_drop]
    omega
  · cases ha
    exact drop_gt L.p hh k hk
def cutL (lo hi : Option Int) (ks vs : List Int) (h : Nat) : PyData := .tuple [leafD lo (some (kAt ks h)) (ks.take h) (vs.take h), .int (kAt ks h), leafD (some (kAt ks h)) hi (ks.drop h) (vs.drop h)]
def cutI (lv : Int) (lo hi : Option Int) (ks ps : List Int) (h : Nat) : PyData := .tuple [innD lv lo (some (kAt ks h)) (ks.take h) (ps.take (h + 1)), .int (kAt ks h), innD lv (some (kAt ks h)) hi (ks.drop (h + 1)) (ps.drop (h + 1))]
inductive CutD : PyData → PyData → Prop
  | leaf (lo hi : Option Int) (ks vs : List Int) : LeafP lo hi ks vs → 2 ≤ ks.length → ks.length ≤ 1000 → CutD (leafD lo hi ks vs) (cutL lo hi ks vs ((ks.length + 1) / 2))
  | inn (lv : Int) (lo hi : Option Int) (ks ps : List Int) : InnP lv lo hi ks ps → 1 ≤ ks.length → ks.length ≤ 900 → CutD (innD lv lo hi ks ps) (cutI lv lo hi ks ps (ks.length / 2))
abbrev fCut : PD := fun cs c => ∃ d d' : PyData, cs = [.dat d] ∧ CutD d d' ∧ c = .dat d'
abbrev fCutLeaf : PD := fun cs c => ∃ (lo hi : Option Int) (ks vs : List Int) (h : Nat), cs = [.dat (leafD lo hi ks vs), .dat (.int h)] ∧ (LeafP lo hi ks vs ∧ 0 < h ∧ h < ks.length ∧ ks.length ≤ 1000) ∧ c = .dat (cutL lo hi ks vs h)
abbrev fCutInner : PD := fun cs c => ∃ (lv : Int) (lo hi : Option Int) (ks ps : List Int) (h : Nat), cs = [.dat (innD lv lo hi ks ps), .dat (.int ((h : Int) + 1))] ∧ (InnP lv lo hi ks ps ∧ h < ks.length ∧ ks.length ≤ 900) ∧ c = .dat (cutI lv lo hi ks ps h)
inductive JoinD : PyData → Int → PyData → PyData → Prop
  | leaf (lo m m' hi : Option Int) (ks vs ks' vs' : List Int) (s : Int) : LeafP lo hi (ks ++ ks') (vs ++ vs') → (ks ++ ks').length ≤ 1000 → JoinD (leafD lo m ks vs) s (leafD m' hi ks' vs') (leafD lo hi (ks ++ ks') (vs ++ vs'))
  | inn (lv : Int) (lo m m' hi : Option Int) (ks ps ks' ps' : List Int) (s : Int) : InnP lv lo hi (ks ++ [s] ++ ks') (ps ++ ps') → (ks ++ [s] ++ ks').length ≤ 900 → JoinD (innD lv lo m ks ps) s (innD lv m' hi ks' ps') (innD lv lo hi (ks ++ [s] ++ ks') (ps ++ ps'))
abbrev fJoined : PD := fun cs c => ∃ (a : PyData) (s : Int) (b d : PyData), cs = [.dat a, .dat (.int s), .dat b] ∧ JoinD a s b d ∧ c = .dat d
end Esp
namespace Esp
open PySem PySem.Spec PyProof.Rows L2
section
variable {K : PySem.W.Frag} {ε : Type} [Ctx ε] {e : ε} {ta tb : TE}
theorem DE.cell {E : XK} {ns : List Int} {k : Int} (ha : DE K ta e (.scr ns)) (hb : DE K tb e (.dat (.int k))) (h : 0 ≤ k) : DE K (tCall (spD K fCell) [] E (tCons ta (tCons tb tNil))) e (.dat (.int (cellAt ns k))) :=
  DE.call (DA.cons ha (DA.cons hb DA.nil)) ⟨_, _, rfl, h, rfl⟩
end
theorem atI_3 {a b c : Int} {i : Int} (h0 : 0 ≤ i) (h1 : i < 3) : L2.atI [PyData.int a, .int b, .int c] i = some (.int ([a, b, c].getD i.toNat 0)) := by
  have : i = 0 ∨ i = 1 ∨ i = 2 := by omega
  rcases this with rfl | rfl | rfl <;> rfl
theorem at3_ge {a b c m : Int} {i : Int} (h0 : 0 ≤ i) (h1 : i < 3) (ha : m ≤ a) (hb : m ≤ b) (hc : m ≤ c) : m ≤ [a, b, c].getD i.toNat 0 := by
  have : i = 0 ∨ i = 1 ∨ i = 2 := by omega
  rcases this with rfl | rfl | rfl
  · exact ha
  · exact hb
  · exact hc
/-- (None, a, b)[i] -/
def opt3 (a b i : Int) : Option Int := if i = 0 then none else if i = 1 then some a else some b
theorem atI_opt {a b : Int} {i : Int} (h0 : 0 ≤ i) (h1 : i < 3) : L2.atI [PyData.none, .int a, .int b] i = some (bD (opt3 a b i)) := by
  have : i = 0 ∨ i = 1 ∨ i = 2 := by omega
  rcases this with rfl | rfl | rfl <;> rfl
theorem opt3_some {a b i x : Int} (h : opt3 a b i = some x) : x = a ∨ x = b := by
  unfold opt3 at h
  split at h
  · cases h
  · split at h
    · exact .inl (Option.some.inj h).symm
    · exact .inr (Option.some.inj h).symm
theorem asc_ge {ks : List Int} (p : ks.Pairwise (· < ·)) (h : 0 < ks.length) : ∀ k ∈ ks, kAt ks 0 ≤ k := by
  have := drop_ge p (h := 0) h
  rw [List.drop_zero] at this
  exact this
theorem asc_le {ks : List Int} (p : ks.Pairwise (· < ·)) (h : 0 < ks.length) : ∀ k ∈ ks, k ≤ kAt ks ((ks.length : Int) - 1) := by
  intro k hk
  obtain ⟨i, hi, rfl⟩ := List.mem_iff_getElem.mp hk
  unfold kAt
  rw [show ((ks.length : Int) - 1).toNat = ks.length - 1 from by omega, List.getD_eq_getElem?_getD, List.getElem?_eq_getElem (by omega)]
  show ks[i] ≤ ks[ks.length - 1]
  by_cases z : i = ks.length - 1
  · subst z
    exact Int.le_refl _
  · exact Int.le_of_lt (List.pairwise_iff_getElem.mp p i (ks.length - 1) hi (by omega) (by omega))
theorem range_ints (f : Nat → Int) (n : Nat) : ((List.range n).map fun j => PyData.int (f j)) = ((List.range n).map f).map PyData.int := by rw [List.map_map]; rfl
/-- a list of the items by their indexes -/
theorem range_items (ds : List PyData) : ((List.range ds.length).map fun j => ds.getD j .none) = ds := by
  apply List.ext_getElem
  · simp
  · intro i h1 h2
    rw [List.getElem_map, List.getElem_range, List.getD_eq_getElem?_getD, List.getElem?_eq_getElem h2]
    rfl
theorem atI_getD {ds : List PyData} {j : Nat} (h : j < ds.length) : L2.atI ds (j : Int) = some (ds.getD j .none) := by
  unfold L2.atI
  rw [ixN_nat h]
  show ds[j]? = _
  rw [List.getD_eq_getElem?_getD, List.getElem?_eq_getElem h]
  rfl
end Esp
namespace Esp
theorem Dk.shp8 {d : PySem.PyData} (h : Dk 8 d) : Shp d := h.shp (by decide)
end Esp
set_option autoImplicit false
set_option maxRecDepth 100000
set_option maxHeartbeats 4000000
namespace Esp
open PySem PySem.Spec PyProof.Rows L2
mutual
theorem Fz.ofTd {H : Hp} : ∀ (d : PyData) (v : V), Td H v d → Fz H v d
  | .none, _, h => by
    cases h
    exact .non
  | .bool _, _, h => by
    cases h
    exact .bl _
  | .int _, _, h => by
    cases h
    exact .int _
  | .str _, _, h => by
    cases h
    exact .str _
  | .tuple ds, _, h => by
    cases h with
    | tup hs ha => exact .tup hs (FzAll.ofTd ds _ ha)
  | .list ds, _, h => by cases h
  | .dict _, _, h => by cases h
theorem FzAll.ofTd {H : Hp} : ∀ (ds : List PyData) (vs : List V), TdAll H vs ds → FzAll H vs ds
  | [], _, h => by
    cases h
    exact .nil
  | d :: ds, _, h => by
    cases h with
    | cons h1 h2 => exact .cons (Fz.ofTd d _ h1) (FzAll.ofTd ds _ h2)
end
mutual
theorem Fz.dp {K : PySem.W.Frag} {H : Hp} : ∀ (d : PyData) (v : V), Fz H v d → Dp K H v d
  | .none, _, h => by
    cases h
    exact .non
  | .bool _, _, h => by
    cases h
    exact .bl _
  | .int _, _, h => by
    cases h
    exact .int _
  | .str _, _, h => by
    cases h
    exact .str _
  | .tuple ds, _, h => by
    cases h with
    | tup hs ha => exact .tup hs.sq (FzAll.dp ds _ ha)
  | .list ds, _, h => by
    cases h with
    | lst hs ha => exact .lst (SqL.of hs) (FzAll.dp ds _ ha)
  | .dict _, _, h => by cases h
theorem FzAll.dp {K : PySem.W.Frag} {H : Hp} : ∀ (ds : List PyData) (vs : List V), FzAll H vs ds → DpAll K H vs ds
  | [], _, h => by
    cases h
    exact .nil
  | d :: ds, _, h => by
    cases h with
    | cons h1 h2 => exact .cons (Fz.dp d _ h1) (FzAll.dp ds _ h2)
end
mutual
/-- no list in it -/
def flatD : PyData → Bool
  | .list _ => false
  | .dict _ => false
  | .tuple ds => flatAll ds
  | _ => true
def flatAll : List PyData → Bool
  | [] => true
  | d :: ds => flatD d && flatAll ds
end
mutual
theorem Fz.td {H : Hp} : ∀ (d : PyData) (v : V), flatD d = true → Fz H v d → Td H v d
  | .none, _, _, h => by
    cases h
    exact .non
  | .bool _, _, _, h => by
    cases h
    exact .bl _
  | .int _, _, _, h => by
    cases h
    exact .int _
  | .str _, _, _, h => by
    cases h
    exact .str _
  | .tuple ds, _, f, h => by
    cases h with
    | tup hs ha => exact .tup hs (FzAll.td ds _ (by unfold flatD at f; exact f) ha)
  | .list ds, _, f, h => by simp [flatD] at f
  | .dict _, _, _, h => by cases h
theorem FzAll.td {H : Hp} : ∀ (ds : List PyData) (vs : List V), flatAll ds = true → FzAll H vs ds → TdAll H vs ds
  | [], _, _, h => by
    cases h
    exact .nil
  | d :: ds, _, f, h => by
    unfold flatAll at f
    rw [Bool.and_eq_true] at f
    cases h with
    | cons h1 h2 => exact .cons (Fz.td d _ f.1 h1) (FzAll.td ds _ f.2 h2)
end
theorem FzAll.len {H : Hp} : ∀ {vs : List V} {ds : List PyData}, FzAll H vs ds → vs.length = ds.length
  | [], _, h => by
    cases h
    rfl
  | _ :: _, _, h => by
    cases h with
    | cons h1 h2 => simp [FzAll.len h2]
theorem FzAll.get {H : Hp} : ∀ {xs : List V} {ds : List PyData} {i : Nat} {d : PyData}, FzAll H xs ds → ds[i]? = some d → ∃ v, xs[i]? = some v ∧ Fz H v d
  | [], _, i, d, h, e => by
    cases h
    simp at e
  | _ :: _, _, i, d, h, e => by
    cases h with
    | cons h1 h2 =>
      cases i with
      | zero =>
        simp at e
        subst e
        exact ⟨_, rfl, h1⟩
      | succ i =>
        simp at e
        obtain ⟨v, q, t⟩ := FzAll.get h2 e
        exact ⟨v, by simpa using q, t⟩
/-- the cell of a frozen part -/
def cellOf (d : PyData) : Cell := if flatD d = true then .dat d else match d with
  | .list ds => if flatAll ds = true then .rd ds else .fz d
  | _ => .fz d
/-- what a cell is, as data -/
def zOf : Cell → Option PyData
  | .dat d => some d
  | .rd ds => some (.list ds)
  | .own ds => some (.list ds)
  | .fix (.fz d) => some d
  | _ => none
section
variable {K : PySem.W.Frag} {E : XK} {H0 : Bs} {H H' H1 : Hp} {σ : L2.St} {e : List Cell}
theorem Fz.cell {v : V} {d : PyData} (h : Fz H' v d) : ValR K H H' v (cellOf d) := by
  unfold cellOf
  split
  · next f => exact Fz.td d v f h
  · next f =>
    split
    · next ds =>
      split
      · next g =>
        cases h with
        | lst hs ha => exact ⟨_, _, rfl, hs, FzAll.td ds _ g ha⟩
      · cases h with
        | lst hs ha => exact ⟨_, rfl, .lst hs ha⟩
    · next d hd =>
      cases h with
      | tup hs ha => exact ⟨_, rfl, .tup hs ha⟩
      | lst hs ha => exact ⟨_, rfl, .lst hs ha⟩
      | non => simp [flatD] at f
      | bl b => simp [flatD] at f
      | int b => simp [flatD] at f
      | str b => simp [flatD] at f
theorem ValR.fz {v : V} {d : PyData} : ∀ {c : Cell}, zOf c = some d → ValR K H H' v c → Fz H' v d
  | .dat _, h, r => by
    cases h
    exact Fz.ofTd _ _ r
  | .rd _, h, ⟨a, xs, e, hx, t⟩ => by
    cases h
    subst e
    exact .lst hx (FzAll.ofTd _ _ t)
  | .own _, h, ⟨a, xs, e, n, hx, t⟩ => by
    cases h
    subst e
    exact .lst hx (FzAll.ofTd _ _ t)
  | .fix (.fz _), h, ⟨a, e, t⟩ => by
    cases h
    subst e
    exact t
  | .fix (.obj _ _), h, _ => by cases h
  | .fix (.scr _), h, _ => by cases h
  | .fix (.dct _), h, _ => by cases h
  | .un, h, _ => by cases h
  | .raw _, h, _ => by cases h
  | .cst _, h, _ => by cases h
  | .rng _ _, h, _ => by cases h
theorem view_own : ∀ e : List Cell, (e.map view).all (fun c => !isOwn c) = true := all_view
theorem Slots.view : ∀ {σ : L2.St} {e : List Cell}, Same H0.b H → Slots K H0 H σ e → Slots K ⟨H, H⟩ H σ (e.map view)
  | [], [], _, _ => trivial
  | o :: σ, c :: e, s, ⟨h, t⟩ => by
    refine ⟨?_, Slots.view s t⟩
    cases c with
    | un => exact h
    | raw _ => exact h
    | dat _ => exact h
    | cst _ => exact h
    | rd _ => exact h
    | own _ =>
      obtain ⟨a, xs, e, n, hx, t⟩ := h
      exact ⟨a, xs, e, hx, t⟩
    | rng _ _ => exact h
    | fix k =>
      obtain ⟨a, e, q⟩ := h
      exact ⟨a, e, q.up s⟩
  | [], _ :: _, _, h => h.elim
  | _ :: _, [], _, h => h.elim
theorem EnvR.view (R : EnvR K H0 H σ e) : EnvR K ⟨H, H⟩ H σ (e.map view) := ⟨Same.refl H, Same.refl H, R.sl.view (R.bs.trans R.sm), Apart.noOwn (view_own e)⟩
theorem cellOf_own (d : PyData) : isOwn (cellOf d) = false := by
  unfold cellOf
  split
  · rfl
  · split
    · split <;> rfl
    · rfl
theorem SlotR.cell {v : V} {d : PyData} (h : Fz H v d) : SlotR K ⟨H, H⟩ H (some v) (cellOf d) := by
  unfold cellOf
  split
  · next f => exact ⟨v, rfl, Fz.td d v f h⟩
  · next f =>
    split
    · next ds =>
      split
      · next g =>
        cases h with
        | lst hs ha => exact ⟨_, _, rfl, hs, FzAll.td ds _ g ha⟩
      · cases h with
        | lst hs ha => exact ⟨_, rfl, .lst hs ha⟩
    · next d hd =>
      cases h with
      | tup hs ha => exact ⟨_, rfl, .tup hs ha⟩
      | lst hs ha => exact ⟨_, rfl, .lst hs ha⟩
      | non => simp [flatD] at f
      | bl b => simp [flatD] at f
      | int b => simp [flatD] at f
      | str b => simp [flatD] at f
theorem noOwn_set {e : List Cell} {c : Cell} (i : Nat) (h : e.all (fun c => !isOwn c) = true) (hc : isOwn c = false) : (e.set i c).all (fun c => !isOwn c) = true := by
  rw [List.all_eq_true] at h ⊢
  intro x hx
  rcases List.mem_or_eq_of_mem_set hx with h1 | h1
  · exact h x h1
  · rw [h1, hc]
    rfl
theorem EnvR.putZ {i : Nat} {v : V} {d : PyData} (R : EnvR K ⟨H, H⟩ H σ e) (no : e.all (fun c => !isOwn c) = true) (h : Fz H v d) : EnvR K ⟨H, H⟩ H (σ.set i (some v)) (e.set i (cellOf d)) :=
  ⟨R.bs, R.sm, R.sl.set i (SlotR.cell h), Apart.noOwn (noOwn_set i no (cellOf_own d))⟩
def finO : Out → Bool
  | .ret _ => true
  | .exc _ => true
  | _ => false
theorem OutK.rebase {D : Ends} {o : Out} (hf : finO o = true) (q : OutK K D E H0 o) (s : Same H0.h H1) : OutK K D E ⟨H1, H1⟩ o := by
  cases o with
  | ret c => exact fun v H' s2 r => q v H' (s.trans s2) (r.low s)
  | exc C => exact fun H' s2 => q H' (s.trans s2)
  | next _ => cases hf
  | brk _ => cases hf
  | cont _ => cases hf
/-- all stays as it stands from here on -/
theorem DS.rebase {t : TS} {o : Out} (h : DS K E t (e.map Esp.view) o) (hf : finO o = true) : DS K E t e o := fun H0 H σ D R q => h ⟨H, H⟩ H σ D R.view (q.rebase hf R.sm)
theorem DW.rebase {t : TS} {P : Out → Prop} (h : DW K E t (e.map Esp.view) P) (hf : ∀ o, P o → finO o = true) : DW K E t e P := fun H0 H σ D R q => h ⟨H, H⟩ H σ D R.view fun o p => (q o p).rebase (hf o p) R.sm
/-- x = e, frozen -/
theorem DS.setZ {te : TE} {i : Nat} {u : TS} {d : PyData} {c : Cell} {o : Out} (h : DE K te e c) (hz : zOf c = some d) (hu : DS K E u ((e.map Esp.view).set i (cellOf d)) o) (hf : finO o = true) : DS K E (tSeq (tAsg te (gName i)) u) e o := fun H0 H σ D R q => h H0 H σ _ R fun v H1 s r => by
  have R1 : EnvR K H0 H1 σ e := EnvR.up R s
  exact hu ⟨H1, H1⟩ H1 _ _ (R1.view.putZ (view_own e) (r.fz hz)) (q.rebase hf R1.sm)
theorem DW.setZ {te : TE} {i : Nat} {u : TS} {d : PyData} {c : Cell} {P : Out → Prop} (h : DE K te e c) (hz : zOf c = some d) (hu : DW K E u ((e.map Esp.view).set i (cellOf d)) P) (hf : ∀ o, P o → finO o = true) : DW K E (tSeq (tAsg te (gName i)) u) e P := fun H0 H σ D R q => h H0 H σ _ R fun v H1 s r => by
  have R1 : EnvR K H0 H1 σ e := EnvR.up R s
  exact hu ⟨H1, H1⟩ H1 _ _ (R1.view.putZ (view_own e) (r.fz hz)) fun o p => (q o p).rebase (hf o p) R1.sm
/-- a, b, .. = a frozen tuple -/
def gNames : List Nat → TGs
  | [] => gNil
  | i :: is => gCons (gName i) (gNames is)
def setCells (e : List Cell) : List Nat → List PyData → List Cell
  | i :: is, d :: ds => setCells (e.set i (cellOf d)) is ds
  | _, _ => e
theorem putNames : ∀ {is : List Nat} {ds : List PyData} {xs : List V} {σ : L2.St} {e : List Cell} {Q : L2.St → Hp → Prop}, EnvR K ⟨H, H⟩ H σ e → e.all (fun c => !isOwn c) = true → is.length = ds.length → FzAll H xs ds → (∀ σ', EnvR K ⟨H, H⟩ H σ' (setCells e is ds) → Q σ' H) → gNames is xs σ H Q
  | [], [], xs, σ, e, Q, R, no, hl, h, q => by
    cases h
    exact ⟨rfl, q σ R⟩
  | i :: is, d :: ds, xs, σ, e, Q, R, no, hl, h, q => by
    cases h with
    | cons h1 h2 => exact ⟨_, _, rfl, putNames (R.putZ no h1) (noOwn_set i no (cellOf_own d)) (by simpa using hl) h2 q⟩
  | [], _ :: _, _, _, _, _, _, _, hl, _, _ => by simp at hl
  | _ :: _, [], _, _, _, _, _, _, hl, _, _ => by simp at hl
theorem DW.unpackN {E' : XK} {tr : TA} {cs : List Cell} {pre : List Cell → Prop} {post : List Cell → Cell → Prop} {n : Nat} {gs : TGs} {u : TS} {P : Out → Prop} (is : List Nat) (hgs : gs = gNames is) (h : DA K tr e cs) (hp : pre (cs.map Esp.view)) (hf : ∀ o, P o → finO o = true)
    (hu : ∀ c, post (cs.map Esp.view) c → ∃ ds, c = .fz (.tuple ds) ∧ ds.length = n ∧ is.length = n ∧ DW K E u (setCells (e.map Esp.view) is ds) P) : DW K E (tSeq (tAsg (tCall (spN K pre post) [] E' tr) (gTup K n gs)) u) e P := fun H0 H σ D R q => h H0 H σ _ R fun vs H1 s1 r => by
  rw [List.append_nil]
  refine ⟨_, hp, all_view cs, r.view, fun c v H' hc s2 rv => ?_⟩
  obtain ⟨ds, rfl, hn, hi, hd⟩ := hu c hc
  obtain ⟨a, rfl, hz⟩ := rv
  subst hgs
  cases hz with
  | tup hs ha =>
    have R1 : EnvR K H0 H' σ e := EnvR.up R (s1.trans s2)
    exact ⟨a, _, rfl, hs.sq, by rw [ha.len]; exact hn, putNames R1.view (view_own e) (hi.trans hn.symm) ha fun σ' R' => hd ⟨H', H'⟩ H' _ _ R' fun o p => (q o p).rebase (hf o p) R1.sm⟩
theorem DS.unpackZ {te : TE} {ds : List PyData} {n : Nat} {gs : TGs} {u : TS} {o : Out} (is : List Nat) (hgs : gs = gNames is) (h : DE K te e (.fz (.tuple ds))) (hn : ds.length = n) (hi : is.length = n) (hf : finO o = true) (hu : DS K E u (setCells (e.map Esp.view) is ds) o) : DS K E (tSeq (tAsg te (gTup K n gs)) u) e o := fun H0 H σ D R q => h H0 H σ _ R fun v H1 s r => by
  obtain ⟨a, rfl, hz⟩ := r
  subst hgs
  cases hz with
  | tup hs ha =>
    have R1 : EnvR K H0 H1 σ e := EnvR.up R s
    exact ⟨a, _, rfl, hs.sq, by rw [ha.len]; exact hn, putNames R1.view (view_own e) (hi.trans hn.symm) ha fun σ' R' => hu ⟨H1, H1⟩ H1 _ _ R' (q.rebase hf R1.sm)⟩
end
/-- arguments as data, lists in it too -/
def DZ {ε : Type} [Ctx ε] (K : PySem.W.Frag) (t : TA) (e : ε) (ds : List PyData) : Prop := ∀ H0 H (σ : L2.St) (Q : List V → Hp → Prop), Ctx.R K H0 H σ e → (∀ vs H', Same H H' → FzAll H' vs ds → Q vs H') → t σ H Q
def pOf : Cell → Option PyData
  | .dat d => some d
  | .cst d => some d
  | .rd ds => some (.list ds)
  | .own ds => some (.list ds)
  | .fix (.fz d) => some d
  | _ => none
section
variable {K : PySem.W.Frag} {E : XK} {ε : Type} [Ctx ε] {e : ε} {ta tb : TE} {tr : TA} {c ca cb : Cell} {d d' : PyData} {ds : List PyData}
theorem DZ.nil : DZ K tNil e [] := fun _ H _ _ _ q => q [] H (Same.refl H) .nil
theorem DZ.cons (h : DE K ta e c) (hz : zOf c = some d) (hr : DZ K tr e ds) : DZ K (tCons ta tr) e (d :: ds) := fun H0 H σ Q R q => h H0 H σ _ R fun v H1 s1 r => hr H0 H1 σ _ (R.up s1) fun vs H2 s2 rr => q (v :: vs) H2 (s1.trans s2) (.cons (Fz.mono s2 _ _ (r.fz hz)) rr)
theorem DE.tupZ (h : DZ K tr e ds) (hl : ds.length ≤ sizeLine) : DE K (tTupN tr) e (.fz (.tuple ds)) := fun H0 H σ Q R q => h H0 H σ _ R fun vs H1 s t => by
  refine ⟨by rw [t.len]; exact hl, fun p o ho np => ?_⟩
  have s2 := Same.new (o := .frz o (.tup vs)) np
  exact q _ _ (s.trans s2) ⟨p, rfl, .tup (.new ho) (FzAll.mono s2 _ _ t)⟩
theorem DE.lstZ (h : DZ K tr e ds) (hl : ds.length ≤ sizeLine) : DE K (tLst tr) e (.fz (.list ds)) := fun H0 H σ Q R q => h H0 H σ _ R fun vs H1 s t => by
  refine ⟨by rw [t.len]; exact hl, fun p np => ?_⟩
  have s2 := Same.new (o := .lst vs) np
  exact q _ _ (s.trans s2) ⟨p, rfl, .lst upd_same (FzAll.mono s2 _ _ t)⟩
theorem ValR.pOf {H H' : Hp} {v : V} : ∀ {c : Cell}, Esp.pOf c = some d → ValR K H H' v c → Dp K H' v d
  | .dat _, h, r => by
    cases h
    exact Td.toDp r
  | .cst _, h, r => by
    cases h
    exact r _
  | .rd _, h, ⟨a, xs, e, hx, t⟩ => by
    cases h
    subst e
    exact .lst (SqL.of hx) (TdAll.dp _ _ t)
  | .own _, h, ⟨a, xs, e, n, hx, t⟩ => by
    cases h
    subst e
    exact .lst (SqL.of hx) (TdAll.dp _ _ t)
  | .fix (.fz _), h, ⟨a, e, t⟩ => by
    cases h
    subst e
    exact Fz.dp _ _ t
  | .fix (.obj _ _), h, _ => by cases h
  | .fix (.scr _), h, _ => by cases h
  | .fix (.dct _), h, _ => by cases h
  | .un, h, _ => by cases h
  | .raw _, h, _ => by cases h
  | .rng _ _, h, _ => by cases h
theorem DE.eqZ (ha : DE K ta e ca) (hb : DE K tb e cb) (ea : pOf ca = some d) (eb : pOf cb = some d') (sa : Shp d) (sb : Shp d') : DE K (tOp (rEqD K) ta tb) e (.dat (.bool (PyData.eqv d d'))) :=
  ha.two hb fun H H' x y Q rx ry q => ⟨_, _, rx.pOf ea, ry.pOf eb, sa, sb, q _ _ (Same.refl _) (.bl _)⟩
theorem DE.neZ (ha : DE K ta e ca) (hb : DE K tb e cb) (ea : pOf ca = some d) (eb : pOf cb = some d') (sa : Shp d) (sb : Shp d') : DE K (tOp (rNeD K) ta tb) e (.dat (.bool (!PyData.eqv d d'))) :=
  ha.two hb fun H H' x y Q rx ry q => ⟨_, _, rx.pOf ea, ry.pOf eb, sa, sb, q _ _ (Same.refl _) (.bl _)⟩
theorem DE.eqSameZ (ha : DE K ta e ca) (hb : DE K tb e cb) (ea : pOf ca = some d) (eb : pOf cb = some d') (q : d = d') (h : Shp d) : DE K (tOp (rEqD K) ta tb) e (.dat (.bool true)) := by
  subst q
  exact DE.as (DE.eqZ ha hb ea eb h h) (by rw [h.refl])
theorem DE.neSameZ (ha : DE K ta e ca) (hb : DE K tb e cb) (ea : pOf ca = some d) (eb : pOf cb = some d') (q : d = d') (h : Shp d) : DE K (tOp (rNeD K) ta tb) e (.dat (.bool false)) := by
  subst q
  exact DE.as (DE.neZ ha hb ea eb h h) (by rw [h.refl]; rfl)
theorem DE.varZ {e : List Cell} {i : Nat} {d : PyData} (h : e[i]? = some (.fz d)) : DE K (tVar i) e (.fz d) := DE.var h rfl
/-- isinstance of frozen data that is a tuple or a list -/
theorem DE.isiZT (ha : DE K ta e (.fz (.tuple ds))) : DE K (tCB (rIsi K) (tCons ta (tCons (tC (.ty "tuple")) tNil))) e (.dat (.bool true)) := fun H0 H σ Q E q => ha H0 H σ _ E fun x H1 s1 r => by
  obtain ⟨a, rfl, hz⟩ := r
  cases hz with
  | tup hs t => exact ⟨_, .ty "tuple", _, _, true, rfl, .ty "tuple", .fTuple hs.choose_spec.2, kit_ty (by decide +kernel), q _ _ s1 (.bl true)⟩
end
section
variable {K : PySem.W.Frag} {E : XK} {H0 : Bs} {H H' H1 : Hp} {σ : L2.St} {e : List Cell}
theorem EnvR.putV {i : Nat} {v : V} {d : PyData} (R : EnvR K H0 H σ e) (no : e.all (fun c => !isOwn c) = true) (h : Fz H v d) (hd : flatD d = true ∨ ∃ ds, d = .list ds ∧ flatAll ds = true) : EnvR K H0 H (σ.set i (some v)) (e.set i (cellOf d)) := by
  refine ⟨R.bs, R.sm, R.sl.set i ?_, Apart.noOwn (noOwn_set i no (cellOf_own d))⟩
  rcases hd with f | ⟨ds, rfl, g⟩
  · unfold cellOf
    rw [if_pos f]
    exact ⟨v, rfl, Fz.td d v f h⟩
  · unfold cellOf
    rw [if_neg (by simp [flatD])]
    simp only [g, if_true]
    cases h with
    | lst hs ha => exact ⟨_, _, rfl, hs, FzAll.td ds _ g ha⟩
/-- for x in a frozen list, where nothing made here is written any more -/
theorem DW.forZ {tl : TE} {i : Nat} {tb : TS} {ds : List PyData} {P : Out → Prop} {Inv : Nat → List Cell → Prop} (hl : DE K tl e (.fz (.list ds))) (hfl : ∀ d ∈ ds, flatD d = true ∨ ∃ es, d = .list es ∧ flatAll es = true) (h0 : Inv 0 e)
    (hs : ∀ j d, ds[j]? = some d → ∀ e, Inv j e → e.all (fun c => !isOwn c) = true ∧ DW K E tb (e.set i (cellOf d)) (TurnP (Inv (j + 1)) P)) (hend : ∀ e, Inv ds.length e → P (.next e)) (hno : ∀ j e, Inv j e → e.all (fun c => !isOwn c) = true) : DW K E (tFor (iList K tl) (gName i) tb) e P := fun H0 H σ D R q => hl H0 H σ _ R fun v H1 s r => by
  obtain ⟨a, rfl, hz⟩ := r
  cases hz with
  | lst ha t =>
    rename_i xs
    have R1 : EnvR K H0 H1 σ e := EnvR.up R s
    have fr : ∀ (e : List Cell) (σ : L2.St) (H : Hp), e.all (fun c => !isOwn c) = true → EnvR K H0 H σ e → Same H1 H → EnvR K ⟨H0.b, H1⟩ H σ e := fun e σ H no R s => EnvR.rebase R rfl R1.sm s fun i c b hi ho _ => by
      have := List.all_eq_true.mp no c (List.mem_of_getElem? hi)
      rw [ho] at this
      cases this
    have un : ∀ σ H e, EnvR K ⟨H0.b, H1⟩ H σ e → EnvR K H0 H σ e := fun σ H e z => EnvR.ofBase (G := ⟨H0.b, H1⟩) rfl R1.bs R1.sm z
    have ln := t.len
    refine ⟨a, rfl, ⟨xs, SqL.of ha⟩, for_list (xs := xs) (fun j σ H => ∃ e, Inv j e ∧ EnvR K ⟨H0.b, H1⟩ H σ e) ⟨e, h0, fr e σ H1 (hno 0 e h0) R1 (Same.refl H1)⟩ (fun j σ H _ z => let ⟨_, _, z⟩ := z; SqL.of (z.sm _ _ ha)) (fun j x σ H ex z => ?_) fun σ H z => ?_⟩
    · obtain ⟨e', hI, R'⟩ := z
      have hj : j < ds.length := by
        rcases Nat.lt_or_ge j xs.length with w | w
        · omega
        · rw [List.getElem?_eq_none w] at ex
          cases ex
      obtain ⟨v, ev, tv⟩ := t.get (List.getElem?_eq_getElem hj)
      rw [ex] at ev
      obtain rfl := Option.some.inj ev
      obtain ⟨no, hw⟩ := hs j _ (List.getElem?_eq_getElem hj) e' hI
      refine hw ⟨H0.b, H1⟩ H _ _ (R'.putV no (Fz.mono R'.sm _ _ tv) (hfl _ (List.getElem_mem hj))) fun o p => ?_
      cases o with
      | next e2 => exact fun σ H r => ⟨e2, p, r⟩
      | cont e2 => exact fun σ H r => ⟨e2, p, r⟩
      | brk e2 => exact fun σ H r => q _ p _ _ (un _ _ _ r)
      | ret c => exact fun v H' s2 r => q _ p _ _ (R1.sm.trans s2) (r.low R1.sm)
      | exc C => exact fun H' s2 => q _ p _ (R1.sm.trans s2)
    · obtain ⟨e', hI, R'⟩ := z
      rw [ln] at hI
      exact q _ (hend e' hI) _ _ (un _ _ _ R')
/-- [f(x) for x in a frozen list] -/
theorem LcG.cell {i : Nat} {d : PyData} {v : V} {Q : L2.St → Hp → Prop} (R : EnvR K H0 H σ e) (no : e.all (fun c => !isOwn c) = true) (h : Fz H v d) (hd : flatD d = true ∨ ∃ ds, d = .list ds ∧ flatAll ds = true) (q : ∀ σ2, L2.wipe σ2 [i] = L2.wipe σ [i] → EnvR K H0 H σ2 ((e.set i .un).set i (cellOf d)) → Q σ2 H) : gName i v (L2.wipe σ [i]) H Q :=
  q _ (wipe1 σ i _) (R.wipe.putV (noOwn_set i no rfl) h hd)
theorem DE.lcZ {tl te : TE} {i : Nat} {ds : List PyData} {f : Nat → PyData} (hl : DE K tl e (.fz (.list ds))) (no : e.all (fun c => !isOwn c) = true) (hfl : ∀ d ∈ ds, flatD d = true ∨ ∃ es, d = .list es ∧ flatAll es = true) (hn : ds.length < sizeLine)
    (hs : ∀ j d, ds[j]? = some d → DE K te ((e.set i .un).set i (cellOf d)) (.dat (f j))) : DE K (tLc (iList K tl) (gName i) tYes te [i]) e (.own ((List.range ds.length).map f)) := fun H0 H σ Q R q => hl H0 H σ _ R fun v H1 s r => by
  obtain ⟨a, rfl, hz⟩ := r
  cases hz with
  | lst ha t =>
    rename_i xs
    have R1 : EnvR K H0 H1 σ e := EnvR.up R s
    have ln := t.len
    refine ⟨a, rfl, ⟨xs, SqL.of ha⟩, fun D nD => lc_list (xs := xs) (fun j H2 => (∃ ys, H2 D = some (.lst ys) ∧ TdAll H2 ys ((List.range j).map f)) ∧ Same H1 H2) ⟨⟨[], upd_same, .nil⟩, Same.new nD⟩ (fun j H2 _ z => SqL.of (z.2 _ _ ha)) (fun j x H2 ex z => ?_) fun H2 z => ?_⟩
    · have hj : j < ds.length := by
        rcases Nat.lt_or_ge j xs.length with w | w
        · omega
        · rw [List.getElem?_eq_none w] at ex
          cases ex
      obtain ⟨v, ev, tv⟩ := t.get (List.getElem?_eq_getElem hj)
      rw [ex] at ev
      obtain rfl := Option.some.inj ev
      obtain ⟨⟨ys, hy, ty⟩, s2⟩ := z
      refine LcG.cell (R1.up s2) no (Fz.mono s2 _ _ tv) (hfl _ (List.getElem_mem hj)) fun σ2 hw R2 => ⟨hw, ?_⟩
      show tYes σ2 H2 _
      refine DB.yes (K := K) H0 H2 σ2 _ R2 fun H3 s3 => iteT (hs j _ (List.getElem?_eq_getElem hj) H0 H3 _ _ (R2.up s3) fun y H4 s4 ry => ?_)
      have s34 := s3.trans s4
      have hy4 := s34 _ _ hy
      have tp : Tups H4 (upd H4 D (.lst (ys ++ [y]))) := Tups.wr hy4 fun _ => lst_tup
      refine ⟨ys, hy4, by rw [ty.len, List.length_map, List.length_range]; omega, ⟨_, upd_same, ?_⟩, fun b o z => ?_⟩
      · rw [range_more]
        exact ((ty.same s34).up tp).snoc (Td.up ry tp)
      · rw [upd_ne (ne_of_none z nD)]
        exact s34 _ _ (s2 _ _ z)
    · rw [ln] at z
      obtain ⟨ys, hy, ty⟩ := z.1
      exact q _ _ (s.trans z.2) ⟨D, ys, rfl, s.free nD, hy, ty⟩
end
end Esp
namespace Esp
open PySem PySem.Spec PyProof.Rows L2
/-- rows that are lists of their own, none of them D -/
inductive RowsL (H : Hp) (D : Addr) : List V → List (List PyData) → Prop
  | nil : RowsL H D [] []
  | cons {a : Addr} {xs ys : List V} {ds : List PyData} {es : List (List PyData)} : a ≠ D → H a = some (.lst xs) → TdAll H xs ds → RowsL H D ys es → RowsL H D (.ref a :: ys) (ds :: es)
theorem RowsL.up {H H' : Hp} {D : Addr} (s : Same H H') : ∀ {ys : List V} {es : List (List PyData)}, RowsL H D ys es → RowsL H' D ys es
  | _, _, .nil => .nil
  | _, _, .cons h1 h2 h3 h4 => .cons h1 (s _ _ h2) (h3.same s) (RowsL.up s h4)
theorem RowsL.upd {H : Hp} {D : Addr} {o : HO} (tp : Tups H (upd H D o)) : ∀ {ys : List V} {es : List (List PyData)}, RowsL H D ys es → RowsL (upd H D o) D ys es
  | _, _, .nil => .nil
  | _, _, .cons h1 h2 h3 h4 => .cons h1 (by rw [upd_ne h1]; exact h2) (h3.up tp) (RowsL.upd tp h4)
theorem RowsL.snoc {H : Hp} {D a : Addr} {xs : List V} {ds : List PyData} (h1 : a ≠ D) (h2 : H a = some (.lst xs)) (h3 : TdAll H xs ds) : ∀ {ys : List V} {es : List (List PyData)}, RowsL H D ys es → RowsL H D (ys ++ [.ref a]) (es ++ [ds])
  | _, _, .nil => .cons h1 h2 h3 .nil
  | _, _, .cons g1 g2 g3 g4 => .cons g1 g2 g3 (RowsL.snoc h1 h2 h3 g4)
theorem RowsL.len {H : Hp} {D : Addr} : ∀ {ys : List V} {es : List (List PyData)}, RowsL H D ys es → ys.length = es.length
  | _, _, .nil => rfl
  | _, _, .cons _ _ _ h4 => by simp [RowsL.len h4]
theorem RowsL.fz {H : Hp} {D : Addr} : ∀ {ys : List V} {es : List (List PyData)}, RowsL H D ys es → FzAll H ys (es.map .list)
  | _, _, .nil => .nil
  | _, _, .cons _ h2 h3 h4 => .cons (.lst h2 (FzAll.ofTd _ _ h3)) (RowsL.fz h4)
section
variable {K : PySem.W.Frag} {E : XK} {H0 : Bs} {H H' H1 : Hp} {σ : L2.St} {e : List Cell}
/-- [a new list for x in a list] -/
theorem DE.lcO {tl te : TE} {i : Nat} {ds : List PyData} {ca : Cell} {f : Nat → List PyData} (hl : DE K tl e ca) (la : lOf ca = some ds) (hn : ds.length < sizeLine)
    (hs : ∀ j d, ds[j]? = some d → DE K te ((e.set i .un).set i (.dat d)) (.own (f j))) : DE K (tLc (iList K tl) (gName i) tYes te [i]) e (.fz (.list (((List.range ds.length).map f).map .list))) := fun H0 H σ Q R q => hl H0 H σ _ R fun v H1 s r => by
  obtain ⟨a, xs, rfl, ha, t⟩ := r.lst la
  have R1 : EnvR K H0 H1 σ e := EnvR.up R s
  have ln := t.len
  refine ⟨a, rfl, ⟨xs, SqL.of ha⟩, fun D nD => lc_list (xs := xs) (fun j H2 => (∃ ys, H2 D = some (.lst ys) ∧ RowsL H2 D ys ((List.range j).map f)) ∧ Same H1 H2) ⟨⟨[], upd_same, .nil⟩, Same.new nD⟩ (fun j H2 _ z => SqL.of (z.2 _ _ ha)) (fun j x H2 ex z => ?_) fun H2 z => ?_⟩
  · have hj : j < ds.length := by
      rcases Nat.lt_or_ge j xs.length with w | w
      · omega
      · rw [List.getElem?_eq_none w] at ex
        cases ex
    obtain ⟨⟨ys, hy, ty⟩, s2⟩ := z
    obtain ⟨v, ev, tv⟩ := (t.same s2).get (List.getElem?_eq_getElem hj)
    rw [ex] at ev
    obtain rfl := Option.some.inj ev
    refine LcG.name H0 H2 σ x _ (R1.up s2) tv fun σ2 hw R2 => ⟨hw, ?_⟩
    show tYes σ2 H2 _
    refine DB.yes (K := K) H0 H2 σ2 _ R2 fun H3 s3 => iteT (hs j _ (List.getElem?_eq_getElem hj) H0 H3 _ _ (R2.up s3) fun y H4 s4 ry => ?_)
    obtain ⟨b, zs, rfl, nb, hb, tz⟩ := ry
    have s34 := s3.trans s4
    have hy4 := s34 _ _ hy
    have tp : Tups H4 (upd H4 D (.lst (ys ++ [.ref b]))) := Tups.wr hy4 fun _ => lst_tup
    have nbD : b ≠ D := fun z => by
      subst z
      rw [s3 _ _ hy] at nb
      cases nb
    refine ⟨ys, hy4, by rw [ty.len, List.length_map, List.length_range]; omega, ⟨_, upd_same, ?_⟩, fun b o z => ?_⟩
    · have : (List.range (j + 1)).map f = (List.range j).map f ++ [f j] := by rw [List.range_succ, List.map_append]; rfl
      rw [this]
      exact ((ty.up s34).snoc nbD hb tz).upd tp
    · rw [upd_ne (ne_of_none z nD)]
      exact s34 _ _ (s2 _ _ z)
  · rw [ln] at z
    obtain ⟨ys, hy, ty⟩ := z.1
    exact q _ _ (s.trans z.2) ⟨D, rfl, .lst hy ty.fz⟩
end
theorem flat_ints : ∀ ks : List Int, flatAll (ks.map PyData.int) = true
  | [] => rfl
  | k :: ks => by
    rw [List.map_cons]
    unfold flatAll
    rw [flat_ints ks]
    rfl
@[simp] theorem cellOf_ints (ks : List Int) : cellOf (.list (ks.map .int)) = .rd (ks.map .int) := by
  unfold cellOf
  rw [if_neg (by simp [flatD])]
  simp only [flat_ints, if_true]
@[simp] theorem cellOf_bD (lo : Option Int) : cellOf (bD lo) = .dat (bD lo) := by
  cases lo <;> rfl
@[simp] theorem cellOf_int (i : Int) : cellOf (.int i) = .dat (.int i) := rfl
end Esp
set_option autoImplicit false
set_option maxRecDepth 100000
set_option maxHeartbeats 4000000
namespace Esp
open PySem PySem.Spec PyProof.Rows L2
def edgeAt (lo hi : Option Int) (ks : List Int) (i : Nat) : Option Int := (lo :: (ks.map some ++ [hi])).getD i none
theorem edge_0 {lo hi : Option Int} {ks : List Int} : edgeAt lo hi ks 0 = lo := rfl
theorem edge_in {lo hi : Option Int} {ks : List Int} {i : Nat} (h : i < ks.length) : edgeAt lo hi ks (i + 1) = some (kAt ks i) := by
  unfold edgeAt kAt
  rw [List.getD_cons_succ, List.getD_eq_getElem?_getD, List.getElem?_append_left (by rw [List.length_map]; exact h), List.getElem?_map, Int.toNat_natCast, List.getD_eq_getElem?_getD, List.getElem?_eq_getElem h]
  rfl
theorem edge_end {lo hi : Option Int} {ks : List Int} : edgeAt lo hi ks (ks.length + 1) = hi := by
  unfold edgeAt
  rw [List.getD_cons_succ, List.getD_eq_getElem?_getD, List.getElem?_append_right (by rw [List.length_map]; exact Nat.le_refl _), List.length_map, Nat.sub_self]
  rfl
def edgesD (lo hi : Option Int) (ks : List Int) : List PyData := [bD lo] ++ ks.map .int ++ [bD hi]
theorem edges_at {lo hi : Option Int} {ks : List Int} {i : Nat} (h : i ≤ ks.length + 1) : L2.atI (edgesD lo hi ks) (i : Int) = some (bD (edgeAt lo hi ks i)) := by
  have hl : (edgesD lo hi ks).length = ks.length + 2 := by simp [edgesD]
  unfold L2.atI
  rw [ixN_nat (by omega)]
  show (edgesD lo hi ks)[i]? = _
  have e : edgesD lo hi ks = (lo :: (ks.map some ++ [hi])).map bD := by
    unfold edgesD
    simp
    intro a ha
    rfl
  rw [e, List.getElem?_map, List.getElem?_eq_getElem (by simp; omega)]
  unfold edgeAt
  rw [List.getD_eq_getElem?_getD, List.getElem?_eq_getElem (by simp; omega)]
  rfl
theorem edges_atI {lo hi : Option Int} {ks : List Int} {i : Int} (h0 : 0 ≤ i) (h : i ≤ ks.length + 1) : L2.atI (edgesD lo hi ks) i = some (bD (edgeAt lo hi ks i.toNat)) := by
  obtain ⟨n, rfl⟩ := Int.eq_ofNat_of_zero_le h0
  exact edges_at (by omega)
def place (ks : List Int) (k : Int) : Nat := (ks.filter fun x => decide (x ≤ k)).length
theorem place_le (ks : List Int) (k : Int) : place ks k ≤ ks.length := List.length_filter_le _ _
theorem place_lt : ∀ {ks : List Int} {k : Int}, ks.Pairwise (· < ·) → ∀ i : Nat, i < place ks k → kAt ks i ≤ k
  | [], k, _, i, h => by simp [place] at h
  | a :: r, k, p, i, h => by
    have p' := List.pairwise_cons.mp p
    by_cases ha : a ≤ k
    · have e : place (a :: r) k = place r k + 1 := by simp [place, ha]
      cases i with
      | zero => exact ha
      | succ j =>
        have := place_lt (k := k) p'.2 j (by omega)
        exact this
    · exfalso
      have : place (a :: r) k = 0 := by
        unfold place
        rw [List.length_eq_zero_iff, List.filter_eq_nil_iff]
        intro x hx
        rcases List.mem_cons.mp hx with rfl | hx
        · simpa using ha
        · have := p'.1 x hx
          simp
          omega
      omega
theorem place_ge : ∀ {ks : List Int} {k : Int}, ks.Pairwise (· < ·) → ∀ i : Nat, place ks k ≤ i → i < ks.length → k < kAt ks i
  | [], k, _, i, _, h => by simp at h
  | a :: r, k, p, i, h, hl => by
    have p' := List.pairwise_cons.mp p
    by_cases ha : a ≤ k
    · have e : place (a :: r) k = place r k + 1 := by simp [place, ha]
      cases i with
      | zero => omega
      | succ j => exact place_ge p'.2 j (by omega) (by simpa using hl)
    · cases i with
      | zero =>
        show k < a
        omega
      | succ j =>
        have hj : j < r.length := by simpa using hl
        have : kAt r j ∈ r := kAt_mem (by omega) (by omega)
        have := p'.1 _ this
        show k < kAt r j
        omega
theorem place_btw {lo hi : Option Int} {ks : List Int} {k : Int} (p : ks.Pairwise (· < ·)) (h : btw lo hi k = true) : btw (edgeAt lo hi ks (place ks k)) (edgeAt lo hi ks (place ks k + 1)) k = true := by
  obtain ⟨h1, h2⟩ := btw_iff.mp h
  refine btw_iff.mpr ⟨fun a ha => ?_, fun b hb => ?_⟩
  · cases q : place ks k with
    | zero =>
      rw [q] at ha
      exact h1 a ha
    | succ j =>
      have hj : j < ks.length := by have := place_le ks k; omega
      rw [q, edge_in hj] at ha
      obtain rfl := Option.some.inj ha
      exact place_lt p j (by omega)
  · by_cases q : place ks k < ks.length
    · rw [edge_in q] at hb
      obtain rfl := Option.some.inj hb
      exact place_ge p _ (Nat.le_refl _) q
    · have e : place ks k = ks.length := by have := place_le ks k; omega
      rw [e, edge_end] at hb
      exact h2 b hb
theorem InnP.put {lv : Int} {lo hi : Option Int} {ks ps ps' : List Int} {s : Int} {i j : Nat} (L : InnP lv lo hi ks ps) (hij : i ≤ j) (hj : j ≤ ks.length) (hl : ps'.length = i + 1 + (ks.length - j) + 1) (h1 : ∀ k ∈ ks.take i, k < s) (h2 : ∀ k ∈ ks.drop j, s < k) (h3 : ∀ a, lo = some a → a < s) (h4 : ∀ b, hi = some b → s < b) : InnP lv lo hi (ks.take i ++ [s] ++ ks.drop j) ps' := by
  refine ⟨L.v, L.b, ?_, ?_, fun k hk => ?_⟩
  · rw [List.length_append, List.length_append, List.length_take, List.length_drop, List.length_singleton]
    omega
  · refine List.pairwise_append.mpr ⟨List.pairwise_append.mpr ⟨L.p.sublist (List.take_sublist _ _), List.pairwise_singleton _ _, fun a ha b hb => ?_⟩, L.p.sublist (List.drop_sublist _ _), fun a ha b hb => ?_⟩
    · rw [List.mem_singleton] at hb
      rw [hb]
      exact h1 a ha
    · have hb' := h2 b hb
      rcases List.mem_append.mp ha with ha | ha
      · exact Int.lt_trans (h1 a ha) hb'
      · rw [List.mem_singleton] at ha
        rw [ha]
        exact hb'
  · rcases List.mem_append.mp hk with hk | hk
    · rcases List.mem_append.mp hk with hk | hk
      · exact L.k k (List.mem_of_mem_take hk)
      · rw [List.mem_singleton] at hk
        rw [hk]
        exact ⟨h3, h4⟩
    · exact L.k k (List.mem_of_mem_drop hk)
theorem InnP.less {lv : Int} {lo hi : Option Int} {ks ps ps' : List Int} {i : Nat} (L : InnP lv lo hi ks ps) (hi' : i < ks.length) (hl : ps'.length = ks.length) : InnP lv lo hi (ks.take i ++ ks.drop (i + 1)) ps' := by
  refine ⟨L.v, L.b, ?_, ?_, fun k hk => ?_⟩
  · rw [List.length_append, List.length_take, List.length_drop]
    omega
  · refine List.pairwise_append.mpr ⟨L.p.sublist (List.take_sublist _ _), L.p.sublist (List.drop_sublist _ _), fun a ha b hb => ?_⟩
    have h1 := take_lt L.p hi' a ha
    have h2 := drop_gt L.p hi' b hb
    omega
  · rcases List.mem_append.mp hk with hk | hk
    · exact L.k k (List.mem_of_mem_take hk)
    · exact L.k k (List.mem_of_mem_drop hk)
theorem take_le {ks : List Int} (p : ks.Pairwise (· < ·)) {h : Nat} (hh : h < ks.length) : ∀ k ∈ ks.take (h + 1), k ≤ kAt ks h := by
  intro k hk
  obtain ⟨i, hi, rfl⟩ := List.mem_take_iff_getElem.mp hk
  unfold kAt
  rw [Int.toNat_natCast, List.getD_eq_getElem?_getD, List.getElem?_eq_getElem hh]
  show ks[i] ≤ ks[h]
  by_cases z : i = h
  · subst z
    exact Int.le_refl _
  · exact Int.le_of_lt (List.pairwise_iff_getElem.mp p i h (by omega) hh (by omega))
/-- a key put between two edges -/
theorem InnP.between {lv : Int} {lo hi : Option Int} {ks ps ps' : List Int} {i : Nat} {a s : Int} (L : InnP lv lo hi ks ps) (hi' : i ≤ ks.length) (hl : ps'.length = ks.length + 2) (ha : edgeAt lo hi ks i = some a) (h1 : a < s) (h2 : ∀ b, edgeAt lo hi ks (i + 1) = some b → s < b) : InnP lv lo hi (ks.take i ++ [s] ++ ks.drop i) ps' := by
  have lowk : ∀ k ∈ ks.take i, k < s := fun k hk => by
    cases i with
    | zero => simp at hk
    | succ j =>
      rw [edge_in (by omega)] at ha
      obtain rfl := Option.some.inj ha
      have := take_le L.p (by omega) k hk
      omega
  have highk : ∀ k ∈ ks.drop i, s < k := fun k hk => by
    by_cases q : i < ks.length
    · have hb := h2 _ (edge_in q)
      have := drop_ge L.p q k hk
      omega
    · rw [List.drop_eq_nil_of_le (by omega)] at hk
      cases hk
  refine L.put (Nat.le_refl i) hi' (by omega) lowk highk (fun l hl => ?_) fun h hh => ?_
  · cases i with
    | zero =>
      rw [edge_0, hl] at ha
      obtain rfl := Option.some.inj ha
      exact h1
    | succ j =>
      have : kAt ks j ∈ ks := kAt_mem (by omega) (by omega)
      have := (L.k _ this).1 l hl
      rw [edge_in (by omega)] at ha
      obtain rfl := Option.some.inj ha
      omega
  · by_cases q : i < ks.length
    · have hb := h2 _ (edge_in q)
      have := (L.k _ (kAt_mem (i := i) (by omega) (by omega))).2 h hh
      omega
    · have e : i = ks.length := by omega
      subst e
      exact h2 h (by rw [edge_end]; exact hh)
abbrev fChildB : PD := fun cs c => ∃ (lv : Int) (lo hi : Option Int) (ks ps : List Int) (i : Nat), cs = [.dat (innD lv lo hi ks ps), .dat (.int i)] ∧ i ≤ ks.length ∧ c = .dat (.tuple [bD (edgeAt lo hi ks i), bD (edgeAt lo hi ks (i + 1))])
abbrev fCovers : PD := fun cs c => ∃ (d : PyData) (lv : Int) (n : Nat) (lo hi : Option Int) (k : Int), cs = [.dat d, .dat (.int k)] ∧ Node d lv n lo hi ∧ c = .dat (.bool (btw lo hi k))
abbrev fChildOf : PD := fun cs c => ∃ (lv : Int) (lo hi : Option Int) (ks ps : List Int) (k : Int), cs = [.dat (innD lv lo hi ks ps), .dat (.int k)] ∧ ks.length ≤ 1000 ∧ c = .dat (.int (place ks k : Nat))
abbrev fWithChild : PD := fun cs c => ∃ (lv : Int) (lo hi : Option Int) (ks ps : List Int) (i : Nat) (s p : Int), cs = [.dat (innD lv lo hi ks ps), .dat (.int i), .dat (.int s), .dat (.int p)] ∧ (InnP lv lo hi (ks.take i ++ [s] ++ ks.drop i) (ps.take (i + 1) ++ [p] ++ ps.drop (i + 1)) ∧ ks.length ≤ 900 ∧ ps.length ≤ 900) ∧ c = .dat (innD lv lo hi (ks.take i ++ [s] ++ ks.drop i) (ps.take (i + 1) ++ [p] ++ ps.drop (i + 1)))
abbrev fWithoutChild : PD := fun cs c => ∃ (lv : Int) (lo hi : Option Int) (ks ps : List Int) (i : Nat), cs = [.dat (innD lv lo hi ks ps), .dat (.int ((i : Int) + 1))] ∧ (InnP lv lo hi (ks.take i ++ ks.drop (i + 1)) (ps.take (i + 1) ++ ps.drop (i + 2)) ∧ ks.length ≤ 900 ∧ ps.length ≤ 900) ∧ c = .dat (innD lv lo hi (ks.take i ++ ks.drop (i + 1)) (ps.take (i + 1) ++ ps.drop (i + 2)))
abbrev fWithSep : PD := fun cs c => ∃ (lv : Int) (lo hi : Option Int) (ks ps : List Int) (i : Nat) (s : Int), cs = [.dat (innD lv lo hi ks ps), .dat (.int ((i : Int) + 1)), .dat (.int s)] ∧ (InnP lv lo hi (ks.take i ++ [s] ++ ks.drop (i + 1)) ps ∧ ks.length ≤ 900 ∧ ps.length ≤ 900) ∧ c = .dat (innD lv lo hi (ks.take i ++ [s] ++ ks.drop (i + 1)) ps)
end Esp
namespace Esp
open PySem PySem.Spec PyProof.Rows L2
/-- (None, a)[i] -/
def opt2 (a i : Int) : Option Int := if i = 0 then none else some a
theorem atI_opt2 {a : Int} {i : Int} (h0 : 0 ≤ i) (h1 : i < 2) : L2.atI [PyData.none, .int a] i = some (bD (opt2 a i)) := by
  have : i = 0 ∨ i = 1 := by omega
  rcases this with rfl | rfl <;> rfl
theorem opt2_some {a i x : Int} (h : opt2 a i = some x) : x = a := by
  unfold opt2 at h
  split at h
  · cases h
  · exact (Option.some.inj h).symm
theorem DW.fin {K : PySem.W.Frag} {E : XK} {e : List Cell} {t u : TS} {P : Out → Prop} (h : DW K E t e P) (hn : ∀ e1, ¬ P (.next e1)) : DW K E (tSeq t u) e P := DW.seq h (fun e1 z => absurd z (hn e1)) fun _ _ z => z
theorem endsT_fin {v : PyData} (hv : v ≠ .none) (o : Out) (h : EndsP (fun c => c = .dat v) o) : finO o = true := by
  obtain ⟨c, rfl | ⟨⟨e, rfl⟩, rfl⟩, hc⟩ := h
  · rfl
  · exact absurd (Cell.dat.inj hc).symm hv
end Esp
namespace Esp
open PySem PySem.Spec PyProof.Rows L2
section
variable {K : PySem.W.Frag} {ε : Type} [Ctx ε] {e : ε} {c ca cb : Cell} {ta tb : TE}
theorem DE.slLTo {ks : List Int} {k : Int} (n : Nat) (ha : DE K ta e c) (hc : lOf c = some (ks.map .int)) (hb : DE K tb e (.dat (.int k))) (h : k = n) : DE K (tSl (rSlL K) ta tNoPart (tPart tb)) e (.own ((ks.take n).map .int)) := by
  subst h
  exact DE.as (DE.slL ha hc DO.no (DO.some hb)) (by rw [cutD_to (by omega), List.map_take]; rfl)
theorem DE.slLFrom {ks : List Int} {k : Int} (n : Nat) (ha : DE K ta e c) (hc : lOf c = some (ks.map .int)) (hb : DE K tb e (.dat (.int k))) (h : k = n) : DE K (tSl (rSlL K) ta (tPart tb) tNoPart) e (.own ((ks.drop n).map .int)) := by
  subst h
  exact DE.as (DE.slL ha hc (DO.some hb) DO.no) (by rw [cutD_from (by omega), List.map_drop]; rfl)
theorem DE.catLK {ks ls : List Int} (ha : DE K ta e ca) (hb : DE K tb e cb) (la : lOf ca = some (ks.map .int)) (lb : lOf cb = some (ls.map .int)) (h : ks.length + ls.length ≤ 1000000) : DE K (tOp rCat ta tb) e (.own ((ks ++ ls).map .int)) :=
  DE.as (DE.catL ha hb la lb (by rw [List.length_map, List.length_map]; exact small9 h)) (by rw [List.map_append])
theorem DE.one1L {a : Int} (ha : DE K ta e (.dat (.int a))) : DE K (tLst (tCons ta tNil)) e (.own ([a].map .int)) := DE.lstD (DD.cons ha DD.nil) (small9 (Nat.le_of_ble_eq_true rfl))
end
theorem edges_at1 {lo hi : Option Int} {ks : List Int} {i : Nat} (h : i ≤ ks.length) : L2.atI (edgesD lo hi ks) ((i : Int) + 1) = some (bD (edgeAt lo hi ks (i + 1))) := by
  have := edges_at (lo := lo) (hi := hi) (ks := ks) (i := i + 1) (by omega)
  exact this
end Esp
set_option autoImplicit false
set_option maxRecDepth 100000
set_option maxHeartbeats 4000000
namespace Esp
open PySem PySem.Spec PyProof.Rows L2
section
variable {P : Program} {w : World} {K : PySem.W.Frag} {mg : Str → Option Value} {base : Heap}
theorem fnX2 {x qual : Str} {st : Stmt} {fa : Addr} {fd : FuncData} {N ps : List Str} {k : Nat} {f : List Cell → Cell → Prop} {g : List Cell → Addr → Prop} (F : Fun K x qual st fa fd) (S : FnScope N ps (defScope st)) (len : ∀ cs c, f cs c → cs.length = ps.length) (lenX : ∀ cs C, g cs C → cs.length = ps.length)
    (body : ∀ (cdv : Value) (A : Around) (outer : List Env) (s : Shared) (H : Hp) (E : XK), Room k (A.deeper (envOfC qual (defScope st) s.heap.objs.size fa cdv)) →
      (∀ cs c, f cs c → ∃ t, PSs (cxOf (L2.CX P w) P w K mg base N qual (defScope st) fa cdv A outer s H E) (defBody st) t ∧ ∃ o, DS K E t (cs ++ List.replicate (N.length - ps.length) .un) o ∧ Ends_ c o) ∧ ∀ cs C, g cs C → ∃ t, PSs (cxOf (L2.CX P w) P w K mg base N qual (defScope st) fa cdv A outer s H E) (defBody st) t ∧ DS K E t (cs ++ List.replicate (N.length - ps.length) .un) (.exc C)) :
    FnOk P w K mg base (L2.CX P w) (k + 1) fa fd ps (spDX K f g) := by
  refine F.okX S (fun vs H Q E h => ?_) (fun cdv A outer s H vs Q E hr h => ?_)
  · obtain ⟨cs, ho, hv, ⟨c, hf, q⟩ | ⟨C, hg, q⟩⟩ := h
    · rw [hv.len]
      exact len cs c hf
    · rw [hv.len]
      exact lenX cs C hg
  · obtain ⟨hd, hx⟩ := body cdv A outer s H E hr
    obtain ⟨cs, ho, hv, ⟨c, hf, q⟩ | ⟨C, hg, q⟩⟩ := h
    · obtain ⟨t, hp, o, h, he⟩ := hd cs c hf
      refine ⟨t, hp, DS.run (E := E) ?_ he ho hv q⟩
      rw [hv.len, len cs c hf]
      exact h
    · obtain ⟨t, hp, h⟩ := hx cs C hg
      refine ⟨t, hp, ?_⟩
      rw [← lenX cs C hg, ← hv.len] at h
      exact h ⟨H, H⟩ H _ _ (EnvR.start _ hv ho) q
end
def TapeOk (zs : List Int) : Prop := ∀ z ∈ zs, 0 ≤ z ∧ z < 1000
theorem TapeOk.snoc {zs : List Int} {z : Int} (h : TapeOk zs) (h0 : 0 ≤ z) (h1 : z < 1000) : TapeOk (zs ++ [z]) := fun y hy => by
  rcases List.mem_append.mp hy with q | q
  · exact h y q
  · rw [List.mem_singleton] at q
    subst q
    exact ⟨h0, h1⟩
theorem TapeOk.at_ {zs : List Int} (h : TapeOk zs) (k : Int) : 0 ≤ cellAt zs k ∧ cellAt zs k < 1000 := by
  unfold cellAt
  rw [List.getD_eq_getElem?_getD]
  cases q : zs[k.toNat]? with
  | none => exact ⟨Int.le_refl _, by decide⟩
  | some z => exact h z (List.mem_of_getElem? q)
abbrev preTape : List Cell → Prop := fun cs => ∃ ns : List Int, cs = [.scr ns] ∧ ns.length ≤ 63
abbrev postTape : List Cell → Cell → Prop := fun _ c => ∃ zs : List Int, c = .own (zs.map .int) ∧ zs.length ≤ 3780 ∧ TapeOk zs
theorem snocD (zs : List Int) (z : Int) : zs.map PyData.int ++ [PyData.int z] = (zs ++ [z]).map PyData.int := by rw [List.map_append]; rfl
abbrev fAt : PD := fun cs c => ∃ (zs : List Int) (k : Int), cs = [.rd (zs.map .int), .dat (.int k)] ∧ 0 ≤ k ∧ c = .dat (.int (cellAt zs k))
section
variable {K : PySem.W.Frag} {ε : Type} [Ctx ε] {e : ε} {ta tb : TE}
theorem DE.at_ {E : XK} {zs : List Int} {k : Int} (ha : DE K ta e (.rd (zs.map .int))) (hb : DE K tb e (.dat (.int k))) (h : 0 ≤ k) : DE K (tCall (spD K fAt) [] E (tCons ta (tCons tb tNil))) e (.dat (.int (cellAt zs k))) :=
  DE.call (DA.cons ha (DA.cons hb DA.nil)) ⟨_, _, rfl, h, rfl⟩
theorem DE.lstOfR {ds : List PyData} (ha : DE K ta e (.dat (.tuple ds))) : DE K (tCB (rLstOf K) (tCons ta tNil)) e (.own ds) := DE.lstOfT ha
end
theorem view_cellOf (d : PyData) : view (cellOf d) = cellOf d := by
  unfold cellOf
  split
  · rfl
  · split
    · split <;> rfl
    · rfl
theorem pOf_cellOf (d : PyData) : pOf (cellOf d) = some d := by
  unfold cellOf
  split
  · rfl
  · split
    · split <;> rfl
    · rfl
theorem seen_cellOf (d : PyData) : seen (cellOf d) = true := by
  unfold cellOf
  split
  · rfl
  · split
    · split <;> rfl
    · rfl
theorem DE.varK {K : PySem.W.Frag} {e : List Cell} {i : Nat} {d : PyData} (h : e[i]? = some (cellOf d)) : DE K (tVar i) e (cellOf d) := by
  have := DE.var (K := K) h (seen_cellOf d)
  rw [view_cellOf] at this
  exact this
abbrev Ent := Int × Int × Int
def rowD (r : Ent) : PyData := .tuple [.int r.1, .int r.2.1, .int r.2.2]
def rowL (r : Ent) : PyData := .list [.int r.1, .int r.2.1, .int r.2.2]
def okRows (es : List Ent) : Bool := decide (0 < es.length) && ascB (es.map (·.1))
def deedD (st : Int) (es : List Ent) : PyData := .tuple [.str "deed", .int st, .tuple (es.map rowD)]
def ES (c : Cell) (es : List Ent) : Prop := c = .fz (.list (es.map rowL)) ∨ c = .rd (es.map rowD) ∨ c = .dat (.tuple (es.map rowD))
abbrev fAscendL : PD := fun cs c => ∃ ks : List Int, cs = [.rd (ks.map .int)] ∧ ks.length ≤ 1000 ∧ c = .dat (.bool (ascB ks))
abbrev fDeed : PD := fun cs c => ∃ (st : Int) (es : List Ent) (cE : Cell), cs = [.dat (.int st), cE] ∧ (ES cE es ∧ es.length ≤ 1000 ∧ okRows es = true) ∧ c = .dat (deedD st es)
abbrev xDeed (B : Addr) : PX := fun cs C => ∃ (st : Int) (es : List Ent) (cE : Cell), cs = [.dat (.int st), cE] ∧ (ES cE es ∧ es.length ≤ 1000 ∧ okRows es = false) ∧ C = B
def toldD (st : Int) (es : List Ent) : PyData := if okRows es = true then deedD st es else .list [.bool true]
def toldC (st : Int) (es : List Ent) : Cell := if okRows es = true then .dat (deedD st es) else .own [.bool true]
abbrev fTold : PD := fun cs c => ∃ (st : Int) (es : List Ent) (cE : Cell), cs = [.dat (.int st), cE] ∧ (ES cE es ∧ es.length ≤ 1000) ∧ c = toldC st es
theorem getD_rows {es : List Ent} {j : Nat} {d : PyData} {f : Ent → PyData} (h : (es.map f)[j]? = some d) : d = f (es.getD j (0, 0, 0)) := by
  rw [List.getElem?_map] at h
  rw [List.getD_eq_getElem?_getD]
  cases q : es[j]? with
  | none =>
    rw [q] at h
    cases h
  | some x =>
    rw [q] at h
    exact (Option.some.inj h).symm
theorem range_rows {α : Type} (es : List Ent) (f : Ent → α) : ((List.range es.length).map fun j => f (es.getD j (0, 0, 0))) = es.map f := by
  apply List.ext_getElem
  · simp
  · intro i h1 h2
    rw [List.getElem_map, List.getElem_range, List.getElem_map, List.getD_eq_getElem?_getD, List.getElem?_eq_getElem (by simpa using h2)]
    rfl
theorem atI_rows {es : List Ent} {i : Int} (h0 : 0 ≤ i) (h1 : i < es.length) : L2.atI (es.map rowD) i = some (rowD (es.getD i.toNat (0, 0, 0))) := by
  obtain ⟨n, rfl⟩ := Int.eq_ofNat_of_zero_le h0
  unfold L2.atI
  rw [List.length_map, ixN_nat (by omega)]
  show (es.map rowD)[n]? = _
  rw [List.getElem?_map, List.getElem?_eq_getElem (by omega)]
  show some (rowD es[n]) = some (rowD (es.getD n (0, 0, 0)))
  rw [List.getD_eq_getElem?_getD, List.getElem?_eq_getElem (by omega)]
  rfl
theorem flat_rows : ∀ es : List Ent, flatAll (es.map rowD) = true
  | [] => rfl
  | r :: es => by
    rw [List.map_cons]
    unfold flatAll
    rw [flat_rows es]
    rfl
theorem es_cellOf (es : List Ent) : ES (cellOf (.list (es.map rowL))) es := by
  cases es with
  | nil => exact .inr (.inl rfl)
  | cons r es =>
    left
    unfold cellOf
    rw [if_neg (by simp [flatD])]
    simp only [List.map_cons, rowL, flatAll, flatD, Bool.false_and, if_false]
    rfl
theorem rowL_flat (es : List Ent) : ∀ d ∈ es.map rowL, flatD d = true ∨ ∃ ds, d = .list ds ∧ flatAll ds = true := by
  intro d hd
  obtain ⟨r, _, rfl⟩ := List.mem_map.mp hd
  exact .inr ⟨_, rfl, rfl⟩
theorem toldD_flat (st : Int) (es : List Ent) : flatD (toldD st es) = true ∨ ∃ ds, toldD st es = .list ds ∧ flatAll ds = true := by
  unfold toldD
  split
  · left
    unfold deedD
    simp [flatD, flatAll, flat_rows]
  · exact .inr ⟨_, rfl, rfl⟩
theorem toldZ (st : Int) (es : List Ent) : zOf (toldC st es) = some (toldD st es) := by
  unfold toldC toldD
  split <;> rfl
theorem dk_rows {k : Nat} (es : List Ent) : DkAll (k + 1) (es.map rowD) := DkAll.mem fun d hd => by
  obtain ⟨r, _, rfl⟩ := List.mem_map.mp hd
  exact Dk.tup (.cons (Dk.int _) (.cons (Dk.int _) (.cons (Dk.int _) .nil)))
theorem dk_deed {st : Int} {es : List Ent} : Dk 8 (deedD st es) := Dk.tup (.cons (Dk.str (by decide +kernel)) (.cons (Dk.int _) (.cons (Dk.tup (dk_rows es)) .nil)))
theorem dk_rowsL {es : List Ent} : Dk 8 (.list (es.map rowL)) := Dk.lst (DkAll.mem fun d hd => by
  obtain ⟨r, _, rfl⟩ := List.mem_map.mp hd
  exact Dk.lst (.cons (Dk.int _) (.cons (Dk.int _) (.cons (Dk.int _) .nil))))
/-- valid, after j comparisons -/
def vAt (es : List Ent) (j : Nat) : Bool := decide (0 < es.length) && (List.range j).all fun i => decide ((es.getD i (0, 0, 0)).1 < (es.getD (i + 1) (0, 0, 0)).1)
theorem vAt_succ (es : List Ent) (j : Nat) : vAt es (j + 1) = (vAt es j && decide ((es.getD j (0, 0, 0)).1 < (es.getD (j + 1) (0, 0, 0)).1)) := by
  unfold vAt
  rw [List.range_succ, List.all_append, Bool.and_assoc]
  simp
theorem vAt_end (es : List Ent) : vAt es (es.length - 1) = okRows es := by
  unfold vAt okRows
  rw [← asc_pairs, List.length_map]
  congr 1
  rw [List.all_map]
  apply congrArg (fun f => (List.range (es.length - 1)).all f)
  funext i
  have : ∀ j, (es.map (·.1)).getD j 0 = (es.getD j (0, 0, 0)).1 := fun j => by
    rw [List.getD_eq_getElem?_getD, List.getD_eq_getElem?_getD, List.getElem?_map]
    cases es[j]? <;> rfl
  show decide _ = decide _
  rw [this, this]
end Esp
namespace Esp
open PySem PySem.Spec PyProof.Rows L2
theorem isOwn_view (c : Cell) : isOwn (view c) = false := by cases c <;> rfl
theorem view_told (st : Int) (es : List Ent) : view (toldC st es) = cellOf (toldD st es) := by
  unfold toldC toldD
  split
  · unfold cellOf
    rw [if_pos (by unfold deedD; simp [flatD, flatAll, flat_rows])]
    rfl
  · rfl
theorem told_t {st : Int} {es : List Ent} (h : okRows es = true) : cellOf (toldD st es) = .dat (deedD st es) := by
  unfold toldD
  rw [if_pos h]
  unfold cellOf
  rw [if_pos (by unfold deedD; simp [flatD, flatAll, flat_rows])]
theorem told_f {st : Int} {es : List Ent} (h : okRows es = false) : cellOf (toldD st es) = .rd [.bool true] := by
  unfold toldD
  rw [if_neg (by rw [h]; decide)]
  rfl
end Esp
set_option autoImplicit false
set_option maxRecDepth 100000
set_option maxHeartbeats 4000000
namespace Esp
open PySem PySem.Spec PyProof.Rows L2
theorem TdAll.ints' {H : Hp} : ∀ ks : List Int, TdAll H (ks.map V.int) (ks.map PyData.int)
  | [] => .nil
  | _ :: ks => .cons (.int _) (TdAll.ints' ks)
theorem TdAll.ints_of {H : Hp} : ∀ {xs : List V} {ks : List Int}, TdAll H xs (ks.map .int) → xs = ks.map V.int
  | _, [], h => by
    cases h
    rfl
  | _, k :: ks, h => by
    cases h with
    | cons h1 h2 =>
      cases h1
      rw [TdAll.ints_of h2]
      rfl
def lookD (kvs : List (Int × Int)) (k : Int) : Option Int := (kvs.find? fun p => decide (p.1 = k)).map (·.2)
def putE (kvs : List (Int × Int)) (k v : Int) : List (Int × Int) := if (kvs.any fun p => decide (p.1 = k)) = true then kvs.map (fun p => if p.1 = k then (p.1, v) else p) else kvs ++ [(k, v)]
def dropD (kvs : List (Int × Int)) (k : Int) : List (Int × Int) := kvs.filter fun p => decide (p.1 ≠ k)
theorem inl_dec (a b : Int) : decide ((Sum.inl a : L2.Key) = Sum.inl b) = decide (a = b) := decide_eq_decide.mpr ⟨fun h => Sum.inl.inj h, fun h => by rw [h]⟩
theorem val_enc (k : Int) : ∀ kvs : List (Int × Int), valV (encD kvs) (Sum.inl k) = (lookD kvs k).map V.int
  | [] => rfl
  | p :: r => by
    have ih := val_enc k r
    by_cases e : p.1 = k
    · rw [show encD (p :: r) = (Sum.inl p.1, V.int p.2) :: encD r from rfl, valV_pos (by show Sum.inl p.1 = Sum.inl k; rw [e])]
      simp [lookD, List.find?_cons, e]
    · rw [show encD (p :: r) = (Sum.inl p.1, V.int p.2) :: encD r from rfl, valV_neg (fun z => e (Sum.inl.inj z)), ih]
      simp [lookD, List.find?_cons, e]
theorem any_enc (k : Int) (kvs : List (Int × Int)) : ((encD kvs).any fun kv => decide (kv.1 = Sum.inl k)) = kvs.any fun p => decide (p.1 = k) := by
  rw [List.any_map]
  apply congrArg (fun f => kvs.any f)
  funext p
  exact inl_dec _ _
theorem put_enc (kvs : List (Int × Int)) (k v : Int) : putK (encD kvs) (Sum.inl k) (V.int v) = encD (putE kvs k v) := by
  unfold putK putE
  rw [any_enc]
  split
  · unfold encD
    rw [List.map_map, List.map_map]
    apply List.map_congr_left
    intro p _
    show (if (Sum.inl p.1 : L2.Key) = Sum.inl k then ((Sum.inl p.1 : L2.Key), V.int v) else (Sum.inl p.1, V.int p.2)) = (Sum.inl (if p.1 = k then (p.1, v) else p).1, V.int (if p.1 = k then (p.1, v) else p).2)
    by_cases e : p.1 = k
    · rw [if_pos (by rw [e]), if_pos e]
    · rw [if_neg (fun z => e (Sum.inl.inj z)), if_neg e]
  · unfold encD
    rw [List.map_append]
    rfl
theorem drop_enc (kvs : List (Int × Int)) (k : Int) : dropK (encD kvs) (Sum.inl k) = encD (dropD kvs k) := by
  unfold dropK dropD encD
  rw [List.filter_map]
  congr 1
  apply congrArg (fun f => kvs.filter f)
  funext p
  show decide ((Sum.inl p.1 : L2.Key) ≠ Sum.inl k) = decide (p.1 ≠ k)
  exact decide_eq_decide.mpr ⟨fun h z => h (by rw [z]), fun h z => h (Sum.inl.inj z)⟩
theorem bD_td {H : Hp} : ∀ o : Option Int, Td H ((o.map V.int).getD .non) (bD o)
  | none => .non
  | some i => .int i
section
variable {K : PySem.W.Frag} {ε : Type} [Ctx ε] {e : ε} {ta tb : TE} {kvs : List (Int × Int)} {k : Int}
theorem DE.dGet {v : Int} (ha : DE K ta e (.dct kvs)) (hb : DE K tb e (.dat (.int k))) (hv : lookD kvs k = some v) : DE K (tDGet ta tb) e (.dat (.int v)) := fun H0 H σ Q R q => ha H0 H σ _ R fun x H1 s1 r => hb H0 H1 σ _ (R.up s1) fun y H2 s2 r2 => by
  obtain ⟨a, rfl, h⟩ := r
  cases int_of r2
  have h2 : H2 a = some (.dK (encD kvs)) := s2 _ _ h
  refine ⟨a, .int v, rfl, ?_, q _ _ (s1.trans s2) (.int v)⟩
  have := DGet.k (k := Sum.inl k) h2
  rw [val_enc, hv] at this
  exact this
theorem DE.dGet1 (ha : DE K ta e (.dct kvs)) (hb : DE K tb e (.dat (.int k))) : DE K (tDGet1 ta tb) e (.dat (bD (lookD kvs k))) := fun H0 H σ Q R q => ha H0 H σ _ R fun x H1 s1 r => by
  obtain ⟨a, rfl, h⟩ := r
  refine ⟨a, rfl, .inl ⟨_, .inl h⟩, hb H0 H1 σ _ (R.up s1) fun y H2 s2 r2 => ?_⟩
  cases int_of r2
  have h2 : H2 a = some (.dK (encD kvs)) := s2 _ _ h
  refine ⟨(lookD kvs k).map V.int, ?_, q _ _ (s1.trans s2) (bD_td _)⟩
  have := DGet.k (k := Sum.inl k) h2
  rw [val_enc] at this
  exact this
theorem DE.dIn (ha : DE K ta e (.dat (.int k))) (hb : DE K tb e (.dct kvs)) : DE K (tDIn ta tb) e (.dat (.bool (lookD kvs k).isSome)) := fun H0 H σ Q R q => ha H0 H σ _ R fun y H1 s1 r => hb H0 H1 σ _ (R.up s1) fun x H2 s2 r2 => by
  obtain ⟨a, rfl, h⟩ := r2
  cases int_of r
  refine ⟨a, (lookD kvs k).map V.int, rfl, ?_, ?_⟩
  · have := DGet.k (k := Sum.inl k) h
    rw [val_enc] at this
    exact this
  · rw [Option.isSome_map]
    exact q _ _ (s1.trans s2) (.bl _)
theorem DE.dLen (ha : DE K ta e (.dct kvs)) : DE K (tCB (fun xs H Q => ∃ a kvs, xs = [V.ref a] ∧ H a = some (.dK kvs) ∧ Q (.int kvs.length) H) (tCons ta tNil)) e (.dat (.int kvs.length)) := fun H0 H σ Q R q => ha H0 H σ _ R fun x H1 s1 r => by
  obtain ⟨a, rfl, h⟩ := r
  refine ⟨a, _, rfl, h, ?_⟩
  rw [List.length_map]
  exact q _ _ s1 (.int _)
/-- sorted(d): the one ascending list of the keys -/
theorem DE.dSorted {ks : List Int} (ha : DE K ta e (.dct kvs)) (hl : kvs.length < 64) (hu : ∀ ys : List Int, ys.Perm (kvs.map (·.1)) → ys.Pairwise (· ≤ ·) → ys = ks) :
    DE K (tCB (fun xs H Q => ∃ (a : Addr) (kvs : List (L2.Key × V)) (ks : List Int), xs = [.ref a] ∧ Rd H a (.dK kvs) ∧ kvs.map (·.1) = ks.map Sum.inl ∧ ks.length < 64 ∧ ∀ (ys : List Int) (p : Addr), ys.Perm ks → ys.Pairwise (· ≤ ·) → H p = none → Q (.ref p) (upd H p (.lst (ys.map V.int)))) (tCons ta tNil)) e (.own (ks.map .int)) := fun H0 H σ Q R q => ha H0 H σ _ R fun x H1 s1 r => by
  obtain ⟨a, rfl, h⟩ := r
  refine ⟨a, _, kvs.map (·.1), rfl, .inl h, by rw [List.map_map, List.map_map]; rfl, by rw [List.length_map]; exact hl, fun ys p hp hs np => ?_⟩
  have s2 := Same.new (o := .lst (ys.map V.int)) np
  have e1 := hu ys hp hs
  subst e1
  refine q _ _ (s1.trans s2) ⟨p, _, rfl, s1.free np, upd_same, ?_⟩
  exact TdAll.ints' _
theorem DE.int1B {b : Bool} (ha : DE K ta e (.dat (.bool b))) : DE K (tCB (fun xs H Q => (∃ i, xs = [V.int i] ∧ Q (.int i) H) ∨ ∃ k, xs = [V.bl k] ∧ Q (.int (if k then 1 else 0)) H) (tCons ta tNil)) e (.dat (.int (if b = true then 1 else 0))) := fun H0 H σ Q R q => ha H0 H σ _ R fun x H1 s1 r => by
  cases bl_of r
  exact .inr ⟨b, rfl, q _ _ s1 (.int _)⟩
end
section
variable {K : PySem.W.Frag} {ε : Type} [Ctx ε] {e : ε} {ta tb : TE}
/-- t.index(x) -/
theorem DE.tIndex {ks : List Int} {k : Int} (ha : DE K ta e (.dat (.tuple (ks.map .int)))) (hb : DE K tb e (.dat (.int k))) (hm : k ∈ ks) : DE K (tTIndex ta tb) e (.dat (.int (ks.idxOf k : Nat))) := fun H0 H σ Q R q => ha H0 H σ _ R fun x H1 s1 r => by
  obtain ⟨a, xs, rfl, h, t⟩ := tup_of r
  refine ⟨a, xs, rfl, h, hb H0 H1 σ _ (R.up s1) fun y H2 s2 r2 => ?_⟩
  cases int_of r2
  have : xs = ks.map V.int := t.ints_of
  subst this
  exact ⟨ks, k, rfl, h.same s2, hm, q _ _ (s1.trans s2) (.int _)⟩
end
section
variable {K : PySem.W.Frag} {E : XK} {e : List Cell × Hs} {P : OutM → Prop} {ta tb tv : TE} {kvs : List (Int × Int)} {k v : Int} {a : Addr} {i : Nat}
theorem DE.viewD (ha : DE K ta e (.raw (.ref a))) (hi : e.2[i]? = some (a, .dct kvs)) : DE K ta e (.dct kvs) := fun H0 H σ Q R q => ha H0 H σ _ R fun x H1 s1 r => by
  have R1 : EnvM K H0 H1 σ e := EnvM.up R s1
  cases r
  exact q _ _ s1 ⟨a, rfl, (R1.hp.get hi).2⟩
theorem DM.dPut (hv : DE K tv e (.dat (.int v))) (ha : DE K ta e (.raw (.ref a))) (hb : DE K tb e (.dat (.int k))) (hi : e.2[i]? = some (a, .dct kvs)) (hl : kvs.length < 1000) (p : P (.next (e.1, e.2.set i (a, .dct (putE kvs k v))))) : DM K E (sDPut ta tb tv) e P := fun H0 H σ D R q => hv H0 H σ _ R fun z H1 s1 r1 => ha H0 H1 σ _ (Ctx.R.up R s1) fun x H2 s2 r2 => hb H0 H2 σ _ (Ctx.R.up R (s1.trans s2)) fun y H3 s3 r3 => by
  have R3 : EnvM K H0 H3 σ e := EnvM.up R ((s1.trans s2).trans s3)
  cases int_of r1
  cases int_of r3
  cases r2
  have h := (R3.hp.get hi).2
  refine ⟨a, _, rfl, DPut.k (k := Sum.inl k) (v := .int v) h (by rw [List.length_map, sizeLine_eq]; omega), ?_⟩
  rw [put_enc]
  exact q _ p σ _ (R3.wr hi upd_same)
theorem DM.dPop (ha : DE K ta e (.raw (.ref a))) (hb : DE K tb e (.dat (.int k))) (hi : e.2[i]? = some (a, .dct kvs)) (hv : lookD kvs k = some v) (p : P (.next (e.1, e.2.set i (a, .dct (dropD kvs k))))) : DM K E (tDrop (tDPop1 ta tb)) e P := fun H0 H σ D R q => ha H0 H σ _ R fun x H1 s1 r1 => by
  have R1 : EnvM K H0 H1 σ e := EnvM.up R s1
  cases r1
  refine ⟨a, rfl, .inl ⟨_, .inl (R1.hp.get hi).2⟩, hb H0 H1 σ _ R1 fun y H2 s2 r2 => ?_⟩
  have R2 : EnvM K H0 H2 σ e := EnvM.up R1 s2
  cases int_of r2
  refine ⟨_, Sum.inl k, .int v, (R2.hp.get hi).2, rfl, by rw [val_enc, hv]; rfl, ?_⟩
  rw [drop_enc]
  exact q _ p σ _ (R2.wr hi upd_same)
theorem DM.newD {j : Nat} (p : ∀ l, P (.next (e.1.set j (.raw (.ref l)), (l, .dct []) :: e.2))) : DM K E (tAsg tDNewK (gName j)) e P := fun H0 H σ D R q => fun l nl => by
  have R : EnvM K H0 H σ e := R
  have s := Same.new (o := .dK ([] : List (L2.Key × V))) nl
  have R1 := R.up s
  have far : ∀ p ∈ e.2, p.1 ≠ l := fun p hp z => by
    obtain ⟨o, ho, _⟩ := (R.hp.at_ p hp).2.some
    rw [z, nl] at ho
    cases ho
  have R2 : EnvM K H0 (upd H l (.dK [])) σ (e.1, (l, .dct []) :: e.2) := by
    refine ⟨R1.ev, ⟨fun p hp => ?_, ?_⟩, fun j c b h1 h2 h3 hd => ?_⟩
    · rcases List.mem_cons.mp hp with rfl | hp
      · exact ⟨fun _ => R.ev.sm.free nl, upd_same⟩
      · exact R1.hp.at_ p hp
    · show (l :: dom e.2).Nodup
      rw [List.nodup_cons]
      refine ⟨fun z => ?_, R.hp.nd⟩
      obtain ⟨c, hm, hfx⟩ := dom_mem z
      exact far _ hm rfl
    · rcases List.mem_cons.mp hd with z | z
      · obtain ⟨xs, hx⟩ := slot_lst R.ev h1 h2 h3
        have z : b = l := z
        rw [z, nl] at hx
        cases hx
      · exact R.sep j c b h1 h2 h3 z
  refine q _ (p l) _ _ ⟨R2.ev.put (Same.refl _) (c := .raw (.ref l)) rfl rfl, R2.hp, fun m c b h1 h2 h3 => ?_⟩
  rcases get_set h1 with ⟨rfl, rfl⟩ | ⟨nm, em⟩
  · cases h2
  · rw [List.getElem?_set_ne nm] at h3
    exact R2.sep m c b em h2 h3
end
end Esp
set_option autoImplicit false
set_option maxRecDepth 100000
set_option maxHeartbeats 4000000
namespace Esp
open PySem PySem.Spec PyProof.Rows L2
abbrev Tab := List (Int × Int)
abbrev fsts (ps : Tab) : List Int := ps.map (·.1)
abbrev snds (ps : Tab) : List Int := ps.map (·.2)
def Srt (ps : Tab) : Prop := ps.Pairwise fun a b => a.1 < b.1
theorem Srt.keys {ps : Tab} (h : Srt ps) : (fsts ps).Pairwise (· < ·) := List.pairwise_map.mpr h
theorem Srt.nodup {ps : Tab} (h : Srt ps) : (fsts ps).Nodup := h.keys.imp fun h => by omega
theorem look_cons (p : Int × Int) (r : Tab) (k : Int) : lookD (p :: r) k = if p.1 = k then some p.2 else lookD r k := by
  unfold lookD
  rw [List.find?_cons]
  by_cases h : p.1 = k
  · simp [h]
  · simp [h]
theorem look_mem : ∀ {ps : Tab} {k v : Int}, (fsts ps).Nodup → (lookD ps k = some v ↔ (k, v) ∈ ps)
  | [], k, v, _ => by simp [lookD]
  | p :: r, k, v, h => by
    have h' := List.nodup_cons.mp h
    rw [look_cons, List.mem_cons]
    by_cases e : p.1 = k
    · rw [if_pos e]
      constructor
      · intro z
        left
        rw [← e, ← Option.some.inj z]
      · rintro (z | z)
        · rw [← z]
        · exact absurd (show p.1 ∈ fsts r from by rw [e]; exact List.mem_map.mpr ⟨_, z, rfl⟩) h'.1
    · rw [if_neg e, look_mem h'.2]
      constructor
      · exact .inr
      · rintro (z | z)
        · exact absurd (by rw [← z]) e
        · exact z
theorem look_perm {ps qs : Tab} (hp : ps.Perm qs) (hn : (fsts qs).Nodup) (k : Int) : lookD ps k = lookD qs k := by
  have hn' : (fsts ps).Nodup := (hp.map (·.1)).nodup_iff.mpr hn
  apply Option.ext
  intro v
  rw [look_mem hn', look_mem hn]
  exact hp.mem_iff
theorem look_none {ps : Tab} {k : Int} (h : k ∉ fsts ps) : lookD ps k = none := by
  unfold lookD
  rw [Option.map_eq_none_iff, List.find?_eq_none]
  intro p hp z
  exact h (List.mem_map.mpr ⟨p, hp, of_decide_eq_true z⟩)
theorem look_idx : ∀ {ps : Tab} {k : Int}, k ∈ fsts ps → lookD ps k = some (kAt (snds ps) ((fsts ps).idxOf k : Nat)) ∧ (fsts ps).idxOf k < ps.length
  | [], k, h => by simp at h
  | p :: r, k, h => by
    rw [look_cons]
    by_cases e : p.1 = k
    · rw [if_pos e]
      have : (fsts (p :: r)).idxOf k = 0 := by
        show (p.1 :: fsts r).idxOf k = 0
        rw [e, List.idxOf_cons_self]
      rw [this]
      exact ⟨rfl, by simp⟩
    · rw [if_neg e]
      have hr : k ∈ fsts r := by
        rcases List.mem_cons.mp h with z | z
        · exact absurd z.symm e
        · exact z
      have ih := look_idx hr
      have : (fsts (p :: r)).idxOf k = (fsts r).idxOf k + 1 := by
        show (p.1 :: fsts r).idxOf k = _
        have hb : (p.1 == k) = false := by simpa using e
        rw [List.idxOf_cons, hb]
        rfl
      rw [this]
      refine ⟨ih.1.trans ?_, by simpa using ih.2⟩
      rfl
theorem look_some {ps : Tab} {k : Int} : (lookD ps k).isSome = decide (k ∈ fsts ps) := by
  by_cases h : k ∈ fsts ps
  · rw [(look_idx h).1, decide_eq_true h]
    rfl
  · rw [look_none h, decide_eq_false h]
    rfl
def below (ps : Tab) (k : Int) : Nat := ((fsts ps).filter fun x => decide (x < k)).length
def behind (ps : Tab) (k : Int) : Nat := if k ∈ fsts ps then below ps k + 1 else below ps k
def insP (ps : Tab) (k v : Int) : Tab := ps.take (below ps k) ++ [(k, v)] ++ ps.drop (behind ps k)
def insR (k v : Int) : Tab → Tab
  | [] => [(k, v)]
  | p :: r => if p.1 < k then p :: insR k v r else if p.1 = k then (k, v) :: r else (k, v) :: p :: r
theorem ins_eq {k v : Int} : ∀ {ps : Tab}, Srt ps → insP ps k v = insR k v ps
  | [], _ => by simp [insP, below, behind, insR]
  | p :: r, h => by
    have h' := List.pairwise_cons.mp h
    have far : ∀ {q : Int}, q ≤ p.1 → ((fsts r).filter fun x => decide (x < q)) = [] := fun hq => by
      rw [List.filter_eq_nil_iff]
      intro x hx
      obtain ⟨y, hy, rfl⟩ := List.mem_map.mp hx
      have := h'.1 y hy
      simp
      omega
    unfold insR
    by_cases h1 : p.1 < k
    · rw [if_pos h1, ← ins_eq h'.2]
      have b1 : below (p :: r) k = below r k + 1 := by simp [below, h1]
      have m1 : k ∈ fsts (p :: r) ↔ k ∈ fsts r := by
        show k ∈ p.1 :: fsts r ↔ _
        rw [List.mem_cons]
        constructor
        · rintro (z | z)
          · omega
          · exact z
        · exact .inr
      have b2 : behind (p :: r) k = behind r k + 1 := by
        unfold behind
        by_cases z : k ∈ fsts r
        · rw [if_pos (m1.mpr z), if_pos z, b1]
        · rw [if_neg (fun y => z (m1.mp y)), if_neg z, b1]
      unfold insP
      rw [b1, b2]
      rfl
    · rw [if_neg h1]
      have b1 : below (p :: r) k = 0 := by
        unfold below
        show (((p.1 :: fsts r).filter fun x => decide (x < k))).length = 0
        rw [List.filter_cons, if_neg (by simpa using h1), far (by omega)]
        rfl
      by_cases h2 : p.1 = k
      · rw [if_pos h2]
        unfold insP behind
        rw [b1, if_pos (show k ∈ fsts (p :: r) from by show k ∈ p.1 :: fsts r; rw [h2]; exact List.mem_cons_self ..)]
        rfl
      · rw [if_neg h2]
        have : k ∉ fsts (p :: r) := fun z => by
          rcases List.mem_cons.mp (show k ∈ p.1 :: fsts r from z) with z | z
          · exact h2 z.symm
          · obtain ⟨y, hy, rfl⟩ := List.mem_map.mp z
            have := h'.1 y hy
            omega
        unfold insP behind
        rw [b1, if_neg this]
        rfl
theorem insR_mem {k v : Int} : ∀ {ps : Tab} {q : Int × Int}, q ∈ insR k v ps → q = (k, v) ∨ q ∈ ps
  | [], q, h => by
    rw [insR, List.mem_singleton] at h
    exact .inl h
  | p :: r, q, h => by
    unfold insR at h
    split at h
    · rcases List.mem_cons.mp h with rfl | h
      · exact .inr (List.mem_cons_self ..)
      · rcases insR_mem h with z | z
        · exact .inl z
        · exact .inr (List.mem_cons_of_mem _ z)
    · split at h
      · rcases List.mem_cons.mp h with z | z
        · exact .inl z
        · exact .inr (List.mem_cons_of_mem _ z)
      · rcases List.mem_cons.mp h with z | z
        · exact .inl z
        · exact .inr z
theorem insR_srt {k v : Int} : ∀ {ps : Tab}, Srt ps → Srt (insR k v ps)
  | [], _ => List.pairwise_singleton _ _
  | p :: r, h => by
    have h' := List.pairwise_cons.mp h
    unfold insR
    split
    · next h1 =>
      refine List.pairwise_cons.mpr ⟨fun q hq => ?_, insR_srt h'.2⟩
      rcases insR_mem hq with rfl | hq
      · exact h1
      · exact h'.1 q hq
    · split
      · next h1 h2 => exact List.pairwise_cons.mpr ⟨fun q hq => by have := h'.1 q hq; show k < q.1; omega, h'.2⟩
      · next h1 h2 =>
        refine List.pairwise_cons.mpr ⟨fun q hq => ?_, h⟩
        rcases List.mem_cons.mp hq with rfl | hq
        · show k < q.1
          omega
        · have := h'.1 q hq
          show k < q.1
          omega
def repl (k v : Int) (p : Int × Int) : Int × Int := if p.1 = k then (p.1, v) else p
theorem insR_new {k v : Int} : ∀ {ps : Tab}, k ∉ fsts ps → (insR k v ps).Perm ((k, v) :: ps)
  | [], _ => List.Perm.refl _
  | p :: r, h => by
    have h1 : p.1 ≠ k := fun z => h (by rw [← z]; exact List.mem_cons_self ..)
    have h2 : k ∉ fsts r := fun z => h (List.mem_cons_of_mem _ z)
    unfold insR
    split
    · exact ((insR_new h2).cons p).trans (List.Perm.swap _ _ _)
    · first
        | exact List.Perm.refl _
        | rw [if_neg h1]
theorem insR_old {k v : Int} : ∀ {ps : Tab}, Srt ps → k ∈ fsts ps → insR k v ps = ps.map (repl k v)
  | [], _, h => by simp at h
  | p :: r, h, hk => by
    have h' := List.pairwise_cons.mp h
    unfold insR
    split
    · next h1 =>
      have hr : k ∈ fsts r := by
        rcases List.mem_cons.mp (show k ∈ p.1 :: fsts r from hk) with z | z
        · omega
        · exact z
      rw [insR_old h'.2 hr, List.map_cons]
      congr 1
      unfold repl
      rw [if_neg (by omega)]
    · next h1 =>
      split
      · next h2 =>
        rw [List.map_cons]
        congr 1
        · unfold repl
          rw [if_pos h2, h2]
        · symm
          rw [List.map_congr_left (g := id) (fun q hq => ?_), List.map_id]
          have := h'.1 q hq
          unfold repl
          rw [if_neg (by omega)]
          rfl
      · next h2 =>
        rcases List.mem_cons.mp (show k ∈ p.1 :: fsts r from hk) with z | z
        · exact absurd z.symm h2
        · obtain ⟨y, hy, rfl⟩ := List.mem_map.mp z
          have := h'.1 y hy
          omega
theorem any_mem {ps : Tab} {k : Int} : (ps.any fun p => decide (p.1 = k)) = decide (k ∈ fsts ps) := by
  rw [Bool.eq_iff_iff, List.any_eq_true, decide_eq_true_eq, List.mem_map]
  constructor
  · rintro ⟨p, hp, e⟩
    exact ⟨p, hp, of_decide_eq_true e⟩
  · rintro ⟨p, hp, e⟩
    exact ⟨p, hp, decide_eq_true e⟩
theorem put_perm {kvs ps : Tab} {k v : Int} (hp : kvs.Perm ps) (hs : Srt ps) : (putE kvs k v).Perm (insP ps k v) := by
  rw [ins_eq hs]
  have hm : k ∈ fsts kvs ↔ k ∈ fsts ps := (hp.map (·.1)).mem_iff
  unfold putE
  rw [any_mem]
  by_cases h : k ∈ fsts ps
  · rw [if_pos (decide_eq_true (hm.mpr h)), insR_old hs h]
    exact hp.map (repl k v)
  · rw [if_neg (fun z => h (hm.mp (of_decide_eq_true z)))]
    exact (List.perm_append_comm.trans (hp.cons (k, v))).trans (insR_new h).symm
def outP (ps : Tab) (i : Nat) : Tab := ps.take i ++ ps.drop (i + 1)
theorem out_eq : ∀ {ps : Tab} {k : Int}, (fsts ps).Nodup → k ∈ fsts ps → outP ps ((fsts ps).idxOf k) = dropD ps k
  | [], k, _, h => by simp at h
  | p :: r, k, hn, h => by
    have hn' := List.nodup_cons.mp (show (p.1 :: fsts r).Nodup from hn)
    by_cases e : p.1 = k
    · have : (fsts (p :: r)).idxOf k = 0 := by
        show (p.1 :: fsts r).idxOf k = 0
        rw [e, List.idxOf_cons_self]
      rw [this]
      show r = dropD (p :: r) k
      unfold dropD
      rw [List.filter_cons, if_neg (by simp [e])]
      symm
      rw [List.filter_eq_self]
      intro q hq
      have : q.1 ≠ k := fun z => hn'.1 (by rw [e, ← z]; exact List.mem_map.mpr ⟨q, hq, rfl⟩)
      simpa using this
    · have hr : k ∈ fsts r := by
        rcases List.mem_cons.mp (show k ∈ p.1 :: fsts r from h) with z | z
        · exact absurd z.symm e
        · exact z
      have : (fsts (p :: r)).idxOf k = (fsts r).idxOf k + 1 := by
        show (p.1 :: fsts r).idxOf k = _
        have hb : (p.1 == k) = false := by simpa using e
        rw [List.idxOf_cons, hb]
        rfl
      rw [this]
      show p :: outP r ((fsts r).idxOf k) = dropD (p :: r) k
      rw [out_eq hn'.2 hr]
      unfold dropD
      rw [List.filter_cons, if_pos (by simpa using e)]
theorem srt_drop {ps : Tab} {k : Int} (h : Srt ps) : Srt (dropD ps k) := h.sublist List.filter_sublist
theorem drop_perm {kvs ps : Tab} {k : Int} (hp : kvs.Perm ps) : (dropD kvs k).Perm (dropD ps k) := hp.filter _
theorem asc_unique : ∀ {ks ys : List Int}, ys.Perm ks → ys.Pairwise (· ≤ ·) → ks.Pairwise (· ≤ ·) → ys = ks
  | [], ys, h, _, _ => h.eq_nil
  | k :: r, [], h, _, _ => absurd h.symm.eq_nil (by simp)
  | k :: r, y :: t, h, hy, hk => by
    have hy' := List.pairwise_cons.mp hy
    have hk' := List.pairwise_cons.mp hk
    have e : y = k := by
      have m1 : y ∈ k :: r := h.mem_iff.mp (List.mem_cons_self ..)
      have m2 : k ∈ y :: t := h.mem_iff.mpr (List.mem_cons_self ..)
      rcases List.mem_cons.mp m1 with z | z
      · exact z
      · rcases List.mem_cons.mp m2 with w | w
        · exact w.symm
        · have := hk'.1 y z
          have := hy'.1 k w
          omega
    subst e
    rw [asc_unique (List.Perm.cons_inv h) hy'.2 hk'.2]
def LeafT (lo hi : Option Int) (ps : Tab) : Prop := (∀ a b, lo = some a → hi = some b → a < b) ∧ Srt ps ∧ ∀ p ∈ ps, btw lo hi p.1 = true
theorem LeafT.p {lo hi : Option Int} {ps : Tab} (h : LeafT lo hi ps) : LeafP lo hi (fsts ps) (snds ps) := ⟨h.1, by rw [List.length_map, List.length_map], h.2.1.keys, fun k hk => by
  obtain ⟨p, hp, rfl⟩ := List.mem_map.mp hk
  exact btw_iff.mp (h.2.2 p hp)⟩
theorem LeafT.ins {lo hi : Option Int} {ps : Tab} {k v : Int} (h : LeafT lo hi ps) (hk : btw lo hi k = true) : LeafT lo hi (insP ps k v) := by
  rw [ins_eq h.2.1]
  refine ⟨h.1, insR_srt h.2.1, fun p hp => ?_⟩
  rcases insR_mem hp with rfl | hp
  · exact hk
  · exact h.2.2 p hp
theorem LeafT.drop {lo hi : Option Int} {ps : Tab} {k : Int} (h : LeafT lo hi ps) : LeafT lo hi (dropD ps k) := ⟨h.1, srt_drop h.2.1, fun p hp => h.2.2 p (List.mem_filter.mp hp).1⟩
abbrev leafT (lo hi : Option Int) (ps : Tab) : PyData := leafD lo hi (fsts ps) (snds ps)
abbrev fValueIn : PD := fun cs c => ∃ (lo hi : Option Int) (ps : Tab) (k : Int), cs = [.dat (leafT lo hi ps), .dat (.int k)] ∧ ps.length ≤ 900 ∧ c = .dat (bD (lookD ps k))
abbrev fWithValue : PD := fun cs c => ∃ (lo hi : Option Int) (ps : Tab) (k v : Int), cs = [.dat (leafT lo hi ps), .dat (.int k), .dat (.int v)] ∧ (LeafT lo hi ps ∧ btw lo hi k = true ∧ ps.length ≤ 900) ∧ c = .dat (leafT lo hi (insP ps k v))
abbrev fWithout : PD := fun cs c => ∃ (lo hi : Option Int) (ps : Tab) (k : Int), cs = [.dat (leafT lo hi ps), .dat (.int k)] ∧ (LeafT lo hi ps ∧ k ∈ fsts ps ∧ ps.length ≤ 900) ∧ c = .dat (leafT lo hi (dropD ps k))
abbrev fLawLeaf : PD := fun cs c => ∃ (lo hi : Option Int) (kvs ps : Tab), cs = [.dat (bD lo), .dat (bD hi), .dct kvs] ∧ (kvs.Perm ps ∧ Srt ps ∧ ps.length < 64) ∧ c = .dat (leafT lo hi ps)
end Esp
namespace Esp
open PySem PySem.Spec PyProof.Rows L2
theorem DE.varF {K : PySem.W.Frag} {e : List Cell} {i : Nat} {k : Fix} (h : e[i]? = some (.fix k)) : DE K (tVar i) e (.fix k) := DE.var h rfl
end Esp
set_option autoImplicit false
set_option maxRecDepth 100000
set_option maxHeartbeats 4000000
namespace Esp
open PySem PySem.Spec PyProof.Rows L2
/-- the cell c is the data d, and reads as itself -/
structure CD (c : Cell) (d : PyData) : Prop where
  z : zOf c = some d
  v : view c = c
  s : seen c = true
theorem CD.dat {d : PyData} : CD (.dat d) d := ⟨rfl, rfl, rfl⟩
theorem CD.rd {ds : List PyData} : CD (.rd ds) (.list ds) := ⟨rfl, rfl, rfl⟩
theorem CD.fz {d : PyData} : CD (.fz d) d := ⟨rfl, rfl, rfl⟩
theorem CD.cell (d : PyData) : CD (cellOf d) d := by
  refine ⟨?_, view_cellOf d, seen_cellOf d⟩
  unfold cellOf
  split
  · rfl
  · split
    · split <;> rfl
    · rfl
theorem CD.p {c : Cell} {d : PyData} (h : CD c d) : pOf c = some d := by
  have := h.z
  cases c with
  | fix k => cases k <;> first | exact this | cases this
  | _ => first | exact this | cases this
def isLstD : PyData → Bool
  | .list _ => true
  | _ => false
theorem fz_typ {K : PySem.W.Frag} {H : Hp} {v : V} {d : PyData} (h : Fz H v d) : ∃ t : String, TyX K H v (.type t) ∧ kitB t "int" = some (isIntD d) ∧ kitB t "bool" = some (isBlD d) ∧ kitB t "tuple" = some (isTupD d) ∧ kitB t "list" = some (isLstD d) ∧ kitB t "str" = some (isStrD d) := by
  cases h with
  | non => exact ⟨_, .base .non, by decide +kernel, by decide +kernel, by decide +kernel, by decide +kernel, by decide +kernel⟩
  | bl b => exact ⟨"bool", .base (.bl b), (by show kitB "bool" "int" = some true; decide +kernel), (by show kitB "bool" "bool" = some true; decide +kernel), (by show kitB "bool" "tuple" = some false; decide +kernel), (by show kitB "bool" "list" = some false; decide +kernel), (by show kitB "bool" "str" = some false; decide +kernel)⟩
  | int i => exact ⟨"int", .base (.int i), (by show kitB "int" "int" = some true; decide +kernel), (by show kitB "int" "bool" = some false; decide +kernel), (by show kitB "int" "tuple" = some false; decide +kernel), (by show kitB "int" "list" = some false; decide +kernel), (by show kitB "int" "str" = some false; decide +kernel)⟩
  | str x => exact ⟨"str", .base (.str x), (by show kitB "str" "int" = some false; decide +kernel), (by show kitB "str" "bool" = some false; decide +kernel), (by show kitB "str" "tuple" = some false; decide +kernel), (by show kitB "str" "list" = some false; decide +kernel), (by show kitB "str" "str" = some true; decide +kernel)⟩
  | tup h1 h2 => exact ⟨"tuple", .fTuple h1.choose_spec.2, (by show kitB "tuple" "int" = some false; decide +kernel), (by show kitB "tuple" "bool" = some false; decide +kernel), (by show kitB "tuple" "tuple" = some true; decide +kernel), (by show kitB "tuple" "list" = some false; decide +kernel), (by show kitB "tuple" "str" = some false; decide +kernel)⟩
  | lst h1 h2 => exact ⟨"list", .base (.lst h1), (by show kitB "list" "int" = some false; decide +kernel), (by show kitB "list" "bool" = some false; decide +kernel), (by show kitB "list" "tuple" = some false; decide +kernel), (by show kitB "list" "list" = some true; decide +kernel), (by show kitB "list" "str" = some false; decide +kernel)⟩
section
variable {K : PySem.W.Frag} {ε : Type} [Ctx ε] {e : ε} {c : Cell} {ta tb : TE} {d : PyData}
theorem DE.isiA {T : String} {b : Bool} (ha : DE K ta e c) (hc : CD c d) (hk : ∀ t : String, kitB t "int" = some (isIntD d) → kitB t "bool" = some (isBlD d) → kitB t "tuple" = some (isTupD d) → kitB t "list" = some (isLstD d) → kitB t "str" = some (isStrD d) → kitB t T = some b) : DE K (tCB (rIsi K) (tCons ta (tCons (tC (.ty T)) tNil))) e (.dat (.bool b)) := fun H0 H σ Q E q => ha H0 H σ _ E fun x H1 s1 r => by
  obtain ⟨t, h1, h2, h3, h4, h5, h6⟩ := fz_typ (K := K) (r.fz hc.z)
  exact ⟨x, .ty T, _, _, b, rfl, .ty T, h1, kit_ty (hk t h2 h3 h4 h5 h6), q _ _ s1 (.bl b)⟩
theorem DE.isiAI (ha : DE K ta e c) (hc : CD c d) : DE K (tCB (rIsi K) (tCons ta (tCons (tC (.ty "int")) tNil))) e (.dat (.bool (isIntD d))) := ha.isiA hc fun _ h _ _ _ _ => h
theorem DE.isiAB (ha : DE K ta e c) (hc : CD c d) : DE K (tCB (rIsi K) (tCons ta (tCons (tC (.ty "bool")) tNil))) e (.dat (.bool (isBlD d))) := ha.isiA hc fun _ _ h _ _ _ => h
theorem DE.isiAT (ha : DE K ta e c) (hc : CD c d) : DE K (tCB (rIsi K) (tCons ta (tCons (tC (.ty "tuple")) tNil))) e (.dat (.bool (isTupD d))) := ha.isiA hc fun _ _ _ h _ _ => h
theorem DE.isiAL (ha : DE K ta e c) (hc : CD c d) : DE K (tCB (rIsi K) (tCons ta (tCons (tC (.ty "list")) tNil))) e (.dat (.bool (isLstD d))) := ha.isiA hc fun _ _ _ _ h _ => h
theorem DE.isNA (ha : DE K ta e c) (hc : CD c d) (hb : DE K tb e (.dat .none)) : DE K (tOp (fun x y H Q => y = .non ∧ Q (.bl (decide (x = .non))) H) ta tb) e (.dat (.bool (isNon d))) :=
  ha.two hb fun H H' x y Q rx ry q => by
    refine ⟨non_of ry, ?_⟩
    have : decide (x = .non) = isNon d := by
      have := rx.fz hc.z
      cases this <;> simp [isNon]
    rw [this]
    exact q _ _ (Same.refl _) (.bl _)
theorem DE.notNA (ha : DE K ta e c) (hc : CD c d) (hb : DE K tb e (.dat .none)) : DE K (tOp (fun x y H Q => y = .non ∧ Q (.bl (!decide (x = .non))) H) ta tb) e (.dat (.bool (!isNon d))) :=
  ha.two hb fun H H' x y Q rx ry q => by
    refine ⟨non_of ry, ?_⟩
    have : decide (x = .non) = isNon d := by
      have := rx.fz hc.z
      cases this <;> simp [isNon]
    rw [this]
    exact q _ _ (Same.refl _) (.bl _)
theorem atI0 (x : PyData) (ds : List PyData) : L2.atI (x :: ds) 0 = some x := by
  unfold L2.atI
  have : ixN (x :: ds).length 0 = some 0 := by simp [ixN]
  rw [this]
  rfl
theorem FzAll.atI {H : Hp} {xs : List V} {ds : List PyData} {i : Int} {d : PyData} (h : FzAll H xs ds) (e : L2.atI ds i = some d) : ∃ v, L2.atI xs i = some v ∧ Fz H v d := by
  unfold L2.atI at e ⊢
  rw [h.len]
  cases z : ixN ds.length i with
  | none =>
    rw [z] at e
    cases e
  | some j =>
    rw [z] at e
    exact h.get e
theorem DE.ixA {ds : List PyData} {i : Int} (ha : DE K ta e c) (hc : CD c (.tuple ds)) (hb : DE K tb e (.dat (.int i))) (hd : L2.atI ds i = some d) : DE K (tOp (rIxT K) ta tb) e (cellOf d) :=
  ha.two hb fun H H' x y Q rx ry q => by
    cases int_of ry
    cases rx.fz hc.z with
    | tup hs t =>
      obtain ⟨v, ev, tv⟩ := t.atI hd
      exact ⟨_, _, i, v, rfl, rfl, hs.sq, ev, q _ _ (Same.refl _) tv.cell⟩
theorem DE.lenA {ds : List PyData} (ha : DE K ta e c) (hc : CD c (.tuple ds)) : DE K (tCB (rLen K) (tCons ta tNil)) e (.dat (.int ds.length)) := fun H0 H σ Q E q => ha H0 H σ _ E fun x H1 s1 r => by
  cases r.fz hc.z with
  | tup hs t =>
    refine ⟨_, _, rfl, .inr hs.sq, ?_⟩
    rw [t.len]
    exact q _ _ s1 (.int _)
theorem DE.eqA {cb : Cell} {d' : PyData} (ha : DE K ta e c) (hb : DE K tb e cb) (h1 : CD c d) (h2 : CD cb d') (sa : Shp d) (sb : Shp d') : DE K (tOp (rEqD K) ta tb) e (.dat (.bool (PyData.eqv d d'))) := DE.eqZ ha hb h1.p h2.p sa sb
end
section
variable {K : PySem.W.Frag} {E : XK} {e : List Cell} {c : Cell} {d : PyData}
theorem DE.varA {i : Nat} (h : e[i]? = some c) (hc : CD c d) : DE K (tVar i) e c := by
  have := DE.var (K := K) h hc.s
  rw [hc.v] at this
  exact this
/-- a, b, .. = a tuple of any parts -/
theorem DS.unpackA {te : TE} {ds : List PyData} {n : Nat} {gs : TGs} {u : TS} {o : Out} (is : List Nat) (hgs : gs = gNames is) (h : DE K te e c) (hc : CD c (.tuple ds)) (hn : ds.length = n) (hi : is.length = n) (hf : finO o = true) (hu : DS K E u (setCells (e.map Esp.view) is ds) o) : DS K E (tSeq (tAsg te (gTup K n gs)) u) e o := fun H0 H σ D R q => h H0 H σ _ R fun v H1 s r => by
  subst hgs
  cases r.fz hc.z with
  | tup hs ha =>
    have R1 : EnvR K H0 H1 σ e := EnvR.up R s
    exact ⟨_, _, rfl, hs.sq, by rw [ha.len]; exact hn, putNames R1.view (view_own e) (hi.trans hn.symm) ha fun σ' R' => hu ⟨H1, H1⟩ H1 _ _ R' (q.rebase hf R1.sm)⟩
end
def bndB (d : PyData) : Bool := isNon d || wh d
def ltB : PyData → PyData → Bool
  | .int a, .int b => decide (a < b)
  | _, _ => false
def boundsB (lo hi : PyData) : Bool := bndB lo && bndB hi && (isNon lo || isNon hi || ltB lo hi)
def intsB : PyData → Bool
  | .tuple ds => ds.all wh
  | _ => false
theorem wh_int_of {d : PyData} (h : wh d = true) : ∃ i, d = .int i := by
  cases d with
  | int i => exact ⟨i, rfl⟩
  | bool b => simp [wh, isIntD, isBlD] at h
  | _ => simp [wh, isIntD, isBlD] at h
theorem bndB_of {d : PyData} (h : bndB d = true) : ∃ lo : Option Int, d = bD lo := by
  unfold bndB at h
  cases hn : isNon d with
  | true =>
    cases d with
    | none => exact ⟨none, rfl⟩
    | _ => simp [isNon] at hn
  | false =>
    rw [hn, Bool.false_or] at h
    obtain ⟨i, rfl⟩ := wh_int_of h
    exact ⟨some i, rfl⟩
theorem bndB_bD (lo : Option Int) : bndB (bD lo) = true := by cases lo <;> rfl
theorem boundsB_bD (lo hi : Option Int) : boundsB (bD lo) (bD hi) = bok lo hi := by
  cases lo <;> cases hi <;> rfl
theorem all_wh_of : ∀ {ds : List PyData}, ds.all wh = true → ∃ ks : List Int, ds = ks.map .int
  | [], _ => ⟨[], rfl⟩
  | x :: ds, h => by
    rw [List.all_cons, Bool.and_eq_true] at h
    obtain ⟨i, rfl⟩ := wh_int_of h.1
    obtain ⟨ks, rfl⟩ := all_wh_of h.2
    exact ⟨i :: ks, rfl⟩
theorem intsB_of {d : PyData} (h : intsB d = true) : ∃ ks : List Int, d = ksD ks := by
  cases d with
  | tuple ds =>
    obtain ⟨ks, rfl⟩ := all_wh_of (show ds.all wh = true from h)
    exact ⟨ks, rfl⟩
  | _ => simp [intsB] at h
theorem intsB_ks (ks : List Int) : intsB (ksD ks) = true := by
  show (ks.map PyData.int).all wh = true
  rw [List.all_map, List.all_eq_true]
  intro x _
  rfl
def keysI : PyData → List Int
  | .tuple ds => ds.map fun d => match d with | .int i => i | _ => 0
  | _ => []
def bndO : PyData → Option Int
  | .int i => some i
  | _ => none
theorem keysI_ks (ks : List Int) : keysI (ksD ks) = ks := by
  show (ks.map PyData.int).map _ = ks
  rw [List.map_map]
  exact List.map_id'' (fun _ => rfl) ks
theorem bndO_bD (lo : Option Int) : bndO (bD lo) = lo := by cases lo <;> rfl
/-- a part of a record that may be anything flat, or a flat list -/
def E1 (d : PyData) : Prop := flatD d = true ∨ ∃ es, d = .list es ∧ flatAll es = true
def leafB : List PyData → Bool
  | [_, lo, hi, ks, vs] => boundsB lo hi && (intsB ks && intsB vs) && (decide ((keysI ks).length = (keysI vs).length) && (ascB (keysI ks) && (keysI ks).all (btw (bndO lo) (bndO hi))))
  | _ => false
def innB : List PyData → Bool
  | [_, lv, lo, hi, ks, ps] => wh lv && (match lv with | .int i => decide (1 ≤ i) | _ => false) && boundsB lo hi && (intsB ks && intsB ps) && (decide ((keysI ps).length = (keysI ks).length + 1) && !lowIn (bndO lo) (keysI ks)) && (ascB (keysI ks) && (keysI ks).all (btw (bndO lo) (bndO hi)))
  | _ => false
def isStr (d : PyData) (s : Str) : Bool := PyData.eqv d (.str s)
def freeB : List PyData → Bool
  | [n] => wh n
  | _ => false
theorem freeB_len {ds : List PyData} (h : ds.length ≠ 1) : freeB ds = false := by
  unfold freeB
  split
  · exact absurd rfl h
  · rfl
def recB : PyData → Bool
  | .tuple (d :: ds) => if isStr d "leaf" = true then leafB (d :: ds) else if isStr d "inner" = true then innB (d :: ds) else isStr d "free" && freeB ds
  | _ => false
abbrev gWhole : PD := fun cs c => ∃ (c0 : Cell) (d : PyData), cs = [c0] ∧ CD c0 d ∧ c = .dat (.bool (wh d))
abbrev gIsBound : PD := fun cs c => ∃ (c0 : Cell) (d : PyData), cs = [c0] ∧ CD c0 d ∧ c = .dat (.bool (bndB d))
abbrev gBounds : PD := fun cs c => ∃ (cl ch : Cell) (dl dh : PyData), cs = [cl, ch] ∧ (CD cl dl ∧ CD ch dh) ∧ c = .dat (.bool (boundsB dl dh))
abbrev gInts : PD := fun cs c => ∃ (c0 : Cell) (d : PyData), cs = [c0] ∧ (CD c0 d ∧ E1 d ∧ c0 = cellOf d ∧ ∀ ds, d = .tuple ds → ds.length ≤ 1000) ∧ c = .dat (.bool (intsB d))
end Esp
namespace Esp
open PySem PySem.Spec PyProof.Rows L2
section
variable {K : PySem.W.Frag} {ε : Type} [Ctx ε] {e : ε} {c : Cell} {ta : TE}
theorem DE.intA {i : Int} (ha : DE K ta e c) (hc : CD c (.int i)) : DE K ta e (.dat (.int i)) := fun H0 H σ Q E q => ha H0 H σ _ E fun x H1 s1 r => by
  have := r.fz hc.z
  cases this
  exact q _ _ s1 (.int i)
end
@[simp] theorem cellOf_ks (ks : List Int) : cellOf (ksD ks) = .dat (ksD ks) := by
  unfold cellOf
  rw [if_pos (by show flatAll (ks.map PyData.int) = true; exact flat_ints ks)]
theorem range_all (ds : List PyData) (p : PyData → Bool) : ((List.range ds.length).map fun j => p (ds.getD j .none)).all id = ds.all p := by
  have : ((List.range ds.length).map fun j => p (ds.getD j .none)) = ds.map p := by
    apply List.ext_getElem
    · simp
    · intro i h1 h2
      rw [List.getElem_map, List.getElem_range, List.getElem_map, List.getD_eq_getElem?_getD, List.getElem?_eq_getElem (by simpa using h2)]
      rfl
  rw [this, List.all_map]
  rfl
theorem getD_of {ds : List PyData} {j : Nat} {d : PyData} (h : ds[j]? = some d) : d = ds.getD j .none := by
  rw [List.getD_eq_getElem?_getD, h]
  rfl
/-- a record's part: flat or a flat list, not long, comparable -/
structure Part (d : PyData) : Prop where
  e : E1 d
  l : ∀ ds, d = .tuple ds → ds.length ≤ 1000
  s : Shp d
abbrev gLeaf : PD := fun cs c => ∃ (c0 : Cell) (ds : List PyData), cs = [c0] ∧ (CD c0 (.tuple ds) ∧ ∀ x ∈ ds, Part x) ∧ c = .dat (.bool (leafB ds))
abbrev gInner : PD := fun cs c => ∃ (c0 : Cell) (ds : List PyData), cs = [c0] ∧ (CD c0 (.tuple ds) ∧ ∀ x ∈ ds, Part x) ∧ c = .dat (.bool (innB ds))
abbrev gRec : PD := fun cs c => ∃ (c0 : Cell) (d : PyData), cs = [c0] ∧ (CD c0 d ∧ ∀ ds, d = .tuple ds → ∀ x ∈ ds, Part x) ∧ c = .dat (.bool (recB d))
theorem list5 {ds : List PyData} (h : ds.length = 5) : ∃ a b c d e, ds = [a, b, c, d, e] := by
  match ds, h with
  | [a, b, c, d, e], _ => exact ⟨a, b, c, d, e, rfl⟩
theorem list6 {ds : List PyData} (h : ds.length = 6) : ∃ a b c d e f, ds = [a, b, c, d, e, f] := by
  match ds, h with
  | [a, b, c, d, e, f], _ => exact ⟨a, b, c, d, e, f, rfl⟩
theorem leafB_len {ds : List PyData} (h : ds.length ≠ 5) : leafB ds = false := by
  unfold leafB
  split
  · exact absurd rfl h
  · rfl
theorem innB_len {ds : List PyData} (h : ds.length ≠ 6) : innB ds = false := by
  unfold innB
  split
  · exact absurd rfl h
  · rfl
end Esp
namespace Esp
open PySem PySem.Spec PyProof.Rows L2
theorem isStr_str (a b : Str) : isStr (.str a) b = (a == b) := by
  unfold isStr
  simp [PyData.eqv]
theorem leafB_leafD (lo hi : Option Int) (ks vs : List Int) : leafB [.str "leaf", bD lo, bD hi, ksD ks, ksD vs] = leafOk lo hi ks vs := by
  unfold leafOk
  simp only [leafB, boundsB_bD, intsB_ks, keysI_ks, bndO_bD, Bool.and_self, Bool.and_true, Bool.and_assoc]
theorem innB_innD (lv : Int) (lo hi : Option Int) (ks ps : List Int) : innB [.str "inner", .int lv, bD lo, bD hi, ksD ks, ksD ps] = innOk lv lo hi ks ps := by
  unfold innOk
  simp only [innB, wh_int, boundsB_bD, intsB_ks, keysI_ks, bndO_bD, Bool.and_self, Bool.and_true, Bool.true_and, Bool.and_assoc]
theorem recB_cons (d : PyData) (ds : List PyData) : Esp.recB (.tuple (d :: ds)) = if isStr d "leaf" = true then leafB (d :: ds) else if isStr d "inner" = true then innB (d :: ds) else isStr d "free" && freeB ds := rfl
theorem RecD.recB {d : PyData} {b : Bool} (h : RecD d b) : Esp.recB d = b := by
  cases h with
  | leaf lo hi ks vs h1 h2 =>
    have e : isStr (.str "leaf") "leaf" = true := by rw [isStr_str]; decide
    exact (recB_cons _ _).trans ((if_pos e).trans (leafB_leafD lo hi ks vs))
  | inn lv lo hi ks ps h1 h2 =>
    have e : ¬ isStr (.str "inner") "leaf" = true := by rw [isStr_str]; decide
    have e2 : isStr (.str "inner") "inner" = true := by rw [isStr_str]; decide
    exact (recB_cons _ _).trans ((if_neg e).trans ((if_pos e2).trans (innB_innD lv lo hi ks ps)))
  | free n =>
    have e : ¬ isStr (.str "free") "leaf" = true := by rw [isStr_str]; decide
    have e2 : ¬ isStr (.str "free") "inner" = true := by rw [isStr_str]; decide
    have e3 : isStr (.str "free") "free" = true := by rw [isStr_str]; decide
    exact (recB_cons _ _).trans ((if_neg e).trans ((if_neg e2).trans (by rw [e3]; rfl)))
theorem Part.str {s : Str} (h : (PyData.str s).canLay0 = true) : Part (.str s) := ⟨.inl rfl, fun _ z => (nomatch z), (Dk.str (k := 8) h).shp8⟩
theorem Part.int (i : Int) : Part (.int i) := ⟨.inl rfl, fun _ z => (nomatch z), (Dk.int (k := 8) i).shp8⟩
theorem Part.bD (o : Option Int) : Part (Esp.bD o) := ⟨.inl (by cases o <;> rfl), fun _ z => (by cases o <;> cases z), (Dk.bD (k := 8) o).shp8⟩
theorem Part.ks {ks : List Int} (h : ks.length ≤ 1000) : Part (ksD ks) := ⟨.inl (flat_ints ks), fun ds z => (by cases z; rw [List.length_map]; exact h), (Dk.ks (k := 7) ks).shp8⟩
theorem RecD.parts {d : PyData} {b : Bool} (h : RecD d b) : ∀ ds, d = .tuple ds → ∀ x ∈ ds, Part x := by
  intro ds hd x hx
  cases h with
  | leaf lo hi ks vs h1 h2 =>
    cases hd
    simp only [List.mem_cons, List.not_mem_nil, or_false] at hx
    rcases hx with rfl | rfl | rfl | rfl | rfl
    · exact Part.str (by decide +kernel)
    · exact Part.bD _
    · exact Part.bD _
    · exact Part.ks h1
    · exact Part.ks h2
  | inn lv lo hi ks ps h1 h2 =>
    cases hd
    simp only [List.mem_cons, List.not_mem_nil, or_false] at hx
    rcases hx with rfl | rfl | rfl | rfl | rfl | rfl
    · exact Part.str (by decide +kernel)
    · exact Part.int _
    · exact Part.bD _
    · exact Part.bD _
    · exact Part.ks h1
    · exact Part.ks h2
  | free n =>
    cases hd
    simp only [List.mem_cons, List.not_mem_nil, or_false] at hx
    rcases hx with rfl | rfl
    · exact Part.str (by decide +kernel)
    · exact Part.int _
end Esp
set_option autoImplicit false
set_option maxRecDepth 100000
set_option maxHeartbeats 4000000
namespace Esp
open PySem PySem.Spec PyProof.Rows L2
section
variable {K : PySem.W.Frag} {E : XK} {H0 : Bs} {H H' H1 : Hp} {σ : L2.St} {e : List Cell}
/-- for x in a tuple of any parts, where nothing made here is written any more -/
theorem DW.forA {tl : TE} {i : Nat} {tb : TS} {c : Cell} {ds : List PyData} {P : Out → Prop} {Inv : Nat → List Cell → Prop} (hl : DE K tl e c) (hc : CD c (.tuple ds)) (hfl : ∀ d ∈ ds, E1 d) (h0 : Inv 0 e)
    (hs : ∀ j d, ds[j]? = some d → ∀ e, Inv j e → DW K E tb (e.set i (cellOf d)) (TurnP (Inv (j + 1)) P)) (hend : ∀ e, Inv ds.length e → P (.next e)) (hno : ∀ j e, Inv j e → e.all (fun c => !isOwn c) = true) : DW K E (tFor (iTup K tl) (gName i) tb) e P := fun H0 H σ D R q => hl H0 H σ _ R fun v H1 s r => by
  have hz := r.fz hc.z
  cases hz with
  | tup ha t =>
    rename_i a xs
    have R1 : EnvR K H0 H1 σ e := EnvR.up R s
    have fr : ∀ (e : List Cell) (σ : L2.St) (H : Hp), e.all (fun c => !isOwn c) = true → EnvR K H0 H σ e → Same H1 H → EnvR K ⟨H0.b, H1⟩ H σ e := fun e σ H no R s => EnvR.rebase R rfl R1.sm s fun i c b hi ho _ => by
      have := List.all_eq_true.mp no c (List.mem_of_getElem? hi)
      rw [ho] at this
      cases this
    have un : ∀ σ H e, EnvR K ⟨H0.b, H1⟩ H σ e → EnvR K H0 H σ e := fun σ H e z => EnvR.ofBase (G := ⟨H0.b, H1⟩) rfl R1.bs R1.sm z
    have ln := t.len
    refine ⟨_, rfl, ⟨xs, ha.sq⟩, for_tup (xs := xs) (fun j σ H => ∃ e, Inv j e ∧ EnvR K ⟨H0.b, H1⟩ H σ e) ⟨e, h0, fr e σ H1 (hno 0 e h0) R1 (Same.refl H1)⟩ (fun j σ H _ z => let ⟨_, _, z⟩ := z; (ha.same z.sm).sq) (fun j x σ H ex z => ?_) fun σ H z => ?_⟩
    · obtain ⟨e', hI, R'⟩ := z
      have hj : j < ds.length := by
        rcases Nat.lt_or_ge j xs.length with w | w
        · omega
        · rw [List.getElem?_eq_none w] at ex
          cases ex
      obtain ⟨v, ev, tv⟩ := t.get (List.getElem?_eq_getElem hj)
      rw [ex] at ev
      obtain rfl := Option.some.inj ev
      have no := hno j e' hI
      have hw := hs j _ (List.getElem?_eq_getElem hj) e' hI
      refine hw ⟨H0.b, H1⟩ H _ _ (R'.putV no (Fz.mono R'.sm _ _ tv) (hfl _ (List.getElem_mem hj))) fun o p => ?_
      cases o with
      | next e2 => exact fun σ H r => ⟨e2, p, r⟩
      | cont e2 => exact fun σ H r => ⟨e2, p, r⟩
      | brk e2 => exact fun σ H r => q _ p _ _ (un _ _ _ r)
      | ret c => exact fun v H' s2 r => q _ p _ _ (R1.sm.trans s2) (r.low R1.sm)
      | exc C => exact fun H' s2 => q _ p _ (R1.sm.trans s2)
    · obtain ⟨e', hI, R'⟩ := z
      rw [ln] at hI
      exact q _ (hend e' hI) _ _ (un _ _ _ R')
end
theorem DS.ofW {K : PySem.W.Frag} {E : XK} {t : TS} {e : List Cell} {o : Out} (h : DW K E t e (· = o)) : DS K E t e o := fun H0 H σ D R q => h H0 H σ D R fun o' z => by
  subst z
  exact q
theorem isStr_ne {x : PyData} {a b : Str} (h : isStr x a = true) (hn : a ≠ b) : isStr x b = false := by
  cases x with
  | str s =>
    rw [isStr_str] at h ⊢
    have := eq_of_beq h
    subst this
    exact beq_eq_false_iff_ne.mpr hn
  | _ => simp [isStr, PyData.eqv] at h
def outB (lo hi : Option Int) (least k : Int) : Bool := (match lo with | none => false | some a => decide (k < a + least)) || (match hi with | none => false | some b => decide (k ≥ b))
def okAt (lo hi : Option Int) (least : Int) (ks : List Int) (i : Nat) : Bool := (decide (i = 0) || decide (ks.getD (i - 1) 0 < ks.getD i 0)) && !outB lo hi least (ks.getD i 0)
def okAll (lo hi : Option Int) (least : Int) (ks : List Int) : Bool := (List.range ks.length).all (okAt lo hi least ks)
def rangeB (dl dh : PyData) (least : Int) (ks : List Int) : Bool := boundsB dl dh && okAll (bndO dl) (bndO dh) least ks
abbrev gRange : PD := fun cs c => ∃ (dl dh : PyData) (ks : List Int) (least : Int), cs = [cellOf dl, cellOf dh, .dat (ksD ks), .dat (.int least)] ∧ (E1 dl ∧ E1 dh ∧ ks.length ≤ 1000) ∧ c = .dat (.bool (rangeB dl dh least ks))
theorem atI_kAt' {ks : List Int} {j : Nat} (h : j < ks.length) : L2.atI (ks.map PyData.int) (j : Int) = some (.int (ks.getD j 0)) := by
  rw [atI_kAt (by omega) (by omega)]
  rfl
theorem asc_range (ks : List Int) : ascB ks = (List.range ks.length).all fun i => decide (i = 0) || decide (ks.getD (i - 1) 0 < ks.getD i 0) := by
  rw [Bool.eq_iff_iff, asc_iff, List.all_eq_true]
  constructor
  · intro h i hi
    rw [List.mem_range] at hi
    cases i with
    | zero => rfl
    | succ i =>
      have := List.pairwise_iff_getElem.mp h i (i + 1) (by omega) hi (by omega)
      simp only [List.getD_eq_getElem?_getD, Nat.add_sub_cancel, List.getElem?_eq_getElem hi, List.getElem?_eq_getElem (show i < ks.length by omega), Option.getD_some]
      simpa using this
  · intro h
    have step : ∀ i, (h' : i + 1 < ks.length) → ks[i] < ks[i + 1] := fun i h' => by
      have := h (i + 1) (List.mem_range.mpr h')
      simp only [List.getD_eq_getElem?_getD, Nat.add_sub_cancel, List.getElem?_eq_getElem h', List.getElem?_eq_getElem (show i < ks.length by omega), Option.getD_some] at this
      simpa using this
    refine List.pairwise_iff_getElem.mpr fun i j hi hj hij => ?_
    induction j with
    | zero => omega
    | succ j ih =>
      rcases Nat.lt_or_ge i j with g | g
      · exact Int.lt_trans (ih (by omega) g) (step j hj)
      · obtain rfl : i = j := by omega
        exact step i hj
theorem all_range_getD (ks : List Int) (p : Int → Bool) : ((List.range ks.length).all fun i => p (ks.getD i 0)) = ks.all p := by
  rw [Bool.eq_iff_iff, List.all_eq_true, List.all_eq_true]
  constructor
  · intro h k hk
    obtain ⟨i, hi, rfl⟩ := List.getElem_of_mem hk
    have := h i (List.mem_range.mpr hi)
    simpa [List.getD_eq_getElem?_getD, List.getElem?_eq_getElem hi] using this
  · intro h i hi
    rw [List.mem_range] at hi
    simp only [List.getD_eq_getElem?_getD, List.getElem?_eq_getElem hi, Option.getD_some]
    exact h _ (List.getElem_mem hi)
theorem all_and_all {α : Type} (p q : α → Bool) : ∀ l : List α, (l.all fun x => p x && q x) = (l.all p && l.all q)
  | [] => rfl
  | x :: l => by
    rw [List.all_cons, List.all_cons, List.all_cons, all_and_all p q l]
    cases p x <;> cases q x <;> cases l.all p <;> cases l.all q <;> rfl
theorem okAll_eq (lo hi : Option Int) (least : Int) (ks : List Int) : okAll lo hi least ks = (ascB ks && ks.all fun k => !outB lo hi least k) := by
  rw [asc_range, ← all_range_getD, ← all_and_all]
  rfl
theorem okAll_leaf (lo hi : Option Int) (ks : List Int) : okAll lo hi 0 ks = (ascB ks && ks.all (btw lo hi)) := by
  rw [okAll_eq]
  congr 2
  funext k
  cases lo <;> cases hi <;> simp [btw, outB, ← decide_not, Int.not_lt, Int.not_le]
theorem okAll_inn (lo hi : Option Int) (ks : List Int) : okAll lo hi 1 ks = (!lowIn lo ks && (ascB ks && ks.all (btw lo hi))) := by
  rw [okAll_eq, Bool.eq_iff_iff]
  simp only [Bool.and_eq_true, List.all_eq_true, Bool.not_eq_true', lowIn_iff, btw_iff]
  constructor
  · rintro ⟨h1, h2⟩
    refine ⟨fun a ha hm => ?_, h1, fun k hk => ⟨fun a ha => ?_, fun b hb => ?_⟩⟩
    · have := h2 a hm
      subst ha
      cases hi <;> simp [outB] at this <;> omega
    · have := h2 k hk
      subst ha
      cases hi <;> simp [outB] at this <;> omega
    · have := h2 k hk
      subst hb
      cases lo <;> simp [outB] at this <;> omega
  · rintro ⟨h0, h1, h2⟩
    refine ⟨h1, fun k hk => ?_⟩
    obtain ⟨ha, hb⟩ := h2 k hk
    cases lo with
    | none =>
      cases hi with
      | none => rfl
      | some b =>
        have := hb b rfl
        simp [outB]; omega
    | some a =>
      have g := ha a rfl
      have g2 : a ≠ k := fun z => h0 a rfl (z ▸ hk)
      cases hi with
      | none => simp [outB]; omega
      | some b =>
        have := hb b rfl
        simp [outB]; omega
end Esp
set_option autoImplicit false
set_option maxRecDepth 100000
set_option maxHeartbeats 4000000
namespace Esp
open PySem PySem.Spec PyProof.Rows L2
def rTupR : List V → Hp → VK → Prop := fun xs H Q => ∃ p a b, xs = [.ref p] ∧ H p = some (.rng a b) ∧ RgOk a b ∧ newT Q H (rgV a b)
theorem call_tuple_ofR {X : Cx} (hc : X.calm = true) : CallR X (.type "tuple") rTupR := fun pins s σ H xs us Q I r ⟨p, a, b, exs, hp, ⟨b1, b2, b3, b4, b5⟩, q⟩ => by
  subst exs
  obtain ⟨u, rfl, rx⟩ := vals1 r
  cases rx
  obtain ⟨t, u, v, hr⟩ := I.hok _ _ hp
  refine call_tuple_range (n := (b - a).toNat) (I.ok.hd hc) hr (small_one b1 b2 b3 b4) (rangeSize_nat a b) b5 fun h' tk acc hk hi => ?_
  have I2 : Inv X pins σ H { s with heap := h', toks := tk } := I.kept hk
  have := laidT (its := acc.toList) (Q := Q) I2 (vals_rg hi) (by rw [rgV_length, sizeLine_eq]; omega) q
  rw [Array.toArray_toList] at this
  exact this
section
variable {K : PySem.W.Frag} {ε : Type} [Ctx ε] {e : ε} {c : Cell} {ta tb : TE} {tr : TA} {cs : List Cell}
theorem Td.ints {H : Hp} {a b : Int} : TdAll H (rgV a b) ((List.range (b - a).toNat).map fun j : Nat => .int (a + j)) := by
  unfold rgV
  generalize List.range (b - a).toNat = l
  induction l with
  | nil => exact .nil
  | cons x l ih => exact .cons (.int _) ih
theorem DE.tupR {a b : Int} (ha : DE K ta e (.dat (.int a))) (hb : DE K tb e (.dat (.int b))) (ok : RgOk a b) :
    DE K (tCB rTupR (tCons (tCB (fun vs H Q => ∃ i j, vs = [V.int i, V.int j] ∧ ∀ p, H p = none → Q (.ref p) (upd H p (.rng i j))) (tCons ta (tCons tb tNil))) tNil)) e (.dat (.tuple ((List.range (b - a).toNat).map fun j : Nat => .int (a + j)))) := fun H0 H σ Q R q => ha H0 H σ _ R fun x H1 s1 rx => hb H0 H1 σ _ (Ctx.up R s1) fun y H2 s2 ry => by
  cases int_of rx
  cases int_of ry
  refine ⟨a, b, rfl, fun p np => ⟨p, a, b, rfl, upd_same, ok, fun p2 o ho np2 => ?_⟩⟩
  have s3 := Same.new (o := .rng a b) np
  have s4 := Same.new (o := .frz o (.tup (rgV a b))) np2
  exact q _ _ (s1.trans (s2.trans (s3.trans s4))) (.tup (.new ho) Td.ints)
theorem DE.callL {e : List Cell} {i : Nat} {f : Addr} {F : PD} (h : DA K tr e cs) (hi : e[i]? = some (.raw (.ref f))) (hf : F (cs.map view) c) : DE K (tCallL i f (spD K F) [] E0 tr) e c := fun H0 H σ Q R q => by
  obtain ⟨p, ep, hv⟩ := R.sl.get hi
  refine ⟨?_, (DE.call (f := F) h hf) H0 H σ Q R q⟩
  exact hv ▸ ep
end
section
variable {P : Program} {w : World} {K : PySem.W.Frag} {mg : Str → Option Value} {base : Heap}
/-- a def whose derivation goes by its arguments -/
theorem fnD2 {x qual : Str} {st : Stmt} {fa : Addr} {fd : FuncData} {N ps : List Str} {k : Nat} {f : List Cell → Cell → Prop} (F : Fun K x qual st fa fd) (S : FnScope N ps (defScope st)) (len : ∀ cs c, f cs c → cs.length = ps.length)
    (body : ∀ (cdv : Value) (A : Around) (outer : List Env) (s : Shared) (H : Hp) (E : XK), Room k (A.deeper (envOfC qual (defScope st) s.heap.objs.size fa cdv)) →
      ∀ cs c, f cs c → ∃ t, PSs (cxOf CX0 P w K mg base N qual (defScope st) fa cdv A outer s H E).nox (defBody st) t ∧ ∃ o, DS K E t (cs ++ List.replicate (N.length - ps.length) .un) o ∧ Ends_ c o) : FnOk P w K mg base CX0 (k + 1) fa fd ps (spD K f) := by
  refine F.ok S (fun vs H Q E h => ?_) (fun cdv A outer s H vs Q E hr h => ?_)
  · obtain ⟨cs, c, hf, ho, hv, q⟩ := h
    rw [hv.len]
    exact len cs c hf
  · obtain ⟨cs, c, hf, ho, hv, q⟩ := h
    obtain ⟨t, hp, o, h, he⟩ := body cdv A outer s H E hr cs c hf
    refine ⟨t, hp, DS.run (E := E) ?_ he ho hv q⟩
    rw [hv.len, len cs c hf]
    exact h
end
theorem kit_ref {K : PySem.W.Frag} {C D : Addr} {b : Bool} (h1 : (PySem.W.clsIn K D).isSome = true) (h2 : PySem.W.typeIn K (.ref D) = some (.type "type")) (h3 : PySem.W.subIn K (.ref C) (.ref D) = some b) (ne : b = true ∨ C ≠ D) : PySem.W.kitOne K (.ref C) (.ref D) = some b := by
  unfold PySem.W.kitOne
  by_cases e : C = D
  · subst e
    rw [if_pos (beq_self_eq_true _)]
    rcases ne with rfl | z
    · rfl
    · exact absurd rfl z
  · rw [if_neg (show ¬ (Value.ref C == Value.ref D) = true from by simpa using e)]
    show (if ((PySem.W.clsIn K D).isSome && PySem.W.typeIn K (.ref D) == some (.type "type")) = true then PySem.W.subIn K (.ref C) (.ref D) else none) = some b
    rw [if_pos (by rw [h1, h2]; decide), h3]
theorem DE.isXT {K : PySem.W.Frag} {ε : Type} [Ctx ε] {e : ε} {a C : Addr} {T : String} {b : Bool} {ta : TE} (ha : DE K ta e (.raw (.ref a))) (hk : PySem.W.kitOne K (.ref C) (.type T) = some b) : DE K (tCB (rIsX K C a (.ref C) none) (tCons ta (tCons (tC (.ty T)) tNil))) e (.dat (.bool b)) := fun H0 H σ Q R q => ha H0 H σ _ R fun x H1 s1 r => by
  cases r
  exact ⟨rfl, rfl, .ty T, .type T, b, rfl, fun u ru => ru, hk, q _ _ s1 (.bl b)⟩
end Esp
set_option autoImplicit false
set_option maxRecDepth 100000
set_option maxHeartbeats 4000000
namespace Esp
open PySem PySem.Spec PyProof.Rows L2
section
variable {K : PySem.W.Frag} {H0 : Bs} {H H' : Hp} {σ τ : L2.St} {l m : List Cell} {hs : Hs}
theorem Slots.of : ∀ {σ : L2.St} {l : List Cell}, σ.length = l.length → (∀ (i : Nat) (c : Cell) (o : Option V), l[i]? = some c → σ[i]? = some o → SlotR K H0 H o c) → Slots K H0 H σ l
  | [], [], _, _ => trivial
  | o :: σ, c :: l, hl, h => ⟨h 0 c o rfl rfl, Slots.of (by simpa using hl) fun i c o h1 h2 => h (i + 1) c o (by simpa using h1) (by simpa using h2)⟩
  | [], _ :: _, hl, _ => by simp at hl
  | _ :: _, [], hl, _ => by simp at hl
/-- some of the names, each once -/
theorem EnvM.sel {σ' : L2.St} {l' : List Cell} (R : EnvM K H0 H σ (l, hs)) (f : Nat → Nat) (hl : σ'.length = l'.length) (inj : ∀ i j, i < l'.length → j < l'.length → f i = f j → i = j) (h1 : ∀ i, i < l'.length → l'[i]? = l[f i]?) (h2 : ∀ i, i < l'.length → σ'[i]? = σ[f i]?) : EnvM K H0 H σ' (l', hs) := by
  have lt : ∀ {i : Nat} {c : Cell}, l'[i]? = some c → i < l'.length := fun {i c} h => by
    rcases Nat.lt_or_ge i l'.length with w | w
    · exact w
    · rw [List.getElem?_eq_none w] at h
      cases h
  refine ⟨⟨R.ev.bs, R.ev.sm, Slots.of hl fun i c o hc ho => ?_, fun i j a c d hi oi hj lj si sj => ?_⟩, R.hp, fun i c a hi li si => ?_⟩
  · have w := lt hc
    rw [h1 i w] at hc
    rw [h2 i w] at ho
    obtain ⟨o', eo, r⟩ := R.ev.sl.get hc
    rw [ho] at eo
    cases eo
    exact r
  · have wi := lt hi
    have wj := lt hj
    rw [h1 i wi] at hi
    rw [h1 j wj] at hj
    rw [h2 i wi] at si
    rw [h2 j wj] at sj
    exact inj i j wi wj (R.ev.ap _ _ a c d hi oi hj lj si sj)
  · have wi := lt hi
    rw [h1 i wi] at hi
    rw [h2 i wi] at si
    exact R.sep _ c a hi li si
theorem EnvM.len (R : EnvM K H0 H σ (l, hs)) : σ.length = l.length := R.ev.sl.len
theorem EnvM.left (R : EnvM K H0 H (σ ++ τ) (l ++ m, hs)) (hl : σ.length = l.length) : EnvM K H0 H σ (l, hs) := R.sel id hl (fun _ _ _ _ h => h) (fun i hi => (List.getElem?_append_left hi).symm) fun i hi => (List.getElem?_append_left (by omega)).symm
theorem EnvM.right (R : EnvM K H0 H (σ ++ τ) (l ++ m, hs)) (hl : σ.length = l.length) : EnvM K H0 H τ (m, hs) := by
  have ln := R.len
  rw [List.length_append, List.length_append] at ln
  refine R.sel (fun i => i + l.length) (by omega) (fun _ _ _ _ h => by omega) (fun i hi => ?_) fun i hi => ?_
  · rw [List.getElem?_append_right (by omega), Nat.add_sub_cancel]
  · rw [List.getElem?_append_right (by omega), hl, Nat.add_sub_cancel]
/-- the middle part left out -/
theorem EnvM.ends {τ' : L2.St} {m' : List Cell} (R : EnvM K H0 H (σ ++ τ ++ τ') (l ++ m ++ m', hs)) (hl : σ.length = l.length) (hm : τ.length = m.length) : EnvM K H0 H (σ ++ τ') (l ++ m', hs) := by
  have ln := R.len
  simp only [List.length_append] at ln
  refine R.sel (fun i => if i < l.length then i else i + m.length) (by simp only [List.length_append]; omega) (fun i j _ _ h => ?_) (fun i hi => ?_) fun i hi => ?_
  · split at h <;> split at h <;> omega
  · split
    · rename_i w
      rw [List.getElem?_append_left w, List.append_assoc, List.getElem?_append_left w]
    · rename_i w
      rw [List.getElem?_append_right (by omega), List.getElem?_append_right (by rw [List.length_append]; omega), List.length_append]
      congr 1
      omega
  · split
    · rename_i w
      rw [List.getElem?_append_left (by omega), List.append_assoc, List.getElem?_append_left (by omega)]
    · rename_i w
      rw [List.getElem?_append_right (by omega), List.getElem?_append_right (by rw [List.length_append]; omega), List.length_append]
      congr 1
      omega
/-- one more name -/
theorem EnvM.push {v : V} {c : Cell} (R : EnvM K H0 H σ (l, hs)) (s : Same H H') (hc : store c = true) (r : ValR K H H' v c) : EnvM K H0 H' (σ ++ [some v]) (l ++ [c], hs) := by
  have ln := R.len
  have R0 : EnvR K H0 H (σ ++ [none]) (l ++ [.un]) := by
    refine ⟨R.ev.bs, R.ev.sm, Slots.app R.ev.sl (show Slots K H0 H [none] [.un] from ⟨trivial, trivial⟩), fun i j a c d hi oi hj lj si sj => ?_⟩
    have wi : i < l.length := by
      rcases Nat.lt_or_ge i l.length with w | w
      · exact w
      · rw [List.getElem?_append_right w] at hi
        rcases z : i - l.length with _ | k
        · rw [z] at hi
          cases hi
          cases oi
        · rw [z] at hi
          cases hi
    have wj : j < l.length := by
      rcases Nat.lt_or_ge j l.length with w | w
      · exact w
      · rw [List.getElem?_append_right w] at hj
        rcases z : j - l.length with _ | k
        · rw [z] at hj
          cases hj
          cases lj
        · rw [z] at hj
          cases hj
    rw [List.getElem?_append_left wi] at hi
    rw [List.getElem?_append_left wj] at hj
    rw [List.getElem?_append_left (by omega)] at si
    rw [List.getElem?_append_left (by omega)] at sj
    exact R.ev.ap i j a c d hi oi hj lj si sj
  have P := R0.put (i := l.length) s hc r
  have e1 : (σ ++ [none]).set l.length (some v) = σ ++ [some v] := by
    rw [← ln, List.set_append_right _ _ (Nat.le_refl _), Nat.sub_self]
    rfl
  have e2 : (l ++ [Cell.un]).set l.length c = l ++ [c] := by
    rw [List.set_append_right _ _ (Nat.le_refl _), Nat.sub_self]
    rfl
  rw [e1, e2] at P
  refine ⟨P, R.hp.up s, fun i d a hi li si hd => ?_⟩
  rcases Nat.lt_or_ge i l.length with w | w
  · have hi : (l ++ [c])[i]? = some d := hi
    rw [List.getElem?_append_left w] at hi
    rw [List.getElem?_append_left (by omega)] at si
    exact R.sep i d a hi li si hd
  · have hi : (l ++ [c])[i]? = some d := hi
    rw [List.getElem?_append_right w] at hi
    rw [List.getElem?_append_right (by omega)] at si
    rcases z : i - l.length with _ | k
    · rw [z] at hi
      cases hi
      rw [show i - σ.length = 0 from by omega] at si
      obtain rfl : v = .ref a := Option.some.inj (Option.some.inj si)
      cases c with
      | own ds =>
        obtain ⟨b, xs, ev, n, _⟩ := r
        cases ev
        obtain ⟨ch, hm, hfx⟩ := dom_mem hd
        obtain ⟨o, ho, _⟩ := (R.hp.at_ _ hm).2.some
        rw [n] at ho
        cases ho
      | rd _ => cases hc
      | un => cases li
      | raw _ => cases li
      | dat _ => cases li
      | cst _ => cases li
      | rng _ _ => cases li
      | fix _ => cases li
    · rw [z] at hi
      cases hi
/-- the last name's value goes to the name i -/
theorem EnvM.move {v : V} {c : Cell} {i : Nat} (R : EnvM K H0 H (σ ++ [some v]) (l ++ [c], hs)) : EnvM K H0 H (σ.set i (some v)) (l.set i c, hs) := by
  have ln := R.len
  simp only [List.length_append, List.length_cons, List.length_nil] at ln
  refine R.sel (fun j => if j = i then l.length else j) (by rw [List.length_set, List.length_set]; omega) (fun a b ha hb h => ?_) (fun j hj => ?_) fun j hj => ?_
  · rw [List.length_set] at ha hb
    split at h <;> split at h <;> omega
  · rw [List.length_set] at hj
    split
    · rename_i z
      subst z
      rw [List.getElem?_set_self hj, List.getElem?_append_right (Nat.le_refl _), Nat.sub_self]
      rfl
    · rename_i z
      rw [List.getElem?_set_ne (fun h => z h.symm), List.getElem?_append_left hj]
  · rw [List.length_set] at hj
    split
    · rename_i z
      subst z
      rw [List.getElem?_set_self (by omega), List.getElem?_append_right (by omega)]
      rw [show l.length - σ.length = 0 from by omega]
      rfl
    · rename_i z
      rw [List.getElem?_set_ne (fun h => z h.symm), List.getElem?_append_left (by omega)]
theorem SlotR.valB {v : V} (R : EnvR K H0 H σ l) : ∀ {c : Cell}, SlotR K H0 H (some v) c → ValR K H0.h H v c
  | .un, _ => trivial
  | .raw _, h => Option.some.inj h
  | .dat _, ⟨_, e, h⟩ => by
    cases e
    exact h
  | .cst _, ⟨_, e, h⟩ => by
    cases e
    exact h
  | .rd _, ⟨a, xs, e, h, t⟩ => ⟨a, xs, Option.some.inj e, h, t⟩
  | .own _, ⟨a, xs, e, n, h, t⟩ => ⟨a, xs, Option.some.inj e, n, h, t⟩
  | .rng _ _, ⟨a, e, h⟩ => ⟨a, Option.some.inj e, h⟩
  | .fix _, ⟨a, e, h⟩ => ⟨a, Option.some.inj e, h.up (R.bs.trans R.sm)⟩
theorem EnvM.last {v : V} {c : Cell} (R : EnvM K H0 H (σ ++ [some v]) (l ++ [c], hs)) : SlotR K H0 H (some v) c := by
  have ln := R.len
  simp only [List.length_append, List.length_cons, List.length_nil] at ln
  obtain ⟨o, eo, r⟩ := R.ev.sl.get (i := l.length) (c := c) (by
    show (l ++ [c])[l.length]? = some c
    rw [List.getElem?_append_right (Nat.le_refl _), Nat.sub_self]
    rfl)
  rw [List.getElem?_append_right (by omega), show l.length - σ.length = 0 from by omega] at eo
  cases eo
  exact r
end
def EV (K : PySem.W.Frag) (t : TE) (e : List Cell × Hs) (R : Cell → Hs → Prop) : Prop := ∀ H0 H (σ τ : L2.St) (m : List Cell) (Q : VK), σ.length = e.1.length → EnvM K H0 H (σ ++ τ) (e.1 ++ m, e.2) →
  (∀ c hs' v H', R c hs' → EnvM K H0 H' (σ ++ τ ++ [some v]) (e.1 ++ m ++ [c], hs') → Q v H') → t σ H Q
def EAs (K : PySem.W.Frag) (t : TA) (e : List Cell × Hs) (R : List Cell → Hs → Prop) : Prop := ∀ H0 H (σ τ : L2.St) (m : List Cell) (Q : List V → Hp → Prop), σ.length = e.1.length → EnvM K H0 H (σ ++ τ) (e.1 ++ m, e.2) →
  (∀ cs hs' vs H', R cs hs' → vs.length = cs.length → EnvM K H0 H' (σ ++ τ ++ vs.map some) (e.1 ++ m ++ cs, hs') → Q vs H') → t σ H Q
def EB (K : PySem.W.Frag) (t : TT) (e : List Cell × Hs) (R : Bool → Hs → Prop) : Prop := ∀ H0 H (σ τ : L2.St) (m : List Cell) (Q : Bool → Hp → Prop), σ.length = e.1.length → EnvM K H0 H (σ ++ τ) (e.1 ++ m, e.2) →
  (∀ b hs' H', R b hs' → EnvM K H0 H' (σ ++ τ) (e.1 ++ m, hs') → Q b H') → t σ H Q
/-- the arguments by their places -/
def tVarsFrom : Nat → Nat → TA
  | _, 0 => tNil
  | i, n + 1 => tCons (tVar i) (tVarsFrom (i + 1) n)
abbrev tVars (n : Nat) : TA := tVarsFrom 0 n
theorem tVars_val {H : Hp} {Q : List V → Hp → Prop} : ∀ (vs ws : List V), tVarsFrom ws.length vs.length ((ws ++ vs).map some) H Q → Q vs H
  | [], _, h => h
  | v :: vs, ws, h => by
    obtain ⟨u, hu, h⟩ := h
    rw [List.getElem?_map, List.getElem?_append_right (Nat.le_refl _), Nat.sub_self] at hu
    obtain rfl : v = u := by
      have := Option.some.inj hu
      exact Option.some.inj this
    have := tVars_val (H := H) (Q := fun xs H2 => Q (v :: xs) H2) vs (ws ++ [v]) (by
      rw [List.length_append, List.append_assoc]
      exact h)
    exact this
section
variable {K : PySem.W.Frag} {e : List Cell × Hs} {R : Cell → Hs → Prop} {ta tb : TE} {tr : TA} {tA tB' : TT} {c : Cell} {E : XK}
theorem EV.pure (h : DE K ta e c) (hs : store c = true) (k : R c e.2) : EV K ta e R := fun H0 H σ τ m Q hl M q => h H0 H σ Q (M.left hl) fun v H' s r => q c e.2 v H' k (M.push s hs r)
theorem EV.mono {R1 : Cell → Hs → Prop} (h : EV K ta e R1) (k : ∀ c hs, R1 c hs → R c hs) : EV K ta e R := fun H0 H σ τ m Q hl M q => h H0 H σ τ m Q hl M fun c hs' v H' r => q c hs' v H' (k c hs' r)
/-- an operator's values, by places -/
theorem EV.op {r : R2} (h : EV K ta e fun ca h1 => EV K tb (e.1, h1) fun cb h2 => ∃ c, DE K (tOp r (tVar 0) (tVar 1)) ([ca, cb], h2) c ∧ store c = true ∧ R c h2) : EV K (tOp r ta tb) e R := fun H0 H σ τ m Q hl M q => by
  refine h H0 H σ τ m _ hl M fun ca h1 x H1 hb M1 => ?_
  rw [List.append_assoc, List.append_assoc] at M1
  refine hb H0 H1 σ _ _ _ hl M1 fun cb h2 y H2 hc M2 => ?_
  obtain ⟨c, hd, hs, k⟩ := hc
  have M3 : EnvM K H0 H2 ((σ ++ τ) ++ [some x, some y]) ((e.1 ++ m) ++ [ca, cb], h2) := by
    have e1 : σ ++ (τ ++ [some x]) ++ [some y] = σ ++ τ ++ [some x, some y] := by simp
    have e2 : e.1 ++ (m ++ [ca]) ++ [cb] = e.1 ++ m ++ [ca, cb] := by simp
    rw [e1, e2] at M2
    exact M2
  have lm : (σ ++ τ).length = (e.1 ++ m).length := M.len
  have := hd H0 H2 [some x, some y] Q (M3.right lm) fun v H3 s rv => q c h2 v H3 k ((M3.left lm).push s hs rv)
  obtain ⟨x', hx, y', hy, hr⟩ := this
  cases hx
  cases hy
  exact hr
theorem EV.one {r : V → Hp → VK → Prop} (h : EV K ta e fun ca h1 => ∃ c, DE K (tUn r (tVar 0)) ([ca], h1) c ∧ store c = true ∧ R c h1) : EV K (tUn r ta) e R := fun H0 H σ τ m Q hl M q => by
  refine h H0 H σ τ m _ hl M fun ca h1 x H1 hc M1 => ?_
  obtain ⟨c, hd, hs, k⟩ := hc
  have lm : (σ ++ τ).length = (e.1 ++ m).length := M.len
  have := hd H0 H1 [some x] Q (M1.right lm) fun v H3 s rv => q c h1 v H3 k ((M1.left lm).push s hs rv)
  obtain ⟨x', hx, hr⟩ := this
  cases hx
  exact hr
theorem EAs.nil {R : List Cell → Hs → Prop} (k : R [] e.2) : EAs K tNil e R := fun H0 H σ τ m Q hl M q => q [] e.2 [] H k rfl (by simpa using M)
theorem EAs.cons {R : List Cell → Hs → Prop} (h : EV K ta e fun c h1 => EAs K tr (e.1, h1) fun cs h2 => R (c :: cs) h2) : EAs K (tCons ta tr) e R := fun H0 H σ τ m Q hl M q => by
  refine h H0 H σ τ m _ hl M fun c h1 x H1 hb M1 => ?_
  rw [List.append_assoc, List.append_assoc] at M1
  refine hb H0 H1 σ _ _ _ hl M1 fun cs h2 vs H2 k hn M2 => q (c :: cs) h2 (x :: vs) H2 k (by simp [hn]) ?_
  have e1 : σ ++ (τ ++ [some x]) ++ vs.map some = σ ++ τ ++ (x :: vs).map some := by simp
  have e2 : e.1 ++ (m ++ [c]) ++ cs = e.1 ++ m ++ (c :: cs) := by simp
  rw [e1, e2] at M2
  exact M2
theorem EAs.pure {R : List Cell → Hs → Prop} {c : Cell} (h : DE K ta e c) (hs : store c = true) (hr : EAs K tr e fun cs h2 => R (c :: cs) h2) : EAs K (tCons ta tr) e R := EAs.cons (EV.pure h hs hr)
/-- a reading of the arguments' values, by their places -/
theorem EV.ofA {f : TA → TE} (hf : ∀ (t : TA) (σ : L2.St) (H : Hp) (Q : VK), f t σ H Q = t σ H fun vs H1 => f (fun _ H Q => Q vs H) σ H1 Q) (hg : ∀ (vs : List V) (σ σ' : L2.St) (H : Hp) (Q : VK), f (fun _ H Q => Q vs H) σ H Q = f (fun _ H Q => Q vs H) σ' H Q)
    (h : EAs K tr e fun cs h1 => ∃ c, DE K (f (tVars cs.length)) (cs, h1) c ∧ store c = true ∧ R c h1) : EV K (f tr) e R := fun H0 H σ τ m Q hl M q => by
  rw [hf]
  refine h H0 H σ τ m _ hl M fun cs h1 vs H1 hc hn M1 => ?_
  obtain ⟨c, hd, hs, k⟩ := hc
  have lm : (σ ++ τ).length = (e.1 ++ m).length := M.len
  have := hd H0 H1 (vs.map some) Q (M1.right lm) fun v H3 s rv => q c h1 v H3 k ((M1.left lm).push s hs rv)
  rw [hf, ← hn] at this
  have := tVars_val (Q := fun vs H1 => f (fun _ H Q => Q vs H) (vs.map some) H1 Q) vs [] (by
    have e := this
    simp only [List.nil_append, List.length_nil]
    refine cast (congrArg (fun z => tVarsFrom 0 vs.length (vs.map some) H1 z) ?_) e
    funext ws H2
    exact hg ws _ _ H2 Q)
  rw [hg vs _ σ] at this
  exact this
theorem EV.tup (h : EAs K tr e fun cs h1 => ∃ ds : List PyData, cs = ds.map .dat ∧ ds.length ≤ sizeLine ∧ R (.dat (.tuple ds)) h1) : EV K (tTupN tr) e R := fun H0 H σ τ m Q hl M q => by
  refine h H0 H σ τ m _ hl M fun cs h1 vs H1 hc hn M1 => ?_
  obtain ⟨ds, rfl, hd, k⟩ := hc
  have lm : (σ ++ τ).length = (e.1 ++ m).length := M.len
  have t : TdAll H1 vs ds := slots_dats (M1.right lm).ev.sl
  refine ⟨by rw [t.len]; exact hd, fun p o ho np => ?_⟩
  have s := Same.new (o := .frz o (.tup vs)) np
  exact q _ h1 _ _ k ((M1.left lm).push (c := .dat (.tuple ds)) s rfl (.tup (.new ho) (t.same s)))
theorem EV.lst (h : EAs K tr e fun cs h1 => ∃ ds : List PyData, cs = ds.map .dat ∧ ds.length ≤ sizeLine ∧ R (.own ds) h1) : EV K (tLst tr) e R := fun H0 H σ τ m Q hl M q => by
  refine h H0 H σ τ m _ hl M fun cs h1 vs H1 hc hn M1 => ?_
  obtain ⟨ds, rfl, hd, k⟩ := hc
  have lm : (σ ++ τ).length = (e.1 ++ m).length := M.len
  have t : TdAll H1 vs ds := slots_dats (M1.right lm).ev.sl
  refine ⟨by rw [t.len]; exact hd, fun p np => ?_⟩
  have s := Same.new (o := .lst vs) np
  exact q _ h1 _ _ k ((M1.left lm).push (c := .own ds) s rfl ⟨p, vs, rfl, np, upd_same, t.same s⟩)
theorem EV.cb {r : List V → Hp → VK → Prop} (h : EAs K tr e fun cs h1 => ∃ c, DE K (tCB r (tVars cs.length)) (cs, h1) c ∧ store c = true ∧ R c h1) : EV K (tCB r tr) e R := EV.ofA (f := tCB r) (fun _ _ _ _ => rfl) (fun _ _ _ _ _ => rfl) h
/-- a def that changes nothing, of arguments with effects -/
theorem EV.callD {f : List Cell → Cell → Prop} (h : EAs K tr e fun cs h1 => ∃ c, DE K (tCall (spD K f) [] E (tVars cs.length)) (cs, h1) c ∧ store c = true ∧ R c h1) : EV K (tCall (spD K f) [] E tr) e R := EV.ofA (f := tCall (spD K f) [] E) (fun _ _ _ _ => rfl) (fun _ _ _ _ _ => rfl) h
/-- a def that works on objects -/
theorem EV.callG {γ : Type} {p : Pro γ} (g : γ) (h : DAs K tr e (p.cs g)) (hh : e.2 = p.hs g) (ok : p.ok g) (nx : ∀ C hs, ¬ p.exc g C hs) (k : ∀ c hs', p.post g c hs' → okV c = true → R c hs') : EV K (tCall (spG K p) [] E tr) e R := fun H0 H σ τ m Q hl M q => by
  have M0 := M.left hl
  refine h.2 H0 H σ _ M0 fun vs H1 s1 rr => ?_
  rw [List.append_nil]
  refine ⟨g, ok, sp_call (e := (e.1 ++ m, e.2)) (M.up s1) h.1 rr ⟨rfl, hh⟩ (fun c hs' v H' hc okc R2 rv => ?_) fun C hs' H' z => absurd z (nx C hs')⟩
  exact q c hs' v H' (k c hs' hc okc) (R2.push (Same.refl H') (by cases c <;> first | rfl | (cases okc; done)) rv)
theorem EB.pure {R : Bool → Hs → Prop} {b : Bool} (h : DB K tA e b) (k : R b e.2) : EB K tA e R := fun H0 H σ τ m Q hl M q => h H0 H σ Q (M.left hl) fun H' s => q b e.2 H' k (M.up s)
theorem EB.and {R : Bool → Hs → Prop} (h : EB K tA e fun b h1 => if b = true then EB K tB' (e.1, h1) R else R false h1) : EB K (tAnd tA tB') e R := fun H0 H σ τ m Q hl M q => h H0 H σ τ m _ hl M fun b h1 H1 hb M1 => by
  cases b with
  | true => exact iteT (hb H0 H1 σ τ m Q hl M1 q)
  | false => exact iteF (q false h1 H1 hb M1)
theorem EB.or {R : Bool → Hs → Prop} (h : EB K tA e fun b h1 => if b = true then R true h1 else EB K tB' (e.1, h1) R) : EB K (tOr tA tB') e R := fun H0 H σ τ m Q hl M q => h H0 H σ τ m _ hl M fun b h1 H1 hb M1 => by
  cases b with
  | true => exact iteT (q true h1 H1 hb M1)
  | false => exact iteF (hb H0 H1 σ τ m Q hl M1 q)
theorem EB.not {R : Bool → Hs → Prop} (h : EB K tA e fun b h1 => R (!b) h1) : EB K (tNot tA) e R := fun H0 H σ τ m Q hl M q => h H0 H σ τ m _ hl M fun b h1 H1 hb M1 => q _ h1 H1 hb M1
theorem EB.test {R : Bool → Hs → Prop} (h : EV K ta e fun c h1 => ∃ b, c = .dat (.bool b) ∧ R b h1) : EB K (tTest ta) e R := fun H0 H σ τ m Q hl M q => h H0 H σ τ m _ hl M fun c h1 v H1 hc M1 => by
  obtain ⟨b, rfl, k⟩ := hc
  obtain ⟨_, ev, tv⟩ := M1.last
  cases ev
  cases bl_of tv
  exact ⟨b, rfl, q b h1 H1 k (M1.left M.len)⟩
theorem EB.tB {R : Bool → Hs → Prop} (h : EV K ta e fun c h1 => ∃ b, c = .dat (.bool b) ∧ R b h1) : EB K (L2.tB ta) e R := fun H0 H σ τ m Q hl M q => h H0 H σ τ m _ hl M fun c h1 v H1 hc M1 => by
  obtain ⟨b, rfl, k⟩ := hc
  obtain ⟨_, ev, tv⟩ := M1.last
  cases ev
  cases bl_of tv
  exact ⟨b, rfl, q b h1 H1 k (M1.left M.len)⟩
theorem EV.ifE (h : EB K tA e fun b h1 => if b = true then EV K ta (e.1, h1) R else EV K tb (e.1, h1) R) : EV K (tIf tA ta tb) e R := fun H0 H σ τ m Q hl M q => h H0 H σ τ m _ hl M fun b h1 H1 hb M1 => by
  cases b with
  | true => exact iteT (hb H0 H1 σ τ m Q hl M1 q)
  | false => exact iteF (hb H0 H1 σ τ m Q hl M1 q)
variable {P : OutM → Prop} {t u : TS}
theorem EV.run {H0 : Bs} {H : Hp} {σ : L2.St} {Q : VK} (h : EV K ta e R) (M : EnvM K H0 H σ e) (q : ∀ c hs' v H', R c hs' → EnvM K H0 H' (σ ++ [some v]) (e.1 ++ [c], hs') → Q v H') : ta σ H Q := h H0 H σ [] [] Q M.len (by rw [List.append_nil, List.append_nil]; exact M) fun c hs' v H' r M' => q c hs' v H' r (by
  rw [List.append_nil, List.append_nil] at M'
  exact M')
theorem DM.setV {i : Nat} (h : EV K ta e fun c h1 => P (.next (e.1.set i c, h1))) : DM K E (tAsg ta (gName i)) e P := fun H0 H σ D M q => h.run M fun c h1 v H1 k M1 => q _ k _ H1 M1.move
theorem DM.dropV (h : EV K ta e fun c h1 => P (.next (e.1, h1))) : DM K E (tDrop ta) e P := fun H0 H σ D M q => h.run M fun c h1 v H1 k M1 => q _ k _ H1 (M1.left M.len)
theorem DM.retV (h : EV K ta e fun c h1 => P (.ret c h1)) : DM K E (tRet ta) e P := fun H0 H σ D M q => h.run M fun c h1 v H1 k M1 => q _ k v H1 M1.ev.sm M1.hp (M1.last.valB M1.ev)
theorem DM.ifV (h : EB K tA e fun b h1 => if b = true then DM K E t (e.1, h1) P else DM K E u (e.1, h1) P) : DM K E (tIfS tA t u) e P := fun H0 H σ D M q => h H0 H σ [] [] _ M.len (by rw [List.append_nil, List.append_nil]; exact M) fun b h1 H1 hb M1 => by
  rw [List.append_nil, List.append_nil] at M1
  cases b with
  | true => exact iteT (hb H0 H1 σ D M1 q)
  | false => exact iteF (hb H0 H1 σ D M1 q)
theorem EnvM.wrOwn {H0 : Bs} {H : Hp} {σ : L2.St} {i : Nat} {a : Addr} {ds ds' : List PyData} {xs ys : List V} (M : EnvM K H0 H σ e) (hi : e.1[i]? = some (.own ds)) (si : σ[i]? = some (some (.ref a))) (ha : H a = some (.lst xs)) (ty : TdAll H ys ds') : EnvM K H0 (upd H a (.lst ys)) σ (e.1.set i (.own ds'), e.2) := by
  obtain ⟨n, _⟩ := own_new M.ev hi rfl si
  have tp : Tups H (upd H a (.lst ys)) := Tups.wr ha fun _ => lst_tup
  have na := M.sep i _ a hi rfl si
  refine ⟨M.ev.wr hi si ha n ty, ⟨fun p hp => ?_, M.hp.nd⟩, fun j c b h1 h2 h3 => ?_⟩
  · obtain ⟨n2, r2⟩ := M.hp.at_ p hp
    exact ⟨n2, r2.mapT (fun k z => z.tp tp k) (fun hf => upd_ne fun z => na (z ▸ mem_dom_of hp hf)) tp⟩
  · rcases get_set h1 with ⟨rfl, rfl⟩ | ⟨nj, ej⟩
    · exact M.sep i _ b hi rfl h3
    · exact M.sep j c b ej h2 h3
/-- xs.append(x) of a list made here -/
theorem DM.appV {i : Nat} {ds : List PyData} (hi : e.1[i]? = some (.own ds)) (hn : ds.length < sizeLine) (h : EV K ta e fun c h1 => ∃ d, c = .dat d ∧ P (.next (e.1.set i (.own (ds ++ [d])), h1))) : DM K E (tDrop (tBM K "list" rAppend (tVar i) (tCons ta tNil))) e P := fun H0 H σ D M q => by
  have M : EnvM K H0 H σ e := M
  obtain ⟨o, eo, a, xs, ev, n, ha, tx⟩ := M.ev.sl.get hi
  subst ev
  refine ⟨_, eo, .inl ⟨rfl, _, SqL.of ha⟩, h.run M fun c h1 v H1 k M1 => ?_⟩
  obtain ⟨d, rfl, k⟩ := k
  obtain ⟨_, ev, tv⟩ := M1.last
  cases ev
  have M2 : EnvM K H0 H1 σ (e.1, h1) := M1.left M.len
  obtain ⟨o2, eo2, a2, xs2, ev2, n2, ha2, tx2⟩ := M2.ev.sl.get hi
  subst ev2
  rw [eo] at eo2
  cases eo2
  exact ⟨a, xs2, v, rfl, rfl, ha2, by rw [tx2.len]; exact hn, q _ k _ _ (M2.wrOwn hi eo ha2 (tx2.snoc tv))⟩
theorem DM.forR1V {i : Nat} {tb : TS} {ta : TA} (hl : EAs K ta e fun cs h1 => ∃ (n : Int) (Inv : Nat → List Cell × Hs → Prop), cs = [.dat (.int n)] ∧ -(2 ^ 62) ≤ n ∧ n < 2 ^ 62 ∧ Inv 0 (e.1, h1) ∧
      (∀ j : Nat, j < n.toNat → ∀ e, Inv j e → DM K E tb (e.1.set i (.dat (.int j)), e.2) (TurnM (Inv (j + 1)) P)) ∧ ∀ e, Inv n.toNat e → P (.next e)) : DM K E (tFor (iRng1 ta) (gName i) tb) e P := fun H0 H σ D M q => hl H0 H σ [] [] _ M.len (by rw [List.append_nil, List.append_nil]; exact M) fun cs h1 vs H1 k hn M1 => by
  obtain ⟨n, Inv, rfl, b1, b2, h0, hs, hend⟩ := k
  rw [List.append_nil, List.append_nil] at M1
  have M2 : EnvM K H0 H1 σ (e.1, h1) := M1.left M.len
  have M3 : EnvM K H0 H1 (vs.map some) ([.dat (.int n)], h1) := M1.right M.len
  match vs, hn with
  | [v], _ =>
    obtain ⟨⟨_, ev, tv⟩, _⟩ := M3.ev.sl
    cases ev
    cases int_of tv
    refine ⟨n, rfl, b1, b2, for_range (fun j σ H => ∃ e, Inv j e ∧ EnvM K H0 H σ e) ⟨_, h0, M2⟩ (fun j σ H hj z => ?_) fun σ H z => let ⟨e', hI, R'⟩ := z; q _ (hend e' hI) _ _ R'⟩
    obtain ⟨e', hI, R'⟩ := z
    exact turnM (v := .int (0 + j)) (hs j hj) q (by rw [Int.zero_add]; exact .int _) hI R'
  | [], hn => simp at hn
  | _ :: _ :: _, hn => simp at hn
/-- an entry of a list that is held apart is written -/
theorem DM.putC {tl te ti : TE} {a : Addr} {cs : List Cell} {c : Cell} {k : Int} {i j : Nat} (h : DE K te e c) (hc : okV c = true) (hl : DE K tl e (.raw (.ref a))) (hk : DE K ti e (.dat (.int k))) (hi : e.2[i]? = some (a, .lst cs)) (hj : ixN cs.length k = some j) (p : P (.next (e.1, e.2.set i (a, .lst (cs.set j c))))) :
    DM K E (tAsg te (gSub tl ti rSetL)) e P := fun H0 H σ D R q => h H0 H σ _ R fun y H1 s1 r1 => hl H0 H1 σ _ (Ctx.R.up R s1) fun x H2 s2 r2 => hk H0 H2 σ _ (Ctx.R.up R (s1.trans s2)) fun z H3 s3 r3 => by
  have R3 : EnvM K H0 H3 σ e := EnvM.up R (s1.trans (s2.trans s3))
  cases r2
  cases int_of r3
  obtain ⟨n, xs, ea, hS, ok⟩ := R3.hp.get hi
  have ln := hS.len
  rw [List.length_map] at ln
  have tp : Tups H3 (upd H3 a (.lst (xs.set j y))) := Tups.wr ea fun _ => lst_tup
  refine ⟨a, xs, k, j, rfl, rfl, ea, by rw [ln]; exact hj, q _ p σ _ (R3.wr hi ⟨_, upd_same, ?_, ?_⟩)⟩
  · have S := (Slots.map (f := fun k z => z.tp tp k) ok hS).set j (o := some y) (c := c) ((SlotR.ofV hc (r1.up (s2.trans s3))).tp tp (okC_of hc))
    rw [← List.map_set] at S
    exact S
  · refine List.all_eq_true.mpr fun x hx => ?_
    rcases List.mem_or_eq_of_mem_set hx with h | h
    · exact List.all_eq_true.mp ok x h
    · rw [h]
      exact okC_of hc
end
end Esp
set_option autoImplicit false
set_option maxRecDepth 100000
set_option maxHeartbeats 4000000
namespace Esp
open PySem PySem.Spec PyProof.Rows L2
def tapeH (t l : Addr) (ns : List Int) (i r s : Int) (rest : Hs) : Hs := (t, .lst [.raw (.ref l), .dat (.int i), .dat (.int r), .dat (.int s)]) :: (l, .lst ((ns.map PyData.int).map .dat)) :: rest
def TapeIn (t : Addr) (rest hs : Hs) : Prop := ∃ (l : Addr) (ns : List Int) (i r s : Int), hs = tapeH t l ns i r s rest ∧ 0 ≤ i
structure NextG where
  (t : Addr) (rest hs : Hs) (many : Int)
def pNext : Pro NextG := { ok := fun g => TapeIn g.t g.rest g.hs ∧ 1 ≤ g.many ∧ g.many < 1000000, cs := fun g => [.raw (.ref g.t), .dat (.int g.many)], hs := fun g => g.hs, post := fun g c hs' => ∃ x, c = .dat (.int x) ∧ (0 ≤ x ∧ x < g.many) ∧ TapeIn g.t g.rest hs' }
section
variable {K : PySem.W.Frag} {e : List Cell × Hs} {R : Cell → Hs → Prop} {tm : TE} {E : XK} {P : OutM → Prop} {u : TS}
/-- the next number of the tape -/
theorem EV.next {t : Addr} {rest : Hs} {j : Nat} {many : Int} (hT : TapeIn t rest e.2) (hj : e.1[j]? = some (.raw (.ref t))) (hm : DE K tm e (.dat (.int many))) (h1 : 1 ≤ many) (h2 : many < 1000000) (k : ∀ x h', 0 ≤ x → x < many → TapeIn t rest h' → R (.dat (.int x)) h') : EV K (tCall (spG K pNext) [] E (tCons (tVar j) (tCons tm tNil))) e R :=
  EV.callG (p := pNext) ⟨t, rest, e.2, many⟩ (DAs.consV hj rfl rfl (DAs.cons hm rfl DAs.nil)) rfl ⟨hT, h1, h2⟩ (fun _ _ z => z) fun c hs' ⟨x, hc, hx, hT'⟩ _ => by
    subst hc
    exact k x hs' hx.1 hx.2 hT'
/-- tape = [list(script), 0, 0, s] -/
theorem DM.newTape {i j : Nat} {s : Int} {ns : List Int} (hj : e.1[j]? = some (.scr ns)) (p : ∀ t h', TapeIn t e.2 h' → P (.next (e.1.set i (.raw (.ref t)), h'))) :
    DM K E (tAsg (tLst (tCons (tCB (rLstOf K) (tCons (tVar j) tNil)) (tCons (tC (.int 0)) (tCons (tC (.int 0)) (tCons (tC (.int s)) tNil))))) (gName i)) e P := fun H0 H σ D M q => by
  have M : EnvM K H0 H σ e := M
  obtain ⟨o, eo, a, ev, ha⟩ := M.ev.sl.get hj
  subst ev
  have ha2 : SqL K H a (ns.map V.int) := FixR.up (k := .scr ns) (M.ev.bs.trans M.ev.sm) ha
  refine ⟨_, eo, a, _, rfl, .inl ha2, fun l nl => ?_⟩
  refine ⟨by show 4 ≤ sizeLine; decide, fun t nt => ?_⟩
  have s1 := Same.new (o := .lst (ns.map V.int)) nl
  have s2 := Same.new (o := .lst [V.ref l, .int 0, .int 0, .int s]) nt
  have M2 := M.up (s1.trans s2)
  have nlt : l ≠ t := fun z => by
    subst z
    rw [upd_same] at nt
    cases nt
  have fr : ∀ b, H b = none → ∀ p ∈ e.2, p.1 ≠ b := fun b nb p hp z => by
    obtain ⟨o, ho, _⟩ := (M.hp.at_ p hp).2.some
    rw [z, nb] at ho
    cases ho
  have nt0 : H t = none := s1.free nt
  refine q _ (p t (tapeH t l ns 0 0 s e.2) ⟨l, ns, 0, 0, s, rfl, by decide⟩) _ _ ?_
  have hs2 : HsR K H0 (upd (upd H l (.lst (ns.map V.int))) t (.lst [V.ref l, .int 0, .int 0, .int s])) (tapeH t l ns 0 0 s e.2) := by
    refine ⟨fun p hp => ?_, ?_⟩
    · rcases List.mem_cons.mp hp with rfl | hp
      · exact ⟨fun _ => M.ev.sm.free nt0, _, upd_same, ⟨rfl, ⟨_, rfl, .int 0⟩, ⟨_, rfl, .int 0⟩, ⟨_, rfl, .int s⟩, trivial⟩, rfl⟩
      · rcases List.mem_cons.mp hp with rfl | hp
        · refine ⟨fun _ => M.ev.sm.free nl, ns.map V.int, ?_, dats_slots (TdAll.ints' ns), dats_ok _⟩
          show upd (upd H l _) t _ l = _
          rw [upd_ne nlt, upd_same]
        · exact M2.hp.at_ p hp
    · show (t :: l :: dom e.2).Nodup
      refine List.nodup_cons.mpr ⟨fun z => ?_, List.nodup_cons.mpr ⟨fun z => ?_, M.hp.nd⟩⟩
      · rcases List.mem_cons.mp z with z | z
        · exact nlt z.symm
        · obtain ⟨c, hm, hfx⟩ := dom_mem z
          exact fr t nt0 _ hm rfl
      · obtain ⟨c, hm, hfx⟩ := dom_mem z
        exact fr l nl _ hm rfl
  refine EnvM.put (c := .raw (.ref t)) (e := (e.1, tapeH t l ns 0 0 s e.2)) ⟨M2.ev, hs2, fun k c b h1 h2 h3 hd => ?_⟩ rfl rfl
  obtain ⟨ys, hy⟩ := slot_lst M.ev h1 h2 h3
  rcases List.mem_cons.mp hd with z | hd
  · have z : b = t := z
    rw [z, nt0] at hy
    cases hy
  · rcases List.mem_cons.mp hd with z | hd
    · have z : b = l := z
      rw [z, nl] at hy
      cases hy
    · exact M.sep k c b h1 h2 h3 hd
end
end Esp
set_option autoImplicit false
set_option maxRecDepth 100000
set_option maxHeartbeats 4000000
namespace Esp
open PySem PySem.Spec PyProof.Rows L2
section
variable {K : PySem.W.Frag} {H0 : Bs} {H H' : Hp} {σ : L2.St} {e e1 : List Cell}
theorem GrowG.le {tt : TT} {te : TE} {g : TG} {vs : List Nat} {n : Nat} {at_ : Nat → Option PyData} {acc : Nat → List PyData} (G : GrowG K tt te e g vs n at_ acc) (hat : ∀ j, j < n → ∃ d, at_ j = some d) : ∀ k j, j + k = n → (acc j).length ≤ (acc n).length
  | 0, j, h => by
    rw [show j = n from by omega]
    exact Nat.le_refl _
  | k + 1, j, h => by
    obtain ⟨d, hd⟩ := hat j (by omega)
    obtain ⟨x, y, e1, b, r, _, _, _, h1, h2⟩ := G.turn j d (by omega) hd
    have ih := GrowG.le G hat k (j + 1) (by omega)
    cases b with
    | true =>
      rw [(h1 rfl).2, List.length_append] at ih
      omega
    | false =>
      rw [h2 rfl] at ih
      exact ih
theorem wipe_tail (σ : L2.St) (i i1 i2 : Nat) (v : Option V) (h1 : i ≠ i1) (h2 : i ≠ i2) : L2.wipe ((L2.wipe σ [i, i1, i2]).set i v) [i, i1, i2] = L2.wipe σ [i, i1, i2] := by
  show (((((((σ.set i2 none).set i1 none).set i none).set i v).set i2 none).set i1 none).set i none) = ((σ.set i2 none).set i1 none).set i none
  apply List.ext_getElem?
  intro k
  by_cases hl : k < σ.length
  · by_cases a : k = i
    · subst a
      rw [List.getElem?_set_self (by simpa using hl), List.getElem?_set_self (by simpa using hl)]
    · rw [List.getElem?_set_ne (fun z => a z.symm), List.getElem?_set_ne (fun z => a z.symm)]
      by_cases b : k = i1
      · subst b
        rw [List.getElem?_set_self (by simpa using hl), List.getElem?_set_self (by simpa using hl)]
      · rw [List.getElem?_set_ne (fun z => b z.symm), List.getElem?_set_ne (fun z => b z.symm)]
        by_cases c : k = i2
        · subst c
          rw [List.getElem?_set_self (by simpa using hl), List.getElem?_set_self (by simpa using hl)]
        · rw [List.getElem?_set_ne (fun z => c z.symm), List.getElem?_set_ne (fun z => c z.symm), List.getElem?_set_ne (fun z => a z.symm), List.getElem?_set_ne (fun z => a z.symm), List.getElem?_set_ne (fun z => b z.symm), List.getElem?_set_ne (fun z => c z.symm)]
  · rw [List.getElem?_eq_none (by simp; omega), List.getElem?_eq_none (by simp; omega)]
/-- the names within the inner clause -/
abbrev eO (e : List Cell) (i i1 i2 : Nat) (d : PyData) : List Cell := (((e.set i2 .un).set i1 .un).set i .un).set i (.dat d)
theorem DE.lc2Z {tl te : TE} {tr : TA} {tt : TT} {i i1 i2 : Nat} {ds : List PyData} {ca : Cell} {f : PyData → List PyData} (n1 : i ≠ i1) (n2 : i ≠ i2) (h12 : i1 ≠ i2) (hl : DE K tl e ca) (la : lOf ca = some ds) (hn : (ds.flatMap f).length < sizeLine)
    (G : ∀ d ∈ ds, ∃ (as bs : List PyData) (acc : Nat → List PyData), DA K tr (eO e i i1 i2 d) [.dat (.tuple as), .dat (.tuple bs)] ∧ GrowG K tt te (eO e i i1 i2 d) (gTup K 2 (gCons (gName i1) (gCons (gName i2) gNil))) [i1, i2] (min as.length bs.length) (zipD as bs) acc ∧ acc (min as.length bs.length) = f d) :
    DE K (tLc2 (iList K tl) (gName i) tYes (RZ.iZipA K tr) (gTup K 2 (gCons (gName i1) (gCons (gName i2) gNil))) tt te [i, i1, i2] [i1, i2]) e (.own (ds.flatMap f)) := fun H0 H σ Q R q => hl H0 H σ _ R fun v H1 s r => by
  obtain ⟨a, xs, rfl, ha, t⟩ := r.lst la
  have R1 : EnvR K H0 H1 σ e := EnvR.up R s
  have ln := t.len
  refine ⟨a, rfl, ⟨xs, SqL.of ha⟩, fun D nD => ?_⟩
  let Pv : Nat → Hp → Prop := fun j H2 => (∃ ys, H2 D = some (.lst ys) ∧ TdAll H2 ys ((ds.take j).flatMap f)) ∧ Same H1 H2
  refine ⟨fun j m H2 => m = ds.length - j ∧ j ≤ ds.length ∧ Pv j H2, ⟨_, rfl, Nat.zero_le _, ⟨[], upd_same, .nil⟩, Same.new nD⟩, ?_⟩
  rintro j m H2 ⟨rfl, hj, ⟨ys, hy, ty⟩, s2⟩
  have ha2 := s2 _ _ ha
  rcases Nat.lt_or_ge j ds.length with hlt | hge
  · have hx : j < xs.length := by omega
    refine .inr ⟨⟨xs, xs[j], SqL.of ha2, by simp [hx]⟩, Pv (j + 1), fun H' p' => ⟨_, by omega, rfl, hlt, p'⟩, fun x H' y => ?_⟩
    obtain ⟨e', y⟩ := y
    have e'' := e'.symm
    subst e''
    obtain ⟨v, ev, tv⟩ := (t.same s2).get (List.getElem?_eq_getElem hlt)
    have hxv := y xs (SqL.of ha2)
    rw [ev] at hxv
    obtain rfl := Option.some.inj hxv
    -- the outer name
    have Rw : EnvR K H0 H2 (L2.wipe σ [i, i1, i2]) (((e.set i2 .un).set i1 .un).set i .un) := (((R1.up s2).wipe (i := i2)).wipe (i := i1)).wipe (i := i)
    have R2 : EnvR K H0 H2 ((L2.wipe σ [i, i1, i2]).set i (some v)) (eO e i i1 i2 ds[j]) := EnvR.put (i := i) Rw (Same.refl H2) (c := .dat ds[j]) rfl tv
    refine ⟨wipe_tail σ i i1 i2 _ n1 n2, ?_⟩
    refine (DB.yes (K := K) (e := eO e i i1 i2 ds[j]) H0 H2 _ _ R2 fun H9 s9 => ?_)
    rw [if_pos rfl]
    obtain ⟨as, bs, acc, hA, hG, hE⟩ := G ds[j] (List.getElem_mem hlt)
    refine hA H0 H9 _ _ (R2.up s9) fun ws H3 s3' rr => ?_
    have s3 := s9.trans s3'
    match ws, rr with
    | [v1, v2], ⟨r1, r2, _⟩ =>
      obtain ⟨a1, us, rfl, h1, t1⟩ := tup_of r1
      obtain ⟨a2, zs, rfl, h2, t2⟩ := tup_of r2
      refine ⟨a1, a2, us, zs, rfl, .inr ⟨h1.sq, h2.sq, ?_⟩⟩
      have l1 := t1.len
      have l2 := t2.len
      let n := min as.length bs.length
      have hat : ∀ k, k < min as.length bs.length → ∃ d, zipD as bs k = some d := fun k hk => by
        have ka : k < as.length := by omega
        have kb : k < bs.length := by omega
        refine ⟨.tuple [as[k], bs[k]], ?_⟩
        unfold zipD
        rw [List.getElem?_eq_getElem ka, List.getElem?_eq_getElem kb]
      have bound : ∀ k, k ≤ min as.length bs.length → ((ds.take j).flatMap f ++ acc k).length < sizeLine := fun k hk => by
        have b1 := hG.le hat (min as.length bs.length - k) k (by omega)
        rw [hE] at b1
        refine Nat.lt_of_le_of_lt ?_ hn
        have e3 : ds = ds.take j ++ ds[j] :: ds.drop (j + 1) := by rw [← List.drop_eq_getElem_cons hlt, List.take_append_drop]
        rw [List.length_append]
        conv => rhs; rw [e3, List.flatMap_append, List.flatMap_cons]
        rw [List.length_append, List.length_append]
        omega
      have hy3 := s3 _ _ hy
      let Hb : Hp := fun b => if b = D then none else H3 b
      have sb : Same H1 Hb := fun b o h => by
        show (if b = D then none else H3 b) = some o
        rw [if_neg (ne_of_none h nD)]
        exact s3 _ _ (s2 _ _ h)
      have nDb : Hb D = none := if_pos rfl
      have sb3 : Same Hb H3 := fun b o h => by
        have h : (if b = D then none else H3 b) = some o := h
        split at h
        · cases h
        · exact h
      have tb : ∀ {b : Addr} {ws : List V}, TupN H3 b ws → TupN Hb b ws := fun {b ws} h => by
        obtain ⟨o, n, w⟩ := h
        refine ⟨o, n, ?_⟩
        show (if b = D then none else H3 b) = _
        rw [if_neg (fun z => by rw [z, hy3] at w; cases w)]
        exact w
      have tupsb : Tups H3 Hb := fun b ws h => tb h
      have h1b := tb h1
      have h2b := tb h2
      have t1b := t1.up tupsb
      have t2b := t2.up tupsb
      have W := walk_zipT (K := K) (a := a1) (b := a2) (xs := us) (ys := zs) (n := min as.length bs.length) (by rw [l1, l2])
      refine ⟨fun k m H4 => m = min as.length bs.length - k ∧ k ≤ min as.length bs.length ∧ ((∃ ys, H4 D = some (.lst ys) ∧ TdAll H4 ys ((ds.take j).flatMap f ++ acc k)) ∧ Same Hb H4), ⟨_, rfl, Nat.zero_le _, ⟨ys, hy3, by rw [hG.zero, List.append_nil]; exact ty.same s3⟩, sb3⟩, ?_⟩
      rintro k m H4 ⟨rfl, hk, hD4, s4⟩
      rcases Nat.lt_or_ge k (min as.length bs.length) with klt | kge
      · refine .inr ⟨W.goes k H4 klt ⟨(h1b.same s4).sq, (h2b.same s4).sq⟩, fun H5 => (∃ ys, H5 D = some (.lst ys) ∧ TdAll H5 ys ((ds.take j).flatMap f ++ acc (k + 1))) ∧ Same Hb H5, fun H' p' => ⟨_, by omega, rfl, klt, p'⟩, fun x H5 yy => ?_⟩
        have y := W.yields k H4 x H5 klt ⟨(h1b.same s4).sq, (h2b.same s4).sq⟩ yy
        obtain ⟨T, x1, x2, rfl, nT, rfl, e1, e2⟩ := y
        have hx : k < as.length := by omega
        have hy' : k < bs.length := by omega
        have s5 : Same H4 (upd H4 T (.tup [x1, x2])) := Same.new nT
        obtain ⟨v1, ev1, tv1⟩ := (t1b.same (s4.trans s5)).get (List.getElem?_eq_getElem hx)
        obtain ⟨v2, ev2, tv2⟩ := (t2b.same (s4.trans s5)).get (List.getElem?_eq_getElem hy')
        rw [show us[k]? = some x1 from e1] at ev1
        rw [show zs[k]? = some x2 from e2] at ev2
        obtain rfl := Option.some.inj ev1
        obtain rfl := Option.some.inj ev2
        obtain ⟨d1, d2, e1', b, rr, ed, g0, g1, g2, g3⟩ := hG.turn k (.tuple [as[k], bs[k]]) klt (by unfold zipD; rw [List.getElem?_eq_getElem hx, List.getElem?_eq_getElem hy'])
        obtain ⟨zz, hz, tz⟩ := hD4
        cases ed
        have RwB : EnvR K H0 Hb (L2.wipe σ [i, i1, i2]) (((e.set i2 .un).set i1 .un).set i .un) := (((R1.up sb).wipe (i := i2)).wipe (i := i1)).wipe (i := i)
        have RB : EnvR K H0 Hb ((L2.wipe σ [i, i1, i2]).set i (some v)) (eO e i i1 i2 ds[j]) := EnvR.put (i := i) RwB (Same.refl _) (c := .dat ds[j]) rfl (Td.up (Td.up tv (Tups.of s3)) tupsb)
        have Rw5 : EnvR K H0 (upd H4 T (.tup [x1, x2])) (L2.wipe σ [i, i1, i2]) (((e.set i2 .un).set i1 .un).set i .un) := (((R1.up (sb.trans (s4.trans s5))).wipe (i := i2)).wipe (i := i1)).wipe (i := i)
        have R5 : EnvR K H0 (upd H4 T (.tup [x1, x2])) ((L2.wipe σ [i, i1, i2]).set i (some v)) (eO e i i1 i2 ds[j]) := EnvR.put (i := i) Rw5 (Same.refl _) (c := .dat ds[j]) rfl (Td.up (Td.up (Td.up tv (Tups.of s3)) tupsb) (Tups.of (s4.trans s5)))
        exact lc_turnG (acc := (ds.take j).flatMap f ++ acc k) (acc' := (ds.take j).flatMap f ++ acc (k + 1)) RB nDb (fun Q => g0 H0 _ _ T x1 x2 Q R5 upd_same tv1 tv2) g1 (fun z => ⟨(g2 z).1, by rw [(g2 z).2, List.append_assoc]⟩) (fun z => by rw [g3 z]) (bound k hk) (s4.trans s5) ⟨zz, s5 _ _ hz, tz.same s5⟩
      · obtain rfl : k = min as.length bs.length := Nat.le_antisymm hk kge
        refine .inl ⟨W.stops H4 ⟨(h1b.same s4).sq, (h2b.same s4).sq⟩, ?_, sb.trans s4⟩
        obtain ⟨zz, hz, tz⟩ := hD4
        refine ⟨zz, hz, ?_⟩
        rw [hE] at tz
        rw [List.take_succ, List.getElem?_eq_getElem hlt, List.flatMap_append]
        simpa using tz
    | [], r => exact r.elim
    | [_], ⟨_, r⟩ => exact r.elim
    | _ :: _ :: _ :: _, ⟨_, _, r⟩ => exact r.elim
  · obtain rfl : j = ds.length := Nat.le_antisymm hj hge
    refine .inl ⟨⟨xs, SqL.of ha2, by omega⟩, ?_⟩
    rw [List.take_length] at ty
    exact q _ _ (s.trans s2) ⟨D, ys, rfl, s.free nD, hy, ty⟩
end
end Esp
set_option autoImplicit false
set_option maxRecDepth 100000
set_option maxHeartbeats 4000000
namespace Esp
open PySem PySem.Spec PyProof.Rows L2
section
variable {K : PySem.W.Frag} {E : XK} {e : List Cell × Hs} {P : OutM → Prop} {t u tb : TS} {H0 : Bs} {H H' : Hp} {σ : L2.St}
theorem set_same {α : Type} {l : List α} {k : Nat} {x : α} (h : l[k]? = some x) : l.set k x = l := by
  apply List.ext_getElem?
  intro j
  by_cases z : k = j
  · subst z
    rw [h]
    exact List.getElem?_set_self (by
      rcases Nat.lt_or_ge k l.length with w | w
      · exact w
      · rw [List.getElem?_eq_none w] at h
        cases h)
  · rw [List.getElem?_set_ne z]
/-- a name's own list becomes one that is read -/
theorem EnvM.toRd {k : Nat} {ds : List PyData} (M : EnvM K H0 H σ e) (hk : e.1[k]? = some (.own ds)) : EnvM K H0 H σ (e.1.set k (.rd ds), e.2) := by
  obtain ⟨p, ep, a, xs, ev, n, ha, t⟩ := M.ev.sl.get hk
  subst ev
  have S := M.ev.sl.set k (c := .rd ds) (o := some (.ref a)) ⟨a, xs, rfl, ha, t⟩
  rw [set_same ep] at S
  refine ⟨⟨M.ev.bs, M.ev.sm, S, fun i j b x y hi ox hj ly si sj => ?_⟩, M.hp, fun i c b hi li si => ?_⟩
  · rcases get_set hi with ⟨rfl, rfl⟩ | ⟨ni, ei⟩
    · cases ox
    · rcases get_set hj with ⟨rfl, rfl⟩ | ⟨nj, ej⟩
      · exact M.ev.ap i k b x _ ei ox hk rfl si sj
      · exact M.ev.ap i j b x y ei ox ej ly si sj
  · rcases get_set hi with ⟨rfl, rfl⟩ | ⟨ni, ei⟩
    · exact M.sep k _ b hk rfl si
    · exact M.sep i c b ei li si
theorem DM.toRd {k : Nat} {ds : List PyData} (hk : e.1[k]? = some (.own ds)) (h : DM K E t (e.1.set k (.rd ds), e.2) P) : DM K E t e P := fun H0 H σ D M q => h H0 H σ D (EnvM.toRd M hk) q
/-- a name is forgotten -/
theorem EnvM.forget {k : Nat} (M : EnvM K H0 H σ e) : EnvM K H0 H σ (e.1.set k .un, e.2) := by
  have S : Slots K H0 H σ (e.1.set k .un) := by
    rcases Nat.lt_or_ge k σ.length with w | w
    · have S := M.ev.sl.set k (c := .un) (o := σ[k]) trivial
      rw [set_same (List.getElem?_eq_getElem w)] at S
      exact S
    · rw [List.set_eq_of_length_le (by rw [← M.ev.sl.len]; exact w)]
      exact M.ev.sl
  refine ⟨⟨M.ev.bs, M.ev.sm, S, fun i j b x y hi ox hj ly si sj => ?_⟩, M.hp, fun i c b hi li si => ?_⟩
  · rcases get_set hi with ⟨rfl, rfl⟩ | ⟨ni, ei⟩
    · cases ox
    · rcases get_set hj with ⟨rfl, rfl⟩ | ⟨nj, ej⟩
      · cases ly
      · exact M.ev.ap i j b x y ei ox ej ly si sj
  · rcases get_set hi with ⟨rfl, rfl⟩ | ⟨ni, ei⟩
    · cases li
    · exact M.sep i c b ei li si
theorem DM.forget (k : Nat) (h : DM K E t (e.1.set k .un, e.2) P) : DM K E t e P := fun H0 H σ D M q => h H0 H σ D (EnvM.forget M) q
/-- the list a and the tuples of now stay -/
theorem EnvM.fzL {a : Addr} (M : EnvM K H0 H σ e) (no : ∀ (i : Nat) (c : Cell), e.1[i]? = some c → isOwn c = true → ¬ σ[i]? = some (some (V.ref a))) (nd : a ∉ dom e.2) : EnvM K (Esp.fzL H0 H a) H σ e := by
  refine ⟨M.ev.fzL no, ⟨fun p hp => ?_, M.hp.nd⟩, M.sep⟩
  obtain ⟨n, r⟩ := M.hp.at_ p hp
  obtain ⟨o, ho, nt, _⟩ := r.some
  refine ⟨fun hf => ?_, r.map (fun k z => SlotR.bs (G := Esp.fzL H0 H a) (Same.refl H0.b) k z) rfl⟩
  have nb : p.1 ≠ a := fun z => nd (z ▸ mem_dom_of hp hf)
  show fzL0 H0.h H a p.1 = none
  unfold fzL0
  rw [if_neg nb, fz_no (by
    rw [ho]
    cases o with
    | frz q o' =>
      cases o' with
      | tup xs => exact absurd rfl (nt hf (q, xs))
      | _ => rfl
    | _ => rfl)]
  exact n hf
theorem EnvM.ofFz {a : Addr} {e' : List Cell × Hs} {σ' : L2.St} (M : EnvM K H0 H σ e) (M' : EnvM K (Esp.fzL H0 H a) H' σ' e') : EnvM K H0 H' σ' e' := by
  refine ⟨EnvR.ofBase (G := Esp.fzL H0 H a) rfl M.ev.bs (fzL_base M.ev.sm) M'.ev, ⟨fun p hp => ?_, M'.hp.nd⟩, M'.sep⟩
  obtain ⟨n, r⟩ := M'.hp.at_ p hp
  exact ⟨fun hf => (fzL_base M.ev.sm).free (n hf), r.map (fun k z => SlotR.bs (H0 := Esp.fzL H0 H a) (G := H0) (Same.refl H0.b) k z) rfl⟩
theorem DM.forRd {k i : Nat} {ds : List PyData} {Inv : Nat → List Cell × Hs → Prop} (hk : e.1[k]? = some (.rd ds)) (h0 : Inv 0 e) (hs : ∀ j d, ds[j]? = some d → ∀ e, Inv j e → DM K E tb (e.1.set i (.dat d), e.2) (TurnM (Inv (j + 1)) P)) (hend : ∀ e, Inv ds.length e → P (.next e)) :
    DM K E (tFor (iList K (tVar k)) (gName i) tb) e P := fun H0 H σ D M q => by
  have M : EnvM K H0 H σ e := M
  obtain ⟨p, ep, a, xs, ev, ha, t⟩ := M.ev.sl.get hk
  subst ev
  have nd := M.sep k _ a hk rfl ep
  have no : ∀ (j : Nat) (c : Cell), e.1[j]? = some c → isOwn c = true → ¬ σ[j]? = some (some (V.ref a)) := fun j c h1 h2 h3 => by
    obtain rfl := M.ev.ap j k a c _ h1 h2 hk rfl h3 ep
    rw [hk] at h1
    cases h1
    cases h2
  have ln := t.len
  refine ⟨_, ep, a, rfl, ⟨xs, SqL.of ha⟩, for_list (xs := xs) (fun j σ H' => ∃ e, Inv j e ∧ EnvM K (Esp.fzL H0 H a) H' σ e) ⟨e, h0, M.fzL no nd⟩ (fun j σ H _ z => let ⟨_, _, z⟩ := z; SqL.of (z.ev.lstL ha)) (fun j x σ H' ex z => ?_) fun σ H' z => ?_⟩
  · obtain ⟨e', hI, R'⟩ := z
    have hj : j < ds.length := by
      rcases Nat.lt_or_ge j xs.length with w | w
      · omega
      · rw [List.getElem?_eq_none w] at ex
        cases ex
    obtain ⟨v, ev, tv⟩ := (t.up (R'.ev.tupsL ha)).get (List.getElem?_eq_getElem hj)
    rw [ex] at ev
    obtain rfl := Option.some.inj ev
    refine hs j _ (List.getElem?_eq_getElem hj) e' hI (Esp.fzL H0 H a) H' _ _ (EnvM.put R' (c := .dat ds[j]) rfl tv) fun o z => ?_
    cases o with
    | next e => exact fun σ H r => ⟨e, z, r⟩
    | cont e => exact fun σ H r => ⟨e, z, r⟩
    | brk e => exact fun σ H r => q _ z σ H (M.ofFz r)
    | ret c hs => exact fun v H9 s r rv => q _ z v H9 ((fzL_base M.ev.sm).trans s) ⟨fun p hp => ⟨fun hf => (fzL_base M.ev.sm).free ((r.at_ p hp).1 hf), (r.at_ p hp).2.map (fun k z => SlotR.bs (H0 := Esp.fzL H0 H a) (G := H0) (Same.refl H0.b) k z) rfl⟩, r.nd⟩ (rv.low (fzL_base M.ev.sm))
    | exc C hs => exact fun H9 s r => q _ z H9 ((fzL_base M.ev.sm).trans s) ⟨fun p hp => ⟨fun hf => (fzL_base M.ev.sm).free ((r.at_ p hp).1 hf), (r.at_ p hp).2.map (fun k z => SlotR.bs (H0 := Esp.fzL H0 H a) (G := H0) (Same.refl H0.b) k z) rfl⟩, r.nd⟩
  · obtain ⟨e', hI, R'⟩ := z
    rw [ln] at hI
    exact q _ (hend e' hI) _ _ (M.ofFz R')
end
end Esp
set_option autoImplicit false
set_option maxRecDepth 100000
set_option maxHeartbeats 4000000
namespace Esp
open PySem PySem.Spec PyProof.Rows L2
section
variable {K : PySem.W.Frag} {E : XK} {e : List Cell × Hs} {P : OutM → Prop} {t u tb : TS} {ta : TE} {c : Cell} {tA : TT}
theorem DM.vSet {i : Nat} (h : EV K ta e fun c h1 => DM K E u (e.1.set i c, h1) P) : DM K E (tSeq (tAsg ta (gName i)) u) e P := fun H0 H σ D M q => h.run M fun c h1 v H1 k M1 => k H0 H1 _ D M1.move q
theorem DM.pSet {i : Nat} (h : DE K ta e c) (hs : store c = true) (k : DM K E u (e.1.set i c, e.2) P) : DM K E (tSeq (tAsg ta (gName i)) u) e P := DM.vSet (EV.pure h hs k)
theorem DM.vDrop (h : EV K ta e fun c h1 => DM K E u (e.1, h1) P) : DM K E (tSeq (tDrop ta) u) e P := fun H0 H σ D M q => h.run M fun c h1 v H1 k M1 => k H0 H1 _ D (M1.left M.len) q
theorem DM.vApp {i : Nat} {ds : List PyData} (hi : e.1[i]? = some (.own ds)) (hn : ds.length < sizeLine) (h : EV K ta e fun c h1 => ∃ d, c = .dat d ∧ DM K E u (e.1.set i (.own (ds ++ [d])), h1) P) : DM K E (tSeq (tDrop (tBM K "list" rAppend (tVar i) (tCons ta tNil))) u) e P := fun H0 H σ D M q => by
  refine DM.appV (E := E) (P := fun o => ∃ d h1, o = .next (e.1.set i (.own (ds ++ [d])), h1) ∧ DM K E u (e.1.set i (.own (ds ++ [d])), h1) P) hi hn (h.mono fun c h1 ⟨d, hc, k⟩ => ⟨d, hc, d, h1, rfl, k⟩) H0 H σ { D with nx := u D } M fun o z => ?_
  obtain ⟨d, h1, rfl, k⟩ := z
  exact fun σ' H' M' => k H0 H' σ' D M' q
theorem DM.pApp {i : Nat} {ds : List PyData} {d : PyData} (hi : e.1[i]? = some (.own ds)) (hn : ds.length < sizeLine) (h : DE K ta e (.dat d)) (k : DM K E u (e.1.set i (.own (ds ++ [d])), e.2) P) : DM K E (tSeq (tDrop (tBM K "list" rAppend (tVar i) (tCons ta tNil))) u) e P := DM.vApp hi hn (EV.pure h rfl ⟨d, rfl, k⟩)
theorem DM.vIf (h : EB K tA e fun b h1 => if b = true then DM K E (tSeq t tb) (e.1, h1) P else DM K E (tSeq u tb) (e.1, h1) P) : DM K E (tSeq (tIfS tA t u) tb) e P := fun H0 H σ D M q => h H0 H σ [] [] _ (EnvM.len M) (by rw [List.append_nil, List.append_nil]; exact M) fun b h1 H1 hb M1 => by
  rw [List.append_nil, List.append_nil] at M1
  cases b with
  | true => exact iteT (hb H0 H1 σ D M1 q)
  | false => exact iteF (hb H0 H1 σ D M1 q)
/-- a test that is known -/
theorem DM.ifKnown {b : Bool} (h : DB K tA e b) (k : DM K E (if b = true then t else u) e P) : DM K E (tIfS tA t u) e P := DM.if_ h (fun z => by subst z; exact k) fun z => by subst z; exact k
theorem DM.seqT (h : DB K tA e true) (k : DM K E (tSeq t tb) e P) : DM K E (tSeq (tIfS tA t u) tb) e P := DM.vIf (EB.pure h (by rw [if_pos rfl]; exact k))
theorem DM.seqF (h : DB K tA e false) (k : DM K E (tSeq u tb) e P) : DM K E (tSeq (tIfS tA t u) tb) e P := DM.vIf (EB.pure h (by rw [if_neg (by decide)]; exact k))
theorem DM.skip (k : DM K E u e P) : DM K E (tSeq tNext u) e P := k
theorem DM.assoc {a b c : TS} (k : DM K E (tSeq a (tSeq b c)) e P) : DM K E (tSeq (tSeq a b) c) e P := k
theorem DM.leave {v : TS} (h : DM K E t e P) (hn : ∀ e, ¬ P (.next e)) : DM K E (tSeq t v) e P := DM.seq h (fun e1 z => absurd z (hn e1)) fun _ _ z => z
theorem DM.retSeq {te : TE} (h : DM K E (tRet te) e P) : DM K E (tSeq (tRet te) u) e P := h
/-- a loop over numbers, and what follows -/
theorem DM.vFor {i : Nat} {tr : TA} (hl : EAs K tr e fun cs h1 => ∃ (n : Int) (Inv : Nat → List Cell × Hs → Prop), cs = [.dat (.int n)] ∧ -(2 ^ 62) ≤ n ∧ n < 2 ^ 62 ∧ Inv 0 (e.1, h1) ∧
      (∀ j : Nat, j < n.toNat → ∀ e, Inv j e → DM K E tb (e.1.set i (.dat (.int j)), e.2) (TurnM (Inv (j + 1)) (fun o => match o with | .next e => DM K E u e P | o => P o))) ∧ ∀ e, Inv n.toNat e → DM K E u e P) : DM K E (tSeq (tFor (iRng1 tr) (gName i) tb) u) e P :=
  DM.seq (P1 := fun o => match o with | .next e => DM K E u e P | o => P o) (DM.forR1V hl) (fun e1 z => z) fun o ho z => by
    cases o with
    | next e => cases ho
    | ret _ _ => exact z
    | brk _ => exact z
    | cont _ => exact z
    | exc _ _ => exact z
end
end Esp
set_option autoImplicit false
set_option maxRecDepth 100000
set_option maxHeartbeats 4000000
namespace Esp
open PySem PySem.Spec PyProof.Rows L2
def srtD (ds : List PyData) : List PyData := ds.mergeSort (PySem.W.dataLe false id)
def rSortD : List V → Hp → VK → Prop := fun vs H Q => ∃ (a : Addr) (xs : List V) (ds : List PyData), vs = [V.ref a] ∧ H a = some (.lst xs) ∧ TdAll H xs ds ∧ PySem.W.AllAlike ds ∧ PySem.W.Sortable ds ∧ ds.length ≤ sizeLine ∧ (∀ d ∈ ds, d.depth ≤ 60) ∧
  ∀ (ys : List V) (p : Addr), TdAll H ys (srtD ds) → H p = none → Q (.ref p) (upd H p (.lst ys))
theorem each_of {H : Hp} : ∀ {xs : List V} {vs : List Value} {ds : List PyData}, Vals xs vs → TdAll H xs ds → PySem.W.EachIs (fun v d => ∃ x : V, RelV x v ∧ Td H x d) vs ds
  | [], _, _, .nil, h => by
    cases h
    exact .nil
  | _ :: _, _, _, .cons r rs, h => by
    cases h with
    | cons h1 h2 => exact .cons ⟨_, r, h1⟩ (each_of rs h2)
theorem of_each {H : Hp} : ∀ {vs : List Value} {ds : List PyData}, PySem.W.EachIs (fun v d => ∃ x : V, RelV x v ∧ Td H x d) vs ds → ∃ xs : List V, Vals xs vs ∧ TdAll H xs ds
  | _, _, .nil => ⟨[], .nil, .nil⟩
  | _, _, .cons ⟨x, r, h⟩ hs => by
    obtain ⟨xs, rs, t⟩ := of_each hs
    exact ⟨x :: xs, .cons r rs, .cons h t⟩
theorem cr_sortedD {X : Cx} (hu : X.A.units + 65 < cLine) : CallR X (.builtin "sorted") rSortD := by
  intro pins s σ H vs us Q I r h
  obtain ⟨a, xs, ds, rfl, ha, ht, hal, hk, hL, hdep, q⟩ := h
  obtain ⟨its, rv, hl, hz⟩ := I.list (SqL.of (K := X.K) ha)
  rw [Vals.ref1 r]
  have e := each_of rv ht
  have er : PySem.W.EachIs (fun v d => ∃ as, Reads s.heap v (id d) as) its ds := e.mono fun v d ⟨x, rx, tx⟩ => Dp.reads I d x v (Td.toDp tx) rx
  have mid : ds.map id = ds := List.map_id ds
  refine PySem.W.sorted_data (enc := id) hl.isList e er (by rw [mid]; exact hal) (by rw [mid]; exact hk) hL (fun b hb => by have := hdep b hb; show X.A.units + 2 + b.depth < cLine; omega) fun out ho eo => ?_
  obtain ⟨ys, ry, ty⟩ := of_each eo
  obtain ⟨ep, he'⟩ := PyProof.Rows.sortedAll_at s.heap its out.toArray
  have hlen : ys.length ≤ sizeLine := by
    rw [ty.len, (List.mergeSort_perm _ _).length_eq]
    exact hL
  exact ⟨.ref _, upd H (s.heap.objs.size + 1) (.lst ys), I.laid (t' := s.toks) (fun _ _ => PyProof.Rows.sortedAll_old) (Nat.le_succ _) ⟨hlen, out, ep, ry, he'⟩, rfl, q _ _ ty (I.hok.fresh (Nat.le_succ _))⟩
section
variable {K : PySem.W.Frag} {ε : Type} [Ctx ε] {e : ε} {c : Cell} {ta : TE} {ds : List PyData}
theorem DE.sorted (ha : DE K ta e c) (hc : lOf c = some ds) (hal : PySem.W.AllAlike ds) (hk : PySem.W.Sortable ds) (hL : ds.length ≤ sizeLine) (hd : ∀ d ∈ ds, d.depth ≤ 60) : DE K (tCB rSortD (tCons ta tNil)) e (.own (srtD ds)) := fun H0 H σ Q R q => ha H0 H σ _ R fun x H1 s1 r => by
  obtain ⟨a, xs, rfl, ha, t⟩ := r.lst hc
  refine ⟨a, xs, ds, rfl, ha, t, hal, hk, hL, hd, fun ys p ty np => ?_⟩
  have s2 := Same.new (o := .lst ys) np
  exact q _ _ (s1.trans s2) ⟨p, ys, rfl, s1.free np, upd_same, ty.same s2⟩
end
end Esp
set_option autoImplicit false
set_option maxRecDepth 100000
set_option maxHeartbeats 4000000
namespace Esp
open PySem PySem.Spec PyProof.Rows L2
theorem lt64 {n m : Nat} (h : n + 64 < m) : n < m := by omega
section
variable {K : PySem.W.Frag} {E : XK} {e : List Cell × Hs} {R : Cell → Hs → Prop} {P : OutM → Prop} {t u : TS} {ta tb : TE} {H0 : Bs} {H H' : Hp} {σ : L2.St} {kvs ks ls : List (Int × Int)}
/-- a new object -/
theorem EnvM.newC {p : Addr} {o : HO} {ch : Chunk} (M : EnvM K H0 H σ e) (np : H p = none) (hc : ChunkR K H0 (upd H p o) p ch) : EnvM K H0 (upd H p o) σ (e.1, (p, ch) :: e.2) := by
  have s := Same.new (o := o) np
  have M1 := EnvM.up M s
  have far : ∀ q ∈ e.2, q.1 ≠ p := fun q hq z => by
    obtain ⟨o, ho, _⟩ := (M.hp.at_ q hq).2.some
    rw [z, np] at ho
    cases ho
  refine ⟨M1.ev, ⟨fun q hq => ?_, ?_⟩, fun i c a h1 h2 h3 hd => ?_⟩
  · rcases List.mem_cons.mp hq with rfl | hq
    · exact ⟨fun _ => M.ev.sm.free np, hc⟩
    · exact M1.hp.at_ q hq
  · show (dom ((p, ch) :: e.2)).Nodup
    cases hf : ch.fixd with
    | true =>
      rw [dom_tup hf]
      exact M.hp.nd
    | false =>
      rw [dom_cons hf, List.nodup_cons]
      refine ⟨fun z => ?_, M.hp.nd⟩
      obtain ⟨c, hm, hfx⟩ := dom_mem z
      exact far _ hm rfl
  · have hd : a ∈ dom ((p, ch) :: e.2) := hd
    cases hf : ch.fixd with
    | true =>
      rw [dom_tup hf] at hd
      exact M.sep i c a h1 h2 h3 hd
    | false =>
      rw [dom_cons hf] at hd
      rcases List.mem_cons.mp hd with z | z
      · obtain ⟨xs, hx⟩ := slot_lst M.ev h1 h2 h3
        have z : a = p := z
        rw [z, np] at hx
        cases hx
      · exact M.sep i c a h1 h2 h3 z
abbrev rDictD : List V → Hp → VK → Prop := fun xs H Q => ∃ (a : Addr) (kvs : List (L2.Key × V)), xs = [.ref a] ∧ Rd H a (.dK kvs) ∧ ∀ p, H p = none → Q (.ref p) (upd H p (.dK kvs))
theorem EV.dictOf (h : DE K ta e (.dct kvs)) (k : ∀ l, R (.raw (.ref l)) ((l, .dct kvs) :: e.2)) : EV K (tCB rDictD (tCons ta tNil)) e R := fun H0 H σ τ m Q hl M q => h H0 H σ _ (M.left hl) fun v H1 s r => by
  obtain ⟨a, rfl, ha⟩ := r
  refine ⟨a, encD kvs, rfl, .inl ha, fun p np => ?_⟩
  have M1 : EnvM K H0 H1 (σ ++ τ) (e.1 ++ m, e.2) := M.up s
  exact q _ _ _ _ (k p) ((EnvM.newC M1 np (ch := .dct kvs) upd_same).push (Same.refl _) (c := .raw (.ref p)) rfl rfl)
theorem EV.dictNew (k : ∀ l, R (.raw (.ref l)) ((l, .dct []) :: e.2)) : EV K tDNewK e R := fun H0 H σ τ m Q hl M q => fun p np => q _ _ _ _ (k p) ((EnvM.newC M np (ch := .dct []) upd_same).push (Same.refl _) (c := .raw (.ref p)) rfl rfl)
theorem DM.dDel {k v : Int} {a : Addr} {i : Nat} (ha : DE K ta e (.raw (.ref a))) (hb : DE K tb e (.dat (.int k))) (hi : e.2[i]? = some (a, .dct kvs)) (hv : lookD kvs k = some v) (p : P (.next (e.1, e.2.set i (a, .dct (dropD kvs k))))) : DM K E (sDDel ta tb) e P := fun H0 H σ D R q => ha H0 H σ _ R fun x H1 s1 r1 => hb H0 H1 σ _ (Ctx.R.up R s1) fun y H2 s2 r2 => by
  have R2 : EnvM K H0 H2 σ e := EnvM.up R (s1.trans s2)
  cases r1
  cases int_of r2
  refine ⟨a, _, Sum.inl k, rfl, (R2.hp.get hi).2, rfl, by rw [val_enc, hv]; rfl, ?_⟩
  rw [drop_enc]
  exact q _ p σ _ (R2.wr hi upd_same)
theorem DE.neDct {ε : Type} [Ctx ε] {e : ε} (ha : DE K ta e (.dct ks)) (hb : DE K tb e (.dct ls)) (hl : ks.length = ls.length) (h : ∀ p ∈ ks, lookD ls p.1 = some p.2) : DE K (tOp rNeDA ta tb) e (.dat (.bool false)) := fun H0 H σ Q R q => ha H0 H σ _ R fun x H1 s1 r => hb H0 H1 σ _ (R.up s1) fun y H2 s2 r2 => by
  obtain ⟨a, rfl, ha⟩ := r
  obtain ⟨b, rfl, hb⟩ := r2
  refine ⟨a, b, encD ks, encD ls, rfl, rfl, s2 _ _ ha, hb, by rw [List.length_map, List.length_map]; exact hl, fun p hp => ?_, q _ _ (s1.trans s2) (.bl false)⟩
  obtain ⟨p', hp', rfl⟩ := List.mem_map.mp hp
  refine ⟨?_, rfl⟩
  rw [val_enc, h p' hp']
  rfl
theorem DE.eqDct {ε : Type} [Ctx ε] {e : ε} (ha : DE K ta e (.dct ks)) (hb : DE K tb e (.dct ls)) (hl : ks.length = ls.length) (h : ∀ p ∈ ks, lookD ls p.1 = some p.2) : DE K (tOp rEqDA ta tb) e (.dat (.bool true)) := fun H0 H σ Q R q => ha H0 H σ _ R fun x H1 s1 r => hb H0 H1 σ _ (R.up s1) fun y H2 s2 r2 => by
  obtain ⟨a, rfl, ha⟩ := r
  obtain ⟨b, rfl, hb⟩ := r2
  refine ⟨a, b, encD ks, encD ls, rfl, rfl, s2 _ _ ha, hb, by rw [List.length_map, List.length_map]; exact hl, fun p hp => ?_, q _ _ (s1.trans s2) (.bl true)⟩
  obtain ⟨p', hp', rfl⟩ := List.mem_map.mp hp
  refine ⟨?_, rfl⟩
  rw [val_enc, h p' hp']
  rfl
theorem DE.isiDct {ε : Type} [Ctx ε] {e : ε} (ha : DE K ta e (.dct ks)) : DE K (tCB (rIsi K) (tCons ta (tCons (tC (.ty "dict")) tNil))) e (.dat (.bool true)) := fun H0 H σ Q E q => ha H0 H σ _ E fun x H1 s1 r => by
  obtain ⟨a, rfl, ha⟩ := r
  exact ⟨_, .ty "dict", _, _, true, rfl, .ty "dict", .base (.dK ha), kit_ty (by decide +kernel), q _ _ s1 (.bl true)⟩
/-- objects that are no longer looked at -/
theorem DM.lose {l : List Cell} {hs hs' : Hs} (sub : hs'.Sublist hs) (h : DM K E t (l, hs') P) : DM K E t (l, hs) P := fun H0 H σ D M q => by
  have M : EnvM K H0 H σ (l, hs) := M
  have sd : (dom hs').Sublist (dom hs) := dom_sub sub
  exact h H0 H σ D ⟨M.ev, ⟨fun p hp => M.hp.at_ p (sub.subset hp), M.hp.nd.sublist sd⟩, fun i c a h1 h2 h3 hd => M.sep i c a h1 h2 h3 (sd.subset hd)⟩ q
theorem TapeIn.at_ {t : Addr} {rest hs : Hs} {i : Nat} {x : Addr × Chunk} (h : TapeIn t rest hs) (hi : rest[i]? = some x) : hs[i + 2]? = some x := by
  obtain ⟨l, ns, i', r, s, rfl, _⟩ := h
  exact hi
theorem TapeIn.set {t : Addr} {rest hs : Hs} {i : Nat} {x : Addr × Chunk} (h : TapeIn t rest hs) : TapeIn t (rest.set i x) (hs.set (i + 2) x) := by
  obtain ⟨l, ns, i', r, s, rfl, h0⟩ := h
  exact ⟨l, ns, i', r, s, rfl, h0⟩
/-- a new object stands behind the tape -/
theorem DM.behind {t : Addr} {rest hs : Hs} {l : List Cell} {x : Addr × Chunk} {u : TS} (hT : TapeIn t rest hs) (h : ∀ h2, TapeIn t (x :: rest) h2 → DM K E u (l, h2) P) : DM K E u (l, x :: hs) P := by
  obtain ⟨l', ns, i, r, s, rfl, h0⟩ := hT
  refine DM.perm (h (tapeH t l' ns i r s (x :: rest)) ⟨l', ns, i, r, s, rfl, h0⟩) ?_
  exact (List.Perm.swap _ _ _).trans ((List.Perm.swap _ _ _).cons _)
theorem DM.tapeLose {t : Addr} {rest rest' hs : Hs} {l : List Cell} {u : TS} (hT : TapeIn t rest hs) (sub : rest'.Sublist rest) (h : ∀ h2, TapeIn t rest' h2 → DM K E u (l, h2) P) : DM K E u (l, hs) P := by
  obtain ⟨l', ns, i, r, s, rfl, h0⟩ := hT
  exact DM.lose ((sub.cons₂ _).cons₂ _) (h (tapeH t l' ns i r s rest') ⟨l', ns, i, r, s, rfl, h0⟩)
end
/-- c' is what stands for c -/
def Gives (c' : Cell) (hs : Hs) (c : Cell) : Prop := c' = c ∨ (∃ l kvs, c' = .raw (.ref l) ∧ (l, Chunk.dct kvs) ∈ hs ∧ c = .dct kvs) ∨ ∃ l ds, c' = .raw (.ref l) ∧ (l, Chunk.lst (ds.map .dat)) ∈ hs ∧ c = .own ds
def EndsG (c : Cell) : OutM → Prop
  | .ret c' hs => Gives c' hs c
  | .next _ => c = .dat .none
  | _ => False
theorem DM.runG {K : PySem.W.Frag} {E : XK} {t : TS} {N : List Str} {vs : List V} {cs : List Cell} {c : Cell} {H : Hp} {Q : VK} (h : DM K E t (cs ++ List.replicate (N.length - vs.length) .un, []) (EndsG c)) (ho : cs.all (fun c => !isOwn c) = true) (hv : ValsR K H H vs cs)
    (q : ∀ v H', Same H H' → ValR K H H' v c → Q v H') : t { nx := fun _ H' => Q .non H', rt := Q } (start N vs) H := by
  refine h ⟨H, H⟩ H _ _ ⟨EnvR.start _ hv ho, ⟨(fun p hp => by cases hp), List.nodup_nil⟩, fun i c a _ _ _ hd => by cases hd⟩ fun o z => ?_
  cases o with
  | ret c' hs =>
    intro v H' s r rv
    rcases z with rfl | ⟨l, kvs, rfl, hm, rfl⟩ | ⟨l, ds, rfl, hm, rfl⟩
    · exact q v H' s rv
    · cases rv
      exact q _ H' s ⟨l, rfl, (r.at_ _ hm).2⟩
    · cases rv
      obtain ⟨n, xs, ha, hS, ok⟩ := r.at_ _ hm
      exact q _ H' s ⟨l, xs, rfl, n rfl, ha, slots_dats hS⟩
  | next e =>
    intro σ' H' M'
    cases z
    exact q _ H' M'.ev.sm .non
  | brk e => exact z.elim
  | cont e => exact z.elim
  | exc C hs => exact z.elim
section
variable {P : Program} {w : World} {K : PySem.W.Frag} {mg : Str → Option Value} {base : Heap}
theorem fnDM {x qual : Str} {st : Stmt} {fa : Addr} {fd : FuncData} {N ps : List Str} {k : Nat} {f : List Cell → Cell → Prop} (F : Fun K x qual st fa fd) (S : FnScope N ps (defScope st)) (len : ∀ cs c, f cs c → cs.length = ps.length)
    (body : ∀ (cdv : Value) (A : Around) (outer : List Env) (s : Shared) (H : Hp) (E : XK), Room k (A.deeper (envOfC qual (defScope st) s.heap.objs.size fa cdv)) →
      ∃ t, PSs (cxOf CX0 P w K mg base N qual (defScope st) fa cdv A outer s H E).nox (defBody st) t ∧ ∀ cs c, f cs c → DM K E t (cs ++ List.replicate (N.length - ps.length) .un, []) (EndsG c)) : FnOk P w K mg base CX0 (k + 1) fa fd ps (spD K f) := by
  refine F.ok S (fun vs H Q E h => ?_) (fun cdv A outer s H vs Q E hr h => ?_)
  · obtain ⟨cs, c, hf, ho, hv, q⟩ := h
    rw [hv.len]
    exact len cs c hf
  · obtain ⟨cs, c, hf, ho, hv, q⟩ := h
    obtain ⟨t, hps, hd⟩ := body cdv A outer s H E hr
    refine ⟨t, hps, DM.runG (E := E) (c := c) (cs := cs) ?_ ho hv q⟩
    rw [hv.len, len cs c hf]
    exact hd cs c hf
end
end Esp
set_option autoImplicit false
set_option maxRecDepth 100000
set_option maxHeartbeats 4000000
namespace Esp
open PySem PySem.Spec PyProof.Rows L2
section
variable {K : PySem.W.Frag} {E : XK} {e : List Cell × Hs} {R : Cell → Hs → Prop} {P : OutM → Prop} {t u tb : TS} {ta tl : TE} {H0 : Bs} {H H' : Hp} {σ : L2.St}
/-- a new list, held apart -/
theorem EV.lstApart {ds : List PyData} (h : DE K ta e (.own ds)) (k : ∀ l, R (.raw (.ref l)) ((l, .lst (ds.map .dat)) :: e.2)) : EV K ta e R := fun H0 H σ τ m Q hl M q => h H0 H σ _ (M.left hl) fun v H1 s r => by
  obtain ⟨a, xs, rfl, na, ha, t⟩ := r
  have M1 : EnvM K H0 H1 (σ ++ τ) (e.1 ++ m, e.2) := M.up s
  have far : ∀ p ∈ e.2, p.2.fixd = false → p.1 ≠ a := fun p hp _ z => by
    obtain ⟨o, ho, _⟩ := (M.hp.at_ p hp).2.some
    rw [z, na] at ho
    cases ho
  have M2 : EnvM K H0 H1 (σ ++ τ) (e.1 ++ m, (a, .lst (ds.map .dat)) :: e.2) := by
    refine ⟨M1.ev, M1.hp.lay (M.ev.sm.free na) far ha t, fun j c b h1 h2 h3 hd => ?_⟩
    rcases List.mem_cons.mp hd with z | z
    · obtain ⟨ys, hy⟩ := slot_lst M.ev h1 h2 h3
      have z : b = a := z
      rw [z, na] at hy
      cases hy
    · exact M.sep j c b h1 h2 h3 z
  exact q _ _ _ _ (k a) (M2.push (Same.refl _) (c := .raw (.ref a)) rfl rfl)
/-- a name's own list is given back -/
theorem DM.retVar {i : Nat} {ds : List PyData} (hi : e.1[i]? = some (.own ds)) (p : ∀ l, P (.ret (.raw (.ref l)) ((l, .lst (ds.map .dat)) :: e.2))) : DM K E (tRet (tVar i)) e P := fun H0 H σ D M q => by
  have M : EnvM K H0 H σ e := M
  obtain ⟨o, eo, a, xs, ev, n, ha, t⟩ := M.ev.sl.get hi
  subst ev
  have na := M.sep i _ a hi rfl eo
  refine ⟨_, eo, q _ (p a) _ H M.ev.sm (M.hp.lay n (fun p hp hf z => na (z ▸ mem_dom_of hp hf)) ha t) rfl⟩
/-- over a list that an expression has just made -/
theorem DM.forNew {i : Nat} {ds : List PyData} {Inv : Nat → List Cell × Hs → Prop} (hl : DE K tl e (.own ds)) (h0 : Inv 0 e) (hs : ∀ j d, ds[j]? = some d → ∀ e, Inv j e → DM K E tb (e.1.set i (.dat d), e.2) (TurnM (Inv (j + 1)) P)) (hend : ∀ e, Inv ds.length e → P (.next e)) :
    DM K E (tFor (iList K tl) (gName i) tb) e P := fun H0 H0' σ D M q => hl H0 H0' σ _ M fun v H s r => by
  obtain ⟨a, xs, rfl, na, ha, t⟩ := r
  have M0 : EnvM K H0 H0' σ e := M
  have M : EnvM K H0 H σ e := M0.up s
  have far : a ∉ dom e.2 := fun z => by
    obtain ⟨c, hm, hfx⟩ := dom_mem z
    obtain ⟨o, ho, _⟩ := (M0.hp.at_ _ hm).2.some
    rw [na] at ho
    cases ho
  have no : ∀ (j : Nat) (c : Cell), e.1[j]? = some c → isOwn c = true → ¬ σ[j]? = some (some (V.ref a)) := fun j c h1 h2 h3 => by
    obtain ⟨_, ys, hy⟩ := own_new M0.ev h1 h2 h3
    rw [na] at hy
    cases hy
  have ln := t.len
  refine ⟨a, rfl, ⟨xs, SqL.of ha⟩, for_list (xs := xs) (fun j σ H' => ∃ e, Inv j e ∧ EnvM K (Esp.fzL H0 H a) H' σ e) ⟨e, h0, M.fzL no far⟩ (fun j σ H _ z => let ⟨_, _, z⟩ := z; SqL.of (z.ev.lstL ha)) (fun j x σ H' ex z => ?_) fun σ H' z => ?_⟩
  · obtain ⟨e', hI, R'⟩ := z
    have hj : j < ds.length := by
      rcases Nat.lt_or_ge j xs.length with w | w
      · omega
      · rw [List.getElem?_eq_none w] at ex
        cases ex
    obtain ⟨v, ev, tv⟩ := (t.up (R'.ev.tupsL ha)).get (List.getElem?_eq_getElem hj)
    rw [ex] at ev
    obtain rfl := Option.some.inj ev
    refine hs j _ (List.getElem?_eq_getElem hj) e' hI (Esp.fzL H0 H a) H' _ _ (EnvM.put R' (c := .dat ds[j]) rfl tv) fun o z => ?_
    cases o with
    | next e => exact fun σ H r => ⟨e, z, r⟩
    | cont e => exact fun σ H r => ⟨e, z, r⟩
    | brk e => exact fun σ H r => q _ z σ H (M.ofFz r)
    | ret c hs => exact fun v H9 s r rv => q _ z v H9 ((fzL_base M.ev.sm).trans s) ⟨fun p hp => ⟨fun hf => (fzL_base M.ev.sm).free ((r.at_ p hp).1 hf), (r.at_ p hp).2.map (fun k z => SlotR.bs (H0 := Esp.fzL H0 H a) (G := H0) (Same.refl H0.b) k z) rfl⟩, r.nd⟩ (rv.low (fzL_base M.ev.sm))
    | exc C hs => exact fun H9 s r => q _ z H9 ((fzL_base M.ev.sm).trans s) ⟨fun p hp => ⟨fun hf => (fzL_base M.ev.sm).free ((r.at_ p hp).1 hf), (r.at_ p hp).2.map (fun k z => SlotR.bs (H0 := Esp.fzL H0 H a) (G := H0) (Same.refl H0.b) k z) rfl⟩, r.nd⟩
  · obtain ⟨e', hI, R'⟩ := z
    rw [ln] at hI
    exact q _ (hend e' hI) _ _ (M.ofFz R')
end
def ipD (p : Int × Int) : PyData := .tuple [.int p.1, .int p.2]
def leP (p q : Int × Int) : Bool := decide (p.1 < q.1 ∨ (p.1 = q.1 ∧ p.2 ≤ q.2))
def sortP (ps : Tab) : Tab := ps.mergeSort leP
theorem srt_pairs (ps : Tab) : srtD (ps.map ipD) = (sortP ps).map ipD := by
  unfold srtD sortP
  rw [List.map_mergeSort (r := leP) (s := PySem.W.dataLe false id) (f := ipD)]
  intro a _ b _
  exact (congrFun (congrFun (PySem.W.dataLe_ii (β := Int × Int) (fun p => p.1) (fun p => p.2)) a) b).symm
theorem leP_trans : ∀ a b c : Int × Int, leP a b = true → leP b c = true → leP a c = true := fun a b c h1 h2 => by
  unfold leP at *
  rw [decide_eq_true_eq] at *
  omega
theorem leP_total : ∀ a b : Int × Int, (leP a b || leP b a) = true := fun a b => by
  unfold leP
  rw [Bool.or_eq_true, decide_eq_true_eq, decide_eq_true_eq]
  omega
theorem sortP_perm (ps : Tab) : (sortP ps).Perm ps := List.mergeSort_perm _ _
theorem sortP_pw (ps : Tab) : (sortP ps).Pairwise fun a b => leP a b = true := List.pairwise_mergeSort leP_trans leP_total ps
theorem sortP_of {ps qs : Tab} (h : qs.Perm ps) (hs : Srt qs) : sortP ps = qs := by
  refine List.Perm.eq_of_pairwise (le := fun a b => leP a b = true) (fun a b _ _ h1 h2 => ?_) (sortP_pw ps) (hs.imp fun {a b} h => ?_) ((sortP_perm ps).trans h.symm)
  · unfold leP at *
    rw [decide_eq_true_eq] at *
    obtain ⟨a1, a2⟩ := a
    obtain ⟨b1, b2⟩ := b
    simp only at *
    have e1 : a1 = b1 := by omega
    have e2 : a2 = b2 := by omega
    rw [e1, e2]
  · unfold leP
    rw [decide_eq_true_eq]
    omega
theorem sortP_srt {ps : Tab} (hn : (fsts ps).Nodup) : Srt (sortP ps) := by
  have h := sortP_pw ps
  have n : (fsts (sortP ps)).Nodup := ((sortP_perm ps).map _).nodup_iff.mpr hn
  have n2 : (sortP ps).Pairwise fun a b => a.1 ≠ b.1 := List.pairwise_map.mp n
  exact (h.and n2).imp fun {a b} ⟨h1, h2⟩ => by
    unfold leP at h1
    rw [decide_eq_true_eq] at h1
    omega
theorem alike_pairs (ps : Tab) : PySem.W.AllAlike (ps.map ipD) := PySem.W.AllAlike.of fun b b' => by
  unfold ipD
  simp [PySem.W.alike, PySem.W.alikeAll]
theorem sortable_pairs (ps : Tab) : PySem.W.Sortable (ps.map ipD) := PySem.W.Sortable.tuples fun b => ⟨_, _, rfl⟩
theorem depth_pairs (ps : Tab) : ∀ d ∈ ps.map ipD, d.depth ≤ 60 := fun d hd => by
  obtain ⟨p, _, rfl⟩ := List.mem_map.mp hd
  simp [ipD, PyData.depth, PyData.depthAll]
theorem dk_pairs {k : Nat} (ps : Tab) : DkAll (k + 1) (ps.map ipD) := DkAll.mem fun d hd => by
  obtain ⟨p, _, rfl⟩ := List.mem_map.mp hd
  exact Dk.tup (.cons (Dk.int _) (.cons (Dk.int _) .nil))
theorem shp_pairs (ps : Tab) : Shp (.list (ps.map ipD)) := (Dk.lst (k := 7) (dk_pairs ps)).shp8
end Esp
set_option autoImplicit false
set_option maxRecDepth 100000
set_option maxHeartbeats 4000000
namespace Esp
open PySem PySem.Spec PyProof.Rows L2
inductive Cl
  | look (k : Int)
  | put (k v : Int)
  | add (k v : Int)
  | change (k o n : Int)
  | take (k : Int)
  | scan (k hi : Int)
namespace Cl
def key : Cl → Int
  | look k => k
  | put k _ => k
  | add k _ => k
  | change k _ _ => k
  | take k => k
  | scan k _ => k
def isScan : Cl → Bool
  | scan _ _ => true
  | _ => false
end Cl
def callD : Cl → PyData
  | .look k => .tuple [.str "look", .int k]
  | .put k v => .tuple [.str "put", .int k, .int v]
  | .add k v => .tuple [.str "add", .int k, .int v]
  | .change k o n => .tuple [.str "change", .int k, .int o, .int n]
  | .take k => .tuple [.str "take", .int k]
  | .scan k hi => .tuple [.str "scan", .int k, .int hi]
/-- the answer, by the value before -/
def ansR (b : Option Int) : Cl → PyData
  | .look _ => bD b
  | .put _ _ => bD b
  | .add _ _ => .bool b.isNone
  | .change _ o _ => .bool (decide (b = some o))
  | .take _ => bD b
  | .scan _ _ => bD b
def aftR (b : Option Int) : Cl → Option Int
  | .look _ => b
  | .put _ v => some v
  | .add _ v => some (b.getD v)
  | .change _ o n => if b = some o then some n else b
  | .take _ => none
  | .scan _ _ => b
def inR (lo hi : Int) (p : Int × Int) : Bool := decide (lo ≤ p.1) && decide (p.1 < hi)
/-- the answer on a table -/
def ansC (ps : Tab) : Cl → Cell
  | .scan lo hi => .own ((sortP (ps.filter (inR lo hi))).map ipD)
  | k => .dat (ansR (lookD ps k.key) k)
def aftE (kvs : Tab) (k : Cl) : Tab := if k.isScan = true then kvs else match aftR (lookD kvs k.key) k with
  | some v => putE kvs k.key v
  | none => dropD kvs k.key
/-- the list of pairs behind a call -/
def aftI (its : Tab) : Cl → Tab
  | .put k v => dropD its k ++ [(k, v)]
  | .add k v => if lookD its k = none then dropD its k ++ [(k, v)] else its
  | .change k o n => if lookD its k = some o then dropD its k ++ [(k, n)] else its
  | .take k => dropD its k
  | _ => its
theorem aftI_add (its : Tab) (k v : Int) : aftI its (.add k v) = if lookD its k = none then dropD its k ++ [(k, v)] else its := rfl
theorem aftI_change (its : Tab) (k o n : Int) : aftI its (.change k o n) = if lookD its k = some o then dropD its k ++ [(k, n)] else its := rfl
theorem eqv_int (a b : Int) : PyData.eqv (.int a) (.int b) = decide (a = b) := by
  by_cases h : a = b
  · subst h
    simp [PyData.eqv]
  · simp [PyData.eqv, h]
theorem eqv_bD_int (b : Option Int) (o : Int) : PyData.eqv (bD b) (.int o) = decide (b = some o) := by
  cases b with
  | none => rfl
  | some x =>
    show PyData.eqv (.int x) (.int o) = _
    rw [eqv_int]
    simp
theorem look_put {kvs : Tab} {k v : Int} (hn : (fsts kvs).Nodup) : (fsts (putE kvs k v)).Nodup ∧ (putE kvs k v).Perm (dropD kvs k ++ [(k, v)]) := by
  have perm : (putE kvs k v).Perm (dropD kvs k ++ [(k, v)]) := by
    unfold putE
    rw [any_mem]
    by_cases h : k ∈ fsts kvs
    · rw [if_pos (decide_eq_true h)]
      induction kvs with
      | nil => cases h
      | cons p r ih =>
        have hn' := List.nodup_cons.mp hn
        have e1 : dropD (p :: r) k = if p.1 = k then dropD r k else p :: dropD r k := by
          unfold dropD
          rw [List.filter_cons]
          by_cases z : p.1 = k
          · rw [if_neg (by simp [z]), if_pos z]
          · rw [if_pos (by simp [z]), if_neg z]
        rw [e1]
        by_cases z : p.1 = k
        · have nk : k ∉ fsts r := z ▸ hn'.1
          have e2 : dropD r k = r := List.filter_eq_self.mpr fun q hq => by
            simp only [decide_not, Bool.not_eq_true', decide_eq_false_iff_not, ne_eq, decide_eq_true_eq]
            exact fun w => nk (w ▸ List.mem_map.mpr ⟨q, hq, rfl⟩)
          have e3 : r.map (fun p => if p.1 = k then (p.1, v) else p) = r := by
            refine (List.map_congr_left fun q hq => ?_).trans (List.map_id r)
            rw [if_neg (fun w : q.1 = k => nk (w ▸ List.mem_map.mpr ⟨q, hq, rfl⟩))]
            rfl
          rw [if_pos z, e2, List.map_cons, e3, if_pos z, z]
          exact (List.perm_append_comm (l₁ := [(k, v)]) (l₂ := r))
        · rw [if_neg z, List.map_cons, if_neg z]
          have hk : k ∈ fsts r := by
            rcases List.mem_cons.mp h with w | w
            · exact absurd w.symm z
            · exact w
          exact (ih hn'.2 hk).cons p
    · rw [if_neg (by simpa using h)]
      have e2 : dropD kvs k = kvs := List.filter_eq_self.mpr fun q hq => by
        exact decide_eq_true fun w : q.1 = k => h (w ▸ List.mem_map.mpr ⟨q, hq, rfl⟩)
      rw [e2]
  refine ⟨(perm.map (·.1)).nodup_iff.mpr ?_, perm⟩
  rw [List.map_append]
  refine List.nodup_append.mpr ⟨?_, by simp, fun a ha b hb => ?_⟩
  · exact hn.sublist (List.filter_sublist.map _)
  · simp at hb
    subst hb
    obtain ⟨q, hq, rfl⟩ := List.mem_map.mp ha
    have := (List.mem_filter.mp hq).2
    simpa using this
theorem nodup_drop {ps : Tab} {k : Int} (hn : (fsts ps).Nodup) : (fsts (dropD ps k)).Nodup := hn.sublist (List.filter_sublist.map _)
theorem drop_none {ps : Tab} {k : Int} (h : lookD ps k = none) : dropD ps k = ps := List.filter_eq_self.mpr fun q hq => by
  simp only [decide_not, Bool.not_eq_true', decide_eq_false_iff_not, ne_eq, decide_eq_true_eq]
  intro w
  unfold lookD at h
  rw [Option.map_eq_none_iff, List.find?_eq_none] at h
  exact h q hq (decide_eq_true w)
theorem drop_id_perm {ps : Tab} {k v : Int} (hn : (fsts ps).Nodup) (h : lookD ps k = some v) : (putE ps k v).Perm ps := by
  have hm := (look_mem hn).mp h
  unfold putE
  rw [any_mem, if_pos (decide_eq_true (List.mem_map.mpr ⟨_, hm, rfl⟩))]
  have : ps.map (fun p => if p.1 = k then (p.1, v) else p) = ps := by
    refine (List.map_congr_left fun q hq => ?_).trans (List.map_id ps)
    split
    · rename_i z
      have hq' : (k, q.2) ∈ ps := by rw [← z]; exact hq
      have := (look_mem hn).mpr hq'
      rw [h] at this
      obtain rfl := Option.some.inj this
      rfl
    · rfl
  rw [this]
theorem aft_perm {kvs its : Tab} (hp : kvs.Perm its) (hn : (fsts its).Nodup) (k : Cl) : (aftE kvs k).Perm (aftI its k) ∧ (fsts (aftI its k)).Nodup := by
  have hn' : (fsts kvs).Nodup := (hp.map (·.1)).nodup_iff.mpr hn
  have lk : ∀ x, lookD kvs x = lookD its x := look_perm hp hn
  have app : ∀ x v, (fsts (dropD its x ++ [(x, v)])).Nodup := fun x v => ((look_put (v := v) hn).2.map (·.1)).nodup_iff.mp (look_put hn).1
  have pp : ∀ x v, (putE kvs x v).Perm (dropD its x ++ [(x, v)]) := fun x v => (look_put hn').2.trans ((drop_perm hp).append_right _)
  cases k with
  | look k =>
    refine ⟨?_, hn⟩
    unfold aftE
    rw [if_neg (by simp [Cl.isScan])]
    show List.Perm (match lookD kvs k with | some v => putE kvs k v | none => dropD kvs k) its
    cases h : lookD kvs k with
    | none =>
      rw [drop_none h]
      exact hp
    | some v => exact (drop_id_perm hn' h).trans hp
  | scan lo hi => exact ⟨hp, hn⟩
  | put k v => exact ⟨pp k v, app k v⟩
  | take k => exact ⟨drop_perm hp, nodup_drop hn⟩
  | add k v =>
    rw [aftI_add]
    unfold aftE
    rw [if_neg (by simp [Cl.isScan])]
    show List.Perm (match some ((lookD kvs k).getD v) with | some v => putE kvs k v | none => dropD kvs k) _ ∧ _
    rw [← lk k]
    cases h : lookD kvs k with
    | none =>
      rw [if_pos rfl]
      exact ⟨pp k v, app k v⟩
    | some w =>
      rw [if_neg (by simp)]
      exact ⟨(drop_id_perm hn' h).trans hp, hn⟩
  | change k o n =>
    rw [aftI_change]
    unfold aftE
    rw [if_neg (by simp [Cl.isScan])]
    show List.Perm (match (if lookD kvs k = some o then some n else lookD kvs k) with | some v => putE kvs k v | none => dropD kvs k) _ ∧ _
    rw [← lk k]
    by_cases h : lookD kvs k = some o
    · rw [if_pos h, if_pos h]
      exact ⟨pp k n, app k n⟩
    · rw [if_neg h, if_neg h]
      cases h2 : lookD kvs k with
      | none =>
        rw [drop_none h2]
        exact ⟨hp, hn⟩
      | some w => exact ⟨(drop_id_perm hn' h2).trans hp, hn⟩
theorem filt_nodup {ps : Tab} {p : Int × Int → Bool} (hn : (fsts ps).Nodup) : (fsts (ps.filter p)).Nodup := hn.sublist (List.filter_sublist.map _)
/-- the answers are those of a list in another order -/
theorem ans_perm {kvs its : Tab} (hp : kvs.Perm its) (hn : (fsts its).Nodup) (k : Cl) : ansC kvs k = ansC its k := by
  have lk : ∀ x, lookD kvs x = lookD its x := look_perm hp hn
  cases k with
  | scan lo hi =>
    show Cell.own ((sortP (kvs.filter (inR lo hi))).map ipD) = .own ((sortP (its.filter (inR lo hi))).map ipD)
    rw [sortP_of ((sortP_perm (its.filter (inR lo hi))).trans ((hp.filter _).symm)) (sortP_srt (filt_nodup hn))]
  | look k => exact congrArg (fun b => Cell.dat (ansR b _)) (lk k)
  | put k v => exact congrArg (fun b => Cell.dat (ansR b _)) (lk k)
  | add k v => exact congrArg (fun b => Cell.dat (ansR b _)) (lk k)
  | change k o n => exact congrArg (fun b => Cell.dat (ansR b _)) (lk k)
  | take k => exact congrArg (fun b => Cell.dat (ansR b _)) (lk k)
theorem aft_keys {its : Tab} {k : Cl} {S : Int → Prop} (h : ∀ x ∈ fsts its, S x) (hk : S k.key) : ∀ x ∈ fsts (aftI its k), S x := by
  have hd : ∀ x y, x ∈ fsts (dropD its y) → S x := fun x y hx => h x ((List.filter_sublist.map _).subset hx)
  have ha : ∀ x y v, S y → x ∈ fsts (dropD its y ++ [(y, v)]) → S x := fun x y v hy hx => by
    unfold fsts at hx
    rw [List.map_append, List.mem_append] at hx
    rcases hx with hx | hx
    · exact hd x y hx
    · simp at hx
      subst hx
      exact hy
  intro x hx
  cases k with
  | look k => exact h x hx
  | scan a b => exact h x hx
  | put k v => exact ha x k v hk hx
  | take k => exact hd x k hx
  | add k v =>
    rw [aftI_add] at hx
    split at hx
    · exact ha x k v hk hx
    · exact h x hx
  | change k o n =>
    rw [aftI_change] at hx
    split at hx
    · exact ha x k n hk hx
    · exact h x hx
theorem aft_len (its : Tab) (k : Cl) : (aftI its k).length ≤ its.length + 1 := by
  have hd : ∀ y, (dropD its y).length ≤ its.length := fun y => List.length_filter_le _ _
  cases k with
  | look k => exact Nat.le_succ _
  | scan a b => exact Nat.le_succ _
  | put k v =>
    show (dropD its k ++ [(k, v)]).length ≤ _
    rw [List.length_append]
    have := hd k
    simp
    omega
  | take k => exact Nat.le_succ_of_le (hd k)
  | add k v =>
    rw [aftI_add]
    split
    · rw [List.length_append]
      have := hd k
      simp
      omega
    · exact Nat.le_succ _
  | change k o n =>
    rw [aftI_change]
    split
    · rw [List.length_append]
      have := hd k
      simp
      omega
    · exact Nat.le_succ _
end Esp
set_option autoImplicit false
set_option maxRecDepth 100000
set_option maxHeartbeats 4000000
namespace Esp
open PySem PySem.Spec PyProof.Rows L2
section
variable {K : PySem.W.Frag} {ε : Type} [Ctx ε] {e : ε} {ta tb : TE}
theorem DE.eqB {i j : Bool} (ha : DE K ta e (.dat (.bool i))) (hb : DE K tb e (.dat (.bool j))) : DE K (tOp rEq ta tb) e (.dat (.bool (decide (i = j)))) :=
  ha.two hb fun H H' x y Q rx ry q => by
    cases bl_of rx
    cases bl_of ry
    refine ⟨rfl, ?_⟩
    rw [show decide (V.bl i = V.bl j) = decide (i = j) from by simp]
    exact q _ _ (Same.refl _) (.bl _)
theorem DE.neB {i j : Bool} (ha : DE K ta e (.dat (.bool i))) (hb : DE K tb e (.dat (.bool j))) : DE K (tOp rNe ta tb) e (.dat (.bool (!decide (i = j)))) :=
  ha.two hb fun H H' x y Q rx ry q => by
    cases bl_of rx
    cases bl_of ry
    refine ⟨rfl, ?_⟩
    rw [show decide (V.bl i = V.bl j) = decide (i = j) from by simp]
    exact q _ _ (Same.refl _) (.bl _)
end
theorem DE.lcM {K : PySem.W.Frag} {e : List Cell × Hs} {tl te : TE} {tt : TT} {i : Nat} {ds : List PyData} {ca : Cell} {acc : Nat → List PyData} (hl : DE K tl e ca) (la : lOf ca = some ds) (G : Grow K tt te e.1 i ds.length (fun j => ds[j]?) acc) :
    DE K (tLc (iList K tl) (gName i) tt te [i]) e (.own (acc ds.length)) := fun H0 H σ Q R q => hl H0 H σ _ R fun v H1 s r => by
  obtain ⟨a, xs, rfl, ha, t⟩ := r.lst la
  have R : EnvM K H0 H σ e := R
  have R1 := R.ev.up s
  have ln := t.len
  refine ⟨a, rfl, ⟨xs, SqL.of ha⟩, fun D nD => lc_list (xs := xs) (fun j H2 => (∃ ys, H2 D = some (.lst ys) ∧ TdAll H2 ys (acc j)) ∧ Same H1 H2) ⟨⟨[], upd_same, by rw [G.zero]; exact .nil⟩, Same.new nD⟩ (fun j H2 _ z => SqL.of (z.2 _ _ ha)) (fun j x H2 ex z => ?_) fun H2 z => ?_⟩
  · have hj : j < ds.length := by
      rcases Nat.lt_or_ge j xs.length with w | w
      · omega
      · rw [List.getElem?_eq_none w] at ex
        cases ex
    obtain ⟨v, ev, tv⟩ := (t.same z.2).get (List.getElem?_eq_getElem hj)
    rw [ex] at ev
    obtain rfl := Option.some.inj ev
    obtain ⟨b, rr, g1, g2, g3⟩ := G.turn j _ hj (List.getElem?_eq_getElem hj)
    exact lc_turn R1 nD g1 g2 g3 (G.len j (Nat.le_of_lt hj)) z.2 tv z.1
  · rw [ln] at z
    obtain ⟨ys, hy, ty⟩ := z.1
    exact q _ _ (s.trans z.2) ⟨D, ys, rfl, s.free nD, hy, ty⟩
end Esp
namespace Esp
open PySem PySem.Spec PyProof.Rows L2
/-- what stands behind the tape, in another order -/
theorem DM.tapePerm {K : PySem.W.Frag} {E : XK} {P : OutM → Prop} {t : Addr} {rest rest' hs : Hs} {l : List Cell} {u : TS} (hT : TapeIn t rest hs) (p : rest.Perm rest') (h : ∀ h2, TapeIn t rest' h2 → DM K E u (l, h2) P) : DM K E u (l, hs) P := by
  obtain ⟨l', ns, i, r, s, rfl, h0⟩ := hT
  exact DM.perm (h (tapeH t l' ns i r s rest') ⟨l', ns, i, r, s, rfl, h0⟩) ((p.cons _).cons _)
end Esp
set_option autoImplicit false
set_option maxRecDepth 100000
set_option maxHeartbeats 4000000
namespace Esp
open PySem PySem.Spec PyProof.Rows L2
section
variable {K : PySem.W.Frag} {E : XK} {e : List Cell × Hs} {R : Cell → Hs → Prop} {P : OutM → Prop} {t u : TS} {ta te : TE} {tr : TA} {H0 : Bs} {H H' : Hp} {σ : L2.St}
/-- the one value that a cell allows -/
def detV : Cell → Option V
  | .raw v => some v
  | .dat (.int i) => some (.int i)
  | .dat .none => some .non
  | .dat (.bool b) => some (.bl b)
  | .dat (.str s) => some (.str s)
  | _ => none
def detF : List (Str × Cell) → Option (List (Str × V))
  | [] => some []
  | (f, c) :: r => match detV c, detF r with
    | some v, some vs => some ((f, v) :: vs)
    | _, _ => none
theorem SlotR.det {u v : V} : ∀ {c : Cell}, detV c = some v → SlotR K H0 H (some u) c → u = v
  | .raw w, h, r => by
    cases h
    exact Option.some.inj r
  | .dat (.int i), h, ⟨w, e, r⟩ => by
    cases h
    cases e
    exact int_of r
  | .dat .none, h, ⟨w, e, r⟩ => by
    cases h
    cases e
    exact non_of r
  | .dat (.bool b), h, ⟨w, e, r⟩ => by
    cases h
    cases e
    exact bl_of r
  | .dat (.str b), h, ⟨w, e, r⟩ => by
    cases h
    cases e
    exact str_of r
  | .dat (.tuple _), h, _ => by cases h
  | .dat (.list _), h, _ => by cases h
  | .dat (.dict _), h, _ => by cases h
  | .un, h, _ => by cases h
  | .cst _, h, _ => by cases h
  | .rd _, h, _ => by cases h
  | .own _, h, _ => by cases h
  | .rng _ _, h, _ => by cases h
  | .fix _, h, _ => by cases h
theorem FldR.det : ∀ {vs : List (Str × V)} {fs : List (Str × Cell)} {ws : List (Str × V)}, detF fs = some ws → FldR K H0 H vs fs → vs = ws
  | [], [], ws, h, _ => by
    cases h
    rfl
  | (f, v) :: vs, (g, c) :: fs, ws, h, ⟨e, ⟨k, r⟩, t⟩ => by
    subst e
    unfold detF at h
    cases hv : detV c with
    | none =>
      rw [hv] at h
      cases h
    | some u =>
      rw [hv] at h
      cases hr : detF fs with
      | none =>
        rw [hr] at h
        cases h
      | some us =>
        rw [hr] at h
        cases h
        rw [SlotR.det hv r, FldR.det hr t]
  | [], _ :: _, _, _, h => h.elim
  | _ :: _, [], _, _, h => h.elim
theorem DE.viewJ {a C : Addr} {fs : List (Str × Cell)} {ws : List (Str × V)} {i : Nat} (ha : DE K ta e (.raw (.ref a))) (hi : e.2[i]? = some (a, .ins C fs)) (hd : detF fs = some ws) : DE K ta e (.obj C ws) := fun H0 H σ Q M q => ha H0 H σ _ M fun x H1 s1 r => by
  have M1 : EnvM K H0 H1 σ e := EnvM.up M s1
  cases r
  obtain ⟨n, dx, vs, ea, hF⟩ := M1.hp.get hi
  obtain rfl := FldR.det hd hF
  exact q _ _ s1 ⟨a, rfl, dx, ea⟩
/-- a method that works on objects -/
theorem EV.methG {γ : Type} {p : Pro γ} {a C : Addr} {fs : List (Str × Cell)} {m : Str} {i : Nat} {cs : List Cell} (g : γ) (ho : DE K ta e (.raw (.ref a))) (hi : e.2[i]? = some (a, .ins C fs)) (hm : fs.lookup m = none) (h : DAs K tr e cs) (hc : .raw (.ref a) :: cs = p.cs g) (hh : e.2 = p.hs g) (ok : p.ok g) (nx : ∀ C hs, ¬ p.exc g C hs) (k : ∀ c hs', p.post g c hs' → okV c = true → R c hs') :
    EV K (tMeth C m (spG K p) [] E ta tr) e R := fun H0 H σ τ mm Q hl M q => by
  have M0 : EnvM K H0 H σ e := M.left hl
  refine ho H0 H σ _ M0 fun x H1 s1 rx => ?_
  have M1 := EnvM.up M0 s1
  cases rx
  obtain ⟨n, dx, vs, ea, hF⟩ := M1.hp.get hi
  refine ⟨a, dx, vs, rfl, ea, hF.none hm, h.2 H0 H1 σ _ M1 fun ws H2 s2 rr => ?_⟩
  rw [List.append_nil]
  refine ⟨g, ok, sp_call (e := (e.1 ++ mm, e.2)) (cs := .raw (.ref a) :: cs) (M.up (s1.trans s2)) (by rw [List.all_cons, h.1]; rfl) ⟨rfl, rr⟩ ⟨hc, hh⟩ (fun c hs' v H' hc' okc R2 rv => ?_) fun C hs' H' z => absurd z (nx C hs')⟩
  exact q c hs' v H' (k c hs' hc' okc) (R2.push (Same.refl H') (by cases c <;> first | rfl | (cases okc; done)) rv)
/-- .. without arguments -/
theorem EV.methG0 {γ : Type} {p : Pro γ} {a C : Addr} {fs : List (Str × Cell)} {m : Str} {i : Nat} (g : γ) (ho : DE K ta e (.raw (.ref a))) (hi : e.2[i]? = some (a, .ins C fs)) (hm : fs.lookup m = none) (hc : [.raw (.ref a)] = p.cs g) (hh : e.2 = p.hs g) (ok : p.ok g) (nx : ∀ C hs, ¬ p.exc g C hs) (k : ∀ c hs', p.post g c hs' → okV c = true → R c hs') :
    EV K (tMeth C m (spG K p) [] E ta tNil) e R := EV.methG g ho hi hm DAs.nil hc hh ok nx k
/-- a new object of a class -/
theorem EV.makeG {γ : Type} {p : Pro γ} {C : Addr} {cs : List Cell} (g : Addr → γ) (h : DAs K tr e cs) (hc : ∀ x, .raw (.ref x) :: cs = p.cs (g x)) (hh : ∀ x, (x, .ins C []) :: e.2 = p.hs (g x)) (ok : ∀ x, p.ok (g x)) (nx : ∀ x C hs, ¬ p.exc (g x) C hs) (hn : ∀ x c hs', p.post (g x) c hs' → c = .dat .none) (k : ∀ x hs', p.post (g x) (.dat .none) hs' → R (.raw (.ref x)) hs') :
    EV K (tMake C (spG K p) [] E tr) e R := fun H0 H σ τ mm Q hl M q => h.2 H0 H σ _ (M.left hl) fun vs H1 s1 rr x dx nx' nd ne => by
  have M1 : EnvM K H0 H1 (σ ++ τ) (e.1 ++ mm, e.2) := M.up s1
  have M2 := EnvM.new (C := C) M1 nx' nd ne
  have s : Same H1 (upd (upd H1 dx (.own x)) x (.ins C dx [])) := (Same.new nd).trans (Same.new (by rw [upd_ne ne.symm]; exact nx'))
  rw [List.append_nil]
  refine ⟨g x, ok x, sp_call (cs := .raw (.ref x) :: cs) (e := (e.1 ++ mm, (x, .ins C []) :: e.2)) M2 (by rw [List.all_cons, h.1]; rfl) ⟨rfl, Slots.up s rr⟩ ⟨hc x, hh x⟩ (fun c hs' v H' hc' okc R2 rv => ?_) fun D hs' H' z => absurd z (nx x D hs')⟩
  have := hn x c hs' hc'
  subst this
  exact ⟨non_of rv, q _ hs' _ H' (k x hs' hc') (R2.push (Same.refl H') (c := .raw (.ref x)) rfl rfl)⟩
/-- self.f = .. -/
theorem DM.setFV {a C : Addr} {f : Str} (h : EV K te e fun c h1 => okV c = true ∧ DE K ta (e.1, h1) (.raw (.ref a)) ∧ ∃ i fs, h1[i]? = some (a, .ins C fs) ∧ fs.length < 1000 ∧ P (.next (e.1, h1.set i (a, .ins C (Esp.putC f c fs))))) (cl : Cls K C) (hn : NoAttr K C f) : DM K E (sFld K ta te f) e P := fun H0 H σ D M q => h.run M fun c h1 v H1 k M1 => by
  obtain ⟨ok, ha, i, fs, hi, hl, p⟩ := k
  have M2 : EnvM K H0 H1 σ (e.1, h1) := M1.left (EnvM.len M)
  have sv := M1.last
  refine ha H0 H1 σ _ M2 fun x H2 s2 r2 => ?_
  have M3 := M2.up s2
  cases r2
  obtain ⟨n, dx, vs, ea, hF⟩ := M3.hp.get hi
  refine ⟨a, C, dx, vs, rfl, ea, cl, hn, by rw [hF.len]; exact hl, ?_⟩
  have tp : Tups H2 (upd H2 a (.ins C dx (putF f v vs))) := Tups.wr ea fun _ z => by cases z
  exact q _ p σ _ (M3.wr hi ⟨dx, _, upd_same, FldR.put (okC_of ok) ((sv.up s2).tp tp (okC_of ok)) (FldR.map (f := fun k z => z.tp tp k) hF)⟩)
theorem DM.vFld {a C : Addr} {f : Str} (h : EV K te e fun c h1 => okV c = true ∧ DE K ta (e.1, h1) (.raw (.ref a)) ∧ ∃ i fs, h1[i]? = some (a, .ins C fs) ∧ fs.length < 1000 ∧ DM K E u (e.1, h1.set i (a, .ins C (Esp.putC f c fs))) P) (cl : Cls K C) (hn : NoAttr K C f) : DM K E (tSeq (sFld K ta te f) u) e P :=
  fun H0 H σ D M q => DM.setFV (E := E) (P := fun o => ∃ e', o = .next e' ∧ DM K E u e' P) (h.mono fun c h1 ⟨a1, a2, i, fs, a3, a4, a5⟩ => ⟨a1, a2, i, fs, a3, a4, _, rfl, a5⟩) cl hn H0 H σ { D with nx := u D } M fun o ⟨e', he, k⟩ => by
    subst he
    exact fun σ' H' M' => k H0 H' σ' D M' q
/-- self.f = x: known -/
theorem DM.pFld {a C : Addr} {f : Str} {c : Cell} {i : Nat} {fs : List (Str × Cell)} (h : DE K te e c) (hc : okV c = true) (ha : DE K ta e (.raw (.ref a))) (hi : e.2[i]? = some (a, .ins C fs)) (cl : Cls K C) (hn : NoAttr K C f) (hl : fs.length < 1000) (k : DM K E u (e.1, e.2.set i (a, .ins C (Esp.putC f c fs))) P) : DM K E (tSeq (sFld K ta te f) u) e P :=
  DM.vFld (EV.pure h (by cases c <;> first | rfl | (cases hc; done)) ⟨hc, ha, i, fs, hi, hl, k⟩) cl hn
theorem DM.seqD {t : TS} {e' : List Cell × Hs} (h : ∀ P', P' (.next e') → DM K E t e P') (k : DM K E u e' P) : DM K E (tSeq t u) e P := DM.then (h (· = .next e') rfl) k
end
abbrev layF (t p r : Int) : List (Str × Cell) := [("threads", .dat (.int t)), ("pages", .dat (.int p)), ("records", .dat (.int r))]
abbrev layV (t p r : Int) : List (Str × V) := [("threads", .int t), ("pages", .int p), ("records", .int r)]
theorem lay_det (t p r : Int) : detF (layF t p r) = some (layV t p r) := rfl
structure MM where
  (m lay cs ac : Addr) (t p r n : Int) (ds as : List PyData)
abbrev MM.fs (g : MM) : List (Str × Cell) := [("layout", .raw (.ref g.lay)), ("count", .dat (.int g.n)), ("_cells", .raw (.ref g.cs)), ("_accesses", .raw (.ref g.ac))]
structure MI where
  (m c a l : Nat)
structure MemAt (CM CL : Addr) (hs : Hs) (g : MM) (i : MI) : Prop where
  m : hs[i.m]? = some (g.m, .ins CM g.fs)
  c : hs[i.c]? = some (g.cs, .lst (g.ds.map .dat))
  a : hs[i.a]? = some (g.ac, .lst (g.as.map .dat))
  l : hs[i.l]? = some (g.lay, .ins CL (layF g.t g.p g.r))
  ca : i.c ≠ i.a
inductive Req
  | read (c : Int)
  | write (c : Int) (d : PyData)
  | swap (c : Int) (o d : PyData)
  | dec (c : Int) (w : PyData)
def Req.cell : Req → Int
  | .read c => c
  | .write c _ => c
  | .swap c _ _ => c
  | .dec c _ => c
def Req.kind : Req → Str
  | .read _ => "read"
  | .write _ _ => "write"
  | .swap _ _ _ => "swap"
  | .dec _ _ => "decide"
def Req.data : Req → List PyData
  | .read c => [.str "read", .int c]
  | .write c d => [.str "write", .int c, d]
  | .swap c o d => [.str "swap", .int c, o, d]
  | .dec c w => [.str "decide", .int c, w]
def Req.ok (q : Req) (ds : List PyData) : Prop := 0 ≤ q.cell ∧ q.cell < ds.length ∧ Shp (dAt ds q.cell) ∧ match q with
  | .swap _ o _ => Shp o
  | _ => True
def repD (ds : List PyData) (c : Int) (old new : PyData) : List PyData := if PyData.eqv (dAt ds c) old = true then ds.set c.toNat new else ds
def Req.res (q : Req) (ds : List PyData) : PyData := match q with
  | .read c => dAt ds c
  | .write _ _ => .none
  | .swap c o _ => .bool (PyData.eqv (dAt ds c) o)
  | .dec c _ => .bool (PyData.eqv (dAt ds c) (.int 0))
def Req.run (q : Req) (ds : List PyData) (n : Int) : List PyData := match q with
  | .read _ => ds
  | .write c d => ds.set c.toNat d
  | .swap c o d => repD ds c o d
  | .dec c w => repD ds c (.int 0) (.tuple [w, .int n])
theorem Req.run_len (q : Req) (ds : List PyData) (n : Int) : (q.run ds n).length = ds.length := by
  have h : ∀ c o d, (repD ds c o d).length = ds.length := fun c o d => by
    unfold repD
    split
    · exact List.length_set
    · rfl
  cases q with
  | read c => rfl
  | write c d => exact List.length_set
  | swap c o d => exact h _ _ _
  | dec c w => exact h _ _ _
/-- what stands behind an access -/
def MM.after (g : MM) (th : PyData) (q : Req) : MM := { g with n := g.n + 1, ds := q.run g.ds (g.n + 1), as := g.as ++ [.tuple [.int (g.n + 1), th, .str q.kind, .int q.cell]] }
def setMem (CM : Addr) (hs : Hs) (g : MM) (i : MI) : Hs := ((hs.set i.c (g.cs, .lst (g.ds.map .dat))).set i.m (g.m, .ins CM g.fs)).set i.a (g.ac, .lst (g.as.map .dat))
structure GG where
  (hs : Hs) (g : MM) (i : MI) (c : Int) (th : PyData) (q : Req) (d1 d2 : PyData)
def pMCheck (CM CL : Addr) : Pro GG := { ok := fun x => MemAt CM CL x.hs x.g x.i ∧ 0 ≤ x.c ∧ x.c < 5 + x.g.p + x.g.r, cs := fun x => [.raw (.ref x.g.m), .dat (.int x.c)], hs := fun x => x.hs, post := fun x c h => c = .dat .none ∧ h = x.hs }
def pPeek (CM CL : Addr) : Pro GG := { ok := fun x => MemAt CM CL x.hs x.g x.i ∧ 0 ≤ x.c ∧ x.c < 5 + x.g.p + x.g.r ∧ x.c < x.g.ds.length, cs := fun x => [.raw (.ref x.g.m), .dat (.int x.c)], hs := fun x => x.hs, post := fun x c h => c = .dat (dAt x.g.ds x.c) ∧ h = x.hs }
def pRepl (CM CL : Addr) : Pro GG := { ok := fun x => MemAt CM CL x.hs x.g x.i ∧ 0 ≤ x.c ∧ x.c < x.g.ds.length ∧ Shp (dAt x.g.ds x.c) ∧ Shp x.d1, cs := fun x => [.raw (.ref x.g.m), .dat (.int x.c), .dat x.d1, .dat x.d2], hs := fun x => x.hs, post := fun x c h => c = .dat (.bool (PyData.eqv (dAt x.g.ds x.c) x.d1)) ∧ h = x.hs.set x.i.c (x.g.cs, .lst ((repD x.g.ds x.c x.d1 x.d2).map .dat)) }
def pPerf (CM CL : Addr) : Pro GG := { ok := fun x => MemAt CM CL x.hs x.g x.i ∧ x.q.ok x.g.ds, cs := fun x => [.raw (.ref x.g.m), .dat (.tuple x.q.data), .dat (.int x.c)], hs := fun x => x.hs, post := fun x c h => c = .dat (x.q.res x.g.ds) ∧ h = x.hs.set x.i.c (x.g.cs, .lst ((x.q.run x.g.ds x.c).map .dat)) }
def pAccess (CM CL : Addr) : Pro GG := { ok := fun x => MemAt CM CL x.hs x.g x.i ∧ x.q.ok x.g.ds ∧ x.q.cell < 5 + x.g.p + x.g.r ∧ x.g.as.length < 1000000, cs := fun x => [.raw (.ref x.g.m), .dat x.th, .dat (.tuple x.q.data)], hs := fun x => x.hs, post := fun x c h => c = .dat (.tuple [x.q.res x.g.ds, .int (x.g.n + 1)]) ∧ h = setMem CM x.hs (x.g.after x.th x.q) x.i }
theorem set_get_same {hs : Hs} {i : Nat} {x : Addr × Chunk} (h : hs[i]? = some x) : hs.set i x = hs := set_same h
theorem get_put {hs : Hs} {i j : Nat} {x y : Addr × Chunk} (h : hs[j]? = some y) (ne : i ≠ j) : (hs.set i x)[j]? = some y := by
  rw [List.getElem?_set_ne ne]
  exact h
theorem get_put_self {hs : Hs} {i : Nat} {x y : Addr × Chunk} (h : hs[i]? = some y) : (hs.set i x)[i]? = some x := by
  refine List.getElem?_set_self ?_
  rcases Nat.lt_or_ge i hs.length with w | w
  · exact w
  · rw [List.getElem?_eq_none w] at h
    cases h
theorem MemAt.mc {CM CL : Addr} {hs : Hs} {g : MM} {i : MI} (h : MemAt CM CL hs g i) : i.m ≠ i.c := fun z => by
  have a := h.m
  rw [z, h.c] at a
  exact Chunk.noConfusion (congrArg Prod.snd (Option.some.inj a))
theorem MemAt.ma {CM CL : Addr} {hs : Hs} {g : MM} {i : MI} (h : MemAt CM CL hs g i) : i.m ≠ i.a := fun z => by
  have a := h.m
  rw [z, h.a] at a
  exact Chunk.noConfusion (congrArg Prod.snd (Option.some.inj a))
theorem MemAt.lc {CM CL : Addr} {hs : Hs} {g : MM} {i : MI} (h : MemAt CM CL hs g i) : i.c ≠ i.l := fun z => by
  have a := h.c
  rw [z, h.l] at a
  exact Chunk.noConfusion (congrArg Prod.snd (Option.some.inj a))
theorem MemAt.la {CM CL : Addr} {hs : Hs} {g : MM} {i : MI} (h : MemAt CM CL hs g i) : i.a ≠ i.l := fun z => by
  have a := h.a
  rw [z, h.l] at a
  exact Chunk.noConfusion (congrArg Prod.snd (Option.some.inj a))
/-- the cells are others -/
theorem MemAt.cells {CM CL : Addr} {hs : Hs} {g : MM} {i : MI} (h : MemAt CM CL hs g i) (ds : List PyData) : MemAt CM CL (hs.set i.c (g.cs, .lst (ds.map .dat))) { g with ds := ds } i := ⟨get_put h.m h.mc.symm, get_put_self h.c, get_put h.a h.ca, get_put h.l h.lc, h.ca⟩
abbrev fWholeD : PD := fun cs c => ∃ d : PyData, cs = [.dat d] ∧ c = .dat (.bool (wh d))
abbrev fBtwI : PD := fun cs c => ∃ n a b : Int, cs = [.dat (.int n), .dat (.int a), .dat (.int b)] ∧ c = .dat (.bool (decide (a ≤ n) && decide (n ≤ b)))
abbrev fMark : PD := fun cs c => ∃ d : PyData, cs = [.dat d] ∧ c = .dat (.bool (isTupD d))
abbrev fIsAcc : PD := fun cs c => ∃ q : Req, cs = [.dat (.tuple q.data)] ∧ c = .dat (.bool true)
def firstD (p : Int) : PyData := if p = 0 then .tuple [.str "leaf", .none, .none, .tuple [], .tuple []] else .tuple [.str "free", .int p]
abbrev fFirst : PD := fun cs c => ∃ p : Int, cs = [.dat (.int p)] ∧ c = .dat (firstD p)
def initD (p r : Int) : List PyData := [.int 0] ++ [.none, .none, .none, .none] ++ ((List.range p.toNat).map fun j : Nat => .int (5 + p + (0 + (j : Int)))) ++ ((List.range p.toNat).map fun j : Nat => firstD (0 + (j : Int))) ++ List.replicate (r - p).toNat .none
abbrev fWord (CL : Addr) : PD := fun cs c => ∃ t p r k : Int, cs = [.obj CL (layV t p r), .dat (.int k)] ∧ c = .dat (.int (5 + k))
abbrev fRecord (CL : Addr) : PD := fun cs c => ∃ t p r k : Int, cs = [.obj CL (layV t p r), .dat (.int k)] ∧ c = .dat (.int (5 + p + k))
abbrev fCells (CL : Addr) : PD := fun cs c => ∃ t p r : Int, cs = [.obj CL (layV t p r)] ∧ c = .dat (.int (5 + p + r))
abbrev fNewCells (CL : Addr) : PD := fun cs c => ∃ t p r : Int, cs = [.obj CL (layV t p r)] ∧ (0 ≤ p ∧ p ≤ r ∧ r ≤ 100000) ∧ c = .own (initD p r)
structure LG where
  (x : Addr) (t p r : Int) (rest : Hs)
def pLayInit (CL : Addr) : Pro LG := { ok := fun g => (1 ≤ g.t ∧ g.t ≤ 4) ∧ (2 ≤ g.p ∧ g.p ≤ 48) ∧ g.p ≤ g.r, cs := fun g => [.raw (.ref g.x), .dat (.int g.t), .dat (.int g.p), .dat (.int g.r)], hs := fun g => (g.x, .ins CL []) :: g.rest, post := fun g c h => c = .dat .none ∧ h = (g.x, .ins CL (layF g.t g.p g.r)) :: g.rest }
structure NG where
  (x lay : Addr) (t p r : Int) (rest : Hs) (l : Nat)
def pMemInit (CM CL : Addr) : Pro NG := { ok := fun g => (g.rest[g.l]? : Option (Addr × Chunk)) = some (g.lay, .ins CL (layF g.t g.p g.r)) ∧ 0 ≤ g.p ∧ g.p ≤ g.r ∧ g.r ≤ 100000, cs := fun g => [.raw (.ref g.x), .raw (.ref g.lay)], hs := fun g => (g.x, .ins CM []) :: g.rest, post := fun g c h => c = .dat .none ∧ ∃ ca aa, h = (aa, .lst (([] : List PyData).map .dat)) :: (ca, .lst ((initD g.p g.r).map .dat)) :: (g.x, .ins CM (MM.fs ⟨g.x, g.lay, ca, aa, g.t, g.p, g.r, 0, initD g.p g.r, []⟩)) :: g.rest }
theorem range_firsts (n : Nat) : ((List.range n).map fun j : Nat => firstD (0 + (j : Int))).length = n := by simp
theorem isacc_any (q : Req) : (([.tuple [.str "read", .int 2], .tuple [.str "write", .int 3], .tuple [.str "swap", .int 4], .tuple [.str "decide", .int 3]] : List PyData).any fun z => PyData.eqv z (.tuple [.str q.kind, .int (q.data.length : Nat)])) = true := by
  cases q
  · show (([.tuple [.str "read", .int 2], .tuple [.str "write", .int 3], .tuple [.str "swap", .int 4], .tuple [.str "decide", .int 3]] : List PyData).any fun z => PyData.eqv z (.tuple [.str "read", .int 2])) = true
    decide +kernel
  · show (([.tuple [.str "read", .int 2], .tuple [.str "write", .int 3], .tuple [.str "swap", .int 4], .tuple [.str "decide", .int 3]] : List PyData).any fun z => PyData.eqv z (.tuple [.str "write", .int 3])) = true
    decide +kernel
  · show (([.tuple [.str "read", .int 2], .tuple [.str "write", .int 3], .tuple [.str "swap", .int 4], .tuple [.str "decide", .int 3]] : List PyData).any fun z => PyData.eqv z (.tuple [.str "swap", .int 4])) = true
    decide +kernel
  · show (([.tuple [.str "read", .int 2], .tuple [.str "write", .int 3], .tuple [.str "swap", .int 4], .tuple [.str "decide", .int 3]] : List PyData).any fun z => PyData.eqv z (.tuple [.str "decide", .int 3])) = true
    decide +kernel
theorem req_at0 (q : Req) : L2.atI q.data 0 = some (.str q.kind) := by cases q <;> rfl
theorem req_at1 (q : Req) : L2.atI q.data 1 = some (.int q.cell) := by cases q <;> rfl
theorem req_len (q : Req) : decide ((q.data.length : Int) = 0) = false := by cases q <;> rfl
theorem shp_sk {s : Str} {k : Int} (h : (PyData.str s).canLay0 = true) : Shp (.tuple [.str s, .int k]) := (Dk.tup (k := 7) (.cons (Dk.str h) (.cons (Dk.int _) .nil))).shp8
theorem req_shp (q : Req) : Shp (.tuple [.str q.kind, .int (q.data.length : Nat)]) := by
  cases q
  · exact shp_sk (s := "read") (by decide +kernel)
  · exact shp_sk (s := "write") (by decide +kernel)
  · exact shp_sk (s := "swap") (by decide +kernel)
  · exact shp_sk (s := "decide") (by decide +kernel)
end Esp
set_option autoImplicit false
set_option maxRecDepth 100000
set_option maxHeartbeats 4000000
namespace Esp
open PySem PySem.Spec PyProof.Rows L2
section
variable {K : PySem.W.Frag} {E : XK} {e : List Cell × Hs} {R : Cell → Hs → Prop} {P : OutM → Prop} {t u tb : TS} {ta te tl : TE} {tr : TA} {H0 : Bs} {H H' : Hp} {σ : L2.St}
theorem EnvM.unset {k : Nat} {o : Option V} (M : EnvM K H0 H σ e) : EnvM K H0 H (σ.set k o) (e.1.set k .un, e.2) := by
  refine ⟨⟨M.ev.bs, M.ev.sm, M.ev.sl.set k (c := .un) (o := o) trivial, fun i j b x y hi ox hj ly si sj => ?_⟩, M.hp, fun i c b hi li si => ?_⟩
  · rcases get_set hi with ⟨rfl, rfl⟩ | ⟨ni, ei⟩
    · cases ox
    · rcases get_set hj with ⟨rfl, rfl⟩ | ⟨nj, ej⟩
      · cases ly
      · rw [List.getElem?_set_ne ni] at si
        rw [List.getElem?_set_ne nj] at sj
        exact M.ev.ap i j b x y ei ox ej ly si sj
  · rcases get_set hi with ⟨rfl, rfl⟩ | ⟨ni, ei⟩
    · cases li
    · rw [List.getElem?_set_ne ni] at si
      exact M.sep i c b ei li si
/-- a method whose arguments work -/
theorem EV.methE {γ : Type} {p : Pro γ} {a C : Addr} {fs : List (Str × Cell)} {m : Str} {i : Nat} (ho : DE K ta e (.raw (.ref a))) (hi : e.2[i]? = some (a, .ins C fs)) (hm : fs.lookup m = none)
    (h : EAs K tr e fun cs h1 => cs.all okC = true ∧ ∃ g : γ, .raw (.ref a) :: cs = p.cs g ∧ h1 = p.hs g ∧ p.ok g ∧ (∀ C hs, ¬ p.exc g C hs) ∧ ∀ c hs', p.post g c hs' → okV c = true → R c hs') :
    EV K (tMeth C m (spG K p) [] E ta tr) e R := fun H0 H σ τ mm Q hl M q => by
  have M0 : EnvM K H0 H σ e := M.left hl
  refine ho H0 H σ _ M0 fun x H1 s1 rx => ?_
  have M1 := EnvM.up M0 s1
  cases rx
  obtain ⟨n, dx, vs, ea, hF⟩ := M1.hp.get hi
  refine ⟨a, dx, vs, rfl, ea, hF.none hm, h H0 H1 σ τ mm _ hl (M.up s1) fun cs h1 ws H2 hk hn M2 => ?_⟩
  obtain ⟨ok, g, hc, hh, okg, nx, k⟩ := hk
  rw [List.append_nil]
  have lm : (σ ++ τ).length = (e.1 ++ mm).length := M.len
  have rr := (M2.right lm).ev.sl
  refine ⟨g, okg, sp_call (e := (e.1 ++ mm, h1)) (cs := .raw (.ref a) :: cs) (M2.left lm) (by rw [List.all_cons, ok]; rfl) ⟨rfl, rr⟩ ⟨hc, hh⟩ (fun c hs' v H' hc' okc R2 rv => ?_) fun C hs' H' z => absurd z (nx C hs')⟩
  exact q c hs' v H' (k c hs' hc' okc) (R2.push (Same.refl H') (by cases c <;> first | rfl | (cases okc; done)) rv)
/-- a new object, of arguments that work -/
theorem EV.makeE {γ : Type} {p : Pro γ} {C : Addr} (h : EAs K tr e fun cs h1 => cs.all okC = true ∧ ∀ x, ∃ g : γ, .raw (.ref x) :: cs = p.cs g ∧ (x, .ins C []) :: h1 = p.hs g ∧ p.ok g ∧ (∀ C hs, ¬ p.exc g C hs) ∧ ∀ c hs', p.post g c hs' → c = .dat .none ∧ R (.raw (.ref x)) hs') :
    EV K (tMake C (spG K p) [] E tr) e R := fun H0 H σ τ m Q hl M q => h H0 H σ τ m _ hl M fun cs h1 vs H1 hk hn M2 x dx nx' nd ne => by
  obtain ⟨ok, hk⟩ := hk
  obtain ⟨g, hc, hh, okg, nx, k⟩ := hk x
  have lm : (σ ++ τ).length = (e.1 ++ m).length := M.len
  have rr := (M2.right lm).ev.sl
  have M3 := EnvM.new (C := C) (M2.left lm) nx' nd ne
  have s : Same H1 (upd (upd H1 dx (.own x)) x (.ins C dx [])) := (Same.new nd).trans (Same.new (by rw [upd_ne ne.symm]; exact nx'))
  rw [List.append_nil]
  refine ⟨g, okg, sp_call (cs := .raw (.ref x) :: cs) (e := (e.1 ++ m, (x, .ins C []) :: h1)) M3 (by rw [List.all_cons, ok]; rfl) ⟨rfl, Slots.up s rr⟩ ⟨hc, hh⟩ (fun c hs' v H' hc' okc R2 rv => ?_) fun D hs' H' z => absurd z (nx D hs')⟩
  obtain ⟨e1, k⟩ := k c hs' hc'
  subst e1
  exact ⟨non_of rv, q _ hs' _ H' k (R2.push (Same.refl H') (c := .raw (.ref x)) rfl rfl)⟩
/-- a new list of one object -/
theorem EV.lst1 {b : Addr} (h : DE K ta e (.raw (.ref b))) (k : ∀ l, R (.raw (.ref l)) ((l, .lst [.raw (.ref b)]) :: e.2)) : EV K (tLst (tCons ta tNil)) e R := fun H0 H σ τ m Q hl M q => h H0 H σ _ (M.left hl) fun v H1 s r => by
  cases r
  refine ⟨by show 1 ≤ sizeLine; decide, fun p np => ?_⟩
  have M1 : EnvM K H0 H1 (σ ++ τ) (e.1 ++ m, e.2) := M.up s
  exact q _ _ _ _ (k p) ((EnvM.newC M1 np (ch := .lst [.raw (.ref b)]) ⟨[.ref b], upd_same, ⟨rfl, trivial⟩, rfl⟩).push (Same.refl _) (c := .raw (.ref p)) rfl rfl)
/-- the only entry is taken off -/
theorem DM.pop1 {a : Addr} {c : Cell} {i : Nat} (hl : DE K tl e (.raw (.ref a))) (hi : e.2[i]? = some (a, .lst [c])) (p : P (.next (e.1, e.2.set i (a, .lst [])))) :
    DM K E (tDrop (fun σ H Q => tl σ H fun x H1 => tyV K "list" x H1 ∧ rPop x [] H1 Q)) e P := fun H0 H σ D R q => hl H0 H σ _ R fun x H1 s1 r1 => by
  have R1 : EnvM K H0 H1 σ e := EnvM.up R s1
  cases r1
  obtain ⟨n, xs, ea, hS, ok⟩ := R1.hp.get hi
  have ln := hS.len
  rw [List.length_map] at ln
  match xs, ln with
  | [x], _ =>
    exact ⟨.inl ⟨rfl, _, SqL.of ea⟩, a, [x], x, rfl, rfl, ea, rfl, q _ p σ _ (R1.wr hi ⟨[], upd_same, trivial, rfl⟩)⟩
  | [], ln => simp at ln
  | _ :: _ :: _, ln => simp at ln
/-- while, by a test that works -/
theorem DM.whileV {tc : TT} {Inw : List Cell × Hs → Prop} (μ : List Cell × Hs → Nat) (h0 : Inw e) (hs : ∀ e, Inw e → EB K tc e fun b h1 => if b = true then DM K E tb (e.1, h1) (TurnM (fun e' => Inw e' ∧ μ e' < μ e) P) else P (.next (e.1, h1))) : DM K E (tWhile tc tb) e P := fun H0 H σ D R q => by
  refine ⟨fun m σ H => ∃ e, Inw e ∧ μ e = m ∧ EnvM K H0 H σ e, ⟨_, e, h0, rfl, R⟩, ?_⟩
  rintro m σ H ⟨e', hI, hm, R'⟩
  have R' : EnvM K H0 H σ e' := R'
  refine hs e' hI H0 H σ [] [] _ R'.len (by rw [List.append_nil, List.append_nil]; exact R') fun b h1 H1 hb R1 => ?_
  rw [List.append_nil, List.append_nil] at R1
  cases b with
  | true =>
    refine iteT ⟨fun σ H => ∃ e2, (Inw e2 ∧ μ e2 < μ e') ∧ EnvM K H0 H σ e2, fun σ' H' ⟨e2, h2, R2⟩ => ⟨μ e2, by omega, e2, h2.1, rfl, R2⟩, hb H0 H1 σ _ R1 fun o z => ?_⟩
    cases o with
    | next e2 => exact fun σ H r => ⟨e2, z, r⟩
    | cont e2 => exact fun σ H r => ⟨e2, z, r⟩
    | brk e2 => exact q _ z
    | ret c hs => exact q _ z
    | exc C hs => exact q _ z
  | false => exact iteF (q _ hb _ _ R1)
/-- [.. for x in range(n)] where each entry is asked of objects that stay as they are -/
theorem EV.lcR1 {i : Nat} {n : Int} {f : Nat → PyData} (hl : DA K tr e [.dat (.int n)]) (b1 : 0 ≤ n) (b2 : n < 2 ^ 62) (hn : n.toNat ≤ sizeLine) (hi : e.1[i]? = some .un)
    (turn : ∀ j : Nat, j < n.toNat → EV K te (e.1.set i (.dat (.int j)), e.2) fun c h1 => c = .dat (f j) ∧ h1 = e.2) (k : R (.own ((List.range n.toNat).map f)) e.2) :
    EV K (tLc (iRng1 tr) (gName i) tYes te [i]) e R := fun H0 H σ τ m Q hl' M q => hl H0 H σ _ (M.left hl') fun vs H1 s r => by
  have hil : i < e.1.length := by
    rcases Nat.lt_or_ge i e.1.length with w | w
    · exact w
    · rw [List.getElem?_eq_none w] at hi
      cases hi
  match vs, r with
  | [v], ⟨r1, _⟩ =>
    cases int_of r1
    refine ⟨n, rfl, by omega, b2, fun D nD => ?_⟩
    have M1 : EnvM K H0 H1 (σ ++ τ) (e.1 ++ m, e.2) := M.up s
    have M2 := M1.push (v := .ref D) (c := .own []) (Same.new (o := .lst []) nD) rfl ⟨D, [], rfl, nD, upd_same, .nil⟩
    refine lc_range (fun j H2 => EnvM K H0 H2 (σ ++ (τ ++ [some (V.ref D)])) (e.1 ++ (m ++ [.own ((List.range j).map f)]), e.2)) ?_ (fun j H2 hj z => ?_) fun H2 z => ?_
    · rw [← List.append_assoc, ← List.append_assoc]
      exact M2
    · have z : EnvM K H0 H2 (σ ++ (τ ++ [some (V.ref D)])) (e.1 ++ (m ++ [.own ((List.range j).map f)]), e.2) := z
      have hs : i < σ.length := by rw [hl']; exact hil
      have z2 := z.put (i := i) (v := .int j) (c := .dat (.int j)) rfl (.int _)
      have e1 : (L2.wipe σ [i]).set i (some (V.int (0 + (j : Int)))) = σ.set i (some (.int j)) := by
        show ((σ.set i none).set i _) = _
        rw [List.set_set, Int.zero_add]
      have e2 : (σ ++ (τ ++ [some (V.ref D)])).set i (some (V.int j)) = σ.set i (some (.int j)) ++ (τ ++ [some (V.ref D)]) := List.set_append_left i _ hs
      have e3 : (e.1 ++ (m ++ [Cell.own ((List.range j).map f)])).set i (.dat (.int j)) = e.1.set i (.dat (.int j)) ++ (m ++ [.own ((List.range j).map f)]) := List.set_append_left i _ hil
      have z3 : EnvM K H0 H2 (σ.set i (some (.int j)) ++ (τ ++ [some (V.ref D)])) (e.1.set i (.dat (.int j)) ++ (m ++ [.own ((List.range j).map f)]), e.2) := by
        rw [← e2, ← e3]
        exact z2
      refine ⟨wipe1 σ i _, ?_⟩
      rw [e1]
      refine iteT (B := EnvM K H0 H2 (σ ++ (τ ++ [some (V.ref D)])) (e.1 ++ (m ++ [.own ((List.range (j + 1)).map f)]), e.2)) ?_
      refine turn j hj H0 H2 _ _ _ _ (by rw [List.length_set, List.length_set]; exact hl') z3 fun c h1 y H3 hc M3 => ?_
      obtain ⟨hc, hh⟩ := hc
      subst hc
      subst hh
      obtain ⟨_, ev, ty⟩ := M3.last
      cases ev
      have M4 : EnvM K H0 H3 (σ.set i (some (.int j)) ++ (τ ++ [some (V.ref D)])) (e.1.set i (.dat (.int j)) ++ (m ++ [.own ((List.range j).map f)]), e.2) := M3.left z3.len
      have hk : (e.1.set i (.dat (.int j)) ++ (m ++ [Cell.own ((List.range j).map f)]))[e.1.length + m.length]? = some (.own ((List.range j).map f)) := by
        rw [List.getElem?_append_right (by rw [List.length_set]; omega), List.length_set, Nat.add_sub_cancel_left, List.getElem?_append_right (Nat.le_refl _), Nat.sub_self]
        rfl
      have lm : τ.length = m.length := by
        have := M.len
        rw [List.length_append, List.length_append] at this
        omega
      have hk2 : (σ.set i (some (V.int j)) ++ (τ ++ [some (V.ref D)]))[e.1.length + m.length]? = some (some (.ref D)) := by
        rw [List.getElem?_append_right (by rw [List.length_set]; omega), List.length_set, hl', Nat.add_sub_cancel_left, List.getElem?_append_right (by omega), lm, Nat.sub_self]
        rfl
      obtain ⟨o, eo, a, xs, ev, na, ha, tx⟩ := M4.ev.sl.get hk
      subst ev
      rw [hk2] at eo
      cases eo
      have lx : xs.length = j := by rw [tx.len]; simp
      have hjn : j < n.toNat := hj
      refine ⟨xs, ha, by rw [lx]; exact Nat.lt_of_lt_of_le hjn hn, ?_⟩
      have M5 := M4.wrOwn (i := e.1.length + m.length) hk hk2 ha (tx.snoc ty)
      have M6 := M5.unset (k := i) (o := σ[i])
      have e5 : (σ.set i (some (V.int j)) ++ (τ ++ [some (V.ref D)])).set i σ[i] = σ ++ (τ ++ [some (V.ref D)]) := by
        rw [List.set_append_left i _ (by rw [List.length_set]; exact hs), List.set_set, set_same (List.getElem?_eq_getElem hs)]
      have e6 : (((e.1.set i (.dat (.int j)) ++ (m ++ [Cell.own ((List.range j).map f)])).set (e.1.length + m.length) (.own ((List.range j).map f ++ [f j]))).set i .un) = e.1 ++ (m ++ [.own ((List.range (j + 1)).map f)]) := by
        rw [List.set_append_right _ _ (by rw [List.length_set]; omega), List.length_set, Nat.add_sub_cancel_left, List.set_append_right _ _ (Nat.le_refl _), Nat.sub_self, List.set_append_left i _ (by rw [List.length_set]; exact hil), List.set_set, set_same hi, List.range_succ, List.map_append]
        rfl
      rw [e5] at M6
      have M7 : EnvM K H0 _ (σ ++ (τ ++ [some (V.ref D)])) ((((e.1.set i (.dat (.int j)) ++ (m ++ [Cell.own ((List.range j).map f)])).set (e.1.length + m.length) (.own ((List.range j).map f ++ [f j]))).set i .un), e.2) := M6
      rw [e6] at M7
      exact M7
    · have z : EnvM K H0 H2 (σ ++ (τ ++ [some (V.ref D)])) (e.1 ++ (m ++ [.own ((List.range n.toNat).map f)]), e.2) := z
      rw [← List.append_assoc, ← List.append_assoc] at z
      exact q _ _ _ _ k z
  | [], r => exact r.elim
  | _ :: _ :: _, ⟨_, r⟩ => exact r.elim
/-- what does not touch the objects, by what one knows behind it -/
theorem DM.ofW {P1 : Out → Prop} (h : DW K E t e.1 P1) (pp : ∀ o, P1 o → noRdO o = true ∧ P (outM e.2 o)) : DM K E t e P := fun H0 H σ D R q => h (fzM H0 H e.2) H σ D (fzM_env R) fun o hP => (by
  have hr := (pp o hP).1
  have p := (pp o hP).2
  have R : EnvM K H0 H σ e := R
  have back : ∀ (l : List Cell) (σ' : L2.St) (H' : Hp), (l.all fun c => !isRd c) = true → EnvR K (fzM H0 H e.2) H' σ' l → EnvM K H0 H' σ' (l, e.2) := fun l σ' H' hl R' => by
    have hh : HsR K H0 H' e.2 := fzM_hs R R'.sm
    refine ⟨EnvR.ofBase (G := fzM H0 H e.2) rfl R.ev.bs (fzM_base R) R', hh, fun i c a h1 h2 h3 hd => ?_⟩
    have hc := List.all_eq_true.mp hl c (List.mem_of_getElem? h1)
    have ho : isOwn c = true := by
      cases c <;> first | rfl | (cases h2; done) | (cases hc; done)
    obtain ⟨n, xs, hx⟩ := own_new R' h1 ho h3
    obtain ⟨ch, hm, hfx⟩ := dom_mem hd
    obtain ⟨_, r⟩ := R.hp.at_ _ hm
    obtain ⟨o, ho, _⟩ := r.some
    have n : (if a ∈ dom e.2 then H a else fz0 H0.h H a) = none := n
    rw [if_pos hd, ho] at n
    cases n
  have p := q _ p
  cases o with
  | ret c => exact fun v H' s r => p v H' ((fzM_base R).trans s) (fzM_hs R s) (r.low (fzM_base R))
  | next l => exact fun σ' H' R' => p σ' H' (back l σ' H' hr R')
  | brk l => exact fun σ' H' R' => p σ' H' (back l σ' H' hr R')
  | cont l => exact fun σ' H' R' => p σ' H' (back l σ' H' hr R')
  | exc C => exact fun H' s => p H' ((fzM_base R).trans s) (fzM_hs R s))
end
end Esp
set_option autoImplicit false
set_option maxRecDepth 100000
set_option maxHeartbeats 4000000
namespace Esp
open PySem PySem.Spec PyProof.Rows L2
def doneD : PyData → Bool
  | .tuple (.str s :: _) => decide (s = "done")
  | _ => false
/-- what a word with this status shows, and since when -/
def shD (v st : PyData) : PyData := match v with
  | .tuple [_, _, o, n] => if doneD st then n else o
  | d => d
def accD (v st : PyData) (first : Int) : Int := match v with
  | .tuple _ => match st with
    | .tuple [.str s, .int t] => if s = "done" then (if t > first then t else first) else first
    | _ => first
  | _ => first
def stOf (ds : List PyData) (v : PyData) : PyData := match v with
  | .tuple (_ :: .int c :: _) => dAt ds c
  | _ => .int 0
abbrev markD (a st o n : Int) : PyData := .tuple [.int a, .int st, .int o, .int n]
/-- a word whose mark's status stands at the cell c -/
def WrdD (c : Int) (v : PyData) : Prop := (∃ a : Int, v = .int a) ∨ ∃ a o n : Int, v = markD a c o n
def StaD (s : PyData) : Prop := s = .int 0 ∨ ∃ (z : Str) (t : Int), s = .tuple [.str z, .int t] ∧ (PyData.str z).canLay0 = true
theorem WrdD.dk {c : Int} {v : PyData} : WrdD c v → Dk 3 v
  | .inl ⟨a, h⟩ => h ▸ Dk.int a
  | .inr ⟨a, o, n, h⟩ => h ▸ Dk.tup (.cons (Dk.int _) (.cons (Dk.int _) (.cons (Dk.int _) (.cons (Dk.int _) .nil))))
theorem StaD.dk {v : PyData} : StaD v → Dk 3 v
  | .inl h => h ▸ Dk.int 0
  | .inr ⟨z, t, h, k⟩ => h ▸ Dk.tup (.cons (Dk.str k) (.cons (Dk.int _) .nil))
abbrev fIsDone : PD := fun cs c => ∃ s : PyData, cs = [.dat s] ∧ StaD s ∧ c = .dat (.bool (doneD s))
abbrev fShownBy : PD := fun cs c => ∃ (a st o n : Int) (s : PyData), cs = [.dat (markD a st o n), .dat s] ∧ StaD s ∧ c = .dat (shD (markD a st o n) s)
abbrev fLawShown : PD := fun cs c => ∃ (k : Int) (v s : PyData) (first : Int), cs = [.dat v, .dat s, .dat (.int first)] ∧ (WrdD k v ∧ StaD s) ∧ c = .dat (.tuple [shD v s, .int (accD v s first)])
/-- what stands in the memory of the law -/
structure Good (ds : List PyData) : Prop where
  len : ds.length = 39
  wrd : ∀ k : Nat, k < 4 → WrdD (20 + k) (dAt ds (5 + k))
  sta : ∀ k : Nat, k < 4 → StaD (dAt ds (20 + k))
  dk : DkAll 3 ds
theorem DkAll.of_mem {k : Nat} : ∀ {ds : List PyData}, DkAll k ds → ∀ d ∈ ds, Dk k d
  | e :: ds, h, d, hd => by
    have h1 := h.1
    have h2 := h.2
    unfold PyData.canLayAll0 at h1
    unfold PyData.depthAll at h2
    rw [Bool.and_eq_true] at h1
    rcases List.mem_cons.mp hd with rfl | w
    · exact ⟨h1.1, Nat.le_trans (Nat.le_max_left _ _) h2⟩
    · exact DkAll.of_mem ⟨h1.2, Nat.le_trans (Nat.le_max_right _ _) h2⟩ d w
theorem DkAll.set {k : Nat} {ds : List PyData} {d : PyData} {i : Nat} (h : DkAll k ds) (hd : Dk k d) : DkAll k (ds.set i d) := DkAll.mem fun x hx => by
  rcases List.mem_or_eq_of_mem_set hx with w | w
  · exact h.of_mem x w
  · exact w ▸ hd
theorem dAt_set_ne {ds : List PyData} {i : Nat} {k : Int} {d : PyData} (h : k.toNat ≠ i) : dAt (ds.set i d) k = dAt ds k := by
  unfold dAt
  rw [List.getD_eq_getElem?_getD, List.getD_eq_getElem?_getD, List.getElem?_set_ne (fun z => h z.symm)]
theorem dAt_set_eq {ds : List PyData} {i : Nat} {k : Int} {d : PyData} (h : k.toNat = i) (hl : i < ds.length) : dAt (ds.set i d) k = d := by
  unfold dAt
  rw [List.getD_eq_getElem?_getD, h, List.getElem?_set_self hl]
  rfl
theorem Good.word {ds : List PyData} {v : PyData} {k : Nat} (h : Good ds) (hk : k < 4) (hv : WrdD (20 + k) v) : Good (ds.set (5 + k) v) := by
  refine ⟨by rw [List.length_set]; exact h.len, fun j hj => ?_, fun j hj => ?_, h.dk.set hv.dk⟩
  · by_cases z : j = k
    · subst z
      rw [dAt_set_eq (by omega) (by rw [h.len]; omega)]
      exact hv
    · rw [dAt_set_ne (by omega)]
      exact h.wrd j hj
  · rw [dAt_set_ne (by omega)]
    exact h.sta j hj
theorem Good.stat {ds : List PyData} {v : PyData} {k : Nat} (h : Good ds) (hk : k < 4) (hv : StaD v) : Good (ds.set (20 + k) v) := by
  refine ⟨by rw [List.length_set]; exact h.len, fun j hj => ?_, fun j hj => ?_, h.dk.set hv.dk⟩
  · rw [dAt_set_ne (by omega)]
    exact h.wrd j hj
  · by_cases z : j = k
    · subst z
      rw [dAt_set_eq (by omega) (by rw [h.len]; omega)]
      exact hv
    · rw [dAt_set_ne (by omega)]
      exact h.sta j hj
theorem Good.shp {ds : List PyData} (h : Good ds) {c : Int} (h0 : 0 ≤ c) (h1 : c < 39) : Shp (dAt ds c) := by
  have hl := h.len
  have : c.toNat < ds.length := by omega
  have e : dAt ds c = ds[c.toNat] := by
    unfold dAt
    rw [List.getD_eq_getElem?_getD, List.getElem?_eq_getElem this]
    rfl
  rw [e]
  exact (h.dk.of_mem _ (List.getElem_mem this)).shp (by decide)
theorem Good.shpL {ds : List PyData} (h : Good ds) : Shp (.list ds) := (Dk.lst h.dk).shp (by decide)
def iOf : PyData → Int
  | .int i => i
  | _ => 0
structure Tr where
  (W M F : PyData)
abbrev shF (t : Tr) : List (Str × Cell) := [("_wanted", .dat t.W), ("_mark", .dat t.M), ("_first", .dat t.F)]
def readT (c : Int) : PyData := .tuple [.str "read", .int c]
def endT (d : PyData) : PyData := .tuple [.str "end", d]
def accT (t : Tr) (v : PyData) (n : Int) : Tr := match t.M with
  | .none => match v with
    | .tuple (_ :: st :: _) => ⟨.tuple [.str "read", st], v, .int n⟩
    | _ => ⟨endT (.tuple [v, .int n]), .none, t.F⟩
  | _ => ⟨endT (.tuple [shD t.M v, .int (accD t.M v (iOf t.F))]), t.M, t.F⟩
def AccOk (t : Tr) (v : PyData) : Prop := (t.M = .none ∧ ∃ k, WrdD k v) ∨ ((∃ a c o n first : Int, t.M = markD a c o n ∧ t.F = .int first) ∧ StaD v)
structure AG where
  (hs : Hs) (j : Nat) (x : Addr) (t : Tr) (v : PyData) (n : Int) (l : Nat) (lay : Addr) (a b c k : Int) (rest : Hs)
def pAcc (C : Addr) : Pro AG := { ok := fun g => g.hs[g.j]? = some (g.x, .ins C (shF g.t)) ∧ AccOk g.t g.v, cs := fun g => [.raw (.ref g.x), .dat (.tuple [g.v, .int g.n])], hs := fun g => g.hs, post := fun g c h => c = .dat .none ∧ h = g.hs.set g.j (g.x, .ins C (shF (accT g.t g.v g.n))) }
def pTake (C : Addr) : Pro AG := { ok := fun g => g.hs[g.j]? = some (g.x, .ins C (shF g.t)) ∧ (∃ a c o n first : Int, g.t.M = markD a c o n ∧ g.t.F = .int first) ∧ StaD g.v, cs := fun g => [.raw (.ref g.x), .dat g.v], hs := fun g => g.hs, post := fun g c h => c = .dat .none ∧ h = g.hs.set g.j (g.x, .ins C (shF (accT g.t g.v g.n))) }
def pReq (C : Addr) : Pro AG := { ok := fun g => g.hs[g.j]? = some (g.x, .ins C (shF g.t)), cs := fun g => [.raw (.ref g.x)], hs := fun g => g.hs, post := fun g c h => c = .dat g.t.W ∧ h = g.hs }
def pShInit (C CL : Addr) : Pro AG := { ok := fun g => (g.rest[g.l]? : Option (Addr × Chunk)) = some (g.lay, .ins CL (layF g.a g.b g.c)), cs := fun g => [.raw (.ref g.x), .raw (.ref g.lay), .dat (.int g.k)], hs := fun g => (g.x, .ins C []) :: g.rest, post := fun g c h => c = .dat .none ∧ h = (g.x, .ins C (shF ⟨readT (5 + g.k), .none, .none⟩)) :: g.rest }
abbrev stF (ml : Addr) (v : PyData) : List (Str × Cell) := [("_machines", .raw (.ref ml)), ("_value", .dat v)]
structure SP where
  (j jm js : Nat) (x ml sh : Addr)
structure StkAt (CS CH : Addr) (hs : Hs) (s : SP) (full : Bool) (v : PyData) (t : Tr) : Prop where
  st : hs[s.j]? = some (s.x, .ins CS (stF s.ml v))
  ml : hs[s.jm]? = some (s.ml, .lst (if full then [.raw (.ref s.sh)] else []))
  sh : hs[s.js]? = some (s.sh, .ins CH (shF t))
  d1 : s.j ≠ s.js
structure SG where
  (hs : Hs) (s : SP) (full : Bool) (v : PyData) (t : Tr) (d : PyData) (g : MM) (i : MI) (th : Int) (rest : Hs)
def isEnd : PyData → Bool
  | .tuple (.str s :: _) => decide (s = "end")
  | _ => false
def endV : PyData → PyData
  | .tuple [_, d] => d
  | _ => .none
def pStInit (C : Addr) : Pro SG := { ok := fun _ => True, cs := fun g => [.raw (.ref g.s.x), .raw (.ref g.s.sh)], hs := fun g => (g.s.x, .ins C []) :: g.rest, post := fun g c h => c = .dat .none ∧ ∃ l, h = (l, .lst [.raw (.ref g.s.sh)]) :: (g.s.x, .ins C (stF l .none)) :: g.rest }
def pEnded (CS CH : Addr) : Pro SG := { ok := fun g => StkAt CS CH g.hs g.s g.full g.v g.t, cs := fun g => [.raw (.ref g.s.x)], hs := fun g => g.hs, post := fun g c h => c = .dat (.bool !g.full) ∧ h = g.hs }
def pValue (CS CH : Addr) : Pro SG := { ok := fun g => StkAt CS CH g.hs g.s g.full g.v g.t, cs := fun g => [.raw (.ref g.s.x)], hs := fun g => g.hs, post := fun g c h => c = .dat g.v ∧ h = g.hs }
def settleH (CS : Addr) (hs : Hs) (s : SP) (d : PyData) : Hs := (hs.set s.jm (s.ml, .lst [])).set s.j (s.x, .ins CS (stF s.ml d))
def pEndTop (CS CH : Addr) : Pro SG := { ok := fun g => StkAt CS CH g.hs g.s g.full g.v g.t ∧ g.full = true, cs := fun g => [.raw (.ref g.s.x), .dat g.d], hs := fun g => g.hs, post := fun g c h => c = .dat .none ∧ h = settleH CS g.hs g.s g.d }
def pSettle (CS CH : Addr) : Pro SG := { ok := fun g => StkAt CS CH g.hs g.s g.full g.v g.t ∧ (g.full = true → (∃ c, g.t.W = readT c) ∨ ∃ d, g.t.W = endT d), cs := fun g => [.raw (.ref g.s.x)], hs := fun g => g.hs, post := fun g c h => c = .dat .none ∧ h = if g.full && isEnd g.t.W then settleH CS g.hs g.s (endV g.t.W) else g.hs }
structure Dj (s : SP) (i : MI) : Prop where
  (a1 : s.j ≠ i.m) (a2 : s.j ≠ i.c) (a3 : s.j ≠ i.a) (a4 : s.j ≠ i.l) (b1 : s.jm ≠ i.m) (b2 : s.jm ≠ i.c) (b3 : s.jm ≠ i.a) (b4 : s.jm ≠ i.l) (c1 : s.js ≠ i.m) (c2 : s.js ≠ i.c) (c3 : s.js ≠ i.a) (c4 : s.js ≠ i.l) (m : i.m ≠ i.l)
def pStep (CS CH CM CL : Addr) : Pro SG := { ok := fun g => MemAt CM CL g.hs g.g g.i ∧ StkAt CS CH g.hs g.s g.full g.v g.t ∧ Dj g.s g.i ∧ g.g.as.length < 1000000 ∧ (g.full = true → ∃ c : Int, g.t.W = readT c ∧ 0 ≤ c ∧ c < g.g.ds.length ∧ c < 5 + g.g.p + g.g.r ∧ Shp (dAt g.g.ds c) ∧ AccOk g.t (dAt g.g.ds c)), cs := fun g => [.raw (.ref g.s.x), .raw (.ref g.g.m), .dat (.int g.th)], hs := fun g => g.hs, post := fun g c h => c = .dat (.bool g.full) ∧ (∀ k, k ≠ g.s.j → k ≠ g.s.jm → k ≠ g.s.js → k ≠ g.i.m → k ≠ g.i.c → k ≠ g.i.a → h[k]? = g.hs[k]?) ∧ (g.full = false → h = g.hs) ∧ (g.full = true → ∀ k, g.t.W = readT k → MemAt CM CL h (g.g.after (.int g.th) (.read k)) g.i ∧ StkAt CS CH h g.s (!isEnd (accT g.t (dAt g.g.ds k) (g.g.n + 1)).W) (if isEnd (accT g.t (dAt g.g.ds k) (g.g.n + 1)).W then endV (accT g.t (dAt g.g.ds k) (g.g.n + 1)).W else g.v) (accT g.t (dAt g.g.ds k) (g.g.n + 1))) }
end Esp
namespace Esp
open PySem PySem.Spec PyProof.Rows L2
theorem StkAt.jm {CS CH : Addr} {hs : Hs} {s : SP} {full : Bool} {v : PyData} {t : Tr} (h : StkAt CS CH hs s full v t) : s.j ≠ s.jm := fun z => by
  have a := h.st
  rw [z, h.ml] at a
  exact Chunk.noConfusion (congrArg Prod.snd (Option.some.inj a))
theorem StkAt.sm {CS CH : Addr} {hs : Hs} {s : SP} {full : Bool} {v : PyData} {t : Tr} (h : StkAt CS CH hs s full v t) : s.js ≠ s.jm := fun z => by
  have a := h.sh
  rw [z, h.ml] at a
  exact Chunk.noConfusion (congrArg Prod.snd (Option.some.inj a))
theorem StkAt.popped {CS CH : Addr} {hs : Hs} {s : SP} {full : Bool} {v : PyData} {t : Tr} (h : StkAt CS CH hs s full v t) : StkAt CS CH (hs.set s.jm (s.ml, .lst [])) s false v t :=
  ⟨get_put h.st h.jm.symm, get_put_self h.ml, get_put h.sh h.sm.symm, h.d1⟩
theorem StkAt.valued {CS CH : Addr} {hs : Hs} {s : SP} {full : Bool} {v d : PyData} {t : Tr} (h : StkAt CS CH hs s full v t) : StkAt CS CH (hs.set s.j (s.x, .ins CS (stF s.ml d))) s full d t :=
  ⟨get_put_self h.st, get_put h.ml h.jm, get_put h.sh h.d1, h.d1⟩
theorem StkAt.told {CS CH : Addr} {hs : Hs} {s : SP} {full : Bool} {v : PyData} {t u : Tr} (h : StkAt CS CH hs s full v t) : StkAt CS CH (hs.set s.js (s.sh, .ins CH (shF u))) s full v u :=
  ⟨get_put h.st h.d1.symm, get_put h.ml h.sm, get_put_self h.sh, h.d1⟩
theorem StkAt.settled {CS CH : Addr} {hs : Hs} {s : SP} {full : Bool} {v d : PyData} {t : Tr} (h : StkAt CS CH hs s full v t) : StkAt CS CH (settleH CS hs s d) s false d t := h.popped.valued
theorem StkAt.keep {CS CH : Addr} {hs : Hs} {s : SP} {full : Bool} {v : PyData} {t : Tr} {k : Nat} {x : Addr × Chunk} (h : StkAt CS CH hs s full v t) (a : k ≠ s.j) (b : k ≠ s.jm) (c : k ≠ s.js) : StkAt CS CH (hs.set k x) s full v t :=
  ⟨get_put h.st a, get_put h.ml b, get_put h.sh c, h.d1⟩
theorem MemAt.keep {CM CL : Addr} {hs : Hs} {g : MM} {i : MI} {k : Nat} {x : Addr × Chunk} (h : MemAt CM CL hs g i) (a : k ≠ i.m) (b : k ≠ i.c) (c : k ≠ i.a) (d : k ≠ i.l) : MemAt CM CL (hs.set k x) g i :=
  ⟨get_put h.m a, get_put h.c b, get_put h.a c, get_put h.l d, h.ca⟩
theorem MemAt.ml {CM CL : Addr} {hs : Hs} {g : MM} {i : MI} (h : MemAt CM CL hs g i) (hc : CM ≠ CL) : i.m ≠ i.l := fun z => by
  have a := h.m
  rw [z, h.l] at a
  have e := congrArg Prod.snd (Option.some.inj a)
  exact hc (Chunk.ins.inj e).1.symm
theorem MemAt.after {CM CL : Addr} {hs : Hs} {g : MM} {i : MI} (h : MemAt CM CL hs g i) (hl : i.m ≠ i.l) (th : PyData) (q : Req) : MemAt CM CL (setMem CM hs (g.after th q) i) (g.after th q) i := by
  have c1 : (hs.set i.c (g.cs, .lst ((g.after th q).ds.map .dat)))[i.c]? = some (g.cs, .lst ((g.after th q).ds.map .dat)) := get_put_self h.c
  have m1 : (hs.set i.c (g.cs, .lst ((g.after th q).ds.map .dat)))[i.m]? = some (g.m, .ins CM g.fs) := get_put h.m h.mc.symm
  have a1 : (hs.set i.c (g.cs, .lst ((g.after th q).ds.map .dat)))[i.a]? = some (g.ac, .lst (g.as.map .dat)) := get_put h.a h.ca
  have l1 : (hs.set i.c (g.cs, .lst ((g.after th q).ds.map .dat)))[i.l]? = some (g.lay, .ins CL (layF g.t g.p g.r)) := get_put h.l h.lc
  exact ⟨get_put (get_put_self m1) h.ma.symm, get_put (get_put c1 h.mc) h.ca.symm, get_put_self (get_put a1 h.ma), get_put (get_put l1 hl) h.la, h.ca⟩
theorem StkAt.mem {CS CH CM : Addr} {hs : Hs} {s : SP} {full : Bool} {v : PyData} {t : Tr} {g : MM} {i : MI} (h : StkAt CS CH hs s full v t) (d : Dj s i) : StkAt CS CH (setMem CM hs g i) s full v t :=
  ((h.keep d.a2.symm d.b2.symm d.c2.symm).keep d.a1.symm d.b1.symm d.c1.symm).keep d.a3.symm d.b3.symm d.c3.symm
theorem accT_form {t : Tr} {v : PyData} (n : Int) (h : AccOk t v) : (∃ c, (accT t v n).W = readT c) ∨ ∃ d, (accT t v n).W = endT d := by
  obtain ⟨W, M, F⟩ := t
  rcases h with ⟨hM, k, hv⟩ | ⟨⟨a, c, o, n1, first, hM, hF⟩, hv⟩
  · have hM : M = .none := hM
    subst hM
    rcases hv with ⟨a, rfl⟩ | ⟨a, o, n1, rfl⟩
    · exact .inr ⟨_, rfl⟩
    · exact .inl ⟨_, rfl⟩
  · have hM : M = markD a c o n1 := hM
    subst hM
    exact .inr ⟨_, rfl⟩
structure CG where
  (hs : Hs) (g : MM) (i : MI) (num pick : Int) (pg : Nat)
def pShown (CM CL : Addr) : Pro CG := { ok := fun x => MemAt CM CL x.hs x.g x.i ∧ Good x.g.ds ∧ x.g.p = 4 ∧ x.g.r = 30 ∧ x.pg < 4, cs := fun x => [.raw (.ref x.g.m), .dat (.int x.pg)], hs := fun x => x.hs, post := fun x c h => c = .dat (shD (dAt x.g.ds (5 + x.pg)) (stOf x.g.ds (dAt x.g.ds (5 + x.pg)))) ∧ h = x.hs }
def pNow (CM CL : Addr) : Pro CG := { ok := fun x => MemAt CM CL x.hs x.g x.i ∧ Good x.g.ds ∧ x.g.p = 4 ∧ x.g.r = 30 ∧ x.pg < 4, cs := fun x => [.raw (.ref x.g.m), .dat (.int x.pg)], hs := fun x => x.hs, post := fun x c h => c = .dat (.bool true) ∧ h = x.hs }
def pChange (CM CL : Addr) : Pro CG := { ok := fun x => MemAt CM CL x.hs x.g x.i ∧ x.i.m ≠ x.i.l ∧ Good x.g.ds ∧ x.g.p = 4 ∧ x.g.r = 30 ∧ x.g.as.length < 1000000 ∧ 0 ≤ x.pick, cs := fun x => [.raw (.ref x.g.m), .dat (.int x.num), .dat (.int x.pick)], hs := fun x => x.hs, post := fun x c h => c = .dat .none ∧ ∃ q : Req, h = setMem CM x.hs (x.g.after (.int 1) q) x.i ∧ Good (x.g.after (.int 1) q).ds }
structure TG where
  (ns : List Int) (l : Addr) (zs : List Int) (hs : Hs) (j : Nat) (k : Int)
def pTape : Pro TG := { ok := fun g => g.ns.length ≤ 63, cs := fun g => [.scr g.ns], hs := fun g => g.hs, post := fun g c h => ∃ (l : Addr) (zs : List Int), c = .raw (.ref l) ∧ h = (l, .lst ((zs.map PyData.int).map .dat)) :: g.hs ∧ TapeOk zs }
def pAt : Pro TG := { ok := fun g => g.hs[g.j]? = some (g.l, .lst ((g.zs.map PyData.int).map .dat)) ∧ 0 ≤ g.k ∧ TapeOk g.zs, cs := fun g => [.raw (.ref g.l), .dat (.int g.k)], hs := fun g => g.hs, post := fun g c h => ∃ z : Int, c = .dat (.int z) ∧ (0 ≤ z ∧ z < 1000) ∧ h = g.hs }
theorem setMem_ne {CM : Addr} {hs : Hs} {g : MM} {i : MI} {k : Nat} (a : k ≠ i.m) (b : k ≠ i.c) (c : k ≠ i.a) : (setMem CM hs g i)[k]? = hs[k]? := by
  unfold setMem
  rw [List.getElem?_set_ne (Ne.symm c), List.getElem?_set_ne (Ne.symm a), List.getElem?_set_ne (Ne.symm b)]
theorem settleH_ne {CS : Addr} {hs : Hs} {s : SP} {d : PyData} {k : Nat} (a : k ≠ s.j) (b : k ≠ s.jm) : (settleH CS hs s d)[k]? = hs[k]? := by
  unfold settleH
  rw [List.getElem?_set_ne (Ne.symm a), List.getElem?_set_ne (Ne.symm b)]
structure GoodJ (ds : List PyData) (j : Nat) : Prop where
  len : ds.length = 39
  wrd : ∀ k : Nat, k < 4 → WrdD (20 + k) (dAt ds (5 + k))
  sta : ∀ k : Nat, k < j → StaD (dAt ds (20 + k))
  dk : DkAll 3 ds
theorem GoodJ.good {ds : List PyData} (h : GoodJ ds 4) : Good ds := ⟨h.len, h.wrd, h.sta, h.dk⟩
theorem GoodJ.zero : GoodJ (initD 4 30) 0 := by
  refine ⟨by decide +kernel, fun k hk => ?_, fun k hk => absurd hk (Nat.not_lt_zero _), ⟨by decide +kernel, by decide +kernel⟩⟩
  have : k = 0 ∨ k = 1 ∨ k = 2 ∨ k = 3 := by omega
  rcases this with rfl | rfl | rfl | rfl
  · exact .inl ⟨9, by rfl⟩
  · exact .inl ⟨10, by rfl⟩
  · exact .inl ⟨11, by rfl⟩
  · exact .inl ⟨12, by rfl⟩
theorem GoodJ.next {ds : List PyData} {j : Nat} (h : GoodJ ds j) (hj : j < 4) : GoodJ (ds.set (20 + j) (.int 0)) (j + 1) := by
  refine ⟨by rw [List.length_set]; exact h.len, fun k hk => ?_, fun k hk => ?_, h.dk.set (Dk.int 0)⟩
  · rw [dAt_set_ne (by omega)]
    exact h.wrd k hk
  · by_cases z : k = j
    · subst z
      rw [dAt_set_eq (by omega) (by rw [h.len]; omega)]
      exact .inl rfl
    · rw [dAt_set_ne (by omega)]
      exact h.sta k (by omega)
/-- the law's memory, and its tape -/
structure LawAt (CM CL : Addr) (hs : Hs) (g : MM) (i : MI) (kt : Nat) (l : Addr) (zs : List Int) : Prop where
  mem : MemAt CM CL hs g i
  tape : hs[kt]? = some (l, .lst ((zs.map PyData.int).map .dat))
  (k1 : kt ≠ i.m) (k2 : kt ≠ i.c) (k3 : kt ≠ i.a) (k4 : i.m ≠ i.l)
  (p : g.p = 4) (r : g.r = 30)
theorem LawAt.after {CM CL : Addr} {hs : Hs} {g : MM} {i : MI} {kt : Nat} {l : Addr} {zs : List Int} (h : LawAt CM CL hs g i kt l zs) (th : PyData) (q : Req) : LawAt CM CL (setMem CM hs (g.after th q) i) (g.after th q) i kt l zs :=
  ⟨h.mem.after h.k4 th q, get_put (get_put (get_put h.tape h.k2.symm) h.k1.symm) h.k3.symm, h.k1, h.k2, h.k3, h.k4, h.p, h.r⟩
theorem LawAt.push {CM CL : Addr} {hs : Hs} {g : MM} {i : MI} {kt : Nat} {l : Addr} {zs : List Int} (x y z : Addr × Chunk) (h : LawAt CM CL hs g i kt l zs) : LawAt CM CL (x :: y :: z :: hs) g ⟨i.m + 3, i.c + 3, i.a + 3, i.l + 3⟩ (kt + 3) l zs :=
  ⟨⟨h.mem.m, h.mem.c, h.mem.a, h.mem.l, by have := h.mem.ca; simp; omega⟩, h.tape, by have := h.k1; simp; omega, by have := h.k2; simp; omega, by have := h.k3; simp; omega, by have := h.k4; simp; omega, h.p, h.r⟩
theorem atI_str2 {a b : Str} {i : Int} (h0 : 0 ≤ i) (h1 : i < 2) : L2.atI [PyData.str a, .str b] i = some (.str (if i = 0 then a else b)) := by
  have : i = 0 ∨ i = 1 := by omega
  rcases this with rfl | rfl
  · rfl
  · rfl
section
variable {K : PySem.W.Frag} {E : XK} {e : List Cell × Hs} {R : Cell → Hs → Prop} {ta tb : TE} {tr : TA}
theorem DB.tru {ε : Type} [Ctx ε] {e : ε} {b : Bool} (h : DE K ta e (.dat (.bool b))) : DB K (fun σ H Q => ta σ H fun x H' => ∃ k, TruV K x H' k ∧ Q k H') e b := fun H0 H σ Q E q => h H0 H σ _ E fun x H1 s r => by
  cases bl_of r
  exact ⟨b, rfl, q H1 s⟩
theorem DE.intB {ε : Type} [Ctx ε] {e : ε} {b : Bool} (ha : DE K ta e (.dat (.bool b))) : DE K (tCB (fun xs H Q => (∃ i, xs = [V.int i] ∧ Q (.int i) H) ∨ ∃ k, xs = [V.bl k] ∧ Q (.int (if k then 1 else 0)) H) (tCons ta tNil)) e (.dat (.int (if b then 1 else 0))) := fun H0 H σ Q R q => ha H0 H σ _ R fun x H1 s1 r => by
  cases bl_of r
  exact .inr ⟨b, rfl, q _ _ s1 (.int _)⟩
/-- a list that a name has, and what is asked of objects -/
theorem EV.opV {r : R2} {i : Nat} {ds : List PyData} (hi : e.1[i]? = some (.own ds)) (h : EV K tb e fun cb h2 => ∃ c, DE K (tOp r (tVar i) (tVar e.1.length)) (e.1 ++ [cb], h2) c ∧ store c = true ∧ R c h2) : EV K (tOp r (tVar i) tb) e R := fun H0 H σ τ m Q hl M q => by
  obtain ⟨o, eo, a, xs, ev, na, ha, tx⟩ := (M.left hl).ev.sl.get hi
  subst ev
  refine ⟨_, eo, h H0 H σ τ m _ hl M fun cb h2 y H2 hc M2 => ?_⟩
  obtain ⟨c, hd, hs, k⟩ := hc
  have lm : (σ ++ τ).length = (e.1 ++ m).length := M.len
  have lt : τ.length = m.length := by
    rw [List.length_append, List.length_append] at lm
    omega
  have := hd H0 H2 (σ ++ [some y]) Q (M2.ends hl lt) fun v H3 s rv => q c h2 v H3 k ((M2.left lm).push s hs rv)
  obtain ⟨x', hx, y', hy, hr⟩ := this
  have lil : i < σ.length := by
    rcases Nat.lt_or_ge i σ.length with w | w
    · exact w
    · rw [List.getElem?_eq_none w] at eo
      cases eo
  rw [List.getElem?_append_left lil, eo] at hx
  cases hx
  rw [List.getElem?_append_right (by omega), ← hl, Nat.sub_self] at hy
  cases hy
  exact hr
/-- a def whose arguments work -/
theorem EV.callE {γ : Type} {p : Pro γ} (h : EAs K tr e fun cs h1 => cs.all okC = true ∧ ∃ g : γ, cs = p.cs g ∧ h1 = p.hs g ∧ p.ok g ∧ (∀ C hs, ¬ p.exc g C hs) ∧ ∀ c hs', p.post g c hs' → okV c = true → R c hs') :
    EV K (tCall (spG K p) [] E tr) e R := fun H0 H σ τ mm Q hl M q => by
  refine h H0 H σ τ mm _ hl M fun cs h1 ws H2 hk hn M2 => ?_
  obtain ⟨ok, g, hc, hh, okg, nx, k⟩ := hk
  rw [List.append_nil]
  have lm : (σ ++ τ).length = (e.1 ++ mm).length := M.len
  have rr := (M2.right lm).ev.sl
  refine ⟨g, okg, sp_call (e := (e.1 ++ mm, h1)) (M2.left lm) ok rr ⟨hc, hh⟩ (fun c hs' v H' hc' okc R2 rv => ?_) fun C hs' H' z => absurd z (nx C hs')⟩
  exact q c hs' v H' (k c hs' hc' okc) (R2.push (Same.refl H') (by cases c <;> first | rfl | (cases okc; done)) rv)
end
end Esp
set_option autoImplicit false
set_option maxRecDepth 100000
set_option maxHeartbeats 4000000
namespace Esp
open PySem PySem.Spec PyProof.Rows L2
mutual
/-- what stands there, in depth -/
inductive Deep (hs : Hs) : Cell → PyData → Prop
  | dat (d : PyData) : Deep hs (.dat d) d
  | lst {a : Addr} {cs : List Cell} {ds : List PyData} : (a, Chunk.lst cs) ∈ hs → DeepAll hs cs ds → Deep hs (.raw (.ref a)) (.list ds)
  | tup {a : Addr} {cs : List Cell} {ds : List PyData} : (a, Chunk.tup cs) ∈ hs → DeepAll hs cs ds → Deep hs (.raw (.ref a)) (.tuple ds)
inductive DeepAll (hs : Hs) : List Cell → List PyData → Prop
  | nil : DeepAll hs [] []
  | cons {c : Cell} {cs : List Cell} {d : PyData} {ds : List PyData} : Deep hs c d → DeepAll hs cs ds → DeepAll hs (c :: cs) (d :: ds)
end
theorem DeepAll.dats {hs : Hs} : ∀ ds : List PyData, DeepAll hs (ds.map .dat) ds
  | [] => .nil
  | d :: ds => .cons (.dat d) (DeepAll.dats ds)
theorem Deep.ok {hs : Hs} {c : Cell} {d : PyData} (h : Deep hs c d) : okV c = true := by
  cases h <;> rfl
section
variable {K : PySem.W.Frag} {E : XK} {e : List Cell × Hs} {R : Cell → Hs → Prop} {P : OutM → Prop} {t u tb' : TS} {ta tb te tl : TE} {tr : TA} {H0 : Bs} {H H' : Hp} {σ : L2.St}
mutual
theorem Deep.dp {hs : Hs} (M : HsR K H0 H hs) : ∀ {c : Cell} {d : PyData} {v : V}, Deep hs c d → SlotR K H0 H (some v) c → Dp K H v d
  | _, _, v, .dat d, ⟨w, ew, td⟩ => by
    cases ew
    exact Td.dp _ _ td
  | _, _, v, .lst hm hd, r => by
    cases Option.some.inj r
    obtain ⟨n, xs, ea, hS, ok⟩ := M.at_ _ hm
    exact .lst (SqL.of ea) (DeepAll.dp M hd hS)
  | _, _, v, .tup hm hd, r => by
    cases Option.some.inj r
    obtain ⟨n, xs, ht, hS, ok⟩ := M.at_ _ hm
    exact .tup ht.sq (DeepAll.dp M hd hS)
theorem DeepAll.dp {hs : Hs} (M : HsR K H0 H hs) : ∀ {cs : List Cell} {ds : List PyData} {vs : List V}, DeepAll hs cs ds → Slots K H0 H (vs.map some) cs → DpAll K H vs ds
  | _, _, [], .nil, _ => .nil
  | _, _, _ :: _, .nil, r => by cases r
  | _, _, [], .cons _ _, r => by cases r
  | _, _, v :: vs, .cons h t, ⟨r, rr⟩ => .cons (Deep.dp M h r) (DeepAll.dp M t rr)
end
theorem DE.eqDeep {ca cb : Cell} {a b : PyData} (ha : DE K ta e ca) (hb : DE K tb e cb) (da : Deep e.2 ca a) (db : Deep e.2 cb b) (sa : Shp a) (sb : Shp b) : DE K (tOp (rEqD K) ta tb) e (.dat (.bool (PyData.eqv a b))) := fun H0 H σ Q R q => ha H0 H σ _ R fun x H1 s1 rx => hb H0 H1 σ _ (EnvM.up R s1) fun y H2 s2 ry => by
  have R2 : EnvM K H0 H2 σ e := EnvM.up R (s1.trans s2)
  exact ⟨a, b, da.dp R2.hp (SlotR.ofV da.ok (rx.up s2)), db.dp R2.hp (SlotR.ofV db.ok ry), sa, sb, q _ _ (s1.trans s2) (.bl _)⟩
theorem DE.neDeep {ca cb : Cell} {a b : PyData} (ha : DE K ta e ca) (hb : DE K tb e cb) (da : Deep e.2 ca a) (db : Deep e.2 cb b) (sa : Shp a) (sb : Shp b) : DE K (tOp (rNeD K) ta tb) e (.dat (.bool (!PyData.eqv a b))) := fun H0 H σ Q R q => ha H0 H σ _ R fun x H1 s1 rx => hb H0 H1 σ _ (EnvM.up R s1) fun y H2 s2 ry => by
  have R2 : EnvM K H0 H2 σ e := EnvM.up R (s1.trans s2)
  exact ⟨a, b, da.dp R2.hp (SlotR.ofV da.ok (rx.up s2)), db.dp R2.hp (SlotR.ofV db.ok ry), sa, sb, q _ _ (s1.trans s2) (.bl _)⟩
/-- a list that is held apart, as what is read -/
theorem DE.rdC {a : Addr} {ds : List PyData} {i : Nat} (ha : DE K ta e (.raw (.ref a))) (hi : e.2[i]? = some (a, .lst (ds.map .dat))) : DE K ta e (.rd ds) := fun H0 H σ Q R q => ha H0 H σ _ R fun x H1 s1 r => by
  have R1 : EnvM K H0 H1 σ e := EnvM.up R s1
  cases r
  obtain ⟨n, xs, ea, hS, ok⟩ := R1.hp.get hi
  exact q _ _ s1 ⟨a, xs, rfl, ea, slots_dats hS⟩
/-- an entry of a tuple -/
theorem DE.getT {a : Addr} {cs : List Cell} {i : Nat} {k : Int} {j : Nat} {c : Cell} (ha : DE K ta e (.raw (.ref a))) (hb : DE K tb e (.dat (.int k))) (hi : e.2[i]? = some (a, .tup cs)) (hj : ixN cs.length k = some j) (hc : cs[j]? = some c) : DE K (tOp (rIxT K) ta tb) e c := fun H0 H σ Q R q => ha H0 H σ _ R fun x H1 s1 r => hb H0 H1 σ _ (Ctx.R.up R s1) fun y H2 s2 r2 => by
  have R2 : EnvM K H0 H2 σ e := EnvM.up R (s1.trans s2)
  cases r
  cases int_of r2
  obtain ⟨n, xs, ht, hS, ok⟩ := R2.hp.get hi
  obtain ⟨o, eo, rv⟩ := hS.get hc
  have kc := List.all_eq_true.mp ok c (List.mem_of_getElem? hc)
  rw [List.getElem?_map] at eo
  cases z : xs[j]? with
  | none =>
    rw [z] at eo
    cases eo
  | some v =>
    rw [z] at eo
    obtain rfl := Option.some.inj eo
    have ln := hS.len
    rw [List.length_map] at ln
    refine ⟨a, xs, k, v, rfl, rfl, ht.sq, ?_, ?_⟩
    · unfold L2.atI
      rw [ln, hj]
      exact z
    · exact q _ _ (s1.trans s2) ((rv.val (R2.ev.bs.trans R2.ev.sm) kc).low (s1.trans s2))
/-- a tuple, a list of anything, made -/
theorem EV.tupC (h : EAs K tr e fun cs h1 => cs.all okC = true ∧ cs.length ≤ sizeLine ∧ ∀ a, R (.raw (.ref a)) ((a, .tup cs) :: h1)) : EV K (tTupN tr) e R := fun H0 H σ τ m Q hl M q => by
  refine h H0 H σ τ m _ hl M fun cs h1 vs H1 hc hn M1 => ?_
  obtain ⟨ok, hd, k⟩ := hc
  have lm : (σ ++ τ).length = (e.1 ++ m).length := M.len
  have t := (M1.right lm).ev.sl
  refine ⟨by rw [hn]; exact hd, fun p o ho np => ?_⟩
  have s := Same.new (o := .frz o (.tup vs)) np
  have M2 := EnvM.newC (M1.left lm) (o := .frz o (.tup vs)) np (ch := .tup cs) ⟨vs, TupN.new ho, Slots.up s t, ok⟩
  exact q _ _ _ _ (k p) (M2.push (Same.refl _) (c := .raw (.ref p)) rfl rfl)
theorem EV.lstC (h : EAs K tr e fun cs h1 => cs.all okC = true ∧ cs.length ≤ sizeLine ∧ ∀ a, R (.raw (.ref a)) ((a, .lst cs) :: h1)) : EV K (tLst tr) e R := fun H0 H σ τ m Q hl M q => by
  refine h H0 H σ τ m _ hl M fun cs h1 vs H1 hc hn M1 => ?_
  obtain ⟨ok, hd, k⟩ := hc
  have lm : (σ ++ τ).length = (e.1 ++ m).length := M.len
  have t := (M1.right lm).ev.sl
  refine ⟨by rw [hn]; exact hd, fun p np => ?_⟩
  have s := Same.new (o := .lst vs) np
  have M2 := EnvM.newC (M1.left lm) (o := .lst vs) np (ch := .lst cs) ⟨vs, upd_same, Slots.up s t, ok⟩
  exact q _ _ _ _ (k p) (M2.push (Same.refl _) (c := .raw (.ref p)) rfl rfl)
/-- a comprehension over nothing -/
theorem EV.lcNil {a : Addr} {i : Nat} {g : L2.TG} {tt : TT} {vs : List Nat} (hl : DE K tl e (.raw (.ref a))) (hi : e.2[i]? = some (a, .lst [])) (k : ∀ l, R (.raw (.ref l)) ((l, .lst []) :: e.2)) : EV K (tLc (iList K tl) g tt te vs) e R := fun H0 H σ τ m Q hl' M q => hl H0 H σ _ (M.left hl') fun v H1 s r => by
  have M1 : EnvM K H0 H1 (σ ++ τ) (e.1 ++ m, e.2) := M.up s
  cases r
  obtain ⟨n, xs, ea, hS, ok⟩ := M1.hp.get hi
  match xs, hS with
  | [], _ =>
    refine ⟨a, rfl, ⟨[], SqL.of ea⟩, fun D nD => lc_list (xs := []) (fun j H2 => H2 = upd H1 D (.lst [])) rfl (fun j H2 _ z => ?_) (fun j x H2 ex z => by cases ex) fun H2 z => ?_⟩
    · subst z
      exact SqL.of (by rw [upd_ne (fun w => by rw [w, nD] at ea; cases ea)]; exact ea)
    · subst z
      exact q _ _ _ _ (k D) ((EnvM.newC M1 nD (ch := .lst []) ⟨[], upd_same, trivial, rfl⟩).push (Same.refl _) (c := .raw (.ref D)) rfl rfl)
  | _ :: _, hS => exact hS.elim
/-- xs.append(x), where x is made of objects -/
theorem DM.appCV {a : Addr} (hl : DE K tl e (.raw (.ref a))) {i0 : Nat} {cs0 : List Cell} (hi0 : e.2[i0]? = some (a, .lst cs0)) (h : EV K ta e fun c h1 => okV c = true ∧ ∃ i cs, h1[i]? = some (a, .lst cs) ∧ cs.length < sizeLine ∧ P (.next (e.1, h1.set i (a, .lst (cs ++ [c]))))) :
    DM K E (tDrop (tBM K "list" rAppend tl (tCons ta tNil))) e P := fun H0 H σ D R q => hl H0 H σ _ R fun x H1 s1 r1 => by
  have R1 : EnvM K H0 H1 σ e := EnvM.up R s1
  cases r1
  obtain ⟨_, xs0, ea0, _⟩ := R1.hp.get hi0
  refine ⟨.inl ⟨rfl, _, SqL.of ea0⟩, h.run R1 fun c h1 y H2 k M2 => ?_⟩
  obtain ⟨hc, i, cs, hi, hn, p⟩ := k
  have R2 : EnvM K H0 H2 σ (e.1, h1) := M2.left (EnvM.len R1)
  have sv := M2.last
  obtain ⟨n, xs, ea, hS, ok⟩ := R2.hp.get hi
  have ln := hS.len
  rw [List.length_map] at ln
  have tp : Tups H2 (upd H2 a (.lst (xs ++ [y]))) := Tups.wr ea fun _ => lst_tup
  refine ⟨a, xs, y, rfl, rfl, ea, by rw [ln]; exact hn, q _ p σ _ (R2.wr hi ⟨_, upd_same, ?_, ?_⟩)⟩
  · rw [List.map_append]
    exact (Slots.map (f := fun k z => z.tp tp k) ok hS).app ⟨sv.tp tp (okC_of hc), trivial⟩
  · rw [List.all_append, ok]
    show (okC c && true) = true
    rw [okC_of hc]
    rfl
theorem DE.isiC {a : Addr} {cs : List Cell} {i : Nat} {T : String} {b : Bool} (ha : DE K ta e (.raw (.ref a))) (hi : e.2[i]? = some (a, .lst cs)) (hk : kitB "list" T = some b) : DE K (tCB (rIsi K) (tCons ta (tCons (tC (.ty T)) tNil))) e (.dat (.bool b)) := fun H0 H σ Q R q => ha H0 H σ _ R fun x H1 s1 r => by
  have R1 : EnvM K H0 H1 σ e := EnvM.up R s1
  cases r
  obtain ⟨n, xs, ea, hS, ok⟩ := R1.hp.get hi
  exact ⟨_, .ty T, _, _, b, rfl, .ty T, .base (.lst ea), kit_ty hk, q _ _ s1 (.bl b)⟩
theorem DE.isiCT {a : Addr} {cs : List Cell} {i : Nat} {T : String} {b : Bool} (ha : DE K ta e (.raw (.ref a))) (hi : e.2[i]? = some (a, .tup cs)) (hk : kitB "tuple" T = some b) : DE K (tCB (rIsi K) (tCons ta (tCons (tC (.ty T)) tNil))) e (.dat (.bool b)) := fun H0 H σ Q R q => ha H0 H σ _ R fun x H1 s1 r => by
  have R1 : EnvM K H0 H1 σ e := EnvM.up R s1
  cases r
  obtain ⟨n, xs, ⟨o, ho, ea⟩, hS, ok⟩ := R1.hp.get hi
  exact ⟨_, .ty T, _, _, b, rfl, .ty T, .fTuple ea, kit_ty hk, q _ _ s1 (.bl b)⟩
theorem pick_nd {hs : Hs} (nd : (dom hs).Nodup) : ∀ (is : List Nat), is.Nodup → (dom (is.filterMap fun i => hs[i]?)).Nodup
  | [], _ => List.nodup_nil
  | i :: is, hn => by
    rw [List.nodup_cons] at hn
    have ih := pick_nd nd is hn.2
    cases h : hs[i]? with
    | none =>
      rw [List.filterMap_cons_none h]
      exact ih
    | some x =>
      rw [List.filterMap_cons_some h]
      obtain ⟨a, c⟩ := x
      cases hf : c.fixd with
      | true =>
        rw [dom_tup hf]
        exact ih
      | false =>
        rw [dom_cons hf, List.nodup_cons]
        refine ⟨fun z => ?_, ih⟩
        obtain ⟨d, hm, hfx⟩ := dom_mem z
        obtain ⟨j, hj, hd⟩ := List.mem_filterMap.mp hm
        have := dom_inj nd h hd hf hfx
        subst this
        exact hn.1 hj
theorem DM.pick {l : List Cell} {hs hs' : Hs} {t : TS} (is : List Nat) (hn : is.Nodup) (he : is.filterMap (fun i => hs[i]?) = hs') (h : DM K E t (l, hs') P) : DM K E t (l, hs) P := fun H0 H σ D M q => by
  have M : EnvM K H0 H σ (l, hs) := M
  subst he
  have sub : ∀ p ∈ is.filterMap (fun i => hs[i]?), p ∈ hs := fun p hp => by
    obtain ⟨j, hj, hd⟩ := List.mem_filterMap.mp hp
    exact List.mem_of_getElem? hd
  exact h H0 H σ D ⟨M.ev, ⟨fun p hp => M.hp.at_ p (sub p hp), pick_nd M.hp.nd is hn⟩, fun i c a h1 h2 h3 hd => M.sep i c a h1 h2 h3 (by
    obtain ⟨d, hm, hfx⟩ := dom_mem hd
    exact mem_dom_of (sub _ hm) hfx)⟩ q
end
end Esp
set_option autoImplicit false
set_option maxRecDepth 100000
set_option maxHeartbeats 4000000
namespace Esp
open PySem PySem.Spec PyProof.Rows L2
section
variable {K : PySem.W.Frag} {E : XK} {e : List Cell × Hs} {ta tb te tl : TE} {tr : TA} {H0 : Bs} {H H' : Hp} {σ : L2.St}
/-- over a list, each entry by what the objects say -/
theorem DE.lcH {i : Nat} {ds : List PyData} {ca : Cell} {f : PyData → PyData} (hl : DE K tl e ca) (la : lOf ca = some ds) (hn : ds.length ≤ sizeLine) (turn : ∀ d ∈ ds, DE K te (e.1.set i (.dat d), e.2) (.dat (f d))) : DE K (tLc (iList K tl) (gName i) tYes te [i]) e (.own (ds.map f)) := fun H0 H σ Q R q => hl H0 H σ _ R fun v H1 s r => by
  obtain ⟨a, xs, rfl, ha, t⟩ := r.lst la
  have R : EnvM K H0 H σ e := R
  have ln := t.len
  refine ⟨a, rfl, ⟨xs, SqL.of ha⟩, fun D nD => lc_list (xs := xs) (fun j H2 => (∃ ys, H2 D = some (.lst ys) ∧ TdAll H2 ys ((ds.take j).map f)) ∧ Same H1 H2) ⟨⟨[], upd_same, .nil⟩, Same.new nD⟩ (fun j H2 _ z => SqL.of (z.2 _ _ ha)) (fun j x H2 ex z => ?_) fun H2 z => ?_⟩
  · obtain ⟨⟨ys, hy, ty⟩, s2⟩ := z
    have hj : j < ds.length := by
      rcases Nat.lt_or_ge j xs.length with w | w
      · omega
      · rw [List.getElem?_eq_none w] at ex
        cases ex
    obtain ⟨v, ev, tv⟩ := (t.same s2).get (List.getElem?_eq_getElem hj)
    rw [ex] at ev
    obtain rfl := Option.some.inj ev
    have R2 := (EnvM.up R (s.trans s2)).put (i := i) (v := x) (c := .dat ds[j]) rfl tv
    have e1 : (L2.wipe σ [i]).set i (some x) = σ.set i (some x) := by
      show ((σ.set i none).set i _) = _
      rw [List.set_set]
    refine ⟨wipe1 σ i _, ?_⟩
    rw [e1]
    refine iteT (B := (∃ ys, H2 D = some (.lst ys) ∧ TdAll H2 ys ((ds.take (j + 1)).map f)) ∧ Same H1 H2) ?_
    refine turn _ (List.getElem_mem hj) H0 H2 _ _ R2 fun y H4 s4 ry => ?_
    have hy4 := s4 _ _ hy
    have tp : Tups H4 (upd H4 D (.lst (ys ++ [y]))) := Tups.wr hy4 fun _ => lst_tup
    have ly : ys.length = j := by
      rw [ty.len]
      simp
      omega
    refine ⟨ys, hy4, by omega, ⟨_, upd_same, ?_⟩, fun b o z => ?_⟩
    · rw [List.take_succ, List.getElem?_eq_getElem hj, List.map_append]
      exact ((ty.same s4).up tp).snoc (Td.up ry tp)
    · rw [upd_ne (ne_of_none z nD)]
      exact s4 _ _ (s2 _ _ z)
  · rw [ln, List.take_length] at z
    obtain ⟨ys, hy, ty⟩ := z.1
    exact q _ _ (s.trans z.2) ⟨D, ys, rfl, s.free nD, hy, ty⟩
theorem EV.andV {R : Cell → Hs → Prop} (h : EV K ta e fun c h1 => ∃ b, c = .dat (.bool b) ∧ if b = true then EV K tb (e.1, h1) R else R (.dat (.bool false)) h1) : EV K (tAndV ta tb) e R := fun H0 H σ τ m Q hl M q => h H0 H σ τ m _ hl M fun c h1 x H1 hc M1 => by
  obtain ⟨b, rfl, k⟩ := hc
  obtain ⟨_, ev, tv⟩ := M1.last
  cases ev
  cases bl_of tv
  refine ⟨b, rfl, ?_⟩
  have M2 : EnvM K H0 H1 (σ ++ τ) (e.1 ++ m, h1) := M1.left M.len
  cases b with
  | true => exact iteT (k H0 H1 σ τ m Q hl M2 q)
  | false => exact iteF (q _ _ _ _ k (M2.push (Same.refl _) (c := .dat (.bool false)) rfl (.bl false)))
/-- over numbers, by names alone, the bounds by what objects say -/
theorem DE.lcR2H {ta : TA} {te : TE} {tt : TT} {i : Nat} {a b : Int} {acc : Nat → List PyData} (hl : DA K ta e [.dat (.int a), .dat (.int b)]) (h : -(2 ^ 62) ≤ a ∧ a < 2 ^ 62 ∧ -(2 ^ 62) ≤ b ∧ b < 2 ^ 62) (G : Grow K tt te e.1 i (b - a).toNat (fun j => some (.int (a + j))) acc) :
    DE K (tLc (iRng2 ta) (gName i) tt te [i]) e (.own (acc (b - a).toNat)) := fun H0 H σ Q R q => hl H0 H σ _ R fun vs H1 s r => by
  have R : EnvM K H0 H σ e := R
  match vs, r with
  | [v, w], ⟨r1, r2, _⟩ =>
    cases int_of r1
    cases int_of r2
    exact ⟨a, b, rfl, h, lcR_core (R.ev.up s) s q G⟩
  | [], r => exact r.elim
  | [_], ⟨_, r⟩ => exact r.elim
  | _ :: _ :: _ :: _, ⟨_, _, r⟩ => exact r.elim
end
section
variable {K : PySem.W.Frag} {ε : Type} [Ctx ε] {e : ε} {ta tb : TE} {ds : List PyData}
theorem DE.ninL {ca cb : Cell} {a : PyData} (ha : DE K ta e ca) (hb : DE K tb e cb) (ea : dOf ca = some a) (eb : lOf cb = some ds) (sa : Shp a) (sb : Shp (.list ds)) : DE K (tOp (rNotInD K) ta tb) e (.dat (.bool (!ds.any fun z => PyData.eqv z a))) :=
  ha.two hb fun H H' x y Q rx ry q => ⟨a, ds, rx.dp ea, dpl_of eb ry, sa, sb, q _ _ (Same.refl _) (.bl _)⟩
end
structure StR where
  (o lay c p t s : Addr)
structure StI where
  (o c p t s : Nat)
abbrev stoF (r : StR) (th : Int) : List (Str × Cell) := [("layout", .raw (.ref r.lay)), ("thread", .dat (.int th)), ("_cells", .raw (.ref r.c)), ("_pages", .raw (.ref r.p)), ("_taken_out", .raw (.ref r.t)), ("_stamped", .raw (.ref r.s))]
structure StoAt (CS : Addr) (hs : Hs) (r : StR) (i : StI) (th : Int) (sc sp st : List PyData) : Prop where
  o : hs[i.o]? = some (r.o, .ins CS (stoF r th))
  c : hs[i.c]? = some (r.c, .lst (sc.map .dat))
  p : hs[i.p]? = some (r.p, .lst (sp.map .dat))
  t : hs[i.t]? = some (r.t, .lst (st.map .dat))
  s : hs[i.s]? = some (r.s, .lst [])
abbrev StI.up (i : StI) : StI := ⟨i.o + 1, i.c + 1, i.p + 1, i.t + 1, i.s + 1⟩
theorem StoAt.push {CS : Addr} {hs : Hs} {r : StR} {i : StI} {th : Int} {sc sp st : List PyData} (h : StoAt CS hs r i th sc sp st) (x : Addr × Chunk) : StoAt CS (x :: hs) r i.up th sc sp st := ⟨h.o, h.c, h.p, h.t, h.s⟩
structure SoG where
  (hs : Hs) (r : StR) (i : StI) (th : Int) (sc sp st : List PyData) (n m : Nat) (ka kb kc : Nat) (a b c : Addr) (ca cb cc : List PyData)
/-- lists that sort -/
structure Sorts (ds : List PyData) : Prop where
  al : PySem.W.AllAlike ds
  so : PySem.W.Sortable ds
  de : ∀ d ∈ ds, d.depth ≤ 60
  le : ds.length ≤ 100000
  sh : Shp (.list (srtD ds))
def pTakeS (CS : Addr) : Pro SoG := { ok := fun g => StoAt CS g.hs g.r g.i g.th g.sc g.sp g.st, cs := fun g => [.raw (.ref g.r.o), .dat (.int g.n), .dat (.int g.m)], hs := fun g => g.hs, post := fun g c h => ((g.n > g.sc.length ∨ g.m > g.sp.length) ∧ c = .dat .none ∧ h = g.hs) ∨ ((g.n ≤ g.sc.length ∧ g.m ≤ g.sp.length) ∧ ∃ l1 l2 l3 l4 tt, c = .raw (.ref tt) ∧ h = (l4, .lst ((g.sp.drop g.m).map .dat)) :: (l3, .lst ((g.sc.drop g.n).map .dat)) :: (tt, .tup [.raw (.ref l1), .raw (.ref l2)]) :: (l2, .lst ((g.sp.take g.m).map .dat)) :: (l1, .lst ((g.sc.take g.n).map .dat)) :: g.hs.set g.i.o (g.r.o, .ins CS (stoF { g.r with c := l3, p := l4 } g.th))) }
def pGive (CS : Addr) : Pro SoG := { ok := fun g => StoAt CS g.hs g.r g.i g.th g.sc g.sp g.st ∧ g.hs[g.ka]? = some (g.a, .lst (g.ca.map .dat)) ∧ g.hs[g.kb]? = some (g.b, .lst (g.cb.map .dat)) ∧ (g.ka ≠ g.i.o ∧ g.kb ≠ g.i.o) ∧ Sorts (g.sc ++ g.ca) ∧ Sorts (g.sp ++ g.cb), cs := fun g => [.raw (.ref g.r.o), .raw (.ref g.a), .raw (.ref g.b)], hs := fun g => g.hs, post := fun g c h => c = .dat .none ∧ ∃ l3 l4, h = (l4, .lst ((srtD (g.sp ++ g.cb)).map .dat)) :: (l3, .lst ((srtD (g.sc ++ g.ca)).map .dat)) :: g.hs.set g.i.o (g.r.o, .ins CS (stoF { g.r with c := l3, p := l4 } g.th)) }
def pOutS (CS : Addr) : Pro SoG := { ok := fun g => StoAt CS g.hs g.r g.i g.th g.sc g.sp g.st ∧ g.hs[g.ka]? = some (g.a, .lst (g.ca.map .dat)) ∧ g.st.length + g.ca.length ≤ 100000, cs := fun g => [.raw (.ref g.r.o), .raw (.ref g.a)], hs := fun g => g.hs, post := fun g c h => c = .dat .none ∧ ∃ l3, h = (l3, .lst ((g.st ++ g.ca).map .dat)) :: g.hs.set g.i.o (g.r.o, .ins CS (stoF { g.r with t := l3 } g.th)) }
def pFreeC (CS : Addr) : Pro SoG := { ok := fun g => StoAt CS g.hs g.r g.i g.th g.sc g.sp g.st, cs := fun g => [.raw (.ref g.r.o)], hs := fun g => g.hs, post := fun g c h => ∃ l, c = .raw (.ref l) ∧ h = (l, .lst (g.sc.map .dat)) :: g.hs }
def pFreeP (CS : Addr) : Pro SoG := { ok := fun g => StoAt CS g.hs g.r g.i g.th g.sc g.sp g.st, cs := fun g => [.raw (.ref g.r.o)], hs := fun g => g.hs, post := fun g c h => ∃ l, c = .raw (.ref l) ∧ h = (l, .lst (g.sp.map .dat)) :: g.hs }
def pHas (CS : Addr) : Pro SoG := { ok := fun g => StoAt CS g.hs g.r g.i g.th g.sc g.sp g.st, cs := fun g => [.raw (.ref g.r.o)], hs := fun g => g.hs, post := fun g c h => c = .dat (.bool (decide ((g.st.length : Int) > 0))) ∧ h = g.hs }
def pWait (CS : Addr) : Pro SoG := { ok := fun g => StoAt CS g.hs g.r g.i g.th g.sc g.sp g.st, cs := fun g => [.raw (.ref g.r.o)], hs := fun g => g.hs, post := fun g c h => ∃ l, c = .raw (.ref l) ∧ ((g.st.length = 0 ∧ h = (l, .lst []) :: g.hs) ∨ (g.st.length ≠ 0 ∧ ∃ l2 tt, h = (tt, .tup [.dat .none, .raw (.ref l2)]) :: (l2, .lst (g.st.map .dat)) :: (l, .lst [.raw (.ref tt)]) :: g.hs)) }
def pSame (CS : Addr) : Pro SoG := { ok := fun g => StoAt CS g.hs g.r g.i g.th g.sc g.sp g.st ∧ (g.hs[g.ka]? = some (g.a, .lst (g.ca.map .dat)) ∧ g.hs[g.kb]? = some (g.b, .lst (g.cb.map .dat)) ∧ g.hs[g.kc]? = some (g.c, .lst (g.cc.map .dat))) ∧ (g.sc = srtD g.ca ∧ g.sp = srtD g.cb ∧ g.st = g.cc) ∧ Sorts g.ca ∧ Sorts g.cb ∧ (g.cc.length ≤ 100000 ∧ DkAll 3 g.cc), cs := fun g => [.raw (.ref g.r.o), .raw (.ref g.a), .raw (.ref g.b), .raw (.ref g.c)], hs := fun g => g.hs, post := fun g c h => c = .dat (.bool true) ∧ ∃ ext : Hs, h = ext ++ g.hs }
structure SiG where
  (o lay : Addr) (l : Nat) (th t p r : Int) (rest : Hs)
def ownL (th t a b : Int) : List Int := ((List.range (b - a).toNat).map fun j : Nat => a + (j : Int)).filter fun k => decide (k % t = th)
def cellsL (th t p r : Int) : List Int := (ownL th t p r).map fun k => 5 + p + k
def pagesL (th t p : Int) : List (Int × Int) := (ownL th t 1 p).map fun k => (k, 5 + p + k)
def pStoInit (CS CL : Addr) : Pro SiG := { ok := fun g => (g.rest[g.l]? : Option (Addr × Chunk)) = some (g.lay, .ins CL (layF g.t g.p g.r)) ∧ (1 ≤ g.t ∧ g.t ≤ 4) ∧ (1 ≤ g.p ∧ g.p ≤ g.r ∧ g.r ≤ 1000), cs := fun g => [.raw (.ref g.o), .raw (.ref g.lay), .dat (.int g.th)], hs := fun g => (g.o, .ins CS []) :: g.rest, post := fun g c h => c = .dat .none ∧ ∃ c1 p1 t1 s1, h = (s1, .lst []) :: (t1, .lst (([] : List PyData).map .dat)) :: (p1, .lst (((pagesL g.th g.t g.p).map ipD).map .dat)) :: (c1, .lst (((cellsL g.th g.t g.p g.r).map PyData.int).map .dat)) :: (g.o, .ins CS (stoF ⟨g.o, g.lay, c1, p1, t1, s1⟩ g.th)) :: g.rest }
abbrev fOwn : PD := fun cs c => ∃ th t a b : Int, cs = [.dat (.int th), .dat (.int t), .dat (.int a), .dat (.int b)] ∧ ((1 ≤ t ∧ t ≤ 4) ∧ (0 ≤ a ∧ a ≤ 1000) ∧ (0 ≤ b ∧ b ≤ 1000)) ∧ c = .own ((ownL th t a b).map .int)
abbrev fWo : PD := fun cs c => ∃ rs gs : List PyData, cs = [.rd rs, .rd gs] ∧ (rs.length ≤ 100000 ∧ (∀ d ∈ rs, Shp d) ∧ Shp (.list gs)) ∧ c = .own (rs.filter fun r => !(gs.any fun z => PyData.eqv z r))
end Esp
set_option autoImplicit false
set_option maxRecDepth 100000
set_option maxHeartbeats 4000000
namespace Esp
open PySem PySem.Spec PyProof.Rows L2
section
variable {α : Type}
structure Lin (le : α → α → Bool) : Prop where
  tr : ∀ a b c : α, le a b = true → le b c = true → le a c = true
  to : ∀ a b : α, (le a b || le b a) = true
  an : ∀ a b : α, le a b = true → le b a = true → a = b
theorem Lin.eq {le : α → α → Bool} (h : Lin le) {xs ys : List α} (p : xs.Perm ys) : xs.mergeSort le = ys.mergeSort le :=
  List.Perm.eq_of_pairwise (le := fun a b => le a b = true) (fun a b _ _ h1 h2 => h.an a b h1 h2) (List.pairwise_mergeSort h.tr h.to xs) (List.pairwise_mergeSort h.tr h.to ys) ((List.mergeSort_perm xs le).trans (p.trans (List.mergeSort_perm ys le).symm))
theorem Lin.same {le : α → α → Bool} (h : Lin le) {xs ys : List α} (hs : ys.Pairwise fun a b => le a b = true) (p : xs.Perm ys) : xs.mergeSort le = ys :=
  List.Perm.eq_of_pairwise (le := fun a b => le a b = true) (fun a b _ _ h1 h2 => h.an a b h1 h2) (List.pairwise_mergeSort h.tr h.to xs) hs ((List.mergeSort_perm xs le).trans p)
variable [DecidableEq α]
theorem left_perm {S L : List α} {n : Nat} (p : S.Perm L) (nd : L.Nodup) : (L.filter fun x => decide (x ∉ S.take n)).Perm (S.drop n) := by
  have nS : S.Nodup := p.nodup_iff.mpr nd
  refine (p.symm.filter _).trans ?_
  have e : S.filter (fun x => decide (x ∉ S.take n)) = S.drop n := by
    conv => lhs; rw [← List.take_append_drop n S]
    have nd2 : (S.take n ++ S.drop n).Nodup := by
      rw [List.take_append_drop]
      exact nS
    rw [List.nodup_append] at nd2
    rw [List.filter_append]
    have e1 : (S.take n).filter (fun x => decide (x ∉ (S.take n ++ S.drop n).take n)) = [] := by
      rw [List.take_append_drop]
      exact List.filter_eq_nil_iff.mpr fun x hx => by simpa using hx
    have e2 : (S.drop n).filter (fun x => decide (x ∉ (S.take n ++ S.drop n).take n)) = S.drop n := by
      rw [List.take_append_drop]
      exact List.filter_eq_self.mpr fun x hx => by
        rw [decide_eq_true_eq]
        exact fun hy => nd2.2.2 x hy x hx rfl
    rw [e1, e2, List.nil_append]
  rw [e]
theorem Lin.left {le : α → α → Bool} (h : Lin le) {L : List α} {n : Nat} (nd : L.Nodup) : (L.filter fun x => decide (x ∉ (L.mergeSort le).take n)).mergeSort le = (L.mergeSort le).drop n :=
  h.same ((List.pairwise_mergeSort h.tr h.to L).sublist (List.drop_sublist n _)) (left_perm (List.mergeSort_perm L le) nd)
theorem left_more {S L T : List α} {n : Nat} (p : S.Perm L) (nd : (L ++ T).Nodup) : ((L.filter fun x => decide (x ∉ S.take n)) ++ (T ++ S.take n)).Perm (L ++ T) := by
  have nL : L.Nodup := (List.nodup_append.mp nd).1
  refine ((left_perm (n := n) p nL).append_right _).trans ?_
  have : (S.drop n ++ (T ++ S.take n)).Perm ((S.take n ++ S.drop n) ++ T) := by
    rw [← List.append_assoc]
    exact (List.perm_append_comm (l₁ := S.drop n ++ T) (l₂ := S.take n)).trans (by rw [List.append_assoc])
  refine this.trans ?_
  rw [List.take_append_drop]
  exact p.append_right _
end
def leI (a b : Int) : Bool := decide (a ≤ b)
theorem linI : Lin leI := ⟨fun a b c h1 h2 => by unfold leI at *; rw [decide_eq_true_eq] at *; omega, fun a b => by unfold leI; rw [Bool.or_eq_true, decide_eq_true_eq, decide_eq_true_eq]; omega, fun a b h1 h2 => by unfold leI at *; rw [decide_eq_true_eq] at *; omega⟩
theorem linP : Lin leP := ⟨leP_trans, leP_total, fun a b h1 h2 => by
  obtain ⟨a1, a2⟩ := a
  obtain ⟨b1, b2⟩ := b
  unfold leP at *
  rw [decide_eq_true_eq] at *
  simp only at *
  have e1 : a1 = b1 := by omega
  have e2 : a2 = b2 := by omega
  rw [e1, e2]⟩
theorem srt_ints (L : List Int) : srtD (L.map .int) = (L.mergeSort leI).map .int := by
  unfold srtD
  rw [List.map_mergeSort (r := leI) (s := PySem.W.dataLe false id) (f := PyData.int)]
  intro a _ b _
  exact (congrFun (congrFun (PySem.W.dataLe_int (β := Int) (fun p => p)) a) b).symm
theorem dk_srt {k : Nat} {ds : List PyData} (h : DkAll k ds) : DkAll k (srtD ds) := DkAll.mem fun d hd => h.of_mem d ((List.mergeSort_perm ds _).mem_iff.mp hd)
theorem sorts_ints {L : List Int} (h : L.length ≤ 100000) : Sorts (L.map .int) :=
  ⟨PySem.W.AllAlike.of fun b b' => by simp [PySem.W.alike], PySem.W.Sortable.others fun b => ⟨(fun z => by cases z), fun xs z => by cases z⟩, fun d hd => by
    obtain ⟨x, _, rfl⟩ := List.mem_map.mp hd
    simp [PyData.depth], by rw [List.length_map]; exact h, (Dk.lst (k := 7) (dk_srt (DkAll.ints L))).shp8⟩
theorem sorts_pairs {L : List (Int × Int)} (h : L.length ≤ 100000) : Sorts (L.map ipD) :=
  ⟨alike_pairs L, sortable_pairs L, depth_pairs L, by rw [List.length_map]; exact h, (Dk.lst (k := 7) (dk_srt (dk_pairs (k := 6) L))).shp8⟩
theorem eqv_pair (p q : Int × Int) : PyData.eqv (ipD p) (ipD q) = decide (p = q) := by
  obtain ⟨a, b⟩ := p
  obtain ⟨c, d⟩ := q
  have e1 := eqv_int a c
  have e2 := eqv_int b d
  unfold ipD
  simp only [PyData.eqv, PyData.eqvAll] at e1 e2 ⊢
  rw [Bool.eq_iff_iff]
  simp [Prod.ext_iff]
theorem any_pairs (p : Int × Int) : ∀ T : List (Int × Int), ((T.map ipD).any fun z => PyData.eqv z (ipD p)) = decide (p ∈ T)
  | [] => rfl
  | q :: T => by
    rw [List.map_cons, List.any_cons, any_pairs p T, eqv_pair]
    by_cases h : q = p
    · subst h
      simp
    · have h2 : ¬ p = q := fun z => h z.symm
      simp [h, h2]
theorem wo_ints (L T : List Int) : ((L.map PyData.int).filter fun r => !((T.map PyData.int).any fun z => PyData.eqv z r)) = (L.filter fun x => decide (x ∉ T)).map .int := by
  rw [List.filter_map]
  congr 1
  refine List.filter_congr fun x _ => ?_
  show (!((T.map PyData.int).any fun z => PyData.eqv z (.int x))) = _
  rw [any_int]
  simp
def woP (L T : List (Int × Int)) : List (Int × Int) := L.filter fun x => decide (x ∉ T)
theorem wo_pairs (L T : List (Int × Int)) : ((L.map ipD).filter fun r => !((T.map ipD).any fun z => PyData.eqv z r)) = (woP L T).map ipD := by
  unfold woP
  rw [List.filter_map]
  congr 1
  refine List.filter_congr fun x _ => ?_
  show (!((T.map ipD).any fun z => PyData.eqv z (ipD x))) = _
  rw [any_pairs]
  simp
theorem leftP {L : List (Int × Int)} {n : Nat} (nd : L.Nodup) : sortP (woP L ((sortP L).take n)) = (sortP L).drop n := by
  refine Eq.trans ?_ (linP.left (n := n) nd)
  exact congrArg (fun z => List.mergeSort z leP) (List.filter_congr fun x _ => decide_eq_decide.mpr Iff.rfl)
theorem moreP {L T : List (Int × Int)} {n : Nat} (nd : (L ++ T).Nodup) : (woP L ((sortP L).take n) ++ (T ++ (sortP L).take n)).Perm (L ++ T) := by
  have := left_more (n := n) (sortP_perm L) nd
  refine List.Perm.trans (List.Perm.of_eq ?_) this
  exact congrArg (fun z => z ++ (T ++ (sortP L).take n)) (List.filter_congr fun x _ => decide_eq_decide.mpr Iff.rfl)
/-- what is given back -/
theorem srt_more_ints (L B : List Int) : srtD (srtD (L.map .int) ++ B.map .int) = srtD ((L ++ B).map .int) := by
  rw [srt_ints, ← List.map_append, srt_ints, srt_ints, linI.eq ((List.mergeSort_perm L leI).append_right B)]
theorem srt_more_pairs (L B : List (Int × Int)) : srtD (srtD (L.map ipD) ++ B.map ipD) = srtD ((L ++ B).map ipD) := by
  rw [srt_pairs, ← List.map_append, srt_pairs, srt_pairs]
  unfold sortP
  rw [linP.eq ((List.mergeSort_perm L leP).append_right B)]
end Esp
set_option maxRecDepth 100000
set_option maxHeartbeats 4000000
namespace K07
open PySem PySem.Spec PyProof.Rows L2 Esp
def top (i : Nat) : Stmt := PySem.Challenge.pw_espalier_k07_stores.main.body.getD i (.Pass ⟨0, 0, 0, 0⟩)
abbrev S_EspalierError_init : Stmt := inClass (top 2) 0
theorem sc_EspalierError_init : FnScope ["self"] ["self"] (defScope S_EspalierError_init) := ⟨rfl, rfl, rfl, by decide +kernel, rfl, by decide +kernel, by decide +kernel⟩
abbrev S_is_whole : Stmt := top 5
theorem sc_is_whole : FnScope ["value"] ["value"] (defScope S_is_whole) := ⟨rfl, rfl, rfl, by decide +kernel, rfl, by decide +kernel, by decide +kernel⟩
abbrev S_is_between : Stmt := top 11
theorem sc_is_between : FnScope ["value", "least", "most"] ["value", "least", "most"] (defScope S_is_between) := ⟨rfl, rfl, rfl, by decide +kernel, rfl, by decide +kernel, by decide +kernel⟩
abbrev S_Layout_init : Stmt := inClass (top 12) 0
theorem sc_Layout_init : FnScope ["self", "threads", "pages", "records"] ["self", "threads", "pages", "records"] (defScope S_Layout_init) := ⟨rfl, rfl, rfl, by decide +kernel, rfl, by decide +kernel, by decide +kernel⟩
abbrev S_Layout_record : Stmt := inClass (top 12) 3
theorem sc_Layout_record : FnScope ["self", "index"] ["self", "index"] (defScope S_Layout_record) := ⟨rfl, rfl, rfl, by decide +kernel, rfl, by decide +kernel, by decide +kernel⟩
abbrev S_own : Stmt := top 14
theorem sc_own : FnScope ["thread", "threads", "first", "end", "number"] ["thread", "threads", "first", "end"] (defScope S_own) := ⟨rfl, rfl, rfl, by decide +kernel, rfl, by decide +kernel, by decide +kernel⟩
abbrev S_Store_init : Stmt := inClass (top 15) 0
theorem sc_Store_init : FnScope ["self", "layout", "thread", "cells", "pages", "index", "page"] ["self", "layout", "thread"] (defScope S_Store_init) := ⟨rfl, rfl, rfl, by decide +kernel, rfl, by decide +kernel, by decide +kernel⟩
abbrev S_Store_take : Stmt := inClass (top 15) 1
theorem sc_Store_take : FnScope ["self", "cells", "pages", "taken"] ["self", "cells", "pages"] (defScope S_Store_take) := ⟨rfl, rfl, rfl, by decide +kernel, rfl, by decide +kernel, by decide +kernel⟩
abbrev S_Store_give_back : Stmt := inClass (top 15) 2
theorem sc_Store_give_back : FnScope ["self", "cells", "pages"] ["self", "cells", "pages"] (defScope S_Store_give_back) := ⟨rfl, rfl, rfl, by decide +kernel, rfl, by decide +kernel, by decide +kernel⟩
abbrev S_Store_take_out : Stmt := inClass (top 15) 3
theorem sc_Store_take_out : FnScope ["self", "cells"] ["self", "cells"] (defScope S_Store_take_out) := ⟨rfl, rfl, rfl, by decide +kernel, rfl, by decide +kernel, by decide +kernel⟩
abbrev S_Store_free_cells : Stmt := inClass (top 15) 4
theorem sc_Store_free_cells : FnScope ["self"] ["self"] (defScope S_Store_free_cells) := ⟨rfl, rfl, rfl, by decide +kernel, rfl, by decide +kernel, by decide +kernel⟩
abbrev S_Store_free_pages : Stmt := inClass (top 15) 5
theorem sc_Store_free_pages : FnScope ["self"] ["self"] (defScope S_Store_free_pages) := ⟨rfl, rfl, rfl, by decide +kernel, rfl, by decide +kernel, by decide +kernel⟩
abbrev S_Store_waiting : Stmt := inClass (top 15) 6
theorem sc_Store_waiting : FnScope ["self", "rows", "stamp", "cells"] ["self"] (defScope S_Store_waiting) := ⟨rfl, rfl, rfl, by decide +kernel, rfl, by decide +kernel, by decide +kernel⟩
abbrev S_Store_has_taken_out : Stmt := inClass (top 15) 7
theorem sc_Store_has_taken_out : FnScope ["self"] ["self"] (defScope S_Store_has_taken_out) := ⟨rfl, rfl, rfl, by decide +kernel, rfl, by decide +kernel, by decide +kernel⟩
abbrev S_law_tape : Stmt := top 17
theorem sc_law_tape : FnScope ["script", "tape", "k", "value", "step"] ["script"] (defScope S_law_tape) := ⟨rfl, rfl, rfl, by decide +kernel, rfl, by decide +kernel, by decide +kernel⟩
abbrev S_law_at : Stmt := top 18
theorem sc_law_at : FnScope ["tape", "k"] ["tape", "k"] (defScope S_law_at) := ⟨rfl, rfl, rfl, by decide +kernel, rfl, by decide +kernel, by decide +kernel⟩
abbrev S_law_same : Stmt := top 19
theorem sc_law_same : FnScope ["store", "cells", "pages", "out", "told", "other", "due"] ["store", "cells", "pages", "out"] (defScope S_law_same) := ⟨rfl, rfl, rfl, by decide +kernel, rfl, by decide +kernel, by decide +kernel⟩
abbrev S_law_without : Stmt := top 20
theorem sc_law_without : FnScope ["rows", "gone", "row"] ["rows", "gone"] (defScope S_law_without) := ⟨rfl, rfl, rfl, by decide +kernel, rfl, by decide +kernel, by decide +kernel⟩
abbrev S_law : Stmt := top 21
theorem sc_law : FnScope ["script", "tape", "threads", "many", "layout", "thread", "store", "k", "cells", "pages", "taken", "held", "out", "number", "pick", "count", "more", "told", "due", "back", "passed", "gone"] ["script"] (defScope S_law) := ⟨rfl, rfl, rfl, by decide +kernel, rfl, by decide +kernel, by decide +kernel⟩
/-- where things stand behind the top -/
structure Ad where
  C_EspalierError : Addr
  C_NotValid : Addr
  C_Layout : Addr
  C_Store : Addr
  a_EspalierError_init : Addr
  d_EspalierError_init : FuncData
  a_is_whole : Addr
  d_is_whole : FuncData
  a_is_between : Addr
  d_is_between : FuncData
  a_Layout_init : Addr
  d_Layout_init : FuncData
  a_Layout_record : Addr
  d_Layout_record : FuncData
  a_own : Addr
  d_own : FuncData
  a_Store_init : Addr
  d_Store_init : FuncData
  a_Store_take : Addr
  d_Store_take : FuncData
  a_Store_give_back : Addr
  d_Store_give_back : FuncData
  a_Store_take_out : Addr
  d_Store_take_out : FuncData
  a_Store_free_cells : Addr
  d_Store_free_cells : FuncData
  a_Store_free_pages : Addr
  d_Store_free_pages : FuncData
  a_Store_waiting : Addr
  d_Store_waiting : FuncData
  a_Store_has_taken_out : Addr
  d_Store_has_taken_out : FuncData
  a_law_tape : Addr
  d_law_tape : FuncData
  a_law_at : Addr
  d_law_at : FuncData
  a_law_same : Addr
  d_law_same : FuncData
  a_law_without : Addr
  d_law_without : FuncData
  a_law : Addr
  d_law : FuncData
  t_MOST_THREADS : Tok
  t_LEAST_PAGES : Tok
  t_MOST_PAGES : Tok
  t_FIRST_WORD : Tok
/-- what the top has written -/
structure Txt (K : PySem.W.Frag) (mg : Str → Option Value) (A : Ad) : Prop where
  g_EspalierError : mg "EspalierError" = some (.ref A.C_EspalierError)
  o_EspalierError : OexC K A.C_EspalierError
  x_EspalierError : ExcC K A.C_EspalierError
  q_EspalierError : PySem.W.kitOne K (.ref A.C_EspalierError) (.ref A.C_EspalierError) = some true
  e_EspalierError_EspalierError : PySem.W.exmOne K (.ref A.C_EspalierError) (.ref A.C_EspalierError) = some true
  i_EspalierError : PySem.W.findIn K (.ref A.C_EspalierError) "__init__" = some (some (.ref A.a_EspalierError_init))
  g_NotValid : mg "NotValid" = some (.ref A.C_NotValid)
  o_NotValid : OexC K A.C_NotValid
  x_NotValid : ExcC K A.C_NotValid
  q_NotValid : PySem.W.kitOne K (.ref A.C_NotValid) (.ref A.C_NotValid) = some true
  e_NotValid_NotValid : PySem.W.exmOne K (.ref A.C_NotValid) (.ref A.C_NotValid) = some true
  e_NotValid_EspalierError : PySem.W.exmOne K (.ref A.C_NotValid) (.ref A.C_EspalierError) = some true
  i_NotValid : PySem.W.findIn K (.ref A.C_NotValid) "__init__" = some (some (.ref A.a_EspalierError_init))
  g_Layout : mg "Layout" = some (.ref A.C_Layout)
  c_Layout : Cls K A.C_Layout
  k_Layout : InsK K A.C_Layout
  kl_Layout : PySem.W.kitOne K (.ref A.C_Layout) (.type "list") = some false
  M_Layout : Mk K A.C_Layout A.a_Layout_init
  n_Layout_threads : NoAttr K A.C_Layout "threads"
  n_Layout_pages : NoAttr K A.C_Layout "pages"
  n_Layout_records : NoAttr K A.C_Layout "records"
  g_Store : mg "Store" = some (.ref A.C_Store)
  c_Store : Cls K A.C_Store
  k_Store : InsK K A.C_Store
  kl_Store : PySem.W.kitOne K (.ref A.C_Store) (.type "list") = some false
  M_Store : Mk K A.C_Store A.a_Store_init
  n_Store_layout : NoAttr K A.C_Store "layout"
  n_Store_thread : NoAttr K A.C_Store "thread"
  n_Store__cells : NoAttr K A.C_Store "_cells"
  n_Store__pages : NoAttr K A.C_Store "_pages"
  n_Store__taken_out : NoAttr K A.C_Store "_taken_out"
  n_Store__stamped : NoAttr K A.C_Store "_stamped"
  F_EspalierError_init : Fun K "__init__" "EspalierError.__init__" S_EspalierError_init A.a_EspalierError_init A.d_EspalierError_init
  b_EspalierError_init : Binds K A.d_EspalierError_init ["self"] []
  ty_EspalierError_init : PySem.W.typeIn K (.ref A.a_EspalierError_init) = some (.type "function")
  F_is_whole : Fun K "is_whole" "is_whole" S_is_whole A.a_is_whole A.d_is_whole
  b_is_whole : Binds K A.d_is_whole ["value"] []
  g_is_whole : mg "is_whole" = some (.ref A.a_is_whole)
  F_is_between : Fun K "_is_between" "_is_between" S_is_between A.a_is_between A.d_is_between
  b_is_between : Binds K A.d_is_between ["value", "least", "most"] []
  g_is_between : mg "_is_between" = some (.ref A.a_is_between)
  F_Layout_init : Fun K "__init__" "Layout.__init__" S_Layout_init A.a_Layout_init A.d_Layout_init
  b_Layout_init : Binds K A.d_Layout_init ["self", "threads", "pages", "records"] []
  F_Layout_record : Fun K "record" "Layout.record" S_Layout_record A.a_Layout_record A.d_Layout_record
  b_Layout_record : Binds K A.d_Layout_record ["self", "index"] []
  m_Layout_record : Meth K A.C_Layout "record" A.a_Layout_record
  F_own : Fun K "_own" "_own" S_own A.a_own A.d_own
  b_own : Binds K A.d_own ["thread", "threads", "first", "end"] []
  g_own : mg "_own" = some (.ref A.a_own)
  F_Store_init : Fun K "__init__" "Store.__init__" S_Store_init A.a_Store_init A.d_Store_init
  b_Store_init : Binds K A.d_Store_init ["self", "layout", "thread"] []
  F_Store_take : Fun K "take" "Store.take" S_Store_take A.a_Store_take A.d_Store_take
  b_Store_take : Binds K A.d_Store_take ["self", "cells", "pages"] []
  m_Store_take : Meth K A.C_Store "take" A.a_Store_take
  F_Store_give_back : Fun K "give_back" "Store.give_back" S_Store_give_back A.a_Store_give_back A.d_Store_give_back
  b_Store_give_back : Binds K A.d_Store_give_back ["self", "cells", "pages"] []
  m_Store_give_back : Meth K A.C_Store "give_back" A.a_Store_give_back
  F_Store_take_out : Fun K "take_out" "Store.take_out" S_Store_take_out A.a_Store_take_out A.d_Store_take_out
  b_Store_take_out : Binds K A.d_Store_take_out ["self", "cells"] []
  m_Store_take_out : Meth K A.C_Store "take_out" A.a_Store_take_out
  F_Store_free_cells : Fun K "free_cells" "Store.free_cells" S_Store_free_cells A.a_Store_free_cells A.d_Store_free_cells
  b_Store_free_cells : Binds K A.d_Store_free_cells ["self"] []
  m_Store_free_cells : Meth K A.C_Store "free_cells" A.a_Store_free_cells
  F_Store_free_pages : Fun K "free_pages" "Store.free_pages" S_Store_free_pages A.a_Store_free_pages A.d_Store_free_pages
  b_Store_free_pages : Binds K A.d_Store_free_pages ["self"] []
  m_Store_free_pages : Meth K A.C_Store "free_pages" A.a_Store_free_pages
  F_Store_waiting : Fun K "waiting" "Store.waiting" S_Store_waiting A.a_Store_waiting A.d_Store_waiting
  b_Store_waiting : Binds K A.d_Store_waiting ["self"] []
  m_Store_waiting : Meth K A.C_Store "waiting" A.a_Store_waiting
  F_Store_has_taken_out : Fun K "has_taken_out" "Store.has_taken_out" S_Store_has_taken_out A.a_Store_has_taken_out A.d_Store_has_taken_out
  b_Store_has_taken_out : Binds K A.d_Store_has_taken_out ["self"] []
  m_Store_has_taken_out : Meth K A.C_Store "has_taken_out" A.a_Store_has_taken_out
  F_law_tape : Fun K "_law_tape" "_law_tape" S_law_tape A.a_law_tape A.d_law_tape
  b_law_tape : Binds K A.d_law_tape ["script"] []
  g_law_tape : mg "_law_tape" = some (.ref A.a_law_tape)
  F_law_at : Fun K "_law_at" "_law_at" S_law_at A.a_law_at A.d_law_at
  b_law_at : Binds K A.d_law_at ["tape", "k"] []
  g_law_at : mg "_law_at" = some (.ref A.a_law_at)
  F_law_same : Fun K "_law_same" "_law_same" S_law_same A.a_law_same A.d_law_same
  b_law_same : Binds K A.d_law_same ["store", "cells", "pages", "out"] []
  g_law_same : mg "_law_same" = some (.ref A.a_law_same)
  F_law_without : Fun K "_law_without" "_law_without" S_law_without A.a_law_without A.d_law_without
  b_law_without : Binds K A.d_law_without ["rows", "gone"] []
  g_law_without : mg "_law_without" = some (.ref A.a_law_without)
  F_law : Fun K "law" "law" S_law A.a_law A.d_law
  b_law : Binds K A.d_law ["script"] []
  g_law : mg "law" = some (.ref A.a_law)
  z_ValueError : mg "ValueError" = none
  z_abs : mg "abs" = none
  z_bool : mg "bool" = none
  z_int : mg "int" = none
  z_isinstance : mg "isinstance" = none
  z_len : mg "len" = none
  z_list : mg "list" = none
  z_max : mg "max" = none
  z_min : mg "min" = none
  z_range : mg "range" = none
  z_sorted : mg "sorted" = none
  z_tuple : mg "tuple" = none
  v_init : PySem.W.findCls K (.type "ValueError") (.type "type") "__init__" = some (.val (.builtin "ValueError.__init__"))
  k_MOST_THREADS : mg "MOST_THREADS" = some (.int 4 A.t_MOST_THREADS)
  k_LEAST_PAGES : mg "LEAST_PAGES" = some (.int 2 A.t_LEAST_PAGES)
  k_MOST_PAGES : mg "MOST_PAGES" = some (.int 48 A.t_MOST_PAGES)
  k_FIRST_WORD : mg "FIRST_WORD" = some (.int 5 A.t_FIRST_WORD)
end K07
set_option maxRecDepth 100000
set_option maxHeartbeats 4000000
open PySem PySem.Spec PyProof.Rows L2 Esp
local macro_rules | `(tactic| walk_at "dl") => `(tactic| first
  | (exact small9 (Nat.le_of_ble_eq_true rfl))
  | assumption
  | (exact Nat.lt_of_le_of_lt (Nat.le_of_ble_eq_true rfl) lt9)
  | (focus (refine small9 ?_; simp; omega))
  | (rw [sizeLine_eq]; omega)
  | (focus (simp; done))
  | omega
  | decide)
local macro_rules | `(tactic| walk_at "df") => `(tactic| first
  | (intro _; exact Td.int _)
  | (intro _; exact Td.str _)
  | (intro _; exact Td.bl _)
  | (intro _; exact Td.non)
  | (intro _; rfl))
local macro_rules | `(tactic| walk_at "di") => `(tactic| first
  | rfl
  | assumption
  | (exact cellAt_in (by omega) (by omega))
  | (exact dAt_in (by omega) (by omega))
  | (exact atI_kAt (by omega) (by omega))
  | (exact atI_last (by omega))
  | (exact atI_3 (by omega) (by omega))
  | (exact atI_opt (by omega) (by omega))
  | (exact atI_opt2 (by omega) (by omega))
  | (exact edges_at (by omega))
  | (exact edges_at1 (by omega))
  | (exact atI_rows (by omega) (by omega)))
local macro_rules | `(tactic| walk_at "dt") => `(tactic| first
  | (decide +kernel)
  | assumption
  | (exact decide_eq_true (by first | assumption | omega))
  | (exact decide_eq_false (by first | assumption | omega))
  | (exact ⟨by decide, by decide⟩)
  | (exact ⟨by decide, by decide, by decide⟩)
  | (exact Or.inr ⟨by decide, by decide⟩)
  | (exact Or.inr ⟨by omega, by omega⟩)
  | (exact Or.inl ⟨by decide, by decide⟩)
  | (exact Or.inl ⟨by omega, by omega⟩)
  | (focus (simp [*]; done))
  | (focus (simp; omega))
  | omega
  | rfl)
local macro_rules | `(tactic| walk_at "dc") => `(tactic| first
  | assumption
  | (exact ⟨_, rfl, rfl⟩)
  | (exact ⟨_, _, rfl, rfl⟩)
  | (exact ⟨_, _, _, rfl, rfl⟩)
  | (exact ⟨_, _, _, _, rfl, rfl⟩)
  | (exact ⟨_, _, _, _, _, rfl, rfl⟩)
  | (exact ⟨_, _, _, _, _, _, rfl, rfl⟩)
  | (exact ⟨_, rfl, (by assumption), rfl⟩)
  | (exact ⟨_, _, rfl, (by assumption), rfl⟩)
  | (exact ⟨_, _, _, rfl, (by assumption), rfl⟩)
  | (exact ⟨_, _, _, _, rfl, (by assumption), rfl⟩)
  | (exact ⟨_, _, _, _, _, rfl, (by assumption), rfl⟩)
  | (exact ⟨_, _, _, _, _, _, rfl, (by assumption), rfl⟩)
  | (exact ⟨_, rfl, (by assumption), (by assumption), rfl⟩)
  | (exact ⟨_, _, rfl, (by assumption), (by assumption), rfl⟩)
  | (exact ⟨_, _, _, rfl, (by assumption), (by assumption), rfl⟩)
  | (exact ⟨_, _, _, _, rfl, (by assumption), (by assumption), rfl⟩)
  | (exact ⟨_, _, _, _, _, rfl, (by assumption), (by assumption), rfl⟩)
  | (exact ⟨_, _, _, _, _, _, rfl, (by assumption), (by assumption), rfl⟩))
local macro_rules | `(tactic| walk_at "dv") => `(tactic| first
  | ((with_reducible apply DE.varD); rfl)
  | ((with_reducible apply DE.varO); rfl)
  | ((with_reducible apply DE.varR); rfl)
  | ((with_reducible apply DE.varJ); rfl)
  | ((with_reducible apply DE.varC); rfl)
  | ((with_reducible apply DE.varW); rfl)
  | ((with_reducible apply DE.varG); rfl)
  | ((with_reducible apply DE.varS); rfl))
local macro_rules | `(tactic| walk_at "dg") => `(tactic| first
  | ((with_reducible apply DE.lift); (walk_at "dv"))
  | ((with_reducible apply DE.getF); (walk_at "de"); (walk_at "dix"); assumption; assumption; rfl)
  | ((with_reducible apply DE.viewC); (walk_at "de"); (walk_at "dix")))
local macro_rules | `(tactic| walk_at "de") => `(tactic| first
  | (with_reducible exact DE.int)
  | (with_reducible exact DE.str)
  | (with_reducible exact DE.bl)
  | (with_reducible exact DE.non)
  | (with_reducible exact DD.nil)
  | (with_reducible exact DA.nil)
  | (with_reducible exact DO.no)
  | (with_reducible exact DB.yes)
  | (walk_at "dv")
  | (walk_at "dg")
  | ((with_reducible apply DE.opB); (walk_at "de"); (walk_at "de"); rfl)
  | ((with_reducible apply DE.opI); (walk_at "de"); (walk_at "de"); rfl)
  | ((with_reducible apply DE.opC); (walk_at "de"); (walk_at "de"); rfl; (walk_at "dt"))
  | ((with_reducible apply DE.eqI); (walk_at "de"); (walk_at "de"))
  | ((with_reducible apply DE.eqS); (walk_at "de"); (walk_at "de"))
  | ((with_reducible apply DE.eqSame); (walk_at "de"); (walk_at "de"); (walk_at "dq"); (walk_at "dsh"))
  | ((with_reducible apply DE.neI); (walk_at "de"); (walk_at "de"))
  | ((with_reducible apply DE.neS); (walk_at "de"); (walk_at "de"))
  | ((with_reducible apply DE.neSame); (walk_at "de"); (walk_at "de"); (walk_at "dq"); (walk_at "dsh"))
  | ((with_reducible apply DE.inT); (walk_at "de"); (walk_at "de"); rfl; rfl; (walk_at "dsh"); (walk_at "dsh"))
  | ((with_reducible apply DE.isN); (walk_at "de"); (walk_at "de"))
  | ((with_reducible apply DE.notN); (walk_at "de"); (walk_at "de"))
  | ((with_reducible apply DE.chain); (walk_at "de"); (walk_at "de"); (walk_at "de"); rfl; rfl)
  | ((with_reducible apply DE.and); (walk_at "de"); (intro _; walk_at "de"))
  | ((with_reducible apply DE.or); (walk_at "de"); (intro _; walk_at "de"))
  | ((with_reducible apply DE.orT); (walk_at "dd"))
  | ((with_reducible apply DE.andF); (walk_at "dd"))
  | ((with_reducible apply DB.and); (walk_at "de"); (intro _; walk_at "de"))
  | ((with_reducible apply DB.or); (walk_at "de"); (intro _; walk_at "de"))
  | ((with_reducible apply DB.orT); (walk_at "dd"))
  | ((with_reducible apply DB.andF); (walk_at "dd"))
  | ((with_reducible apply DB.tB); (walk_at "de"))
  | ((with_reducible apply DB.test); (walk_at "de"))
  | ((with_reducible apply DB.not); (walk_at "de"))
  | ((with_reducible apply DE.not); (walk_at "de"))
  | ((with_reducible apply DE.ifT); (walk_at "db"); (walk_at "de"))
  | ((with_reducible apply DE.ifF); (walk_at "db"); (walk_at "de"))
  | ((with_reducible apply DE.lenT); (walk_at "de"))
  | ((with_reducible apply DE.lenL); (walk_at "de"); rfl)
  | ((with_reducible apply DE.isiI); (walk_at "de"))
  | ((with_reducible apply DE.isiB); (walk_at "de"))
  | ((with_reducible apply DE.isiT); (walk_at "de"))
  | ((with_reducible apply DE.isiS); (walk_at "de"))
  | ((with_reducible apply DE.isiN); (walk_at "de"))
  | ((with_reducible apply DE.isiLL); (walk_at "de"); rfl)
  | ((with_reducible apply DE.isiLT); (walk_at "de"); rfl)
  | ((with_reducible apply DE.neg); (walk_at "de"); rfl)
  | ((with_reducible apply DE.ixT); (walk_at "de"); (walk_at "de"); (walk_at "di"))
  | ((with_reducible apply DE.ixC); (walk_at "de"); (walk_at "de"); (walk_at "dix"); (walk_at "di"))
  | ((with_reducible apply DE.lenD); (walk_at "de"); (walk_at "dix"))
  | ((with_reducible apply DE.lstC); (walk_at "de"); (walk_at "dix"))
  | ((with_reducible apply DE.ixL); (walk_at "de"); (walk_at "de"); rfl; (walk_at "di"))
  | ((with_reducible apply DE.ixS); (walk_at "de"); (walk_at "de"); (walk_at "di"))
  | ((with_reducible apply DE.lenS); (walk_at "de"))
  | ((with_reducible apply DE.tupD); (walk_at "de"); (walk_at "dl"))
  | ((with_reducible apply DE.lstD); (walk_at "de"); (walk_at "dl"))
  | ((with_reducible apply DD.cons); (walk_at "de"); (walk_at "de"))
  | ((with_reducible apply DA.cons); (walk_at "de"); (walk_at "de"))
  | ((with_reducible apply DO.some); (walk_at "de"))
  | ((with_reducible apply DE.slT); (walk_at "de"); (walk_at "de"); (walk_at "de"))
  | ((with_reducible apply DE.catT); (walk_at "de"); (walk_at "de"); (walk_at "dl"))
  | ((with_reducible apply DE.catL); (walk_at "de"); (walk_at "de"); rfl; rfl; (walk_at "dl"))
  | ((with_reducible apply DE.cell); (walk_at "de"); (walk_at "de"); (walk_at "dt"))
  | ((with_reducible apply DE.at_); (walk_at "de"); (walk_at "de"); (walk_at "dt"))
  | ((with_reducible apply DE.call); (walk_at "de"); (walk_at "dc"))
  | ((with_reducible apply DE.callX); (walk_at "de"); (walk_at "dc"))
  | ((with_reducible apply DE.meth); (walk_at "de"); assumption; (walk_at "de"); (walk_at "dc"))
  | ((with_reducible apply DE.fldI); (walk_at "de"); assumption; assumption; assumption)
  | ((with_reducible apply DE.fld); (walk_at "de"); assumption; assumption; assumption; (walk_at "df"))
  | ((with_reducible apply DE.tupOfL); (walk_at "de"); rfl)
  | ((with_reducible apply DE.tupOfT); (walk_at "de"))
  | ((with_reducible apply DE.lstOfL); (walk_at "de"); rfl)
  | ((with_reducible apply DE.lstOfT); (walk_at "de"))
  | ((with_reducible apply DE.abs); (walk_at "de"))
  | ((with_reducible apply DE.max2); (walk_at "de"); (walk_at "de"))
  | ((with_reducible apply DE.min2); (walk_at "de"); (walk_at "de"))
  | ((with_reducible apply DE.int1); (walk_at "de"))
  | ((with_reducible apply DE.int1B); (walk_at "de"))
  | ((with_reducible apply DE.slL); (walk_at "de"); rfl; (walk_at "de"); (walk_at "de"))
  | ((with_reducible apply DE.range1); (walk_at "de"))
  | ((with_reducible apply DE.rep); (walk_at "de"); rfl; (walk_at "de"); (walk_at "dt"); (walk_at "dt"); (walk_at "dl"))
  | ((with_reducible apply DX.call); (walk_at "de"); (walk_at "dc")))
local macro_rules | `(tactic| walk_at "ds") => `(tactic| first
  | ((with_reducible apply DS.nilTo); rfl)
  | (with_reducible exact DS.retN)
  | (with_reducible exact DS.brk)
  | (with_reducible exact DS.cont)
  | ((with_reducible apply DS.raise); assumption)
  | ((with_reducible apply DS.retOwn); rfl)
  | ((with_reducible apply DS.ret); (walk_at "de"))
  | ((with_reducible apply DS.setTo); (walk_at "de"); rfl; rfl)
  | ((with_reducible apply DS.asgTo); (walk_at "de"); (walk_at "dgg"); rfl)
  | ((with_reducible apply DS.appTo); rfl; (walk_at "de"); (walk_at "dl"); rfl)
  | ((with_reducible apply DS.putTo); rfl; (walk_at "de"); (walk_at "de"); (walk_at "dt"); rfl)
  | ((with_reducible apply DS.augTo); rfl; (walk_at "de"); rfl)
  | ((with_reducible apply DS.parTo); (walk_at "de"); rfl)
  | ((with_reducible apply DS.dropTo); (walk_at "de"); rfl)
  | ((with_reducible apply DS.setX); (walk_at "de"))
  | ((with_reducible apply DS.dropX); (walk_at "de"))
  | ((with_reducible apply DS.retX); (walk_at "de"))
  | ((with_reducible apply DS.ifT); (apply DB.as; (walk_at "de"); (walk_at "dt")); (walk_at "ds"))
  | ((with_reducible apply DS.ifF); (apply DB.as; (walk_at "de"); (walk_at "dt")); (walk_at "ds"))
  | ((with_reducible apply DS.seq); (walk_at "ds"); (walk_at "ds"))
  | ((with_reducible apply DS.fin); (walk_at "ds"); rfl))
local macro_rules | `(tactic| walk_at "s1") => `(tactic| ((with_reducible apply DS.seq); (walk_at "ds")))
local macro_rules | `(tactic| walk_at "dd") => `(tactic| first
  | (focus (apply DE.as; (walk_at "de"); rfl))
  | (focus (apply DB.as; (walk_at "de"); rfl)))
local macro_rules | `(tactic| walk_at "dq") => `(tactic| first
  | rfl
  | assumption)
local macro_rules | `(tactic| walk_at "dsh") => `(tactic| first
  | assumption
  | (exact Dk.shp (k := 8) (by walk_at "dk") (by decide)))
local macro_rules | `(tactic| walk_at "dk") => `(tactic| first
  | assumption
  | (exact Dk.int _)
  | (exact Dk.non)
  | (exact Dk.bl _)
  | (exact Dk.bD _)
  | (exact Dk.ks _)
  | ((with_reducible apply Dk.tup); (walk_at "dka"))
  | (exact Dk.str (by decide +kernel)))
local macro_rules | `(tactic| walk_at "dka") => `(tactic| first
  | assumption
  | (exact DkAll.nil)
  | (exact DkAll.ints _)
  | ((with_reducible apply DkAll.cons); (walk_at "dk"); (walk_at "dka"))
  | ((with_reducible apply DkAll.app); (walk_at "dka"); (walk_at "dka")))
local macro_rules | `(tactic| walk_at "db") => `(tactic| first
  | (apply DB.as; (walk_at "de"); (walk_at "dt")))
local macro_rules | `(tactic| walk_at "dix") => `(tactic| first
  | (exact ix0)
  | (exact ix1)
  | (exact ix2)
  | (exact ix3)
  | (exact ix4)
  | (exact ix5)
  | (exact ix6)
  | (exact ix7)
  | (exact ix8)
  | (exact ix9))
local macro_rules | `(tactic| walk_at "da") => `(tactic| first
  | (with_reducible exact DAs.nil)
  | ((with_reducible apply DAs.consV); rfl; rfl; rfl; (walk_at "da"))
  | ((with_reducible apply DAs.cons); (walk_at "de"); rfl; (walk_at "da")))
local macro_rules | `(tactic| walk_at "dm") => `(tactic| first
  | ((with_reducible apply DM.nil); (walk_at "dp"))
  | ((with_reducible apply DM.retN); (walk_at "dp"))
  | ((with_reducible apply DM.brk); (walk_at "dp"))
  | ((with_reducible apply DM.cont); (walk_at "dp"))
  | ((with_reducible apply DM.raise); assumption; (walk_at "dp"))
  | ((with_reducible apply DM.setFv); rfl; rfl; rfl; (walk_at "de"); (walk_at "dix"); assumption; assumption; (walk_at "dt"); (walk_at "dp"))
  | ((with_reducible apply DM.setF); (walk_at "de"); rfl; (walk_at "de"); (walk_at "dix"); assumption; assumption; (walk_at "dt"); (walk_at "dp"))
  | ((with_reducible apply DM.appD); (walk_at "de"); (walk_at "de"); (walk_at "dix"); (walk_at "dl"); (walk_at "dp"))
  | ((with_reducible apply DM.putD); (walk_at "de"); (walk_at "de"); (walk_at "de"); (walk_at "dix"); (walk_at "dt"); (walk_at "dp"))
  | ((with_reducible apply DM.set); (walk_at "de"); rfl; (walk_at "dp"))
  | ((with_reducible apply DM.ret); (walk_at "de"); (walk_at "dp"))
  | ((with_reducible apply DM.drop); (walk_at "de"); (walk_at "dp")))
local macro_rules | `(tactic| walk_at "dgg") => `(tactic| first
  | (with_reducible exact DG.name)
  | ((with_reducible apply DG.tup); (walk_at "dgg"); rfl)
  | (with_reducible exact DGs.nil)
  | ((with_reducible apply DGs.cons); (walk_at "dgg"); (walk_at "dgg")))
local macro_rules | `(tactic| walk_at "dp") => `(tactic| first
  | rfl
  | (exact ⟨rfl, rfl⟩)
  | assumption)
namespace K07
section
variable {P : Program} {w : World} {K : PySem.W.Frag} {mg : Str → Option Value} {A : Ad}
theorem ok_EspalierError_init (T : Txt K mg A) (base : Heap) : FnOk P w K mg base CX0 1 A.a_EspalierError_init A.d_EspalierError_init ["self"] (spVI K) := by
  refine T.F_EspalierError_init.ok sc_EspalierError_init (fun vs H Q E h => ?_) (fun cdv A' outer s H vs Q E hr h => ?_)
  · obtain ⟨a, C, rfl, _⟩ := h
    rfl
  · obtain ⟨a, C, rfl, o, e, k⟩ := h
    refine ⟨_, pss_one (ps_expr (pe_veinit (by rfl) T.z_ValueError T.v_init (pa_cons (pv 0) pa_nil))), ?_⟩
    exact ⟨_, rfl, a, C, [], rfl, (by show 0 ≤ 1000; decide), o, e, k⟩

theorem ok_is_whole (T : Txt K mg A) (base : Heap) : FnOk P w K mg base CX0 1 A.a_is_whole A.d_is_whole ["value"] (spD K fWholeD) := by
  refine fnD T.F_is_whole sc_is_whole (by rintro cs c ⟨d, rfl, rfl⟩; rfl) fun cdv A' outer s H E hr => ?_
  refine ⟨_, pss_one (ps_ret (pe_and (pe_callB call_isi (by rfl) T.z_isinstance boot_isinstance (pa_cons (pv 0) (pa_cons (pe_bltn (v := .ty "int") (by rfl) T.z_int PyProof.Rows.boot_int rfl) pa_nil))) (pe_one (pe_not (pe_callB call_isi (by rfl) T.z_isinstance boot_isinstance (pa_cons (pv 0) (pa_cons (pe_bltn (v := .ty "bool") (by rfl) T.z_bool PyProof.Rows.boot_bool rfl) pa_nil))))))), ?_⟩
  all_goals try simp only [cxK, cxKn]
  rintro cs c ⟨d, rfl, rfl⟩
  refine ⟨_, ?h, .inl rfl⟩
  apply DS.as
  · walk_at "ds"
  · rfl

theorem ok_is_between (T : Txt K mg A) (base : Heap) : FnOk P w K mg base CX0 2 A.a_is_between A.d_is_between ["value", "least", "most"] (spD K fBtwI) := by
  refine fnD T.F_is_between sc_is_between (by rintro cs c ⟨n, a, b, rfl, rfl⟩; rfl) fun cdv A' outer s H E hr => ?_
  refine ⟨_, pss_one (ps_ret (pe_and (pe_call (ok_is_whole T base) (hr.mono (by decide)) (by rfl) T.g_is_whole T.F_is_whole.kp T.b_is_whole .nil pass0 (pa_cons (pv 0) pa_nil)) (pe_one (pe_chain op_le op_le (pv 1) (pv 0) (pv 2))))), ?_⟩
  all_goals try simp only [cxK, cxKn]
  rintro cs c ⟨n, a, b, rfl, rfl⟩
  refine ⟨_, ?h, .inl rfl⟩
  exact DS.ret (DE.as (DE.and (DE.call (DA.cons (DE.varD rfl) DA.nil) ⟨_, rfl, rfl⟩) fun _ => DE.chain (DE.varD rfl) (DE.varD rfl) (DE.varD rfl) rfl rfl) rfl)

theorem ok_Layout_init (T : Txt K mg A) (base : Heap) : FnOk P w K mg base (L2.CX P w) 3 A.a_Layout_init A.d_Layout_init ["self", "threads", "pages", "records"] (spG K (pLayInit A.C_Layout)) := by
  refine fnGX T.F_Layout_init sc_Layout_init (fun g => rfl) fun cdv A' outer s H E hr => ?_
  refine ⟨_, pss_cons (ps_if (pt_not (pt_val (pe_call (ok_is_between T base) (hr.mono (by decide)) (by rfl) T.g_is_between T.F_is_between.kp T.b_is_between .nil pass0 (pa_cons (pv 1) (pa_cons pe_int (pa_cons (pe_gi (by rfl) T.k_MOST_THREADS) pa_nil))))))
          (pss_one (ps_raise (W := fun cls d _ H => E cls d H) rfl (takes_of rfl rfl rfl rfl) (pmk_v T.o_NotValid T.i_NotValid T.ty_EspalierError_init (ok_EspalierError_init T base) (hr.mono (by decide)) T.b_EspalierError_init pass0 (by rfl) T.g_NotValid)))
          (pss_nil))
      <| pss_cons (ps_if (pt_not (pt_val (pe_call (ok_is_between T base) (hr.mono (by decide)) (by rfl) T.g_is_between T.F_is_between.kp T.b_is_between .nil pass0 (pa_cons (pv 2) (pa_cons (pe_gi (by rfl) T.k_LEAST_PAGES) (pa_cons (pe_gi (by rfl) T.k_MOST_PAGES) pa_nil))))))
          (pss_one (ps_raise (W := fun cls d _ H => E cls d H) rfl (takes_of rfl rfl rfl rfl) (pmk_v T.o_NotValid T.i_NotValid T.ty_EspalierError_init (ok_EspalierError_init T base) (hr.mono (by decide)) T.b_EspalierError_init pass0 (by rfl) T.g_NotValid)))
          (pss_nil))
      <| pss_cons (ps_if (PW.pt (pw_or (pt_not (pt_val (pe_call (ok_is_whole T base) (hr.mono (by decide)) (by rfl) T.g_is_whole T.F_is_whole.kp T.b_is_whole .nil pass0 (pa_cons (pv 3) pa_nil)))) (pw_or1 (pt_cmpR op_lt (pv 3) (pv 2) (nomark _)))))
          (pss_one (ps_raise (W := fun cls d _ H => E cls d H) rfl (takes_of rfl rfl rfl rfl) (pmk_v T.o_NotValid T.i_NotValid T.ty_EspalierError_init (ok_EspalierError_init T base) (hr.mono (by decide)) T.b_EspalierError_init pass0 (by rfl) T.g_NotValid)))
          (pss_nil))
      <| pss_cons (ps_fld (pv 0) (pv 1) rfl)
      <| pss_cons (ps_fld (pv 0) (pv 2) rfl)
      <| pss_one (ps_fld (pv 0) (pv 3) rfl), ?_⟩
  try simp only [cxK, cxKn]
  rintro ⟨x, t, p, r, rest⟩ ⟨ht, hp, hr2⟩
  have ht : 1 ≤ t ∧ t ≤ 4 := ht
  have hp : 2 ≤ p ∧ p ≤ 48 := hp
  have hr2 : p ≤ r := hr2
  show DM K E _ ([.raw (.ref x), .dat (.int t), .dat (.int p), .dat (.int r)], (x, .ins A.C_Layout []) :: rest) _
  refine DM.seqF (DB.as (DB.not (DB.test (DE.call (DA.cons (DE.lift (DE.varD rfl)) (DA.cons DE.int (DA.cons DE.int DA.nil))) ⟨t, 1, 4, rfl, rfl⟩))) (by rw [decide_eq_true ht.1, decide_eq_true ht.2]; rfl)) (DM.skip ?_)
  refine DM.seqF (DB.as (DB.not (DB.test (DE.call (DA.cons (DE.lift (DE.varD rfl)) (DA.cons DE.int (DA.cons DE.int DA.nil))) ⟨p, 2, 48, rfl, rfl⟩))) (by rw [decide_eq_true hp.1, decide_eq_true hp.2]; rfl)) (DM.skip ?_)
  refine DM.seqF (DB.as (DB.or (DB.not (DB.test (DE.call (DA.cons (DE.lift (DE.varD rfl)) DA.nil) ⟨.int r, rfl, rfl⟩))) fun _ => DB.test (DE.opB (k := decide (r < p)) (DE.lift (DE.varD rfl)) (DE.lift (DE.varD rfl)) rfl)) (by rw [decide_eq_false (show ¬ r < p by omega)]; rfl)) (DM.skip ?_)
  refine DM.pFld (i := 0) (DE.lift (DE.varD rfl)) rfl (DE.lift (DE.varW rfl)) rfl T.c_Layout T.n_Layout_threads (by simp) ?_
  refine DM.pFld (i := 0) (DE.lift (DE.varD rfl)) rfl (DE.lift (DE.varW rfl)) rfl T.c_Layout T.n_Layout_pages (by simp [Esp.putC]) ?_
  refine DM.setF (i := 0) (DE.lift (DE.varD rfl)) rfl (DE.lift (DE.varW rfl)) rfl T.c_Layout T.n_Layout_records (by show 2 < 1000; decide) ?_
  exact ⟨rfl, rfl⟩

theorem ok_Layout_record (T : Txt K mg A) (base : Heap) : FnOk P w K mg base CX0 1 A.a_Layout_record A.d_Layout_record ["self", "index"] (spD K (fRecord A.C_Layout)) := by
  refine fnD T.F_Layout_record sc_Layout_record (by rintro cs c ⟨t, p, r, k, rfl, rfl⟩; rfl) fun cdv A' outer s H E hr => ?_
  have c1 := T.c_Layout
  have c2 := T.n_Layout_pages
  refine ⟨_, pss_one (ps_ret (pe_op op_add (pe_op op_add (pe_gi (by rfl) T.k_FIRST_WORD) (pe_fld (pv 0) rfl)) (pv 1))), ?_⟩
  all_goals try simp only [cxK, cxKn]
  rintro cs c ⟨t, p, r, k, rfl, rfl⟩
  exact ⟨_, DS.ret (DE.opI (DE.opI DE.int (DE.fldI (DE.varJ rfl) T.c_Layout T.n_Layout_pages rfl) rfl) (DE.varD rfl) rfl), .inl rfl⟩

theorem ok_own (T : Txt K mg A) (base : Heap) : FnOk P w K mg base CX0 1 A.a_own A.d_own ["thread", "threads", "first", "end"] (spD K fOwn) := by
  refine fnD T.F_own sc_own (by rintro cs c ⟨th, t, a, b, rfl, ⟨⟨t1, t2⟩, ⟨a1, a2⟩, b1, b2⟩, rfl⟩; rfl) fun cdv A' outer s H E hr => ?_
  have nd := sc_own.nd
  refine ⟨_, pss_one (ps_ret (pe_lc (own := [("number", 4)]) (g := gName 4) rfl nd (pi_range2 (by rfl) T.z_range (pa_cons (pv 2) (pa_cons (pv 3) pa_nil))) (blkOk_by (N := ["thread", "threads", "first", "end", "number"]) (sc := defScope S_own) (by decide +kernel)) (fun _ _ _ _ _ => pg_name (i := 4) nd rfl (Or.inl rfl)) (fun _ _ _ _ _ => (pts_one (pt_cmpR op_eq (pe_op op_mod (pv 4) (pv 1)) (pv 0) (nomark _)))) (fun _ _ _ _ _ => (pv 4)))), ?_⟩
  all_goals try simp only [cxK, cxKn]
  rintro cs c ⟨th, t, a, b, rfl, ⟨⟨t1, t2⟩, ⟨a1, a2⟩, b1, b2⟩, rfl⟩
  refine ⟨_, ?h, .inl rfl⟩
  refine DS.ret (DE.as (DE.lcR2 (a := a) (b := b) (acc := fun j => (((List.range j).map fun j : Nat => a + (j : Int)).filter fun k => decide (k % t = th)).map .int) (DA.cons (DE.varD rfl) (DA.cons (DE.varD rfl) DA.nil)) ⟨by omega, by omega, by omega, by omega⟩ ⟨rfl, fun j hj => ?_, fun j d hj hd => ?_⟩) rfl)
  · rw [List.length_map, sizeLine_eq]
    have := List.length_filter_le (fun k => decide (k % t = th)) ((List.range j).map fun j : Nat => a + (j : Int))
    rw [List.length_map, List.length_range] at this
    omega
  · obtain rfl := Option.some.inj hd
    refine ⟨decide ((a + (j : Int)) % t = th), _, DB.test (DE.eqI (DE.opC (DE.varD rfl) (DE.varD rfl) rfl (by show (0 : Int) < t; omega)) (DE.varD rfl)), fun z => ⟨DE.varD rfl, ?_⟩, fun z => ?_⟩
    · show (((List.range (j + 1)).map fun j : Nat => a + (j : Int)).filter fun k => decide (k % t = th)).map PyData.int = _
      rw [List.range_succ, List.map_append, List.filter_append, List.map_append]
      simp at z
      simp [z]
    · show (((List.range (j + 1)).map fun j : Nat => a + (j : Int)).filter fun k => decide (k % t = th)).map PyData.int = _
      rw [List.range_succ, List.map_append, List.filter_append, List.map_append]
      simp at z
      simp [z]

theorem ok_Store_take (T : Txt K mg A) (base : Heap) : FnOk P w K mg base CX0 1 A.a_Store_take A.d_Store_take ["self", "cells", "pages"] (spG K (pTakeS A.C_Store)) := by
  refine fnG T.F_Store_take sc_Store_take (fun g => rfl) (fun _ _ _ z => z) fun cdv A' outer s H E hr => ?_
  have nd := sc_Store_take.nd
  refine ⟨_, pss_cons (ps_if (PW.pt (pw_or (pt_cmpR op_gt (pv 1) (pe_callB call_len_seq (by rfl) T.z_len PySem.boot_len (pa_cons (pe_fld (pv 0) rfl) pa_nil)) (nomark _)) (pw_or1 (pt_cmpR op_gt (pv 2) (pe_callB call_len_seq (by rfl) T.z_len PySem.boot_len (pa_cons (pe_fld (pv 0) rfl) pa_nil)) (nomark _)))))
          (pss_one (ps_ret pe_non))
          (pss_nil))
      <| pss_cons (ps_set (i := 3) nd rfl (Or.inl rfl) (pe_tupN (pa_cons (pe_slice sl_list (pe_fld (pv 0) rfl) po_none (po_some (pv 1))) (pa_cons (pe_slice sl_list (pe_fld (pv 0) rfl) po_none (po_some (pv 2))) pa_nil))))
      <| pss_cons (ps_fld (pv 0) (pe_slice sl_list (pe_fld (pv 0) rfl) (po_some (pv 1)) po_none) rfl)
      <| pss_cons (ps_fld (pv 0) (pe_slice sl_list (pe_fld (pv 0) rfl) (po_some (pv 2)) po_none) rfl)
      <| pss_one (ps_ret (pv 3)), ?_⟩
  try simp only [cxK, cxKn]
  rintro ⟨hs, r, i, th, sc, sp, st, n, m, ka, kb, kc, a, b, c, ca, cb, cc⟩ h
  have h : StoAt A.C_Store hs r i th sc sp st := h
  show DM K E _ ([.raw (.ref r.o), .dat (.int n), .dat (.int m), .un], hs) _
  have po : i.o ≠ i.p := fun z => by
    have := h.o
    rw [z, h.p] at this
    exact Chunk.noConfusion (congrArg Prod.snd (Option.some.inj this))
  have co : i.o ≠ i.c := fun z => by
    have := h.o
    rw [z, h.c] at this
    exact Chunk.noConfusion (congrArg Prod.snd (Option.some.inj this))
  have t1 := DB.test (DE.opB (g := fun i j => V.bl (decide (i > j))) (k := decide ((n : Int) > sc.length)) (DE.lift (DE.varD (e := [.raw (.ref r.o), .dat (.int n), .dat (.int m), .un]) (i := 1) rfl)) (DE.lenL (DE.rdC (DE.getF (DE.lift (DE.varW (e := [.raw (.ref r.o), .dat (.int n), .dat (.int m), .un]) (i := 0) rfl)) h.o T.c_Store T.n_Store__cells rfl) h.c) rfl) rfl)
  have t2 := DB.test (DE.opB (g := fun i j => V.bl (decide (i > j))) (k := decide ((m : Int) > sp.length)) (DE.lift (DE.varD (e := [.raw (.ref r.o), .dat (.int n), .dat (.int m), .un]) (i := 2) rfl)) (DE.lenL (DE.rdC (DE.getF (DE.lift (DE.varW (e := [.raw (.ref r.o), .dat (.int n), .dat (.int m), .un]) (i := 0) rfl)) h.o T.c_Store T.n_Store__pages rfl) h.p) rfl) rfl)
  by_cases hc : n > sc.length ∨ m > sp.length
  · refine DM.seqT (DB.as (DB.or t1 fun _ => t2) ?_) (DM.retSeq (DM.ret DE.non ⟨rfl, .inl ⟨hc, rfl, rfl⟩⟩))
    rw [Bool.or_eq_true, decide_eq_true_eq, decide_eq_true_eq]
    omega
  · refine DM.seqF (DB.as (DB.or t1 fun _ => t2) ?_) (DM.skip ?_)
    · rw [Bool.or_eq_false_iff, decide_eq_false_iff_not, decide_eq_false_iff_not]
      omega
    refine DM.vSet (EV.tupC (EAs.cons (EV.lstApart (ds := sc.take n) (DE.as (DE.slL (DE.rdC (DE.getF (DE.lift (DE.varW rfl)) h.o T.c_Store T.n_Store__cells rfl) h.c) rfl DO.no (DO.some (DE.lift (DE.varD rfl)))) (by rw [cutD_to (by omega), Int.toNat_natCast])) fun l1 => EAs.cons (EV.lstApart (ds := sp.take m) (DE.as (DE.slL (DE.rdC (DE.getF (DE.lift (DE.varW rfl)) (i := i.o + 1) h.o T.c_Store T.n_Store__pages rfl) (i := i.p + 1) h.p) rfl DO.no (DO.some (DE.lift (DE.varD rfl)))) (by rw [cutD_to (by omega), Int.toNat_natCast])) fun l2 => EAs.nil ⟨rfl, small9 (Nat.le_of_ble_eq_true rfl), fun tt => ?_⟩))))
    refine DM.vFld (EV.lstApart (ds := sc.drop n) (DE.as (DE.slL (DE.rdC (DE.getF (DE.lift (DE.varW rfl)) (i := i.o + 3) h.o T.c_Store T.n_Store__cells rfl) (i := i.c + 3) h.c) rfl (DO.some (DE.lift (DE.varD rfl))) DO.no) (by rw [cutD_from (by omega), Int.toNat_natCast])) fun l3 => ⟨rfl, DE.lift (DE.varW rfl), i.o + 4, _, h.o, by show 6 < 1000; decide, ?_⟩) T.c_Store T.n_Store__cells
    refine DM.vFld (EV.lstApart (ds := sp.drop m) (DE.as (DE.slL (DE.rdC (DE.getF (DE.lift (DE.varW rfl)) (i := i.o + 4) (get_put_self h.o) T.c_Store T.n_Store__pages rfl) (i := i.p + 4) (get_put h.p (fun z => po (Nat.add_right_cancel z)))) rfl (DO.some (DE.lift (DE.varD rfl))) DO.no) (by rw [cutD_from (by omega), Int.toNat_natCast])) fun l4 => ⟨rfl, DE.lift (DE.varW rfl), i.o + 5, _, get_put_self h.o, by show 6 < 1000; decide, ?_⟩) T.c_Store T.n_Store__pages
    refine DM.ret (DE.lift (DE.varW rfl)) ⟨rfl, .inr ⟨by show n ≤ sc.length ∧ m ≤ sp.length; omega, l1, l2, l3, l4, tt, rfl, ?_⟩⟩
    show (l4, Chunk.lst ((sp.drop m).map .dat)) :: (l3, Chunk.lst ((sc.drop n).map .dat)) :: (tt, Chunk.tup [.raw (.ref l1), .raw (.ref l2)]) :: (l2, Chunk.lst ((sp.take m).map .dat)) :: (l1, Chunk.lst ((sc.take n).map .dat)) :: (hs.set i.o _).set i.o _ = _
    rw [List.set_set]
    rfl

theorem ok_Store_give_back (T : Txt K mg A) (base : Heap) : FnOk P w K mg base CX0 1 A.a_Store_give_back A.d_Store_give_back ["self", "cells", "pages"] (spG K (pGive A.C_Store)) := by
  refine fnG T.F_Store_give_back sc_Store_give_back (fun g => rfl) (fun _ _ _ z => z) fun cdv A' outer s H E hr => ?_
  have nd := sc_Store_give_back.nd
  refine ⟨_, pss_cons (ps_fld (pv 0) (pe_callB (cr_sortedD (room65 hr)) (by rfl) T.z_sorted PyProof.Rows.boot_sorted (pa_cons (pe_op op_cat (pe_fld (pv 0) rfl) (pe_callTy call_list_of (by rfl) T.z_list PyProof.Rows.boot_list (pa_cons (pv 1) pa_nil))) pa_nil)) rfl)
      <| pss_one (ps_fld (pv 0) (pe_callB (cr_sortedD (room65 hr)) (by rfl) T.z_sorted PyProof.Rows.boot_sorted (pa_cons (pe_op op_cat (pe_fld (pv 0) rfl) (pe_callTy call_list_of (by rfl) T.z_list PyProof.Rows.boot_list (pa_cons (pv 2) pa_nil))) pa_nil)) rfl), ?_⟩
  try simp only [cxK, cxKn]
  rintro ⟨hs, r, i, th, sc, sp, st, n, m, ka, kb, kc, a, b, c, ca, cb, cc⟩ ⟨h, ha, hb, ⟨na, nb⟩, q1, q2⟩
  have h : StoAt A.C_Store hs r i th sc sp st := h
  have ha : hs[ka]? = some (a, .lst (ca.map .dat)) := ha
  have hb : hs[kb]? = some (b, .lst (cb.map .dat)) := hb
  have nb : kb ≠ i.o := nb
  have q1 : Sorts (sc ++ ca) := q1
  have q2 : Sorts (sp ++ cb) := q2
  have l1 := q1.le
  have l2 := q2.le
  rw [List.length_append] at l1 l2
  show DM K E _ ([.raw (.ref r.o), .raw (.ref a), .raw (.ref b)], hs) _
  refine DM.vFld (EV.lstApart (ds := srtD (sc ++ ca)) (DE.sorted (DE.catL (DE.rdC (DE.getF (DE.lift (DE.varW rfl)) h.o T.c_Store T.n_Store__cells rfl) h.c) (DE.lstOfL (DE.rdC (DE.lift (DE.varW rfl)) ha) rfl) rfl rfl (by rw [sizeLine_eq]; omega)) rfl q1.al q1.so (by rw [sizeLine_eq, List.length_append]; omega) q1.de) fun l => ⟨rfl, DE.lift (DE.varW rfl), i.o + 1, _, h.o, by show 6 < 1000; decide, ?_⟩) T.c_Store T.n_Store__cells
  have po : i.o ≠ i.p := fun z => by
    have := h.o
    rw [z, h.p] at this
    exact Chunk.noConfusion (congrArg Prod.snd (Option.some.inj this))
  have ho2 : ((l, Chunk.lst ((srtD (sc ++ ca)).map .dat)) :: hs.set i.o (r.o, .ins A.C_Store (stoF { r with c := l } th)))[i.o + 1]? = some (r.o, .ins A.C_Store (stoF { r with c := l } th)) := get_put_self h.o
  have hp2 : ((l, Chunk.lst ((srtD (sc ++ ca)).map .dat)) :: hs.set i.o (r.o, .ins A.C_Store (stoF { r with c := l } th)))[i.p + 1]? = some (r.p, .lst (sp.map .dat)) := get_put h.p po
  have hb2 : ((l, Chunk.lst ((srtD (sc ++ ca)).map .dat)) :: hs.set i.o (r.o, .ins A.C_Store (stoF { r with c := l } th)))[kb + 1]? = some (b, .lst (cb.map .dat)) := get_put hb nb.symm
  show DM K E _ ([.raw (.ref r.o), .raw (.ref a), .raw (.ref b)], (l, Chunk.lst ((srtD (sc ++ ca)).map .dat)) :: hs.set i.o (r.o, .ins A.C_Store (stoF { r with c := l } th))) _
  refine DM.vFld (EV.lstApart (ds := srtD (sp ++ cb)) (DE.sorted (DE.catL (DE.rdC (DE.getF (DE.lift (DE.varW rfl)) ho2 T.c_Store T.n_Store__pages rfl) hp2) (DE.lstOfL (DE.rdC (DE.lift (DE.varW rfl)) hb2) rfl) rfl rfl (by rw [sizeLine_eq]; omega)) rfl q2.al q2.so (by rw [sizeLine_eq, List.length_append]; omega) q2.de) fun l' => ⟨rfl, DE.lift (DE.varW rfl), i.o + 2, _, ho2, by show 6 < 1000; decide, ?_⟩) T.c_Store T.n_Store__pages
  refine DM.nil ⟨rfl, l, l', ?_⟩
  show (l', Chunk.lst ((srtD (sp ++ cb)).map .dat)) :: (l, Chunk.lst ((srtD (sc ++ ca)).map .dat)) :: (hs.set i.o _).set i.o _ = _
  rw [List.set_set]
  rfl

theorem ok_Store_take_out (T : Txt K mg A) (base : Heap) : FnOk P w K mg base CX0 1 A.a_Store_take_out A.d_Store_take_out ["self", "cells"] (spG K (pOutS A.C_Store)) := by
  refine fnG T.F_Store_take_out sc_Store_take_out (fun g => rfl) (fun _ _ _ z => z) fun cdv A' outer s H E hr => ?_
  have nd := sc_Store_take_out.nd
  refine ⟨_, pss_one (ps_fld (pv 0) (pe_op op_cat (pe_fld (pv 0) rfl) (pe_callTy call_list_of (by rfl) T.z_list PyProof.Rows.boot_list (pa_cons (pv 1) pa_nil))) rfl), ?_⟩
  try simp only [cxK, cxKn]
  rintro ⟨hs, r, i, th, sc, sp, st, n, m, ka, kb, kc, a, b, c, ca, cb, cc⟩ ⟨h, ha, hl⟩
  have h : StoAt A.C_Store hs r i th sc sp st := h
  have ha : hs[ka]? = some (a, .lst (ca.map .dat)) := ha
  have hl : st.length + ca.length ≤ 100000 := hl
  show DM K E _ ([.raw (.ref r.o), .raw (.ref a)], hs) _
  refine DM.vFld (EV.lstApart (ds := st ++ ca) (DE.catL (DE.rdC (DE.getF (DE.lift (DE.varW rfl)) h.o T.c_Store T.n_Store__taken_out rfl) h.t) (DE.lstOfL (DE.rdC (DE.lift (DE.varW rfl)) ha) rfl) rfl rfl (by rw [sizeLine_eq]; omega)) fun l => ⟨rfl, DE.lift (DE.varW rfl), i.o + 1, _, h.o, by show 6 < 1000; decide, ?_⟩) T.c_Store T.n_Store__taken_out
  exact DM.nil ⟨rfl, l, rfl⟩

theorem ok_Store_free_cells (T : Txt K mg A) (base : Heap) : FnOk P w K mg base CX0 1 A.a_Store_free_cells A.d_Store_free_cells ["self"] (spG K (pFreeC A.C_Store)) := by
  refine fnG T.F_Store_free_cells sc_Store_free_cells (fun g => rfl) (fun _ _ _ z => z) fun cdv A' outer s H E hr => ?_
  have nd := sc_Store_free_cells.nd
  refine ⟨_, pss_one (ps_ret (pe_callTy call_list_of (by rfl) T.z_list PyProof.Rows.boot_list (pa_cons (pe_fld (pv 0) rfl) pa_nil))), ?_⟩
  try simp only [cxK, cxKn]
  rintro ⟨hs, r, i, th, sc, sp, st, n, m, ka, kb, kc, a, b, c, ca, cb, cc⟩ h
  have h : StoAt A.C_Store hs r i th sc sp st := h
  show DM K E _ ([.raw (.ref r.o)], hs) _
  exact DM.retOwn (DE.lstOfL (DE.rdC (DE.getF (DE.lift (DE.varW rfl)) h.o T.c_Store T.n_Store__cells rfl) h.c) rfl) fun l => ⟨rfl, l, rfl, rfl⟩

theorem ok_Store_free_pages (T : Txt K mg A) (base : Heap) : FnOk P w K mg base CX0 1 A.a_Store_free_pages A.d_Store_free_pages ["self"] (spG K (pFreeP A.C_Store)) := by
  refine fnG T.F_Store_free_pages sc_Store_free_pages (fun g => rfl) (fun _ _ _ z => z) fun cdv A' outer s H E hr => ?_
  have nd := sc_Store_free_pages.nd
  refine ⟨_, pss_one (ps_ret (pe_callTy call_list_of (by rfl) T.z_list PyProof.Rows.boot_list (pa_cons (pe_fld (pv 0) rfl) pa_nil))), ?_⟩
  try simp only [cxK, cxKn]
  rintro ⟨hs, r, i, th, sc, sp, st, n, m, ka, kb, kc, a, b, c, ca, cb, cc⟩ h
  have h : StoAt A.C_Store hs r i th sc sp st := h
  show DM K E _ ([.raw (.ref r.o)], hs) _
  exact DM.retOwn (DE.lstOfL (DE.rdC (DE.getF (DE.lift (DE.varW rfl)) h.o T.c_Store T.n_Store__pages rfl) h.p) rfl) fun l => ⟨rfl, l, rfl, rfl⟩

theorem ok_Store_has_taken_out (T : Txt K mg A) (base : Heap) : FnOk P w K mg base CX0 1 A.a_Store_has_taken_out A.d_Store_has_taken_out ["self"] (spG K (pHas A.C_Store)) := by
  refine fnG T.F_Store_has_taken_out sc_Store_has_taken_out (fun g => rfl) (fun _ _ _ z => z) fun cdv A' outer s H E hr => ?_
  have nd := sc_Store_has_taken_out.nd
  refine ⟨_, pss_one (ps_ret (pe_cmpR op_gt (pe_callB call_len_seq (by rfl) T.z_len PySem.boot_len (pa_cons (pe_fld (pv 0) rfl) pa_nil)) pe_int (nomark _))), ?_⟩
  try simp only [cxK, cxKn]
  rintro ⟨hs, r, i, th, sc, sp, st, n, m, ka, kb, kc, a, b, c, ca, cb, cc⟩ h
  have h : StoAt A.C_Store hs r i th sc sp st := h
  show DM K E _ ([.raw (.ref r.o)], hs) _
  exact DM.ret (DE.opB (DE.lenL (DE.rdC (DE.getF (DE.lift (DE.varW rfl)) h.o T.c_Store T.n_Store__taken_out rfl) h.t) rfl) DE.int rfl) ⟨rfl, rfl, rfl⟩

theorem ok_Store_waiting (T : Txt K mg A) (base : Heap) : FnOk P w K mg base CX0 2 A.a_Store_waiting A.d_Store_waiting ["self"] (spG K (pWait A.C_Store)) := by
  refine fnG T.F_Store_waiting sc_Store_waiting (fun g => rfl) (fun _ _ _ z => z) fun cdv A' outer s H E hr => ?_
  have nd := sc_Store_waiting.nd
  refine ⟨_, pss_cons (ps_setLc (i := 1) (own := [("stamp", 2), ("cells", 3)]) (g := gTup K 2 (gCons (gName 2) (gCons (gName 3) gNil))) (tt := tYes) rfl nd rfl rfl (sw_true rfl rfl rfl (by decide +kernel)) (pi_list (pe_fld (pv 0) rfl)) (blkOk_by (N := ["self", "rows", "stamp", "cells"]) (sc := defScope S_Store_waiting) (by decide +kernel)) (fun _ _ _ _ _ => pg_tup rfl (pgs_cons (pg_name (i := 2) nd rfl (Or.inl rfl)) (pgs_cons (pg_name (i := 3) nd rfl (Or.inl rfl)) pgs_nil))) (fun _ _ _ _ _ => pts_nil) (fun _ _ _ _ _ => (pe_tupN (pa_cons (pv 2) (pa_cons (pe_callTy (show CallR _ _ (rLstOf K) from call_list_of) (by rfl) T.z_list PyProof.Rows.boot_list (pa_cons (pv 3) pa_nil)) pa_nil)))))
      <| pss_cons (ps_if (pt_val (pe_meth0 (pv 0) T.c_Store T.m_Store_has_taken_out (ok_Store_has_taken_out T base) (hr.mono (by decide)) T.b_Store_has_taken_out .nil pass0))
          (pss_one (ps_expr (pe_bm PySem.F.plainAttrs_list PySem.F.slot_list_append PySem.F.type_list_append mt_append (pv 1) (pa_cons (pe_tupN (pa_cons pe_non (pa_cons (pe_callTy call_list_of (by rfl) T.z_list PyProof.Rows.boot_list (pa_cons (pe_fld (pv 0) rfl) pa_nil)) pa_nil))) pa_nil))))
          (pss_nil))
      <| pss_one (ps_ret (pv 1)), ?_⟩
  try simp only [cxK, cxKn]
  rintro ⟨hs, r, i, th, sc, sp, st, n, m, ka, kb, kc, a, b, c, ca, cb, cc⟩ h
  have h : StoAt A.C_Store hs r i th sc sp st := h
  show DM K E _ ([.raw (.ref r.o), .un, .un, .un], hs) _
  refine DM.vSet (EV.lcNil (DE.getF (DE.lift (DE.varW rfl)) h.o T.c_Store T.n_Store__stamped rfl) h.s fun l => ?_)
  have h2 : StoAt A.C_Store ((l, .lst []) :: hs) r ⟨i.o + 1, i.c + 1, i.p + 1, i.t + 1, i.s + 1⟩ th sc sp st := ⟨h.o, h.c, h.p, h.t, h.s⟩
  show DM K E _ ([.raw (.ref r.o), .raw (.ref l), .un, .un], (l, .lst []) :: hs) _
  refine DM.vIf (EB.test (EV.methG0 (p := pHas A.C_Store) ⟨(l, .lst []) :: hs, r, ⟨i.o + 1, i.c + 1, i.p + 1, i.t + 1, i.s + 1⟩, th, sc, sp, st, n, m, ka, kb, kc, a, b, c, ca, cb, cc⟩ (DE.lift (DE.varW rfl)) h2.o rfl rfl rfl h2 (fun _ _ z => z) fun c1 hs1 ⟨e1, e2⟩ _ => ⟨_, e1, ?_⟩))
  have e2 : hs1 = (l, .lst []) :: hs := e2
  subst e2
  show (if decide ((st.length : Int) > 0) = true then _ else _)
  by_cases hn : st.length = 0
  · rw [if_neg (by rw [decide_eq_true_eq]; omega)]
    exact DM.skip (DM.ret (DE.lift (DE.varW rfl)) ⟨rfl, l, rfl, .inl ⟨hn, rfl⟩⟩)
  · rw [if_pos (by rw [decide_eq_true_eq]; omega)]
    refine DM.seq (P1 := fun o => ∃ l2 tt, o = .next ([.raw (.ref r.o), .raw (.ref l), .un, .un], (tt, Chunk.tup [.dat .none, .raw (.ref l2)]) :: (l2, Chunk.lst (st.map .dat)) :: (l, Chunk.lst [.raw (.ref tt)]) :: hs)) (DM.appCV (DE.lift (DE.varW rfl)) (i0 := 0) (cs0 := []) rfl (EV.tupC (EAs.pure DE.non rfl (EAs.cons (EV.lstApart (ds := st) (DE.lstOfL (DE.rdC (DE.getF (DE.lift (DE.varW rfl)) h2.o T.c_Store T.n_Store__taken_out rfl) h2.t) rfl) fun l2 => EAs.nil ⟨rfl, small9 (Nat.le_of_ble_eq_true rfl), fun tt => ⟨rfl, 2, [], rfl, by show 0 < sizeLine; rw [sizeLine_eq]; decide, l2, tt, rfl⟩⟩))))) ?_ ?_
    · rintro e1 ⟨l2, tt, he⟩
      obtain rfl := OutM.next.inj he
      exact DM.ret (DE.lift (DE.varW rfl)) ⟨rfl, l, rfl, .inr ⟨hn, l2, tt, rfl⟩⟩
    · rintro o ho ⟨l2, tt, rfl⟩
      cases ho

theorem ok_law_tape (T : Txt K mg A) (base : Heap) : FnOk P w K mg base CX0 1 A.a_law_tape A.d_law_tape ["script"] (spG K (pTape)) := by
  refine fnG T.F_law_tape sc_law_tape (fun g => rfl) (fun _ _ _ z => z) fun cdv A' outer s H E hr => ?_
  have nd := sc_law_tape.nd
  refine ⟨_, pss_cons (ps_set (i := 1) nd rfl (Or.inl rfl) (pe_lst pa_nil))
      <| pss_cons (ps_for PassesOwn.never rfl (pi_range1 (by rfl) T.z_range (pa_cons (pe_callB call_len_seq (by rfl) T.z_len PySem.boot_len (pa_cons (pv 0) pa_nil)) pa_nil)) (pg_name (i := 2) nd rfl (Or.inl rfl))
          (pss_cons (ps_set (i := 3) nd rfl (Or.inl rfl) (pe_callB call_abs (by rfl) T.z_abs PyProof.Rows.boot_abs (pa_cons (pe_callTy call_int1 (by rfl) T.z_int PyProof.Rows.boot_int (pa_cons (pe_ix ix_list (pv 0) (pv 2) (fun _ _ => rfl)) pa_nil)) pa_nil)))
          <| pss_one (ps_if (pt_cmpR op_ge (pv 3) (pe_op op_pow pe_int pe_int) (nomark _))
              (pss_one (ps_for PassesOwn.never rfl (pi_range1 (by rfl) T.z_range (pa_cons pe_int pa_nil)) (pg_name (i := 4) nd rfl (Or.inl rfl))
                  (pss_one (ps_if (pt_cmpR op_gt (pv 3) pe_int (nomark _))
                      (pss_cons (ps_expr (pe_bm PySem.F.plainAttrs_list PySem.F.slot_list_append PySem.F.type_list_append mt_append (pv 1) (pa_cons (pe_op op_mod (pv 3) pe_int) pa_nil)))
                      <| pss_one (ps_set (i := 3) nd rfl (Or.inl rfl) (pe_op op_fdiv (pv 3) pe_int)))
                      (pss_nil)))))
              (pss_one (ps_for PassesOwn.never rfl (pi_range1 (by rfl) T.z_range (pa_cons pe_int pa_nil)) (pg_name (i := 4) nd rfl (Or.inl rfl))
                  (pss_cons (ps_set (i := 3) nd rfl (Or.inl rfl) (pe_op op_mod (pe_op op_add (pe_op op_add (pe_op op_mul (pv 3) pe_int) (pe_op op_mul pe_int (pe_op op_add (pv 2) pe_int))) (pe_op op_mul pe_int (pv 4))) pe_int))
                  <| pss_cons (ps_set (i := 3) nd rfl (Or.inl rfl) (pe_op op_mod (pe_op op_mul (pv 3) pe_int) pe_int))
                  <| pss_one (ps_expr (pe_bm PySem.F.plainAttrs_list PySem.F.slot_list_append PySem.F.type_list_append mt_append (pv 1) (pa_cons (pe_op op_mod (pe_op op_fdiv (pv 3) pe_int) pe_int) pa_nil)))))))))
      <| pss_one (ps_ret (pv 1)), ?_⟩
  try simp only [cxK, cxKn]
  rintro ⟨ns, l0, zs0, hs, j0, k0⟩ hlen
  have hlen : ns.length ≤ 63 := hlen
  show DM K E _ ([.scr ns, .un, .un, .un, .un], hs) _
  refine DM.pSet (c := .own []) (DE.lstD DD.nil (Nat.zero_le _)) rfl ?_
  show DM K E _ ([.scr ns, .own [], .un, .un, .un], hs) _
  refine DM.seq (P1 := fun o => ∃ (zs : List Int) (c2 c3 c4 : Cell), o = .next ([.scr ns, .own (zs.map .int), c2, c3, c4], hs) ∧ TapeOk zs) (DM.ofW (P1 := fun o => ∃ (zs : List Int) (c2 c3 c4 : Cell), o = .next [.scr ns, .own (zs.map .int), c2, c3, c4] ∧ zs.length ≤ 3780 ∧ TapeOk zs ∧ isRd c2 = false ∧ isRd c3 = false ∧ isRd c4 = false) ?w ?p) ?_ ?_
  case p =>
    rintro o ⟨zs, c2, c3, c4, rfl, _, hk, r2, r3, r4⟩
    refine ⟨?_, zs, c2, c3, c4, rfl, hk⟩
    show ([Cell.scr ns, .own (zs.map .int), c2, c3, c4].all fun c => !isRd c) = true
    show (!isRd (Cell.scr ns) && (!isRd (Cell.own (zs.map .int)) && (!isRd c2 && (!isRd c3 && (!isRd c4 && true))))) = true
    rw [r2, r3, r4]
    rfl
  case w =>
    refine (DW.forR1 (n := ns.length) (by walk_at "de") (by omega) (by omega) (Inv := fun j e => ∃ (zs : List Int) (c2 c3 c4 : Cell), e = [.scr ns, .own (zs.map .int), c2, c3, c4] ∧ zs.length ≤ 60 * j ∧ TapeOk zs ∧ isRd c2 = false ∧ isRd c3 = false ∧ isRd c4 = false) ⟨[], _, _, _, rfl, Nat.zero_le _, (fun z h => by cases h), rfl, rfl, rfl⟩ ?_ ?_)
    · rintro j hj e ⟨zs, c2, c3, c4, rfl, hz, hk, r2, r3, r4⟩
      refine ⟨_, DG.name, ?_⟩
      show DW K E _ [.scr ns, .own (zs.map .int), .dat (.int j), c3, c4] _
      refine DW.seqS (e1 := [.scr ns, .own (zs.map .int), .dat (.int j), .dat (.int (if cellAt ns j < 0 then -cellAt ns j else cellAt ns j)), c4]) (by walk_at "ds") ?_
      refine DW.if_ (by walk_at "de") (fun _ => ?_) fun _ => ?_
      · refine DW.forR1 (n := 60) (by walk_at "de") (by decide) (by decide) (Inv := fun i e => ∃ (zs : List Int) (v : Int) (c4 : Cell), e = [.scr ns, .own (zs.map .int), .dat (.int j), .dat (.int v), c4] ∧ zs.length ≤ 60 * j + i ∧ TapeOk zs ∧ isRd c4 = false) ⟨zs, _, _, rfl, hz, hk, r4⟩ ?_ ?_
        · rintro i hi e ⟨zs, v, c4, rfl, hz, hk, r4⟩
          refine ⟨_, DG.name, ?_⟩
          show DW K E _ [.scr ns, .own (zs.map .int), .dat (.int j), .dat (.int v), .dat (.int i)] _
          have hi' : i < 60 := hi
          have hj' : j < ns.length := by omega
          have hl : (zs.map PyData.int).length < sizeLine := by
            rw [List.length_map, sizeLine_eq]
            omega
          refine DW.if_ (b := decide (v > 0)) (by walk_at "de") (fun h => ?_) fun h => ?_
          · refine DW.seqS (e1 := [.scr ns, .own ((zs ++ [v % 1000]).map .int), .dat (.int j), .dat (.int v), .dat (.int i)]) ?_ ?_
            · rw [← snocD]
              walk_at "ds"
            · refine DW.of (o := .next [.scr ns, .own ((zs ++ [v % 1000]).map .int), .dat (.int j), .dat (.int (v / 1000)), .dat (.int i)]) (by walk_at "ds") ⟨_, _, _, rfl, ?_, hk.snoc (by omega) (by omega), rfl⟩
              rw [List.length_append]
              show zs.length + 1 ≤ _
              omega
          · exact DW.of DS.nil ⟨_, _, _, rfl, by omega, hk, rfl⟩
        · rintro e ⟨zs, v, c4, rfl, hz, hk, r4⟩
          exact ⟨zs, _, _, _, rfl, by show zs.length ≤ 60 * (j + 1); have h60 : zs.length ≤ 60 * j + 60 := hz; omega, hk, rfl, rfl, r4⟩
      · refine DW.forR1 (n := 4) (by walk_at "de") (by decide) (by decide) (Inv := fun i e => ∃ (zs : List Int) (v : Int) (c4 : Cell), e = [.scr ns, .own (zs.map .int), .dat (.int j), .dat (.int v), c4] ∧ zs.length ≤ 60 * j + i ∧ TapeOk zs ∧ isRd c4 = false) ⟨zs, _, _, rfl, hz, hk, r4⟩ ?_ ?_
        · rintro i hi e ⟨zs, v, c4, rfl, hz, hk, r4⟩
          refine ⟨_, DG.name, ?_⟩
          show DW K E _ [.scr ns, .own (zs.map .int), .dat (.int j), .dat (.int v), .dat (.int i)] _
          have hi' : i < 4 := hi
          have hj' : j < ns.length := by omega
          have hl : (zs.map PyData.int).length < sizeLine := by
            rw [List.length_map, sizeLine_eq]
            omega
          refine DW.seqS (e1 := [.scr ns, .own (zs.map .int), .dat (.int j), .dat (.int ((v * 48271 + 69621 * ((j : Int) + 1) + 7 * (i : Int)) % 2147483647)), .dat (.int i)]) (by walk_at "ds") ?_
          generalize (v * 48271 + 69621 * ((j : Int) + 1) + 7 * (i : Int)) % 2147483647 = v2
          refine DW.seqS (e1 := [.scr ns, .own (zs.map .int), .dat (.int j), .dat (.int (v2 * 16807 % 2147483647)), .dat (.int i)]) (by walk_at "ds") ?_
          generalize v2 * 16807 % 2147483647 = v3
          refine DW.of (o := .next [.scr ns, .own ((zs ++ [v3 / 1000 % 1000]).map .int), .dat (.int j), .dat (.int v3), .dat (.int i)]) ?_ ⟨_, _, _, rfl, ?_, hk.snoc (by omega) (by omega), rfl⟩
          · rw [← snocD]
            walk_at "ds"
          · rw [List.length_append]
            show zs.length + 1 ≤ _
            omega
        · rintro e ⟨zs, v, c4, rfl, hz, hk, r4⟩
          exact ⟨zs, _, _, _, rfl, by show zs.length ≤ 60 * (j + 1); have h60 : zs.length ≤ 60 * j + 4 := hz; omega, hk, rfl, rfl, r4⟩
    · rintro e ⟨zs, c2, c3, c4, rfl, hz, hk, r2, r3, r4⟩
      exact ⟨zs, c2, c3, c4, rfl, by omega, hk, r2, r3, r4⟩
  · rintro e1 ⟨zs, c2, c3, c4, h, hk⟩
    obtain rfl := OutM.next.inj h
    exact DM.retVar (i := 1) rfl fun l => ⟨rfl, l, zs, rfl, rfl, hk⟩
  · rintro o ho ⟨zs, c2, c3, c4, rfl, _⟩
    cases ho

theorem ok_law_at (T : Txt K mg A) (base : Heap) : FnOk P w K mg base CX0 1 A.a_law_at A.d_law_at ["tape", "k"] (spG K (pAt)) := by
  refine fnG T.F_law_at sc_law_at (fun g => rfl) (fun _ _ _ z => z) fun cdv A' outer s H E hr => ?_
  have nd := sc_law_at.nd
  refine ⟨_, pss_cons (ps_if (pt_cmpR op_lt (pv 1) (pe_callB call_len_seq (by rfl) T.z_len PySem.boot_len (pa_cons (pv 0) pa_nil)) (nomark _))
          (pss_one (ps_ret (pe_ix ix_list (pv 0) (pv 1) (fun _ _ => rfl))))
          (pss_nil))
      <| pss_one (ps_ret pe_int), ?_⟩
  try simp only [cxK, cxKn]
  rintro ⟨ns, l, zs, hs, j, k⟩ ⟨hj, h0, hk⟩
  have hj : hs[j]? = some (l, .lst ((zs.map PyData.int).map .dat)) := hj
  have h0 : 0 ≤ k := h0
  show DM K E _ ([.raw (.ref l), .dat (.int k)], hs) _
  have ll : (((zs.map PyData.int).map Cell.dat).length : Int) = zs.length := by simp
  by_cases h : k < (zs.length : Int)
  · refine DM.seqT (DB.as (DB.test (DE.opB (k := decide (k < (((zs.map PyData.int).map Cell.dat).length : Int))) (DE.lift (DE.varD rfl)) (DE.lenC (DE.lift (DE.varW rfl)) hj) rfl)) (by rw [ll]; exact decide_eq_true h)) ?_
    have hz : zs[k.toNat]? = some (cellAt zs k) := by
      have := cellAt_in h0 h
      unfold L2.atI ixN at this
      rw [if_pos h0, if_pos h] at this
      exact this
    have hix : ixN ((zs.map PyData.int).map Cell.dat).length k = some k.toNat := by
      unfold ixN
      rw [if_pos h0, ll, if_pos h]
    refine DM.retSeq (DM.ret (DE.getL (j := k.toNat) (c := .dat (.int (cellAt zs k))) (DE.lift (DE.varW rfl)) (DE.lift (DE.varD rfl)) hj hix (by rw [List.getElem?_map, List.getElem?_map, hz]; rfl)) ⟨rfl, cellAt zs k, rfl, TapeOk.at_ hk k, rfl⟩)
  · refine DM.seqF (DB.as (DB.test (DE.opB (k := decide (k < (((zs.map PyData.int).map Cell.dat).length : Int))) (DE.lift (DE.varD rfl)) (DE.lenC (DE.lift (DE.varW rfl)) hj) rfl)) (by rw [ll]; exact decide_eq_false h)) (DM.skip ?_)
    exact DM.ret DE.int ⟨rfl, 0, rfl, by decide, rfl⟩

theorem ok_law_without (T : Txt K mg A) (base : Heap) : FnOk P w K mg base CX0 1 A.a_law_without A.d_law_without ["rows", "gone"] (spD K fWo) := by
  refine fnD T.F_law_without sc_law_without (by rintro cs c ⟨rs, gs, rfl, ⟨hl, hr1, hg⟩, rfl⟩; rfl) fun cdv A' outer s H E hr => ?_
  have nd := sc_law_without.nd
  refine ⟨_, pss_one (ps_ret (pe_lc (own := [("row", 2)]) (g := gName 2) rfl nd (pi_list (pv 0)) (blkOk_by (N := ["rows", "gone", "row"]) (sc := defScope S_law_without) (by decide +kernel)) (fun _ _ _ _ _ => pg_name (i := 2) nd rfl (Or.inl rfl)) (fun _ _ _ _ _ => (pts_one (pt_cmpR (show OpR _ (compareOp .NotIn) (rNotInD K) from op_notInD (room65 hr)) (pv 2) (pv 1) (by with_unfolding_all rfl)))) (fun _ _ _ _ _ => (pv 2)))), ?_⟩
  all_goals try simp only [cxK, cxKn]
  rintro cs c ⟨rs, gs, rfl, ⟨hl, hr1, hg⟩, rfl⟩
  refine ⟨_, ?h, .inl rfl⟩
  refine DS.ret (DE.as (DE.lcL (DE.varR rfl) rfl (Grow.filter (fun r => !(gs.any fun z => PyData.eqv z r)) (fun r => r) (by rw [sizeLine_eq]; omega) fun d hd => ⟨DB.test (DE.ninL (DE.varD rfl) (DE.varR rfl) rfl rfl (hr1 d hd) hg), fun _ => DE.varD rfl⟩)) ?_)
  rw [List.take_length, List.map_id'']
  intro x
  rfl

end
end K07
namespace K07
section
variable {P : Program} {w : World} {K : PySem.W.Frag} {mg : Str → Option Value} {A : Ad}
theorem ok_Store_init (T : Txt K mg A) (base : Heap) : FnOk P w K mg base CX0 2 A.a_Store_init A.d_Store_init ["self", "layout", "thread"] (spG K (pStoInit A.C_Store A.C_Layout)) := by
  refine fnG T.F_Store_init sc_Store_init (fun g => rfl) (fun _ _ _ z => z) fun cdv A' outer s H E hr => ?_
  have nd := sc_Store_init.nd
  refine ⟨_, pss_cons (ps_fld (pv 0) (pv 1) rfl)
      <| pss_cons (ps_fld (pv 0) (pv 2) rfl)
      <| pss_cons (ps_set (i := 3) nd rfl (Or.inl rfl) (pe_call (ok_own T base) (hr.mono (by decide)) (by rfl) T.g_own T.F_own.kp T.b_own .nil pass0 (pa_cons (pv 2) (pa_cons (pe_fld (pv 1) rfl) (pa_cons (pe_fld (pv 1) rfl) (pa_cons (pe_fld (pv 1) rfl) pa_nil))))))
      <| pss_cons (ps_set (i := 4) nd rfl (Or.inl rfl) (pe_call (ok_own T base) (hr.mono (by decide)) (by rfl) T.g_own T.F_own.kp T.b_own .nil pass0 (pa_cons (pv 2) (pa_cons (pe_fld (pv 1) rfl) (pa_cons pe_int (pa_cons (pe_fld (pv 1) rfl) pa_nil))))))
      <| pss_cons (ps_fld (pv 0) (pe_lc (own := [("index", 5)]) (g := gName 5) (tt := tYes) rfl nd (pi_list (pv 3)) (blkOk_by (N := ["self", "layout", "thread", "cells", "pages", "index", "page"]) (sc := defScope S_Store_init) (by decide +kernel)) (fun _ _ _ _ _ => pg_name (i := 5) nd rfl (Or.inl rfl)) (fun _ _ _ _ _ => pts_nil) (fun _ _ _ _ _ => (pe_meth (pv 1) T.c_Layout T.m_Layout_record (ok_Layout_record T base) (hr.mono (by decide)) T.b_Layout_record .nil pass0 (pa_cons (pv 5) pa_nil)))) rfl)
      <| pss_cons (ps_fld (pv 0) (pe_lc (own := [("page", 6)]) (g := gName 6) (tt := tYes) rfl nd (pi_list (pv 4)) (blkOk_by (N := ["self", "layout", "thread", "cells", "pages", "index", "page"]) (sc := defScope S_Store_init) (by decide +kernel)) (fun _ _ _ _ _ => pg_name (i := 6) nd rfl (Or.inl rfl)) (fun _ _ _ _ _ => pts_nil) (fun _ _ _ _ _ => (pe_tupN (pa_cons (pv 6) (pa_cons (pe_meth (pv 1) T.c_Layout T.m_Layout_record (ok_Layout_record T base) (hr.mono (by decide)) T.b_Layout_record .nil pass0 (pa_cons (pv 6) pa_nil)) pa_nil))))) rfl)
      <| pss_cons (ps_fld (pv 0) (pe_lst pa_nil) rfl)
      <| pss_one (ps_fld (pv 0) (pe_lst pa_nil) rfl), ?_⟩
  try simp only [cxK, cxKn]
  rintro ⟨o, lay, l, th, t, p, r, rest⟩ ⟨hl, ht, hp⟩
  have hl : rest[l]? = some (lay, .ins A.C_Layout (layF t p r)) := hl
  have ht : 1 ≤ t ∧ t ≤ 4 := ht
  have hp : 1 ≤ p ∧ p ≤ r ∧ r ≤ 1000 := hp
  have hln : ∀ a b : Int, 0 ≤ a → b ≤ 1000 → ((ownL th t a b).map PyData.int).length ≤ 1000 := fun a b h0 h1 => by
    rw [List.length_map]
    have := List.length_filter_le (fun k => decide (k % t = th)) ((List.range (b - a).toNat).map fun j : Nat => a + (j : Int))
    rw [List.length_map, List.length_range] at this
    show ((_ : List Int).filter _).length ≤ 1000
    omega
  show DM K E _ ([.raw (.ref o), .raw (.ref lay), .dat (.int th), .un, .un, .un, .un], (o, .ins A.C_Store []) :: rest) _
  refine DM.pFld (i := 0) (c := .raw (.ref lay)) (DE.lift (DE.varW rfl)) rfl (DE.lift (DE.varW rfl)) rfl T.c_Store T.n_Store_layout (by simp) ?_
  refine DM.pFld (i := 0) (c := .dat (.int th)) (DE.lift (DE.varD rfl)) rfl (DE.lift (DE.varW rfl)) rfl T.c_Store T.n_Store_thread (by simp [Esp.putC]) ?_
  refine DM.pSet (c := .own ((ownL th t p r).map .int)) (DE.call (DA.cons (DE.lift (DE.varD rfl)) (DA.cons (DE.getF (DE.lift (DE.varW rfl)) (i := l + 1) hl T.c_Layout T.n_Layout_threads rfl) (DA.cons (DE.getF (DE.lift (DE.varW rfl)) (i := l + 1) hl T.c_Layout T.n_Layout_pages rfl) (DA.cons (DE.getF (DE.lift (DE.varW rfl)) (i := l + 1) hl T.c_Layout T.n_Layout_records rfl) DA.nil)))) ⟨th, t, p, r, rfl, ⟨ht, ⟨by omega, by omega⟩, by omega, by omega⟩, rfl⟩) rfl ?_
  refine DM.pSet (c := .own ((ownL th t 1 p).map .int)) (DE.call (DA.cons (DE.lift (DE.varD rfl)) (DA.cons (DE.getF (DE.lift (DE.varW rfl)) (i := l + 1) hl T.c_Layout T.n_Layout_threads rfl) (DA.cons DE.int (DA.cons (DE.getF (DE.lift (DE.varW rfl)) (i := l + 1) hl T.c_Layout T.n_Layout_pages rfl) DA.nil)))) ⟨th, t, 1, p, rfl, ⟨ht, ⟨by omega, by omega⟩, by omega, by omega⟩, rfl⟩) rfl ?_
  show DM K E _ ([.raw (.ref o), .raw (.ref lay), .dat (.int th), .own ((ownL th t p r).map .int), .own ((ownL th t 1 p).map .int), .un, .un], (o, .ins A.C_Store [("layout", .raw (.ref lay)), ("thread", .dat (.int th))]) :: rest) _
  have n1 := hln p r (by omega) (by omega)
  have n2 := hln 1 p (by omega) (by omega)
  refine DM.vFld (EV.lstApart (ds := (cellsL th t p r).map .int) (DE.as (DE.lcH (f := fun d => .int (5 + p + iOf d)) (DE.lift (DE.varO rfl)) rfl (by rw [sizeLine_eq]; omega) fun d hd => ?_) ?_) fun c1 => ⟨rfl, DE.lift (DE.varW rfl), 1, _, rfl, (by show 2 < 1000; decide), ?_⟩) T.c_Store T.n_Store__cells
  · obtain ⟨k, _, rfl⟩ := List.mem_map.mp hd
    exact DE.meth (DE.viewJ (i := l + 1) (DE.lift (DE.varW rfl)) hl (lay_det _ _ _)) rfl (DA.cons (DE.lift (DE.varD rfl)) DA.nil) ⟨t, p, r, k, rfl, rfl⟩
  · unfold cellsL
    rw [List.map_map, List.map_map]
    rfl
  refine DM.vFld (EV.lstApart (ds := (pagesL th t p).map ipD) (DE.as (DE.lcH (f := fun d => .tuple [d, .int (5 + p + iOf d)]) (DE.lift (DE.varO rfl)) rfl (by rw [sizeLine_eq]; omega) fun d hd => ?_) ?_) fun p1 => ⟨rfl, DE.lift (DE.varW rfl), 2, _, rfl, (by show 3 < 1000; decide), ?_⟩) T.c_Store T.n_Store__pages
  · obtain ⟨k, _, rfl⟩ := List.mem_map.mp hd
    exact DE.tupD (DD.cons (DE.lift (DE.varD rfl)) (DD.cons (DE.meth (DE.viewJ (i := l + 2) (DE.lift (DE.varW rfl)) hl (lay_det _ _ _)) rfl (DA.cons (DE.lift (DE.varD rfl)) DA.nil) ⟨t, p, r, k, rfl, rfl⟩) DD.nil)) (small9 (Nat.le_of_ble_eq_true rfl))
  · unfold pagesL
    rw [List.map_map, List.map_map]
    rfl
  refine DM.vFld (EV.lstApart (ds := []) (DE.lstD DD.nil (Nat.zero_le _)) fun t1 => ⟨rfl, DE.lift (DE.varW rfl), 3, _, rfl, (by show 4 < 1000; decide), ?_⟩) T.c_Store T.n_Store__taken_out
  refine DM.setFV (EV.lstApart (ds := []) (DE.lstD DD.nil (Nat.zero_le _)) fun s1 => ⟨rfl, DE.lift (DE.varW rfl), 4, _, rfl, (by show 5 < 1000; decide), ?_⟩) T.c_Store T.n_Store__stamped
  exact ⟨rfl, c1, p1, t1, s1, rfl⟩

end
end K07
namespace K07
section
variable {P : Program} {w : World} {K : PySem.W.Frag} {mg : Str → Option Value} {A : Ad}
theorem ok_law_same (T : Txt K mg A) (base : Heap) : FnOk P w K mg base CX0 3 A.a_law_same A.d_law_same ["store", "cells", "pages", "out"] (spG K (pSame A.C_Store)) := by
  refine fnG T.F_law_same sc_law_same (fun g => rfl) (fun _ _ _ z => z) fun cdv A' outer s H E hr => ?_
  have nd := sc_law_same.nd
  refine ⟨_, pss_cons (ps_set (i := 4) nd rfl (Or.inl rfl) (pe_meth0 (pv 0) T.c_Store T.m_Store_free_cells (ok_Store_free_cells T base) (hr.mono (by decide)) T.b_Store_free_cells .nil pass0))
      <| pss_cons (ps_set (i := 5) nd rfl (Or.inl rfl) (pe_meth0 (pv 0) T.c_Store T.m_Store_free_pages (ok_Store_free_pages T base) (hr.mono (by decide)) T.b_Store_free_pages .nil pass0))
      <| pss_cons (ps_if (PW.pt (pw_or (pt_not (pt_val (pe_callB call_isi (by rfl) T.z_isinstance boot_isinstance (pa_cons (pv 4) (pa_cons (pe_bltn (v := .ty "list") (by rfl) T.z_list PyProof.Rows.boot_list rfl) pa_nil))))) (pw_or (pt_not (pt_val (pe_callB call_isi (by rfl) T.z_isinstance boot_isinstance (pa_cons (pv 5) (pa_cons (pe_bltn (v := .ty "list") (by rfl) T.z_list PyProof.Rows.boot_list rfl) pa_nil))))) (pw_or (pt_cmpR (op_neD hr.units) (pv 4) (pe_callB (cr_sortedD (room65 hr)) (by rfl) T.z_sorted PyProof.Rows.boot_sorted (pa_cons (pv 1) pa_nil)) (nomark _)) (pw_or1 (pt_cmpR (op_neD hr.units) (pv 5) (pe_callB (cr_sortedD (room65 hr)) (by rfl) T.z_sorted PyProof.Rows.boot_sorted (pa_cons (pv 2) pa_nil)) (nomark _)))))))
          (pss_one (ps_ret pe_bl))
          (pss_nil))
      <| pss_cons (ps_expr (pe_bm PySem.F.plainAttrs_list PySem.F.slot_list_append PySem.F.type_list_append mt_append (pv 4) (pa_cons pe_int pa_nil)))
      <| pss_cons (ps_expr (pe_bm PySem.F.plainAttrs_list PySem.F.slot_list_append PySem.F.type_list_append mt_append (pv 5) (pa_cons (pe_tupN (pa_cons pe_int (pa_cons pe_int pa_nil))) pa_nil)))
      <| pss_cons (ps_set (i := 6) nd rfl (Or.inl rfl) (pe_lst pa_nil))
      <| pss_cons (ps_if (pt_cmpR op_gt (pe_callB call_len_seq (by rfl) T.z_len PySem.boot_len (pa_cons (pv 3) pa_nil)) pe_int (nomark _))
          (pss_one (ps_set (i := 6) nd rfl (Or.inl rfl) (pe_lst (pa_cons (pe_tupN (pa_cons pe_non (pa_cons (pe_callTy call_list_of (by rfl) T.z_list PyProof.Rows.boot_list (pa_cons (pv 3) pa_nil)) pa_nil))) pa_nil))))
          (pss_nil))
      <| pss_one (ps_ret (pe_and (pe_cmpR (op_eqD hr.units) (pe_meth0 (pv 0) T.c_Store T.m_Store_waiting (ok_Store_waiting T base) (hr.mono (by decide)) T.b_Store_waiting .nil pass0) (pv 6) (nomark _)) (pe_and (pe_cmpR (op_eqD hr.units) (pe_meth0 (pv 0) T.c_Store T.m_Store_free_cells (ok_Store_free_cells T base) (hr.mono (by decide)) T.b_Store_free_cells .nil pass0) (pe_callB (cr_sortedD (room65 hr)) (by rfl) T.z_sorted PyProof.Rows.boot_sorted (pa_cons (pv 1) pa_nil)) (nomark _)) (pe_one (pe_cmpR (op_eqD hr.units) (pe_meth0 (pv 0) T.c_Store T.m_Store_free_pages (ok_Store_free_pages T base) (hr.mono (by decide)) T.b_Store_free_pages .nil pass0) (pe_callB (cr_sortedD (room65 hr)) (by rfl) T.z_sorted PyProof.Rows.boot_sorted (pa_cons (pv 2) pa_nil)) (nomark _)))))), ?_⟩
  try simp only [cxK, cxKn]
  rintro ⟨hs, r, i, th, sc, sp, st, n, m, ka, kb, kc, a, b, c, ca, cb, cc⟩ ⟨h, ⟨ha, hb, hc⟩, ⟨e1, e2, e3⟩, q1, q2, q3, q4⟩
  have h : StoAt A.C_Store hs r i th sc sp st := h
  have ha : hs[ka]? = some (a, .lst (ca.map .dat)) := ha
  have hb : hs[kb]? = some (b, .lst (cb.map .dat)) := hb
  have hc : hs[kc]? = some (c, .lst (cc.map .dat)) := hc
  obtain rfl : sc = srtD ca := e1
  obtain rfl : sp = srtD cb := e2
  obtain rfl : st = cc := e3
  have q1 : Sorts ca := q1
  have q2 : Sorts cb := q2
  have q3 : st.length ≤ 100000 := q3
  have q4 : DkAll 3 st := q4
  have lc : (srtD ca).length ≤ 100000 := by
    unfold srtD
    rw [List.length_mergeSort]
    exact q1.le
  have lp : (srtD cb).length ≤ 100000 := by
    unfold srtD
    rw [List.length_mergeSort]
    exact q2.le
  have z1 : ca.length ≤ sizeLine := by rw [sizeLine_eq]; have := q1.le; omega
  have z2 : cb.length ≤ sizeLine := by rw [sizeLine_eq]; have := q2.le; omega
  show DM K E _ ([.raw (.ref r.o), .raw (.ref a), .raw (.ref b), .raw (.ref c), .un, .un, .un], hs) _
  refine DM.vSet (EV.methG0 (p := pFreeC A.C_Store) ⟨hs, r, i, th, srtD ca, srtD cb, st, n, m, ka, kb, kc, a, b, c, ca, cb, st⟩ (DE.lift (DE.varW rfl)) h.o rfl rfl rfl h (fun _ _ z => z) fun c1 hs1 ⟨l, e1, e2⟩ _ => ?_)
  subst e1
  have e2 : hs1 = (l, .lst ((srtD ca).map .dat)) :: hs := e2
  subst e2
  have h1 := h.push (l, .lst ((srtD ca).map .dat))
  refine DM.vSet (EV.methG0 (p := pFreeP A.C_Store) ⟨_, r, i.up, th, srtD ca, srtD cb, st, n, m, ka, kb, kc, a, b, c, ca, cb, st⟩ (DE.lift (DE.varW rfl)) h1.o rfl rfl rfl h1 (fun _ _ z => z) fun c1 hs1 ⟨l2, e1, e2⟩ _ => ?_)
  subst e1
  have e2 : hs1 = (l2, .lst ((srtD cb).map .dat)) :: (l, .lst ((srtD ca).map .dat)) :: hs := e2
  subst e2
  show DM K E _ ([.raw (.ref r.o), .raw (.ref a), .raw (.ref b), .raw (.ref c), .raw (.ref l), .raw (.ref l2), .un], (l2, .lst ((srtD cb).map .dat)) :: (l, .lst ((srtD ca).map .dat)) :: hs) _
  refine DM.seqF (DB.as (DB.or (DB.not (DB.test (DE.isiC (i := 1) (DE.lift (DE.varW rfl)) rfl (by decide +kernel : kitB "list" "list" = some true)))) fun _ => DB.or (DB.not (DB.test (DE.isiC (i := 0) (DE.lift (DE.varW rfl)) rfl (by decide +kernel : kitB "list" "list" = some true)))) fun _ => DB.or (DB.test (DE.neL (DE.rdC (i := 1) (ds := srtD ca) (DE.lift (DE.varW rfl)) rfl) (DE.sorted (DE.rdC (i := ka + 2) (DE.lift (DE.varW rfl)) ha) rfl q1.al q1.so z1 q1.de) rfl rfl q1.sh q1.sh)) fun _ => DB.test (DE.neL (DE.rdC (i := 0) (ds := srtD cb) (DE.lift (DE.varW rfl)) rfl) (DE.sorted (DE.rdC (i := kb + 2) (DE.lift (DE.varW rfl)) hb) rfl q2.al q2.so z2 q2.de) rfl rfl q2.sh q2.sh)) (by rw [q1.sh.refl, q2.sh.refl]; rfl)) (DM.skip ?_)
  refine DM.then (e1 := ([.raw (.ref r.o), .raw (.ref a), .raw (.ref b), .raw (.ref c), .raw (.ref l), .raw (.ref l2), .un], (l2, .lst ((srtD cb).map .dat)) :: (l, .lst ((srtD ca ++ [PyData.int 3]).map .dat)) :: hs)) (DM.appD (i := 1) (ds := srtD ca) (d := .int 3) (DE.lift (DE.varW rfl)) DE.int rfl (by rw [sizeLine_eq]; omega) rfl) ?_
  refine DM.then (e1 := ([.raw (.ref r.o), .raw (.ref a), .raw (.ref b), .raw (.ref c), .raw (.ref l), .raw (.ref l2), .un], (l2, .lst ((srtD cb ++ [PyData.tuple [.int 2, .int 2]]).map .dat)) :: (l, .lst ((srtD ca ++ [PyData.int 3]).map .dat)) :: hs)) (DM.appD (i := 0) (ds := srtD cb) (d := .tuple [.int 2, .int 2]) (DE.lift (DE.varW rfl)) (DE.tupD (DD.cons DE.int (DD.cons DE.int DD.nil)) (small9 (Nat.le_of_ble_eq_true rfl))) rfl (by rw [sizeLine_eq]; omega) rfl) ?_
  generalize hx : (l2, Chunk.lst ((srtD cb ++ [PyData.tuple [.int 2, .int 2]]).map .dat)) = x2
  generalize hy : (l, Chunk.lst ((srtD ca ++ [PyData.int 3]).map .dat)) = x1
  refine DM.vSet (EV.lstApart (ds := []) (DE.lstD DD.nil (Nat.zero_le _)) fun l3 => ?_)
  show DM K E _ ([.raw (.ref r.o), .raw (.ref a), .raw (.ref b), .raw (.ref c), .raw (.ref l), .raw (.ref l2), .raw (.ref l3)], (l3, .lst []) :: x2 :: x1 :: hs) _
  have h3 := ((h.push x1).push x2).push (l3, .lst [])
  have tst := DB.test (DE.opB (g := fun i j => V.bl (decide (i > j))) (k := decide ((st.length : Int) > 0)) (DE.lenL (DE.rdC (e := ([.raw (.ref r.o), .raw (.ref a), .raw (.ref b), .raw (.ref c), .raw (.ref l), .raw (.ref l2), .raw (.ref l3)], (l3, .lst []) :: x2 :: x1 :: hs)) (i := kc + 3) (DE.lift (DE.varW (i := 3) rfl)) hc) rfl) (DE.int (K := K) (i := 0)) rfl)
  -- the end: free_cells, free_pages
  have fin : ∀ (c0 : Cell) (ext : Hs) (j : StI), StoAt A.C_Store (ext ++ hs) r j th (srtD ca) (srtD cb) st → EV K (tAndV (tOp (rEqD K) (tMeth A.C_Store "free_cells" (spG K (pFreeC A.C_Store)) [] E0 (tVar 0) tNil) (tCB rSortD (tCons (tVar 1) tNil))) (tOp (rEqD K) (tMeth A.C_Store "free_pages" (spG K (pFreeP A.C_Store)) [] E0 (tVar 0) tNil) (tCB rSortD (tCons (tVar 2) tNil)))) ([.raw (.ref r.o), .raw (.ref a), .raw (.ref b), .raw (.ref c), .raw (.ref l), .raw (.ref l2), c0], ext ++ hs) fun c h => okV c = true ∧ c = .dat (.bool true) ∧ ∃ ext : Hs, h = ext ++ hs := fun c0 ext j hj => by
    have at_ : ∀ (k : Nat) (x : Addr × Chunk), hs[k]? = some x → (ext ++ hs)[ext.length + k]? = some x := fun k x hk => by
      rw [List.getElem?_append_right (Nat.le_add_right _ _), Nat.add_sub_cancel_left]
      exact hk
    refine EV.andV (EV.op (EV.methG0 (p := pFreeC A.C_Store) ⟨_, r, j, th, srtD ca, srtD cb, st, n, m, ka, kb, kc, a, b, c, ca, cb, st⟩ (DE.lift (DE.varW rfl)) hj.o rfl rfl rfl hj (fun _ _ z => z) fun c1 hs1 ⟨l5, e1, e2⟩ _ => EV.pure (c := .own (srtD ca)) (DE.sorted (DE.rdC (i := ext.length + ka + 1) (DE.lift (DE.varW rfl)) (by subst e2; exact at_ ka _ ha)) rfl q1.al q1.so z1 q1.de) rfl ?_))
    subst e1
    have e2 : hs1 = (l5, .lst ((srtD ca).map .dat)) :: (ext ++ hs) := e2
    subst e2
    refine ⟨_, DE.eqL (DE.rdC (i := 0) (ds := srtD ca) (DE.lift (DE.varW rfl)) rfl) (DE.lift (DE.varO rfl)) rfl rfl q1.sh q1.sh, rfl, true, by rw [q1.sh.refl], ?_⟩
    rw [if_pos rfl]
    have hj2 := hj.push (l5, .lst ((srtD ca).map .dat))
    refine EV.op (EV.methG0 (p := pFreeP A.C_Store) ⟨_, r, j.up, th, srtD ca, srtD cb, st, n, m, ka, kb, kc, a, b, c, ca, cb, st⟩ (DE.lift (DE.varW rfl)) hj2.o rfl rfl rfl hj2 (fun _ _ z => z) fun c1 hs1 ⟨l6, e1, e2⟩ _ => EV.pure (c := .own (srtD cb)) (DE.sorted (DE.rdC (i := ext.length + kb + 2) (DE.lift (DE.varW rfl)) (by subst e2; exact at_ kb _ hb)) rfl q2.al q2.so z2 q2.de) rfl ?_)
    subst e1
    have e2 : hs1 = (l6, .lst ((srtD cb).map .dat)) :: (l5, .lst ((srtD ca).map .dat)) :: (ext ++ hs) := e2
    subst e2
    refine ⟨_, DE.eqL (DE.rdC (i := 0) (ds := srtD cb) (DE.lift (DE.varW rfl)) rfl) (DE.lift (DE.varO rfl)) rfl rfl q2.sh q2.sh, rfl, rfl, by rw [q2.sh.refl], (l6, .lst ((srtD cb).map .dat)) :: (l5, .lst ((srtD ca).map .dat)) :: ext, rfl⟩
  by_cases hn : st.length = 0
  · refine DM.seqF (DB.as tst (by rw [decide_eq_false_iff_not]; omega)) (DM.skip ?_)
    refine DM.retV (EV.andV (EV.op (EV.methG0 (p := pWait A.C_Store) ⟨_, r, i.up.up.up, th, srtD ca, srtD cb, st, n, m, ka, kb, kc, a, b, c, ca, cb, st⟩ (DE.lift (DE.varW rfl)) h3.o rfl rfl rfl h3 (fun _ _ z => z) fun c1 hs1 ⟨l5, e1, e2⟩ _ => EV.pure (c := .raw (.ref l3)) (DE.lift (DE.varW rfl)) rfl ?_)))
    subst e1
    rcases e2 with ⟨_, e2⟩ | ⟨nn, _⟩
    · have e2 : hs1 = (l5, .lst []) :: (l3, .lst []) :: x2 :: x1 :: hs := e2
      subst e2
      have shn : Shp (.list []) := (Dk.lst (k := 7) .nil).shp8
      refine ⟨_, DE.eqDeep (DE.lift (DE.varW rfl)) (DE.lift (DE.varW rfl)) (.lst (cs := []) List.mem_cons_self .nil) (.lst (cs := []) (List.mem_cons_of_mem _ List.mem_cons_self) .nil) shn shn, rfl, true, by rw [shn.refl], ?_⟩
      rw [if_pos rfl]
      exact fin (.raw (.ref l3)) [(l5, .lst []), (l3, .lst []), x2, x1] _ (h3.push (l5, .lst []))
    · exact absurd hn nn
  · refine DM.seqT (DB.as tst (by rw [decide_eq_true_eq]; omega)) ?_
    refine DM.vSet (EV.lstC (EAs.cons (EV.tupC (EAs.pure DE.non rfl (EAs.cons (EV.lstApart (ds := st) (DE.lstOfL (DE.rdC (i := kc + 3) (DE.lift (DE.varW rfl)) hc) rfl) fun l4 => EAs.nil ⟨rfl, small9 (Nat.le_of_ble_eq_true rfl), fun t4 => EAs.nil ⟨rfl, small9 (Nat.le_of_ble_eq_true rfl), fun d4 => ?_⟩⟩))))))
    show DM K E _ ([.raw (.ref r.o), .raw (.ref a), .raw (.ref b), .raw (.ref c), .raw (.ref l), .raw (.ref l2), .raw (.ref d4)], (d4, .lst [.raw (.ref t4)]) :: (t4, .tup [.dat .none, .raw (.ref l4)]) :: (l4, .lst (st.map .dat)) :: (l3, .lst []) :: x2 :: x1 :: hs) _
    have h6 := ((h3.push (l4, .lst (st.map .dat))).push (t4, .tup [.dat .none, .raw (.ref l4)])).push (d4, .lst [.raw (.ref t4)])
    refine DM.retV (EV.andV (EV.op (EV.methG0 (p := pWait A.C_Store) ⟨_, r, i.up.up.up.up.up.up, th, srtD ca, srtD cb, st, n, m, ka, kb, kc, a, b, c, ca, cb, st⟩ (DE.lift (DE.varW rfl)) h6.o rfl rfl rfl h6 (fun _ _ z => z) fun c1 hs1 ⟨l5, e1, e2⟩ _ => EV.pure (c := .raw (.ref d4)) (DE.lift (DE.varW rfl)) rfl ?_)))
    subst e1
    rcases e2 with ⟨nn, _⟩ | ⟨_, l7, t7, e2⟩
    · exact absurd nn hn
    · have e2 : hs1 = (t7, .tup [.dat .none, .raw (.ref l7)]) :: (l7, .lst (st.map .dat)) :: (l5, .lst [.raw (.ref t7)]) :: (d4, .lst [.raw (.ref t4)]) :: (t4, .tup [.dat .none, .raw (.ref l4)]) :: (l4, .lst (st.map .dat)) :: (l3, .lst []) :: x2 :: x1 :: hs := e2
      subst e2
      have shw : Shp (.list [.tuple [.none, .list st]]) := (Dk.lst (k := 7) (.cons (Dk.tup (k := 6) (.cons Dk.non (.cons (Dk.lst (k := 5) (DkAll.mem fun d hd => let w := q4.of_mem d hd; ⟨w.1, Nat.le_trans w.2 (by decide)⟩)) .nil))) .nil)).shp8
      have M := fun (k : Nat) (x : Addr × Chunk) (hk : ((t7, Chunk.tup [.dat .none, .raw (.ref l7)]) :: (l7, Chunk.lst (st.map .dat)) :: (l5, Chunk.lst [.raw (.ref t7)]) :: (d4, Chunk.lst [.raw (.ref t4)]) :: (t4, Chunk.tup [.dat .none, .raw (.ref l4)]) :: (l4, Chunk.lst (st.map .dat)) :: (l3, Chunk.lst []) :: x2 :: x1 :: hs)[k]? = some x) => List.mem_of_getElem? hk
      refine ⟨_, DE.eqDeep (a := .list [.tuple [.none, .list st]]) (b := .list [.tuple [.none, .list st]]) (DE.lift (DE.varW rfl)) (DE.lift (DE.varW rfl)) (.lst (M 2 _ rfl) (.cons (.tup (M 0 _ rfl) (.cons (.dat _) (.cons (.lst (M 1 _ rfl) (DeepAll.dats _)) .nil))) .nil)) (.lst (M 3 _ rfl) (.cons (.tup (M 4 _ rfl) (.cons (.dat _) (.cons (.lst (M 5 _ rfl) (DeepAll.dats _)) .nil))) .nil)) shw shw, rfl, true, by rw [shw.refl], ?_⟩
      rw [if_pos rfl]
      exact fin (.raw (.ref d4)) [(t7, .tup [.dat .none, .raw (.ref l7)]), (l7, .lst (st.map .dat)), (l5, .lst [.raw (.ref t7)]), (d4, .lst [.raw (.ref t4)]), (t4, .tup [.dat .none, .raw (.ref l4)]), (l4, .lst (st.map .dat)), (l3, .lst []), x2, x1] _ (((h6.push (l5, .lst [.raw (.ref t7)])).push (l7, .lst (st.map .dat))).push (t7, .tup [.dat .none, .raw (.ref l7)]))

end
end K07
namespace K07

abbrev canon (CS : Addr) (r : StR) (th : Int) (a b d f g l : Addr) (LC : List Int) (LP : List (Int × Int)) (LT : List Int) (LH : List (Int × Int)) (LO zs : List Int) : Hs := [(r.o, .ins CS (stoF r th)), (r.c, .lst ((srtD (LC.map PyData.int)).map .dat)), (r.p, .lst ((srtD (LP.map ipD)).map .dat)), (r.t, .lst ((LO.map PyData.int).map .dat)), (r.s, .lst []), (a, .lst ((LC.map PyData.int).map .dat)), (b, .lst ((LP.map ipD).map .dat)), (d, .lst ((LT.map PyData.int).map .dat)), (f, .lst ((LH.map ipD).map .dat)), (g, .lst ((LO.map PyData.int).map .dat)), (l, .lst ((zs.map PyData.int).map .dat))]
theorem stoC {CS : Addr} {r : StR} {th : Int} {a b d f g l : Addr} {LC : List Int} {LP : List (Int × Int)} {LT : List Int} {LH : List (Int × Int)} {LO zs : List Int} : StoAt CS (canon CS r th a b d f g l LC LP LT LH LO zs) r ⟨0, 1, 2, 3, 4⟩ th (srtD (LC.map .int)) (srtD (LP.map ipD)) (LO.map .int) := ⟨rfl, rfl, rfl, rfl, rfl⟩
abbrev e7 (ns : List Int) (l : Addr) (t many : Int) (lay : Addr) (th : Int) (o : Addr) (k : Cell) (a b d f g : Addr) (c13 c14 c15 c16 c17 c18 c19 c20 c21 : Cell) : List Cell := [.scr ns, .raw (.ref l), .dat (.int t), .dat (.int many), .raw (.ref lay), .dat (.int th), .raw (.ref o), k, .raw (.ref a), .raw (.ref b), .raw (.ref d), .raw (.ref f), .raw (.ref g), c13, c14, c15, c16, c17, c18, c19, c20, c21]
structure I7 (LC : List Int) (LP : List (Int × Int)) (LT : List Int) (LH : List (Int × Int)) (LO : List Int) : Prop where
  n1 : (LC ++ LT).Nodup
  n2 : (LP ++ LH).Nodup
  s1 : LC.length + LT.length + LO.length ≤ 2000
  s2 : LP.length + LH.length ≤ 2000
theorem own_asc (th t a b : Int) : (ownL th t a b).Pairwise (· < ·) := by
  refine List.Pairwise.filter _ ?_
  rw [List.pairwise_map]
  exact List.pairwise_lt_range.imp fun h => by omega
theorem own_len (th t a b : Int) (h0 : 0 ≤ a) (h1 : b ≤ 1000) : (ownL th t a b).length ≤ 1000 := by
  have := List.length_filter_le (fun k => decide (k % t = th)) ((List.range (b - a).toNat).map fun j : Nat => a + (j : Int))
  rw [List.length_map, List.length_range] at this
  show ((_ : List Int).filter _).length ≤ 1000
  omega
theorem cells_asc (th t p r : Int) : (cellsL th t p r).Pairwise (· < ·) := by
  unfold cellsL
  rw [List.pairwise_map]
  exact (own_asc th t p r).imp fun h => by omega
theorem pages_asc (th t p : Int) : (pagesL th t p).Pairwise fun x y => x.1 < y.1 := by
  unfold pagesL
  rw [List.pairwise_map]
  exact own_asc th t 1 p
theorem cells_srt (th t p r : Int) : srtD ((cellsL th t p r).map .int) = (cellsL th t p r).map .int := by
  rw [srt_ints, linI.same ((cells_asc th t p r).imp fun h => by unfold leI; rw [decide_eq_true_eq]; omega) (List.Perm.refl _)]
theorem pages_srt (th t p : Int) : srtD ((pagesL th t p).map ipD) = (pagesL th t p).map ipD := by
  rw [srt_pairs]
  unfold sortP
  rw [linP.same ((pages_asc th t p).imp fun h => by unfold leP; rw [decide_eq_true_eq]; omega) (List.Perm.refl _)]
theorem i7_start (th t p r : Int) (h0 : 1 ≤ p) (h1 : r ≤ 1000) (h2 : p ≤ r) : I7 (cellsL th t p r) (pagesL th t p) [] [] [] := by
  refine ⟨?_, ?_, ?_, ?_⟩
  · rw [List.append_nil]
    exact (cells_asc th t p r).imp fun h => by omega
  · rw [List.append_nil]
    exact (pages_asc th t p).imp fun h z => by rw [z] at h; omega
  · have := own_len th t p r (by omega) h1
    unfold cellsL
    rw [List.length_map]
    simp
    omega
  · have := own_len th t 1 p (by omega) (by omega)
    unfold pagesL
    rw [List.length_map]
    simp
    omega

section
variable {P : Program} {w : World} {K : PySem.W.Frag} {mg : Str → Option Value} {A : Ad}
theorem ok_law (T : Txt K mg A) (base : Heap) : FnOk P w K mg base CX0 5 A.a_law A.d_law ["script"] (spM K (fun cs hs => (∃ ns : List Int, cs = [.scr ns] ∧ ns.length ≤ 63) ∧ hs = []) (fun _ _ c _ => c = .dat (.bool true)) (fun _ _ _ _ => False)) := by
  refine fnM T.F_law sc_law (by rintro cs hs ⟨⟨ns, rfl, _⟩, rfl⟩; rfl) fun cdv A' outer s H E hr => ?_
  have nd := sc_law.nd
  refine ⟨_, pss_cons (ps_set (i := 1) nd rfl (Or.inl rfl) (pe_call (ok_law_tape T base) (hr.mono (by decide)) (by rfl) T.g_law_tape T.F_law_tape.kp T.b_law_tape .nil pass0 (pa_cons (pv 0) pa_nil)))
      <| pss_cons (ps_set (i := 2) nd rfl (Or.inr rfl) (pe_op op_add pe_int (pe_op op_mod (pe_call (ok_law_at T base) (hr.mono (by decide)) (by rfl) T.g_law_at T.F_law_at.kp T.b_law_at .nil pass0 (pa_cons (pv 1) (pa_cons pe_int pa_nil))) pe_int)))
      <| pss_cons (ps_set (i := 3) nd rfl (Or.inr rfl) (pe_op op_add pe_int (pe_op op_mod (pe_call (ok_law_at T base) (hr.mono (by decide)) (by rfl) T.g_law_at T.F_law_at.kp T.b_law_at .nil pass0 (pa_cons (pv 1) (pa_cons pe_int pa_nil))) pe_int)))
      <| pss_cons (ps_set (i := 4) nd rfl (Or.inl rfl) (pe_make T.M_Layout (ok_Layout_init T base) (hr.mono (by decide)) (by rfl) T.g_Layout T.b_Layout_init .nil passL (pa_cons (pv 2) (pa_cons (pv 3) (pa_cons (pe_op op_add (pv 3) (pe_op op_mod (pe_call (ok_law_at T base) (hr.mono (by decide)) (by rfl) T.g_law_at T.F_law_at.kp T.b_law_at .nil pass0 (pa_cons (pv 1) (pa_cons pe_int pa_nil))) pe_int)) pa_nil)))))
      <| pss_cons (ps_set (i := 5) nd rfl (Or.inr rfl) (pe_op op_mod (pe_call (ok_law_at T base) (hr.mono (by decide)) (by rfl) T.g_law_at T.F_law_at.kp T.b_law_at .nil pass0 (pa_cons (pv 1) (pa_cons pe_int pa_nil))) (pv 2)))
      <| pss_cons (ps_set (i := 6) nd rfl (Or.inl rfl) (pe_make T.M_Store (ok_Store_init T base) (hr.mono (by decide)) (by rfl) T.g_Store T.b_Store_init .nil pass0 (pa_cons (pv 4) (pa_cons (pv 5) pa_nil))))
      <| pss_cons (ps_setLc (i := 8) (own := [("k", 7)]) (g := gName 7) rfl nd rfl rfl (sw_true rfl rfl rfl (by decide +kernel)) (pi_range2 (by rfl) T.z_range (pa_cons (pv 3) (pa_cons (pe_fld (pv 4) rfl) pa_nil))) (blkOk_by (N := ["script", "tape", "threads", "many", "layout", "thread", "store", "k", "cells", "pages", "taken", "held", "out", "number", "pick", "count", "more", "told", "due", "back", "passed", "gone"]) (sc := defScope S_law) (by decide +kernel)) (fun _ _ _ _ _ => pg_name (i := 7) nd rfl (Or.inl rfl)) (fun _ _ _ _ _ => (pts_one (pt_cmpR op_eq (pe_op op_mod (pv 7) (pv 2)) (pv 5) (nomark _)))) (fun _ _ _ _ _ => (pe_op op_add (pe_op op_add pe_int (pv 3)) (pv 7))))
      <| pss_cons (ps_setLc (i := 9) (own := [("k", 7)]) (g := gName 7) rfl nd rfl rfl (sw_true rfl rfl rfl (by decide +kernel)) (pi_range2 (by rfl) T.z_range (pa_cons pe_int (pa_cons (pv 3) pa_nil))) (blkOk_by (N := ["script", "tape", "threads", "many", "layout", "thread", "store", "k", "cells", "pages", "taken", "held", "out", "number", "pick", "count", "more", "told", "due", "back", "passed", "gone"]) (sc := defScope S_law) (by decide +kernel)) (fun _ _ _ _ _ => pg_name (i := 7) nd rfl (Or.inl rfl)) (fun _ _ _ _ _ => (pts_one (pt_cmpR op_eq (pe_op op_mod (pv 7) (pv 2)) (pv 5) (nomark _)))) (fun _ _ _ _ _ => (pe_tupN (pa_cons (pv 7) (pa_cons (pe_op op_add (pe_op op_add pe_int (pv 3)) (pv 7)) pa_nil)))))
      <| pss_cons (ps_set (i := 10) nd rfl (Or.inl rfl) (pe_lst pa_nil))
      <| pss_cons (ps_set (i := 11) nd rfl (Or.inl rfl) (pe_lst pa_nil))
      <| pss_cons (ps_set (i := 12) nd rfl (Or.inl rfl) (pe_lst pa_nil))
      <| pss_cons (ps_if (PW.pt (pw_or (pt_cmpR op_ne (pe_fld (pv 6) rfl) (pv 5) (nomark _)) (pw_or1 (pt_not (pt_val (pe_call (ok_law_same T base) (hr.mono (by decide)) (by rfl) T.g_law_same T.F_law_same.kp T.b_law_same .nil pass0 (pa_cons (pv 6) (pa_cons (pv 8) (pa_cons (pv 9) (pa_cons (pv 12) pa_nil))))))))))
          (pss_one (ps_ret pe_bl))
          (pss_nil))
      <| pss_cons (ps_for PassesOwn.never rfl (pi_range1 (by rfl) T.z_range (pa_cons (pe_callB (call_min2 rfl) (by rfl) T.z_min PyProof.Rows.boot_min (pa_cons pe_int (pa_cons (pe_callB (call_max2 rfl) (by rfl) T.z_max PyProof.Rows.boot_max (pa_cons pe_int (pa_cons (pe_op op_fdiv (pe_op op_sub (pe_callB call_len_seq (by rfl) T.z_len PySem.boot_len (pa_cons (pv 1) pa_nil)) pe_int) pe_int) pa_nil))) pa_nil))) pa_nil)) (pg_name (i := 7) nd rfl (Or.inl rfl))
          (pss_cons (ps_set (i := 13) nd rfl (Or.inl rfl) (pe_call (ok_law_at T base) (hr.mono (by decide)) (by rfl) T.g_law_at T.F_law_at.kp T.b_law_at .nil pass0 (pa_cons (pv 1) (pa_cons (pe_op op_add (pe_op op_mul pe_int (pv 7)) pe_int) pa_nil))))
          <| pss_cons (ps_set (i := 14) nd rfl (Or.inl rfl) (pe_call (ok_law_at T base) (hr.mono (by decide)) (by rfl) T.g_law_at T.F_law_at.kp T.b_law_at .nil pass0 (pa_cons (pv 1) (pa_cons (pe_op op_add (pe_op op_mul pe_int (pv 7)) pe_int) pa_nil))))
          <| pss_cons (ps_if (pt_cmpR op_eq (pe_op op_mod (pv 13) pe_int) pe_int (nomark _))
              (pss_cons (ps_set (i := 15) nd rfl (Or.inl rfl) (pe_op op_mod (pv 14) pe_int))
              <| pss_cons (ps_set (i := 16) nd rfl (Or.inl rfl) (pe_op op_mod (pe_op op_fdiv (pv 14) pe_int) pe_int))
              <| pss_cons (ps_set (i := 17) nd rfl (Or.inl rfl) (pe_meth (pv 6) T.c_Store T.m_Store_take (ok_Store_take T base) (hr.mono (by decide)) T.b_Store_take .nil pass0 (pa_cons (pv 15) (pa_cons (pv 16) pa_nil))))
              <| pss_one (ps_if (PW.pt (pw_or (pt_cmpR op_gt (pv 15) (pe_callB call_len_seq (by rfl) T.z_len PySem.boot_len (pa_cons (pv 8) pa_nil)) (nomark _)) (pw_or1 (pt_cmpR op_gt (pv 16) (pe_callB call_len_seq (by rfl) T.z_len PySem.boot_len (pa_cons (pv 9) pa_nil)) (nomark _)))))
                  (pss_one (ps_if (pt_cmpR op_notN (pv 17) pe_non (nomark _))
                      (pss_one (ps_ret pe_bl))
                      (pss_nil)))
                  (pss_cons (ps_set (i := 18) nd rfl (Or.inl rfl) (pe_tupN (pa_cons (pe_slice sl_list (pe_callB (cr_sortedD (room65 hr)) (by rfl) T.z_sorted PyProof.Rows.boot_sorted (pa_cons (pv 8) pa_nil)) po_none (po_some (pv 15))) (pa_cons (pe_slice sl_list (pe_callB (cr_sortedD (room65 hr)) (by rfl) T.z_sorted PyProof.Rows.boot_sorted (pa_cons (pv 9) pa_nil)) po_none (po_some (pv 16))) pa_nil))))
                  <| pss_cons (ps_if (PW.pt (pw_or (pt_not (pt_val (pe_callB call_isi (by rfl) T.z_isinstance boot_isinstance (pa_cons (pv 17) (pa_cons (pe_bltn (v := .ty "tuple") (by rfl) T.z_tuple PyProof.Rows.boot_tuple rfl) pa_nil))))) (pw_or1 (pt_cmpR (op_neD hr.units) (pv 17) (pv 18) (nomark _)))))
                      (pss_one (ps_ret pe_bl))
                      (pss_nil))
                  <| pss_cons (ps_set (i := 8) nd rfl (Or.inl rfl) (pe_call (ok_law_without T base) (hr.mono (by decide)) (by rfl) T.g_law_without T.F_law_without.kp T.b_law_without .nil pass0 (pa_cons (pv 8) (pa_cons (pe_ix ix_tup (pv 18) pe_int (fun _ _ => rfl)) pa_nil))))
                  <| pss_cons (ps_set (i := 9) nd rfl (Or.inl rfl) (pe_call (ok_law_without T base) (hr.mono (by decide)) (by rfl) T.g_law_without T.F_law_without.kp T.b_law_without .nil pass0 (pa_cons (pv 9) (pa_cons (pe_ix ix_tup (pv 18) pe_int (fun _ _ => rfl)) pa_nil))))
                  <| pss_cons (ps_set (i := 10) nd rfl (Or.inl rfl) (pe_op op_cat (pv 10) (pe_ix ix_tup (pv 18) pe_int (fun _ _ => rfl))))
                  <| pss_cons (ps_set (i := 11) nd rfl (Or.inl rfl) (pe_op op_cat (pv 11) (pe_ix ix_tup (pv 18) pe_int (fun _ _ => rfl))))
                  <| pss_one (ps_expr (pe_bm PySem.F.plainAttrs_list PySem.F.slot_list_append PySem.F.type_list_append mt_append (pe_ix ix_tup (pv 17) pe_int (fun _ _ => rfl)) (pa_cons pe_int pa_nil))))))
              (pss_one (ps_if (pt_cmpR op_eq (pe_op op_mod (pv 13) pe_int) pe_int (nomark _))
                  (pss_cons (ps_set (i := 19) nd rfl (Or.inl rfl) (pe_slice sl_list (pv 10) po_none (po_some (pe_op op_mod (pv 14) (pe_op op_add (pe_callB call_len_seq (by rfl) T.z_len PySem.boot_len (pa_cons (pv 10) pa_nil)) pe_int)))))
                  <| pss_cons (ps_set (i := 16) nd rfl (Or.inl rfl) (pe_slice sl_list (pv 11) po_none (po_some (pe_op op_mod (pe_op op_fdiv (pv 14) pe_int) (pe_op op_add (pe_callB call_len_seq (by rfl) T.z_len PySem.boot_len (pa_cons (pv 11) pa_nil)) pe_int)))))
                  <| pss_cons (ps_set (i := 20) nd rfl (Or.inl rfl) (pe_callTy call_list_of (by rfl) T.z_list PyProof.Rows.boot_list (pa_cons (pv 19) pa_nil)))
                  <| pss_cons (ps_expr (pe_meth (pv 6) T.c_Store T.m_Store_give_back (ok_Store_give_back T base) (hr.mono (by decide)) T.b_Store_give_back .nil pass0 (pa_cons (pv 20) (pa_cons (pe_callTy call_list_of (by rfl) T.z_list PyProof.Rows.boot_list (pa_cons (pv 16) pa_nil)) pa_nil))))
                  <| pss_cons (ps_expr (pe_bm PySem.F.plainAttrs_list PySem.F.slot_list_append PySem.F.type_list_append mt_append (pv 20) (pa_cons pe_int pa_nil)))
                  <| pss_cons (ps_set (i := 10) nd rfl (Or.inl rfl) (pe_slice sl_list (pv 10) (po_some (pe_callB call_len_seq (by rfl) T.z_len PySem.boot_len (pa_cons (pv 19) pa_nil))) po_none))
                  <| pss_cons (ps_set (i := 11) nd rfl (Or.inl rfl) (pe_slice sl_list (pv 11) (po_some (pe_callB call_len_seq (by rfl) T.z_len PySem.boot_len (pa_cons (pv 16) pa_nil))) po_none))
                  <| pss_cons (ps_set (i := 8) nd rfl (Or.inl rfl) (pe_op op_cat (pv 8) (pv 19)))
                  <| pss_one (ps_set (i := 9) nd rfl (Or.inl rfl) (pe_op op_cat (pv 9) (pv 16))))
                  (pss_cons (ps_set (i := 21) nd rfl (Or.inl rfl) (pe_slice sl_list (pv 10) po_none (po_some (pe_op op_mod (pv 14) (pe_op op_add (pe_callB call_len_seq (by rfl) T.z_len PySem.boot_len (pa_cons (pv 10) pa_nil)) pe_int)))))
                  <| pss_cons (ps_set (i := 20) nd rfl (Or.inl rfl) (pe_callTy call_list_of (by rfl) T.z_list PyProof.Rows.boot_list (pa_cons (pv 21) pa_nil)))
                  <| pss_cons (ps_expr (pe_meth (pv 6) T.c_Store T.m_Store_take_out (ok_Store_take_out T base) (hr.mono (by decide)) T.b_Store_take_out .nil pass0 (pa_cons (pv 20) pa_nil)))
                  <| pss_cons (ps_expr (pe_bm PySem.F.plainAttrs_list PySem.F.slot_list_append PySem.F.type_list_append mt_append (pv 20) (pa_cons pe_int pa_nil)))
                  <| pss_cons (ps_set (i := 10) nd rfl (Or.inl rfl) (pe_slice sl_list (pv 10) (po_some (pe_callB call_len_seq (by rfl) T.z_len PySem.boot_len (pa_cons (pv 21) pa_nil))) po_none))
                  <| pss_one (ps_set (i := 12) nd rfl (Or.inl rfl) (pe_op op_cat (pv 12) (pv 21)))))))
          <| pss_one (ps_if (pt_not (pt_val (pe_call (ok_law_same T base) (hr.mono (by decide)) (by rfl) T.g_law_same T.F_law_same.kp T.b_law_same .nil pass0 (pa_cons (pv 6) (pa_cons (pv 8) (pa_cons (pv 9) (pa_cons (pv 12) pa_nil)))))))
              (pss_one (ps_ret pe_bl))
              (pss_nil))))
      <| pss_one (ps_ret pe_bl), ?_⟩
  try simp only [cxK, cxKn]
  rintro cs hs ⟨⟨ns, rfl, hns⟩, rfl⟩
  refine DM.vSet (EV.callG (p := pTape) ⟨ns, 0, [], [], 0, 0⟩ (DAs.consV rfl rfl rfl DAs.nil) rfl hns (fun _ _ z => z) fun c h ⟨l, zs, e1, e2, hzk⟩ _ => ?_)
  subst e1
  have e2 : h = [(l, .lst ((zs.map PyData.int).map .dat))] := e2
  subst e2
  -- threads, many
  refine DM.vSet (EV.op (EV.pure DE.int rfl (EV.op (EV.callG (p := pAt) ⟨[], l, zs, [(l, .lst ((zs.map PyData.int).map .dat))], 0, 0⟩ (DAs.consV rfl rfl rfl (DAs.cons DE.int rfl DAs.nil)) rfl ⟨rfl, Int.le_refl 0, hzk⟩ (fun _ _ z => z) fun c h1 ⟨z0, e1, hz0, e2⟩ _ => EV.pure DE.int rfl ?_))))
  subst e1
  have e2 : h1 = [(l, .lst ((zs.map PyData.int).map .dat))] := e2
  subst e2
  refine ⟨.dat (.int (z0 % 4)), DE.opC (DE.lift (DE.varD rfl)) (DE.lift (DE.varD rfl)) rfl (by show (0 : Int) < 4; decide), rfl, .dat (.int (1 + z0 % 4)), DE.opI (DE.lift (DE.varD rfl)) (DE.lift (DE.varD rfl)) rfl, rfl, ?_⟩
  obtain ⟨t, ht⟩ : ∃ t, 1 + z0 % 4 = t := ⟨_, rfl⟩
  have ht4 : 1 ≤ t ∧ t ≤ 4 := by omega
  rw [ht]
  clear ht hz0
  refine DM.vSet (EV.op (EV.pure DE.int rfl (EV.op (EV.callG (p := pAt) ⟨[], l, zs, [(l, .lst ((zs.map PyData.int).map .dat))], 0, 1⟩ (DAs.consV rfl rfl rfl (DAs.cons DE.int rfl DAs.nil)) rfl ⟨rfl, (by decide : (0 : Int) ≤ 1), hzk⟩ (fun _ _ z => z) fun c h1 ⟨z1, e1, hz1, e2⟩ _ => EV.pure DE.int rfl ?_))))
  subst e1
  have e2 : h1 = [(l, .lst ((zs.map PyData.int).map .dat))] := e2
  subst e2
  refine ⟨.dat (.int (z1 % 13)), DE.opC (DE.lift (DE.varD rfl)) (DE.lift (DE.varD rfl)) rfl (by show (0 : Int) < 13; decide), rfl, .dat (.int (2 + z1 % 13)), DE.opI (DE.lift (DE.varD rfl)) (DE.lift (DE.varD rfl)) rfl, rfl, ?_⟩
  obtain ⟨many, hm⟩ : ∃ many, 2 + z1 % 13 = many := ⟨_, rfl⟩
  have hm14 : 2 ≤ many ∧ many ≤ 14 := by omega
  rw [hm]
  clear hm hz1
  -- the layout
  refine DM.vSet (EV.makeE (p := pLayInit A.C_Layout) (EAs.pure (DE.lift (DE.varD rfl)) rfl (EAs.pure (DE.lift (DE.varD rfl)) rfl (EAs.cons (EV.op (EV.pure (DE.lift (DE.varD rfl)) rfl (EV.op (EV.callG (p := pAt) ⟨[], l, zs, [(l, .lst ((zs.map PyData.int).map .dat))], 0, 2⟩ (DAs.consV rfl rfl rfl (DAs.cons DE.int rfl DAs.nil)) rfl ⟨rfl, (by decide : (0 : Int) ≤ 2), hzk⟩ (fun _ _ z => z) fun c h1 ⟨z2, e1, hz2, e2⟩ _ => EV.pure DE.int rfl ?_))))))))
  subst e1
  have e2 : h1 = [(l, .lst ((zs.map PyData.int).map .dat))] := e2
  subst e2
  refine ⟨.dat (.int (z2 % 41)), DE.opC (DE.lift (DE.varD rfl)) (DE.lift (DE.varD rfl)) rfl (by show (0 : Int) < 41; decide), rfl, .dat (.int (many + z2 % 41)), DE.opI (DE.lift (DE.varD rfl)) (DE.lift (DE.varD rfl)) rfl, rfl, EAs.nil ?_⟩
  obtain ⟨rec, hrec⟩ : ∃ rec, many + z2 % 41 = rec := ⟨_, rfl⟩
  have hr60 : many ≤ rec ∧ rec ≤ 60 := by omega
  rw [hrec]
  clear hrec hz2
  refine ⟨rfl, fun lay => ⟨⟨lay, t, many, rec, [(l, .lst ((zs.map PyData.int).map .dat))]⟩, rfl, rfl, ⟨ht4, ⟨(show 2 ≤ many by omega), (show many ≤ 48 by omega)⟩, hr60.1⟩, fun _ _ z => z, fun c hs' ⟨e1, e2⟩ => ⟨e1, ?_⟩⟩⟩
  have e2 : hs' = [(lay, .ins A.C_Layout (layF t many rec)), (l, .lst ((zs.map PyData.int).map .dat))] := e2
  subst e2
  -- the thread
  refine DM.vSet (EV.op (EV.callG (p := pAt) ⟨[], l, zs, [(lay, .ins A.C_Layout (layF t many rec)), (l, .lst ((zs.map PyData.int).map .dat))], 1, 3⟩ (DAs.consV rfl rfl rfl (DAs.cons DE.int rfl DAs.nil)) rfl ⟨rfl, (by decide : (0 : Int) ≤ 3), hzk⟩ (fun _ _ z => z) fun c h1 ⟨z3, e1, hz3, e2⟩ _ => EV.pure (DE.lift (DE.varD rfl)) rfl ?_))
  subst e1
  have e2 : h1 = [(lay, .ins A.C_Layout (layF t many rec)), (l, .lst ((zs.map PyData.int).map .dat))] := e2
  subst e2
  refine ⟨.dat (.int (z3 % t)), DE.opC (DE.lift (DE.varD rfl)) (DE.lift (DE.varD rfl)) rfl (by show (0 : Int) < t; omega), rfl, ?_⟩
  generalize z3 % t = th
  -- the store
  refine DM.vSet (EV.makeG (p := pStoInit A.C_Store A.C_Layout) (fun x => ⟨x, lay, 0, th, t, many, rec, [(lay, .ins A.C_Layout (layF t many rec)), (l, .lst ((zs.map PyData.int).map .dat))]⟩) (DAs.consV rfl rfl rfl (DAs.cons (DE.lift (DE.varD rfl)) rfl DAs.nil)) (fun x => rfl) (fun x => rfl) (fun x => ⟨rfl, ht4, (show 1 ≤ many ∧ many ≤ rec ∧ rec ≤ 1000 by omega)⟩) (fun _ _ _ z => z) (fun x c hs' z => z.1) fun o hs' ⟨_, c1, p1, t1, s1, e2⟩ => ?_)
  have e2 : hs' = (s1, .lst []) :: (t1, .lst (([] : List PyData).map .dat)) :: (p1, .lst (((pagesL th t many).map ipD).map .dat)) :: (c1, .lst (((cellsL th t many rec).map PyData.int).map .dat)) :: (o, .ins A.C_Store (stoF ⟨o, lay, c1, p1, t1, s1⟩ th)) :: [(lay, .ins A.C_Layout (layF t many rec)), (l, .lst ((zs.map PyData.int).map .dat))] := e2
  subst e2
  -- the law's own lists
  refine DM.vSet (EV.lstApart (ds := (cellsL th t many rec).map .int) (DE.as (DE.lcR2H (a := many) (b := rec) (acc := fun j => (((((List.range j).map fun j : Nat => many + (j : Int)).filter fun k => decide (k % t = th)).map fun k => 5 + many + k).map .int)) (DA.cons (DE.lift (DE.varD rfl)) (DA.cons (DE.getF (DE.lift (DE.varW rfl)) (i := 5) rfl T.c_Layout T.n_Layout_records rfl) DA.nil)) ⟨by omega, by omega, by omega, by omega⟩ ⟨rfl, fun j hj => ?_, fun j x hj hx => ?_⟩) rfl) fun a => ?_)
  · rw [List.length_map, List.length_map, sizeLine_eq]
    have := List.length_filter_le (fun k => decide (k % t = th)) ((List.range j).map fun j : Nat => many + (j : Int))
    rw [List.length_map, List.length_range] at this
    omega
  · obtain rfl := Option.some.inj hx
    refine ⟨decide ((many + (j : Int)) % t = th), _, DB.test (DE.eqI (DE.opC (DE.varD rfl) (DE.varD rfl) rfl (by show (0 : Int) < t; omega)) (DE.varD rfl)), fun z => ⟨DE.opI (DE.opI DE.int (DE.varD rfl) rfl) (DE.varD rfl) rfl, ?_⟩, fun z => ?_⟩
    · show ((((List.range (j + 1)).map fun j : Nat => many + (j : Int)).filter fun k => decide (k % t = th)).map fun k => 5 + many + k).map PyData.int = _
      rw [List.range_succ, List.map_append, List.filter_append, List.map_append, List.map_append]
      simp at z
      simp [z]
    · show ((((List.range (j + 1)).map fun j : Nat => many + (j : Int)).filter fun k => decide (k % t = th)).map fun k => 5 + many + k).map PyData.int = _
      rw [List.range_succ, List.map_append, List.filter_append, List.map_append, List.map_append]
      simp at z
      simp [z]
  refine DM.vSet (EV.lstApart (ds := (pagesL th t many).map ipD) (DE.as (DE.lcR2H (a := 1) (b := many) (acc := fun j => (((((List.range j).map fun j : Nat => 1 + (j : Int)).filter fun k => decide (k % t = th)).map fun k => (k, 5 + many + k)).map ipD)) (DA.cons DE.int (DA.cons (DE.lift (DE.varD rfl)) DA.nil)) ⟨by omega, by omega, by omega, by omega⟩ ⟨rfl, fun j hj => ?_, fun j x hj hx => ?_⟩) rfl) fun b => ?_)
  · rw [List.length_map, List.length_map, sizeLine_eq]
    have := List.length_filter_le (fun k => decide (k % t = th)) ((List.range j).map fun j : Nat => 1 + (j : Int))
    rw [List.length_map, List.length_range] at this
    omega
  · obtain rfl := Option.some.inj hx
    refine ⟨decide ((1 + (j : Int)) % t = th), _, DB.test (DE.eqI (DE.opC (DE.varD rfl) (DE.varD rfl) rfl (by show (0 : Int) < t; omega)) (DE.varD rfl)), fun z => ⟨DE.tupD (DD.cons (DE.varD rfl) (DD.cons (DE.opI (DE.opI DE.int (DE.varD rfl) rfl) (DE.varD rfl) rfl) DD.nil)) (small9 (Nat.le_of_ble_eq_true rfl)), ?_⟩, fun z => ?_⟩
    · show ((((List.range (j + 1)).map fun j : Nat => 1 + (j : Int)).filter fun k => decide (k % t = th)).map fun k => (k, 5 + many + k)).map ipD = _
      rw [List.range_succ, List.map_append, List.filter_append, List.map_append, List.map_append]
      simp at z
      simp [z, ipD]
    · show ((((List.range (j + 1)).map fun j : Nat => 1 + (j : Int)).filter fun k => decide (k % t = th)).map fun k => (k, 5 + many + k)).map ipD = _
      rw [List.range_succ, List.map_append, List.filter_append, List.map_append, List.map_append]
      simp at z
      simp [z]
  refine DM.vSet (EV.lstApart (ds := []) (DE.lstD DD.nil (Nat.zero_le _)) fun d => ?_)
  refine DM.vSet (EV.lstApart (ds := []) (DE.lstD DD.nil (Nat.zero_le _)) fun f => ?_)
  refine DM.vSet (EV.lstApart (ds := []) (DE.lstD DD.nil (Nat.zero_le _)) fun g => ?_)
  have hI := i7_start th t many rec (by omega) (by omega) hr60.1
  refine DM.pick (hs' := canon A.C_Store ⟨o, lay, c1, p1, t1, s1⟩ th a b d f g l (cellsL th t many rec) (pagesL th t many) [] [] [] zs) [9, 8, 7, 6, 5, 4, 3, 2, 1, 0, 11] (by decide) (by unfold canon; rw [cells_srt, pages_srt]; rfl) ?_
  obtain ⟨r, hr7⟩ : ∃ r : StR, (⟨o, lay, c1, p1, t1, s1⟩ : StR) = r := ⟨_, rfl⟩
  have hro : r.o = o := by rw [← hr7]
  rw [hr7]
  generalize cellsL th t many rec = LC at hI ⊢
  generalize pagesL th t many = LP at hI ⊢
  show DM K E _ (e7 ns l t many lay th o .un a b d f g .un .un .un .un .un .un .un .un .un, canon A.C_Store r th a b d f g l LC LP [] [] [] zs) _
  generalize ([] : List (Int × Int)) = LH at hI ⊢
  obtain ⟨LT, LO, hLT, hLO⟩ : ∃ LT LO : List Int, LT = [] ∧ LO = [] := ⟨_, _, rfl, rfl⟩
  have hI : I7 LC LP LT LH LO := by rw [hLT, hLO]; exact hI
  rw [show canon A.C_Store r th a b d f g l LC LP [] LH [] zs = canon A.C_Store r th a b d f g l LC LP LT LH LO zs from by rw [hLT, hLO]]
  clear hLT hLO hr7
  subst hro
  have hsC : LC.length ≤ 100000 := by have := hI.s1; omega
  have hsP : LP.length ≤ 100000 := by have := hI.s2; omega
  have hsO : (LO.map PyData.int).length ≤ 100000 := by rw [List.length_map]; have := hI.s1; omega
  refine DM.vIf (EB.or (EB.pure (b := false) (DB.as (DB.test (DE.neI (DE.getF (DE.lift (DE.varW rfl)) (i := 0) rfl T.c_Store T.n_Store_thread rfl) (DE.lift (DE.varD rfl)))) (by rw [decide_eq_true rfl]; rfl)) ?_))
  rw [if_neg (by decide)]
  refine EB.not (EB.test (EV.callG (p := pSame A.C_Store) ⟨canon A.C_Store r th a b d f g l LC LP LT LH LO zs, r, ⟨0, 1, 2, 3, 4⟩, th, srtD (LC.map .int), srtD (LP.map ipD), LO.map .int, 0, 0, 5, 6, 9, a, b, g, LC.map .int, LP.map ipD, LO.map .int⟩ (DAs.consV rfl rfl rfl (DAs.consV rfl rfl rfl (DAs.consV rfl rfl rfl (DAs.consV rfl rfl rfl DAs.nil)))) rfl ⟨stoC, ⟨rfl, rfl, rfl⟩, ⟨rfl, rfl, rfl⟩, sorts_ints hsC, sorts_pairs hsP, hsO, DkAll.ints LO⟩ (fun _ _ z => z) fun c1 h1 ⟨e1, ext, e2⟩ _ => ⟨true, e1, ?_⟩))
  have e2 : h1 = ext ++ canon A.C_Store r th a b d f g l LC LP LT LH LO zs := e2
  subst e2
  show (if false = true then _ else _)
  rw [if_neg (by decide)]
  refine DM.skip (DM.lose (List.sublist_append_right ext _) ?_)
  clear hsC hsP hsO
  generalize ho : r.o = o
  have bnd : ∀ m : Int, -(2 ^ 62) ≤ (if (if m > 0 then m else 0) < 40 then (if m > 0 then m else 0) else 40) ∧ (if (if m > 0 then m else 0) < 40 then (if m > 0 then m else 0) else 40) < 2 ^ 62 := fun m => by
    by_cases h : m > 0
    · rw [if_pos h]
      split <;> omega
    · rw [if_neg h, if_pos (by decide)]
      decide
  refine DM.seq (P1 := fun o => ∃ e, o = .next e) (DM.forR1 (i := 7) (DA.cons (DE.min2 DE.int (DE.max2 DE.int (DE.opC (DE.opI (DE.lenC (DE.lift (DE.varW rfl)) (i := 10) rfl) DE.int rfl) DE.int rfl ⟨by decide, by decide⟩))) DA.nil) (bnd _).1 (bnd _).2 (Inv := fun j e => ∃ (r : StR) (a b d f g : Addr) (LC : List Int) (LP : List (Int × Int)) (LT : List Int) (LH : List (Int × Int)) (LO : List Int) (k c13 c14 c15 c16 c17 c18 c19 c20 c21 : Cell), e = (e7 ns l t many lay th o k a b d f g c13 c14 c15 c16 c17 c18 c19 c20 c21, canon A.C_Store r th a b d f g l LC LP LT LH LO zs) ∧ r.o = o ∧ I7 LC LP LT LH LO) ⟨r, a, b, d, f, g, LC, LP, LT, LH, LO, _, _, _, _, _, _, _, _, _, _, rfl, ho, hI⟩ ?_ ?_) ?_ ?_
  rotate_left
  · rintro e _
    exact ⟨e, rfl⟩
  · rintro e1 _
    exact DM.ret DE.bl ⟨rfl, rfl⟩
  · rintro o' ho' ⟨e, rfl⟩
    cases ho'
  clear hI ho
  rintro j hj e ⟨r, a, b, d, f, g, LC, LP, LT, LH, LO, k, c13, c14, c15, c16, c17, c18, c19, c20, c21, rfl, rfl, hI⟩
  refine DM.vSet (EV.callG (p := pAt) ⟨[], l, zs, canon A.C_Store r th a b d f g l LC LP LT LH LO zs, 10, 2 * (j : Int) + 4⟩ (DAs.consV rfl rfl rfl (DAs.cons (DE.opI (DE.opC DE.int (DE.lift (DE.varD rfl)) rfl (.inl ⟨by decide, by decide⟩)) DE.int rfl) rfl DAs.nil)) rfl ⟨rfl, (show 0 ≤ 2 * (j : Int) + 4 by omega), hzk⟩ (fun _ _ z => z) fun c h1 ⟨num, e1, hnum, e2⟩ _ => ?_)
  subst e1
  have e2 : h1 = canon A.C_Store r th a b d f g l LC LP LT LH LO zs := e2
  subst e2
  refine DM.vSet (EV.callG (p := pAt) ⟨[], l, zs, canon A.C_Store r th a b d f g l LC LP LT LH LO zs, 10, 2 * (j : Int) + 5⟩ (DAs.consV rfl rfl rfl (DAs.cons (DE.opI (DE.opC DE.int (DE.lift (DE.varD rfl)) rfl (.inl ⟨by decide, by decide⟩)) DE.int rfl) rfl DAs.nil)) rfl ⟨rfl, (show 0 ≤ 2 * (j : Int) + 5 by omega), hzk⟩ (fun _ _ z => z) fun c h1 ⟨pk, e1, hpk, e2⟩ _ => ?_)
  subst e1
  have e2 : h1 = canon A.C_Store r th a b d f g l LC LP LT LH LO zs := e2
  subst e2
  show DM K E _ (e7 ns l t many lay th r.o (.dat (.int j)) a b d f g (.dat (.int num)) (.dat (.int pk)) c15 c16 c17 c18 c19 c20 c21, canon A.C_Store r th a b d f g l LC LP LT LH LO zs) _
  have hsC : LC.length ≤ 100000 := by have := hI.s1; omega
  have hsP : LP.length ≤ 100000 := by have := hI.s2; omega
  have hl1 : (srtD (LC.map .int)).length = LC.length := by
    unfold srtD
    rw [List.length_mergeSort, List.length_map]
  have hl2 : (srtD (LP.map ipD)).length = LP.length := by
    unfold srtD
    rw [List.length_mergeSort, List.length_map]
  have q1 := sorts_ints hsC
  have q2 := sorts_pairs hsP
  have z1 : (LC.map PyData.int).length ≤ sizeLine := by rw [sizeLine_eq, List.length_map]; omega
  have z2 : (LP.map ipD).length ≤ sizeLine := by rw [sizeLine_eq, List.length_map]; omega
  obtain ⟨o, ho⟩ : ∃ o, r.o = o := ⟨_, rfl⟩
  refine DM.seq (P1 := fun o' => ∃ (r' : StR) (a b d f g : Addr) (LC : List Int) (LP : List (Int × Int)) (LT : List Int) (LH : List (Int × Int)) (LO : List Int) (c13 c14 c15 c16 c17 c18 c19 c20 c21 : Cell) (hs' : Hs) (is : List Nat), o' = .next (e7 ns l t many lay th r.o (.dat (.int j)) a b d f g c13 c14 c15 c16 c17 c18 c19 c20 c21, hs') ∧ is.Nodup ∧ (is.filterMap fun i => hs'[i]?) = canon A.C_Store r' th a b d f g l LC LP LT LH LO zs ∧ r'.o = r.o ∧ I7 LC LP LT LH LO)
    (DM.if_ (b := decide (num % 3 = 0)) (DB.test (DE.eqI (DE.opC (DE.lift (DE.varD rfl)) DE.int rfl (by show (0 : Int) < 3; decide)) DE.int)) (fun _ => ?_) fun _ => DM.if_ (b := decide (num % 3 = 1)) (DB.test (DE.eqI (DE.opC (DE.lift (DE.varD rfl)) DE.int rfl (by show (0 : Int) < 3; decide)) DE.int)) (fun _ => ?_) fun _ => ?_) ?_ ?_
  -- take
  · refine DM.pSet (c := .dat (.int (pk % 10))) (DE.opC (DE.lift (DE.varD rfl)) DE.int rfl (by show (0 : Int) < 10; decide)) rfl ?_
    refine DM.pSet (c := .dat (.int (pk / 10 % 5))) (DE.opC (DE.opC (DE.lift (DE.varD rfl)) DE.int rfl ⟨by decide, by decide⟩) DE.int rfl (by show (0 : Int) < 5; decide)) rfl ?_
    obtain ⟨n, hn⟩ : ∃ n : Nat, pk % 10 = (n : Int) := ⟨(pk % 10).toNat, by omega⟩
    obtain ⟨m, hm⟩ : ∃ m : Nat, pk / 10 % 5 = (m : Int) := ⟨(pk / 10 % 5).toNat, by omega⟩
    rw [hn, hm]
    show DM K E _ (e7 ns l t many lay th r.o (.dat (.int j)) a b d f g (.dat (.int num)) (.dat (.int pk)) (.dat (.int n)) (.dat (.int m)) c17 c18 c19 c20 c21, canon A.C_Store r th a b d f g l LC LP LT LH LO zs) _
    refine DM.vSet (EV.methG (p := pTakeS A.C_Store) ⟨canon A.C_Store r th a b d f g l LC LP LT LH LO zs, r, ⟨0, 1, 2, 3, 4⟩, th, srtD (LC.map .int), srtD (LP.map ipD), LO.map .int, n, m, 0, 0, 0, a, a, a, [], [], []⟩ (DE.lift (DE.varW rfl)) (i := 0) rfl rfl (DAs.consV rfl rfl rfl (DAs.consV rfl rfl rfl DAs.nil)) rfl rfl stoC (fun _ _ z => z) fun c h1 hpost _ => ?_)
    rcases hpost with ⟨hc, e1, e2⟩ | ⟨hc, l1, l2, l3, l4, tt, e1, e2⟩
    · have hc : n > (srtD (LC.map PyData.int)).length ∨ m > (srtD (LP.map ipD)).length := hc
      have e1 : c = .dat .none := e1
      have e2 : h1 = canon A.C_Store r th a b d f g l LC LP LT LH LO zs := e2
      subst e1
      subst e2
      refine DM.if_ (b := true) (DB.as (DB.or (DB.test (DE.opB (g := fun i j => V.bl (decide (i > j))) (k := decide ((n : Int) > ((LC.map PyData.int).map Cell.dat).length)) (DE.lift (DE.varD rfl)) (DE.lenC (i := 5) (DE.lift (DE.varW rfl)) rfl) rfl)) fun _ => DB.test (DE.opB (g := fun i j => V.bl (decide (i > j))) (k := decide ((m : Int) > ((LP.map ipD).map Cell.dat).length)) (DE.lift (DE.varD rfl)) (DE.lenC (i := 6) (DE.lift (DE.varW rfl)) rfl) rfl)) ?_) (fun _ => ?_) fun z => by cases z
      · rw [Bool.or_eq_true, decide_eq_true_eq, decide_eq_true_eq, List.length_map, List.length_map, List.length_map, List.length_map]
        omega
      · exact DM.if_ (b := false) (DB.as (DB.test (DE.notNA (DE.lift (DE.varD rfl)) CD.dat DE.non)) rfl) (fun z => by cases z) fun _ => DM.nil ⟨r, a, b, d, f, g, LC, LP, LT, LH, LO, _, _, _, _, _, _, _, _, _, _, [0, 1, 2, 3, 4, 5, 6, 7, 8, 9, 10], rfl, by decide, rfl, rfl, hI⟩
    · have hc : n ≤ (srtD (LC.map PyData.int)).length ∧ m ≤ (srtD (LP.map ipD)).length := hc
      have e1 : c = .raw (.ref tt) := e1
      subst e1
      have e2 : h1 = (l4, .lst (((srtD (LP.map ipD)).drop m).map .dat)) :: (l3, .lst (((srtD (LC.map PyData.int)).drop n).map .dat)) :: (tt, .tup [.raw (.ref l1), .raw (.ref l2)]) :: (l2, .lst (((srtD (LP.map ipD)).take m).map .dat)) :: (l1, .lst (((srtD (LC.map PyData.int)).take n).map .dat)) :: (canon A.C_Store r th a b d f g l LC LP LT LH LO zs).set 0 (r.o, .ins A.C_Store (stoF { r with c := l3, p := l4 } th)) := e2
      have hT1 : (srtD (LC.map PyData.int)).take n = ((LC.mergeSort leI).take n).map .int := by rw [srt_ints, List.map_take]
      have hT2 : (srtD (LP.map ipD)).take m = ((sortP LP).take m).map ipD := by rw [srt_pairs, List.map_take]
      have hD1 : (srtD (LC.map PyData.int)).drop n = srtD ((LC.filter fun x => decide (x ∉ (LC.mergeSort leI).take n)).map .int) := by rw [srt_ints, srt_ints, linI.left (List.nodup_append.mp hI.n1).1, List.map_drop]
      have hD2 : (srtD (LP.map ipD)).drop m = srtD ((woP LP ((sortP LP).take m)).map ipD) := by
        rw [srt_pairs, srt_pairs, leftP (List.nodup_append.mp hI.n2).1, List.map_drop]
      rw [hT1, hT2, hD1, hD2] at e2
      have hI2 : I7 (LC.filter fun x => decide (x ∉ (LC.mergeSort leI).take n)) (woP LP ((sortP LP).take m)) (LT ++ (LC.mergeSort leI).take n) (LH ++ (sortP LP).take m) LO := by
        have p1 := left_more (n := n) (List.mergeSort_perm LC leI) hI.n1
        have p2 := moreP (n := m) hI.n2
        have w1 := p1.length_eq
        have w2 := p2.length_eq
        simp only [List.length_append] at w1 w2
        have s1 := hI.s1
        have s2 := hI.s2
        exact ⟨p1.nodup_iff.mpr hI.n1, p2.nodup_iff.mpr hI.n2, by simp only [List.length_append]; omega, by simp only [List.length_append]; omega⟩
      generalize hS1 : (LC.mergeSort leI).take n = T1 at e2 hI2 hT1
      generalize hS2 : (sortP LP).take m = T2 at e2 hI2 hT2
      have lT1 : T1.length ≤ LC.length := by
        rw [← hS1, List.length_take, List.length_mergeSort]
        exact Nat.min_le_right _ _
      have lT2 : T2.length ≤ LP.length := by
        rw [← hS2, List.length_take, (sortP_perm LP).length_eq]
        exact Nat.min_le_right _ _
      subst e2
      refine DM.if_ (b := false) (DB.as (DB.or (DB.test (DE.opB (g := fun i j => V.bl (decide (i > j))) (k := decide ((n : Int) > ((LC.map PyData.int).map Cell.dat).length)) (DE.lift (DE.varD rfl)) (DE.lenC (i := 10) (DE.lift (DE.varW rfl)) rfl) rfl)) fun _ => DB.test (DE.opB (g := fun i j => V.bl (decide (i > j))) (k := decide ((m : Int) > ((LP.map ipD).map Cell.dat).length)) (DE.lift (DE.varD rfl)) (DE.lenC (i := 11) (DE.lift (DE.varW rfl)) rfl) rfl)) ?_) (fun z => by cases z) fun _ => ?_
      · rw [Bool.or_eq_false_iff, decide_eq_false_iff_not, decide_eq_false_iff_not, List.length_map, List.length_map, List.length_map, List.length_map]
        omega
      have dk1 : DkAll 5 (T1.map PyData.int) := DkAll.ints T1
      have dk2 : DkAll 5 (T2.map ipD) := dk_pairs (k := 4) T2
      have shd : Shp (.tuple [.list (T1.map PyData.int), .list (T2.map ipD)]) := (Dk.tup (k := 7) (.cons (Dk.lst (k := 6) (DkAll.mem fun x hx => let w := dk1.of_mem x hx; ⟨w.1, Nat.le_trans w.2 (by decide)⟩)) (.cons (Dk.lst (k := 6) (DkAll.mem fun x hx => let w := dk2.of_mem x hx; ⟨w.1, Nat.le_trans w.2 (by decide)⟩)) .nil))).shp8
      have hI1 := hI.s1
      have hI3 := hI.s2
      refine DM.vSet (EV.tupC (EAs.cons (EV.lstApart (ds := T1.map .int) (DE.as (DE.slL (DE.sorted (DE.rdC (i := 10) (ds := LC.map .int) (DE.lift (DE.varW rfl)) rfl) rfl q1.al q1.so z1 q1.de) rfl DO.no (DO.some (DE.lift (DE.varD rfl)))) (by rw [cutD_to (by omega), Int.toNat_natCast, hT1])) fun d1 => EAs.cons (EV.lstApart (ds := T2.map ipD) (DE.as (DE.slL (DE.sorted (DE.rdC (i := 12) (ds := LP.map ipD) (DE.lift (DE.varW rfl)) rfl) rfl q2.al q2.so z2 q2.de) rfl DO.no (DO.some (DE.lift (DE.varD rfl)))) (by rw [cutD_to (by omega), Int.toNat_natCast, hT2])) fun d2 => EAs.nil ⟨rfl, small9 (Nat.le_of_ble_eq_true rfl), fun du => ?_⟩))))
      refine DM.seqF (DB.as (DB.or (DB.not (DB.test (DE.isiCT (i := 5) (DE.lift (DE.varW rfl)) rfl (by decide +kernel : kitB "tuple" "tuple" = some true)))) fun _ => DB.test (DE.neDeep (a := .tuple [.list (T1.map PyData.int), .list (T2.map ipD)]) (b := .tuple [.list (T1.map PyData.int), .list (T2.map ipD)]) (DE.lift (DE.varW rfl)) (DE.lift (DE.varW rfl)) (.tup (List.mem_of_getElem? (i := 5) rfl) (.cons (.lst (List.mem_of_getElem? (i := 7) rfl) (DeepAll.dats _)) (.cons (.lst (List.mem_of_getElem? (i := 6) rfl) (DeepAll.dats _)) .nil))) (.tup (List.mem_of_getElem? (i := 0) rfl) (.cons (.lst (List.mem_of_getElem? (i := 2) rfl) (DeepAll.dats _)) (.cons (.lst (List.mem_of_getElem? (i := 1) rfl) (DeepAll.dats _)) .nil))) shd shd)) (by rw [shd.refl]; rfl)) (DM.skip ?_)
      refine DM.vSet (EV.lstApart (ds := (LC.filter fun x => decide (x ∉ T1)).map .int) (DE.as (DE.call (DA.cons (DE.rdC (i := 13) (ds := LC.map .int) (DE.lift (DE.varW rfl)) rfl) (DA.cons (DE.rdC (i := 2) (ds := T1.map .int) (DE.getT (i := 0) (j := 0) (DE.lift (DE.varW rfl)) DE.int rfl rfl rfl) rfl) DA.nil)) ⟨LC.map .int, T1.map .int, rfl, ⟨by rw [List.length_map]; omega, fun x hx => ((DkAll.ints (k := 8) LC).of_mem x hx).shp8, (Dk.lst (k := 7) (DkAll.ints T1)).shp8⟩, rfl⟩) (by rw [wo_ints])) fun n1 => ?_)
      refine DM.vSet (EV.lstApart (ds := (woP LP T2).map ipD) (DE.as (DE.call (DA.cons (DE.rdC (i := 15) (ds := LP.map ipD) (DE.lift (DE.varW rfl)) rfl) (DA.cons (DE.rdC (i := 2) (ds := T2.map ipD) (DE.getT (i := 1) (j := 1) (DE.lift (DE.varW rfl)) DE.int rfl rfl rfl) rfl) DA.nil)) ⟨LP.map ipD, T2.map ipD, rfl, ⟨by rw [List.length_map]; omega, fun x hx => ((dk_pairs (k := 7) LP).of_mem x hx).shp8, (Dk.lst (k := 7) (dk_pairs (k := 6) T2)).shp8⟩, rfl⟩) (by rw [wo_pairs])) fun n2 => ?_)
      refine DM.vSet (EV.lstApart (ds := (LT ++ T1).map .int) (DE.as (DE.catL (DE.rdC (i := 17) (ds := LT.map .int) (DE.lift (DE.varW rfl)) rfl) (DE.rdC (i := 4) (ds := T1.map .int) (DE.getT (i := 2) (j := 0) (DE.lift (DE.varW rfl)) DE.int rfl rfl rfl) rfl) rfl rfl (by rw [sizeLine_eq, List.length_map, List.length_map]; omega)) (by rw [List.map_append])) fun n3 => ?_)
      refine DM.vSet (EV.lstApart (ds := (LH ++ T2).map ipD) (DE.as (DE.catL (DE.rdC (i := 19) (ds := LH.map ipD) (DE.lift (DE.varW rfl)) rfl) (DE.rdC (i := 4) (ds := T2.map ipD) (DE.getT (i := 3) (j := 1) (DE.lift (DE.varW rfl)) DE.int rfl rfl rfl) rfl) rfl rfl (by rw [sizeLine_eq, List.length_map, List.length_map]; omega)) (by rw [List.map_append])) fun n4 => ?_)
      refine DM.appD (i := 11) (ds := T1.map .int) (d := .int 1) (DE.getT (i := 9) (j := 0) (DE.lift (DE.varW rfl)) DE.int rfl rfl rfl) DE.int rfl (by rw [sizeLine_eq, List.length_map]; omega) ?_
      refine ⟨{ r with c := l3, p := l4 }, n1, n2, n3, n4, g, _, _, _, _, LO, _, _, _, _, _, _, _, _, _, _, [12, 8, 7, 15, 16, 3, 2, 1, 0, 21, 22], rfl, by decide, ?_, rfl, hI2⟩
      rfl
  -- give back
  · obtain ⟨u, hu, hul⟩ : ∃ u : Nat, pk % ((LT.length : Int) + 1) = (u : Int) ∧ u ≤ LT.length := ⟨(pk % ((LT.length : Int) + 1)).toNat, by have := Int.emod_nonneg pk (show ((LT.length : Int) + 1) ≠ 0 by omega); omega, by have := Int.emod_lt_of_pos pk (show (0 : Int) < (LT.length : Int) + 1 by omega); omega⟩
    obtain ⟨v, hv, hvl⟩ : ∃ v : Nat, pk / 7 % ((LH.length : Int) + 1) = (v : Int) ∧ v ≤ LH.length := ⟨(pk / 7 % ((LH.length : Int) + 1)).toNat, by have := Int.emod_nonneg (pk / 7) (show ((LH.length : Int) + 1) ≠ 0 by omega); omega, by have := Int.emod_lt_of_pos (pk / 7) (show (0 : Int) < (LH.length : Int) + 1 by omega); omega⟩
    have hI1 := hI.s1
    have hI3 := hI.s2
    have uT : (LT.take u).length = u := by rw [List.length_take]; omega
    have vT : (LH.take v).length = v := by rw [List.length_take]; omega
    have lLT : ((LT.map PyData.int).map Cell.dat).length = LT.length := by rw [List.length_map, List.length_map]
    have lLH : ((LH.map ipD).map Cell.dat).length = LH.length := by rw [List.length_map, List.length_map]
    refine DM.vSet (EV.lstApart (ds := (LT.take u).map .int) (DE.as (DE.slL (DE.rdC (i := 7) (ds := LT.map .int) (DE.lift (DE.varW rfl)) rfl) rfl DO.no (DO.some (DE.opC (DE.lift (DE.varD rfl)) (DE.opI (DE.lenC (i := 7) (DE.lift (DE.varW rfl)) rfl) DE.int rfl) rfl (by show (0 : Int) < (((LT.map PyData.int).map Cell.dat).length : Int) + 1; omega)))) (by rw [lLT, hu, cutD_to (by omega), Int.toNat_natCast, List.map_take])) fun b1 => ?_)
    refine DM.vSet (EV.lstApart (ds := (LH.take v).map ipD) (DE.as (DE.slL (DE.rdC (i := 9) (ds := LH.map ipD) (DE.lift (DE.varW rfl)) rfl) rfl DO.no (DO.some (DE.opC (DE.opC (DE.lift (DE.varD rfl)) DE.int rfl ⟨by decide, by decide⟩) (DE.opI (DE.lenC (i := 9) (DE.lift (DE.varW rfl)) rfl) DE.int rfl) rfl (by show (0 : Int) < (((LH.map ipD).map Cell.dat).length : Int) + 1; omega)))) (by rw [lLH, hv, cutD_to (by omega), Int.toNat_natCast, List.map_take])) fun m1 => ?_)
    refine DM.vSet (EV.lstApart (ds := (LT.take u).map .int) (DE.lstOfL (DE.rdC (i := 1) (ds := (LT.take u).map .int) (DE.lift (DE.varW rfl)) rfl) rfl) fun p1 => ?_)
    have g1 : Sorts (srtD (LC.map .int) ++ (LT.take u).map .int) := by
      rw [srt_ints, ← List.map_append]
      exact sorts_ints (by rw [List.length_append, List.length_mergeSort]; omega)
    have g2 : Sorts (srtD (LP.map ipD) ++ (LH.take v).map ipD) := by
      rw [srt_pairs, ← List.map_append]
      exact sorts_pairs (by rw [List.length_append, (sortP_perm LP).length_eq]; omega)
    refine DM.vDrop (EV.methE (p := pGive A.C_Store) (i := 3) (DE.lift (DE.varW rfl)) rfl rfl (EAs.pure (c := .raw (.ref p1)) (DE.lift (DE.varW rfl)) rfl (EAs.cons (EV.lstApart (ds := (LH.take v).map ipD) (DE.lstOfL (DE.rdC (i := 1) (ds := (LH.take v).map ipD) (DE.lift (DE.varW rfl)) rfl) rfl) fun x1 => EAs.nil ⟨rfl, ⟨(x1, .lst (((LH.take v).map ipD).map .dat)) :: (p1, .lst (((LT.take u).map PyData.int).map .dat)) :: (m1, .lst (((LH.take v).map ipD).map .dat)) :: (b1, .lst (((LT.take u).map PyData.int).map .dat)) :: canon A.C_Store r th a b d f g l LC LP LT LH LO zs, r, ⟨4, 5, 6, 7, 8⟩, th, srtD (LC.map .int), srtD (LP.map ipD), LO.map .int, 0, 0, 1, 0, 0, p1, x1, a, (LT.take u).map .int, (LH.take v).map ipD, []⟩, rfl, rfl, ⟨⟨rfl, rfl, rfl, rfl, rfl⟩, rfl, rfl, ⟨(by decide : (1 : Nat) ≠ 4), (by decide : (0 : Nat) ≠ 4)⟩, g1, g2⟩, fun _ _ z => z, fun c h5 ⟨e1, l3, l4, e2⟩ _ => ?_⟩))))
    have e2 : h5 = (l4, .lst ((srtD (srtD (LP.map ipD) ++ (LH.take v).map ipD)).map .dat)) :: (l3, .lst ((srtD (srtD (LC.map PyData.int) ++ (LT.take u).map .int)).map .dat)) :: ((x1, Chunk.lst (((LH.take v).map ipD).map .dat)) :: (p1, Chunk.lst (((LT.take u).map PyData.int).map .dat)) :: (m1, Chunk.lst (((LH.take v).map ipD).map .dat)) :: (b1, Chunk.lst (((LT.take u).map PyData.int).map .dat)) :: canon A.C_Store r th a b d f g l LC LP LT LH LO zs).set 4 (r.o, .ins A.C_Store (stoF { r with c := l3, p := l4 } th)) := e2
    rw [srt_more_ints, srt_more_pairs] at e2
    subst e2
    refine DM.then (DM.appD (i := 3) (ds := (LT.take u).map .int) (d := .int 9) (DE.lift (DE.varW rfl)) DE.int rfl (by rw [sizeLine_eq, List.length_map]; omega) rfl) ?_
    refine DM.vSet (EV.lstApart (ds := (LT.drop u).map .int) (DE.as (DE.slL (DE.rdC (i := 13) (ds := LT.map .int) (DE.lift (DE.varW rfl)) rfl) rfl (DO.some (DE.lenC (i := 5) (DE.lift (DE.varW rfl)) rfl)) DO.no) (by rw [cutD_from (by omega), List.length_map, List.length_map, uT, Int.toNat_natCast, List.map_drop])) fun n3 => ?_)
    refine DM.vSet (EV.lstApart (ds := (LH.drop v).map ipD) (DE.as (DE.slL (DE.rdC (i := 15) (ds := LH.map ipD) (DE.lift (DE.varW rfl)) rfl) rfl (DO.some (DE.lenC (i := 5) (DE.lift (DE.varW rfl)) rfl)) DO.no) (by rw [cutD_from (by omega), List.length_map, List.length_map, vT, Int.toNat_natCast, List.map_drop])) fun n4 => ?_)
    refine DM.vSet (EV.lstApart (ds := (LC ++ LT.take u).map .int) (DE.as (DE.catL (DE.rdC (i := 13) (ds := LC.map .int) (DE.lift (DE.varW rfl)) rfl) (DE.rdC (i := 7) (ds := (LT.take u).map .int) (DE.lift (DE.varW rfl)) rfl) rfl rfl (by rw [sizeLine_eq, List.length_map, List.length_map]; omega)) (by rw [List.map_append])) fun n1 => ?_)
    refine DM.setV (EV.lstApart (ds := (LP ++ LH.take v).map ipD) (DE.as (DE.catL (DE.rdC (i := 15) (ds := LP.map ipD) (DE.lift (DE.varW rfl)) rfl) (DE.rdC (i := 7) (ds := (LH.take v).map ipD) (DE.lift (DE.varW rfl)) rfl) rfl rfl (by rw [sizeLine_eq, List.length_map, List.length_map]; omega)) (by rw [List.map_append])) fun n2 => ?_)
    refine ⟨{ r with c := l3, p := l4 }, n1, n2, n3, n4, g, LC ++ LT.take u, LP ++ LH.take v, LT.drop u, LH.drop v, LO, _, _, _, _, _, _, _, _, _, _, [10, 5, 4, 13, 14, 1, 0, 3, 2, 19, 20], rfl, by decide, rfl, rfl, ?_⟩
    refine ⟨?_, ?_, ?_, ?_⟩
    · rw [List.append_assoc, List.take_append_drop]
      exact hI.n1
    · rw [List.append_assoc, List.take_append_drop]
      exact hI.n2
    · rw [List.length_append, uT, List.length_drop]
      omega
    · rw [List.length_append, vT, List.length_drop]
      omega
  -- take out
  · obtain ⟨u, hu, hul⟩ : ∃ u : Nat, pk % ((LT.length : Int) + 1) = (u : Int) ∧ u ≤ LT.length := ⟨(pk % ((LT.length : Int) + 1)).toNat, by have := Int.emod_nonneg pk (show ((LT.length : Int) + 1) ≠ 0 by omega); omega, by have := Int.emod_lt_of_pos pk (show (0 : Int) < (LT.length : Int) + 1 by omega); omega⟩
    have hI1 := hI.s1
    have uT : (LT.take u).length = u := by rw [List.length_take]; omega
    have lLT : ((LT.map PyData.int).map Cell.dat).length = LT.length := by rw [List.length_map, List.length_map]
    refine DM.vSet (EV.lstApart (ds := (LT.take u).map .int) (DE.as (DE.slL (DE.rdC (i := 7) (ds := LT.map .int) (DE.lift (DE.varW rfl)) rfl) rfl DO.no (DO.some (DE.opC (DE.lift (DE.varD rfl)) (DE.opI (DE.lenC (i := 7) (DE.lift (DE.varW rfl)) rfl) DE.int rfl) rfl (by show (0 : Int) < (((LT.map PyData.int).map Cell.dat).length : Int) + 1; omega)))) (by rw [lLT, hu, cutD_to (by omega), Int.toNat_natCast, List.map_take])) fun b1 => ?_)
    refine DM.vSet (EV.lstApart (ds := (LT.take u).map .int) (DE.lstOfL (DE.rdC (i := 0) (ds := (LT.take u).map .int) (DE.lift (DE.varW rfl)) rfl) rfl) fun p1 => ?_)
    refine DM.vDrop (EV.methG (p := pOutS A.C_Store) ⟨(p1, .lst (((LT.take u).map PyData.int).map .dat)) :: (b1, .lst (((LT.take u).map PyData.int).map .dat)) :: canon A.C_Store r th a b d f g l LC LP LT LH LO zs, r, ⟨2, 3, 4, 5, 6⟩, th, srtD (LC.map .int), srtD (LP.map ipD), LO.map .int, 0, 0, 0, 0, 0, p1, a, a, (LT.take u).map .int, [], []⟩ (DE.lift (DE.varW rfl)) (i := 2) rfl rfl (DAs.consV rfl rfl rfl DAs.nil) rfl rfl ⟨⟨rfl, rfl, rfl, rfl, rfl⟩, rfl, (show (LO.map PyData.int).length + ((LT.take u).map PyData.int).length ≤ 100000 by rw [List.length_map, List.length_map]; omega)⟩ (fun _ _ z => z) fun c h5 ⟨e1, l3, e2⟩ _ => ?_)
    have e2 : h5 = (l3, .lst ((LO.map PyData.int ++ (LT.take u).map PyData.int).map .dat)) :: ((p1, Chunk.lst (((LT.take u).map PyData.int).map .dat)) :: (b1, Chunk.lst (((LT.take u).map PyData.int).map .dat)) :: canon A.C_Store r th a b d f g l LC LP LT LH LO zs).set 2 (r.o, .ins A.C_Store (stoF { r with t := l3 } th)) := e2
    rw [← List.map_append] at e2
    subst e2
    refine DM.then (DM.appD (i := 1) (ds := (LT.take u).map .int) (d := .int 9) (DE.lift (DE.varW rfl)) DE.int rfl (by rw [sizeLine_eq, List.length_map]; omega) rfl) ?_
    refine DM.vSet (EV.lstApart (ds := (LT.drop u).map .int) (DE.as (DE.slL (DE.rdC (i := 10) (ds := LT.map .int) (DE.lift (DE.varW rfl)) rfl) rfl (DO.some (DE.lenC (i := 2) (DE.lift (DE.varW rfl)) rfl)) DO.no) (by rw [cutD_from (by omega), List.length_map, List.length_map, uT, Int.toNat_natCast, List.map_drop])) fun n3 => ?_)
    refine DM.setV (EV.lstApart (ds := (LO ++ LT.take u).map .int) (DE.as (DE.catL (DE.rdC (i := 13) (ds := LO.map .int) (DE.lift (DE.varW rfl)) rfl) (DE.rdC (i := 3) (ds := (LT.take u).map .int) (DE.lift (DE.varW rfl)) rfl) rfl rfl (by rw [sizeLine_eq, List.length_map, List.length_map]; omega)) (by rw [List.map_append])) fun n5 => ?_)
    refine ⟨{ r with t := l3 }, a, b, n3, f, n5, LC, LP, LT.drop u, LH, LO ++ LT.take u, _, _, _, _, _, _, _, _, _, _, [5, 6, 7, 2, 9, 10, 11, 1, 13, 0, 15], rfl, by decide, rfl, rfl, ?_⟩
    refine ⟨?_, hI.n2, ?_, hI.s2⟩
    · exact hI.n1.sublist (List.Sublist.append_left (List.drop_sublist u LT) LC)
    · rw [List.length_append, uT, List.length_drop]
      omega
  · rintro e1 ⟨r', a, b, d, f, g, LC, LP, LT, LH, LO, c13, c14, c15, c16, c17, c18, c19, c20, c21, hs', is, he, hn, hp, hro, hI⟩
    obtain rfl := OutM.next.inj he
    refine DM.pick is hn hp ?_
    clear hp hn ho hsC hsP hl1 hl2 q1 q2 z1 z2
    rw [← hro]
    have hsC : LC.length ≤ 100000 := by have := hI.s1; omega
    have hsP : LP.length ≤ 100000 := by have := hI.s2; omega
    have hsO : (LO.map PyData.int).length ≤ 100000 := by rw [List.length_map]; have := hI.s1; omega
    refine DM.ifV (EB.not (EB.test (EV.callG (p := pSame A.C_Store) ⟨canon A.C_Store r' th a b d f g l LC LP LT LH LO zs, r', ⟨0, 1, 2, 3, 4⟩, th, srtD (LC.map .int), srtD (LP.map ipD), LO.map .int, 0, 0, 5, 6, 9, a, b, g, LC.map .int, LP.map ipD, LO.map .int⟩ (DAs.consV rfl rfl rfl (DAs.consV rfl rfl rfl (DAs.consV rfl rfl rfl (DAs.consV rfl rfl rfl DAs.nil)))) rfl ⟨stoC, ⟨rfl, rfl, rfl⟩, ⟨rfl, rfl, rfl⟩, sorts_ints hsC, sorts_pairs hsP, hsO, DkAll.ints LO⟩ (fun _ _ z => z) fun c1 h1 ⟨e1, ext, e2⟩ _ => ⟨true, e1, ?_⟩)))
    have e2 : h1 = ext ++ canon A.C_Store r' th a b d f g l LC LP LT LH LO zs := e2
    subst e2
    show (if false = true then _ else _)
    rw [if_neg (by decide)]
    refine DM.lose (List.sublist_append_right ext _) (DM.nil ?_)
    exact ⟨r', a, b, d, f, g, LC, LP, LT, LH, LO, _, _, _, _, _, _, _, _, _, _, rfl, rfl, hI⟩
  · rintro o' ho' ⟨r', a, b, d, f, g, LC, LP, LT, LH, LO, c13, c14, c15, c16, c17, c18, c19, c20, c21, hs', is, rfl, _⟩
    cases ho'


end
end K07
namespace K07
open PySem PySem.Spec PyProof.Rows L2 Esp
theorem all_mk {K : PySem.W.Frag} {h : Heap} {mg : Str → Option Value} (X : K.In h) (G : h.Ns mainGlobals mg)
    {C_EspalierError C_NotValid C_Layout C_Store f_EspalierError_init f_is_whole f_is_between f_Layout_init f_Layout_record f_own f_Store_init f_Store_take f_Store_give_back f_Store_take_out f_Store_free_cells f_Store_free_pages f_Store_waiting f_Store_has_taken_out f_law_tape f_law_at f_law_same f_law_without f_law : Addr}
    {t_MOST_THREADS t_LEAST_PAGES t_MOST_PAGES t_FIRST_WORD : Tok}
    {od_EspalierError_init an_EspalierError_init : Option Addr} {sl_EspalierError_init : Array (Option Value)} {oc_EspalierError_init kV_EspalierError_init dc_EspalierError_init pm_EspalierError_init cd_EspalierError_init ct_EspalierError_init : Value}
    {od_is_whole an_is_whole : Option Addr} {sl_is_whole : Array (Option Value)} {oc_is_whole kV_is_whole dc_is_whole pm_is_whole cd_is_whole ct_is_whole : Value}
    {od_is_between an_is_between : Option Addr} {sl_is_between : Array (Option Value)} {oc_is_between kV_is_between dc_is_between pm_is_between cd_is_between ct_is_between : Value}
    {od_Layout_init an_Layout_init : Option Addr} {sl_Layout_init : Array (Option Value)} {oc_Layout_init kV_Layout_init dc_Layout_init pm_Layout_init cd_Layout_init ct_Layout_init : Value}
    {od_Layout_record an_Layout_record : Option Addr} {sl_Layout_record : Array (Option Value)} {oc_Layout_record kV_Layout_record dc_Layout_record pm_Layout_record cd_Layout_record ct_Layout_record : Value}
    {od_own an_own : Option Addr} {sl_own : Array (Option Value)} {oc_own kV_own dc_own pm_own cd_own ct_own : Value}
    {od_Store_init an_Store_init : Option Addr} {sl_Store_init : Array (Option Value)} {oc_Store_init kV_Store_init dc_Store_init pm_Store_init cd_Store_init ct_Store_init : Value}
    {od_Store_take an_Store_take : Option Addr} {sl_Store_take : Array (Option Value)} {oc_Store_take kV_Store_take dc_Store_take pm_Store_take cd_Store_take ct_Store_take : Value}
    {od_Store_give_back an_Store_give_back : Option Addr} {sl_Store_give_back : Array (Option Value)} {oc_Store_give_back kV_Store_give_back dc_Store_give_back pm_Store_give_back cd_Store_give_back ct_Store_give_back : Value}
    {od_Store_take_out an_Store_take_out : Option Addr} {sl_Store_take_out : Array (Option Value)} {oc_Store_take_out kV_Store_take_out dc_Store_take_out pm_Store_take_out cd_Store_take_out ct_Store_take_out : Value}
    {od_Store_free_cells an_Store_free_cells : Option Addr} {sl_Store_free_cells : Array (Option Value)} {oc_Store_free_cells kV_Store_free_cells dc_Store_free_cells pm_Store_free_cells cd_Store_free_cells ct_Store_free_cells : Value}
    {od_Store_free_pages an_Store_free_pages : Option Addr} {sl_Store_free_pages : Array (Option Value)} {oc_Store_free_pages kV_Store_free_pages dc_Store_free_pages pm_Store_free_pages cd_Store_free_pages ct_Store_free_pages : Value}
    {od_Store_waiting an_Store_waiting : Option Addr} {sl_Store_waiting : Array (Option Value)} {oc_Store_waiting kV_Store_waiting dc_Store_waiting pm_Store_waiting cd_Store_waiting ct_Store_waiting : Value}
    {od_Store_has_taken_out an_Store_has_taken_out : Option Addr} {sl_Store_has_taken_out : Array (Option Value)} {oc_Store_has_taken_out kV_Store_has_taken_out dc_Store_has_taken_out pm_Store_has_taken_out cd_Store_has_taken_out ct_Store_has_taken_out : Value}
    {od_law_tape an_law_tape : Option Addr} {sl_law_tape : Array (Option Value)} {oc_law_tape kV_law_tape dc_law_tape pm_law_tape cd_law_tape ct_law_tape : Value}
    {od_law_at an_law_at : Option Addr} {sl_law_at : Array (Option Value)} {oc_law_at kV_law_at dc_law_at pm_law_at cd_law_at ct_law_at : Value}
    {od_law_same an_law_same : Option Addr} {sl_law_same : Array (Option Value)} {oc_law_same kV_law_same dc_law_same pm_law_same cd_law_same ct_law_same : Value}
    {od_law_without an_law_without : Option Addr} {sl_law_without : Array (Option Value)} {oc_law_without kV_law_without dc_law_without pm_law_without cd_law_without ct_law_without : Value}
    {od_law an_law : Option Addr} {sl_law : Array (Option Value)} {oc_law kV_law dc_law pm_law cd_law ct_law : Value}
    {nm_EspalierError qn_EspalierError : Str} {N_EspalierError : Addr} {bs_EspalierError : List Value} {sn_EspalierError : List Str} {sub_EspalierError : List Value} {ab_EspalierError : Bool} {col_EspalierError : Option Bool} {dd_EspalierError : Option Addr} {m0_EspalierError m1_EspalierError m2_EspalierError m3_EspalierError m5_EspalierError : Option Value}
    {nm_NotValid qn_NotValid : Str} {N_NotValid : Addr} {bs_NotValid : List Value} {sn_NotValid : List Str} {sub_NotValid : List Value} {ab_NotValid : Bool} {col_NotValid : Option Bool} {dd_NotValid : Option Addr} {m0_NotValid m1_NotValid m2_NotValid m3_NotValid m5_NotValid : Option Value}
    (gC_EspalierError : PySem.W.nsIn K mainGlobals "EspalierError" = some (some (.ref C_EspalierError)))
    (gC_NotValid : PySem.W.nsIn K mainGlobals "NotValid" = some (some (.ref C_NotValid)))
    (gC_Layout : PySem.W.nsIn K mainGlobals "Layout" = some (some (.ref C_Layout)))
    (gC_Store : PySem.W.nsIn K mainGlobals "Store" = some (some (.ref C_Store)))
    (xL_EspalierError : K.lookup C_EspalierError = some (excClassObj nm_EspalierError qn_EspalierError C_EspalierError N_EspalierError bs_EspalierError [.type "ValueError", .type "Exception", .type "BaseException", .type "object"] true sn_EspalierError sub_EspalierError ab_EspalierError col_EspalierError dd_EspalierError m0_EspalierError m1_EspalierError m2_EspalierError m3_EspalierError m5_EspalierError "ValueError.__new__"))
    (sa_EspalierError : PySem.W.findIn K (.ref C_EspalierError) "__setattr__" = some (some (.builtin "object.__setattr__")))
    (eC_EspalierError : PySem.W.subIn K (.ref C_EspalierError) (.type "BaseException") = some true)
    (tC_EspalierError : PySem.W.typeIn K (.ref C_EspalierError) = some (.type "type"))
    (kC_EspalierError : PySem.W.keepIn K (.ref C_EspalierError) = true)
    (ga_EspalierError : PySem.W.findIn K (.ref C_EspalierError) "__getattribute__" = some (some (.builtin "BaseException.__getattribute__")))
    (gg_EspalierError : PySem.W.findIn K (.ref C_EspalierError) "__getattr__" = some none)
    (hd_EspalierError : PySem.W.hasDictIn K C_EspalierError = true)
    (hc_EspalierError : PySem.W.findIn K (.ref C_EspalierError) "__class__" = some (some (.builtin "object.__class__")))
    (hm_EspalierError : PySem.W.mroIn K C_EspalierError (.type "object") = some true)
    (su_EspalierError_EspalierError : PySem.W.subIn K (.ref C_EspalierError) (.ref C_EspalierError) = some true)
    (fi_EspalierError : PySem.W.findIn K (.ref C_EspalierError) "__init__" = some (some (.ref f_EspalierError_init)))
    (xL_NotValid : K.lookup C_NotValid = some (excClassObj nm_NotValid qn_NotValid C_NotValid N_NotValid bs_NotValid [.ref C_EspalierError, .type "ValueError", .type "Exception", .type "BaseException", .type "object"] true sn_NotValid sub_NotValid ab_NotValid col_NotValid dd_NotValid m0_NotValid m1_NotValid m2_NotValid m3_NotValid m5_NotValid "ValueError.__new__"))
    (sa_NotValid : PySem.W.findIn K (.ref C_NotValid) "__setattr__" = some (some (.builtin "object.__setattr__")))
    (eC_NotValid : PySem.W.subIn K (.ref C_NotValid) (.type "BaseException") = some true)
    (tC_NotValid : PySem.W.typeIn K (.ref C_NotValid) = some (.type "type"))
    (kC_NotValid : PySem.W.keepIn K (.ref C_NotValid) = true)
    (ga_NotValid : PySem.W.findIn K (.ref C_NotValid) "__getattribute__" = some (some (.builtin "BaseException.__getattribute__")))
    (gg_NotValid : PySem.W.findIn K (.ref C_NotValid) "__getattr__" = some none)
    (hd_NotValid : PySem.W.hasDictIn K C_NotValid = true)
    (hc_NotValid : PySem.W.findIn K (.ref C_NotValid) "__class__" = some (some (.builtin "object.__class__")))
    (hm_NotValid : PySem.W.mroIn K C_NotValid (.type "object") = some true)
    (su_NotValid_NotValid : PySem.W.subIn K (.ref C_NotValid) (.ref C_NotValid) = some true)
    (su_NotValid_EspalierError : PySem.W.subIn K (.ref C_NotValid) (.ref C_EspalierError) = some true)
    (fi_NotValid : PySem.W.findIn K (.ref C_NotValid) "__init__" = some (some (.ref f_EspalierError_init)))
    (pg_Layout : PySem.W.plainGet K C_Layout Str.empty = true)
    (hd_Layout : PySem.W.hasDictIn K C_Layout = true)
    (po_Layout : PySem.W.plainOver K C_Layout = true)
    (sa_Layout : PySem.W.findIn K (.ref C_Layout) "__setattr__" = some (some (.builtin "object.__setattr__")))
    (hc_Layout : PySem.W.findIn K (.ref C_Layout) "__class__" = some (some (.builtin "object.__class__")))
    (hm_Layout : PySem.W.mroIn K C_Layout (.type "object") = some true)
    (kl_Layout : PySem.W.subIn K (.ref C_Layout) (.type "list") = some false)
    (mk_Layout : PySem.W.makesIn K C_Layout = true)
    (kC_Layout : PySem.W.keepIn K (.ref C_Layout) = true)
    (nA_Layout_threads : PySem.W.findIn K (.ref C_Layout) "threads" = some none)
    (nA_Layout_pages : PySem.W.findIn K (.ref C_Layout) "pages" = some none)
    (nA_Layout_records : PySem.W.findIn K (.ref C_Layout) "records" = some none)
    (pg_Store : PySem.W.plainGet K C_Store Str.empty = true)
    (hd_Store : PySem.W.hasDictIn K C_Store = true)
    (po_Store : PySem.W.plainOver K C_Store = true)
    (sa_Store : PySem.W.findIn K (.ref C_Store) "__setattr__" = some (some (.builtin "object.__setattr__")))
    (hc_Store : PySem.W.findIn K (.ref C_Store) "__class__" = some (some (.builtin "object.__class__")))
    (hm_Store : PySem.W.mroIn K C_Store (.type "object") = some true)
    (kl_Store : PySem.W.subIn K (.ref C_Store) (.type "list") = some false)
    (mk_Store : PySem.W.makesIn K C_Store = true)
    (kC_Store : PySem.W.keepIn K (.ref C_Store) = true)
    (nA_Store_layout : PySem.W.findIn K (.ref C_Store) "layout" = some none)
    (nA_Store_thread : PySem.W.findIn K (.ref C_Store) "thread" = some none)
    (nA_Store__cells : PySem.W.findIn K (.ref C_Store) "_cells" = some none)
    (nA_Store__pages : PySem.W.findIn K (.ref C_Store) "_pages" = some none)
    (nA_Store__taken_out : PySem.W.findIn K (.ref C_Store) "_taken_out" = some none)
    (nA_Store__stamped : PySem.W.findIn K (.ref C_Store) "_stamped" = some none)
    (ty_EspalierError_init : PySem.W.typeIn K (.ref f_EspalierError_init) = some (.type "function"))
    (l_EspalierError_init : K.lookup f_EspalierError_init = some ⟨oc_EspalierError_init, od_EspalierError_init, .func (PySem.W.fnOf "__init__" "EspalierError.__init__" (defArgs S_EspalierError_init) (defBody S_EspalierError_init) (defScope S_EspalierError_init) .none kV_EspalierError_init dc_EspalierError_init pm_EspalierError_init an_EspalierError_init cd_EspalierError_init ct_EspalierError_init), sl_EspalierError_init⟩)
    (cd_EspalierError_init' : PySem.W.codeIn K cd_EspalierError_init "EspalierError.__init__" = true)
    (kp_EspalierError_init : PySem.W.keepIn K (.ref f_EspalierError_init) = true)
    (a_is_whole : PySem.W.nsIn K mainGlobals "is_whole" = some (some (.ref f_is_whole)))
    (l_is_whole : K.lookup f_is_whole = some ⟨oc_is_whole, od_is_whole, .func (PySem.W.fnOf "is_whole" "is_whole" (defArgs S_is_whole) (defBody S_is_whole) (defScope S_is_whole) .none kV_is_whole dc_is_whole pm_is_whole an_is_whole cd_is_whole ct_is_whole), sl_is_whole⟩)
    (cd_is_whole' : PySem.W.codeIn K cd_is_whole "is_whole" = true)
    (kp_is_whole : PySem.W.keepIn K (.ref f_is_whole) = true)
    (a_is_between : PySem.W.nsIn K mainGlobals "_is_between" = some (some (.ref f_is_between)))
    (l_is_between : K.lookup f_is_between = some ⟨oc_is_between, od_is_between, .func (PySem.W.fnOf "_is_between" "_is_between" (defArgs S_is_between) (defBody S_is_between) (defScope S_is_between) .none kV_is_between dc_is_between pm_is_between an_is_between cd_is_between ct_is_between), sl_is_between⟩)
    (cd_is_between' : PySem.W.codeIn K cd_is_between "_is_between" = true)
    (kp_is_between : PySem.W.keepIn K (.ref f_is_between) = true)
    (a_Layout_init : PySem.W.findIn K (.ref C_Layout) "__init__" = some (some (.ref f_Layout_init)))
    (i_Layout_init : PySem.W.isFn K (.ref f_Layout_init) = true)
    (l_Layout_init : K.lookup f_Layout_init = some ⟨oc_Layout_init, od_Layout_init, .func (PySem.W.fnOf "__init__" "Layout.__init__" (defArgs S_Layout_init) (defBody S_Layout_init) (defScope S_Layout_init) .none kV_Layout_init dc_Layout_init pm_Layout_init an_Layout_init cd_Layout_init ct_Layout_init), sl_Layout_init⟩)
    (cd_Layout_init' : PySem.W.codeIn K cd_Layout_init "Layout.__init__" = true)
    (kp_Layout_init : PySem.W.keepIn K (.ref f_Layout_init) = true)
    (a_Layout_record : PySem.W.findIn K (.ref C_Layout) "record" = some (some (.ref f_Layout_record)))
    (i_Layout_record : PySem.W.isFn K (.ref f_Layout_record) = true)
    (l_Layout_record : K.lookup f_Layout_record = some ⟨oc_Layout_record, od_Layout_record, .func (PySem.W.fnOf "record" "Layout.record" (defArgs S_Layout_record) (defBody S_Layout_record) (defScope S_Layout_record) .none kV_Layout_record dc_Layout_record pm_Layout_record an_Layout_record cd_Layout_record ct_Layout_record), sl_Layout_record⟩)
    (cd_Layout_record' : PySem.W.codeIn K cd_Layout_record "Layout.record" = true)
    (kp_Layout_record : PySem.W.keepIn K (.ref f_Layout_record) = true)
    (a_own : PySem.W.nsIn K mainGlobals "_own" = some (some (.ref f_own)))
    (l_own : K.lookup f_own = some ⟨oc_own, od_own, .func (PySem.W.fnOf "_own" "_own" (defArgs S_own) (defBody S_own) (defScope S_own) .none kV_own dc_own pm_own an_own cd_own ct_own), sl_own⟩)
    (cd_own' : PySem.W.codeIn K cd_own "_own" = true)
    (kp_own : PySem.W.keepIn K (.ref f_own) = true)
    (a_Store_init : PySem.W.findIn K (.ref C_Store) "__init__" = some (some (.ref f_Store_init)))
    (i_Store_init : PySem.W.isFn K (.ref f_Store_init) = true)
    (l_Store_init : K.lookup f_Store_init = some ⟨oc_Store_init, od_Store_init, .func (PySem.W.fnOf "__init__" "Store.__init__" (defArgs S_Store_init) (defBody S_Store_init) (defScope S_Store_init) .none kV_Store_init dc_Store_init pm_Store_init an_Store_init cd_Store_init ct_Store_init), sl_Store_init⟩)
    (cd_Store_init' : PySem.W.codeIn K cd_Store_init "Store.__init__" = true)
    (kp_Store_init : PySem.W.keepIn K (.ref f_Store_init) = true)
    (a_Store_take : PySem.W.findIn K (.ref C_Store) "take" = some (some (.ref f_Store_take)))
    (i_Store_take : PySem.W.isFn K (.ref f_Store_take) = true)
    (l_Store_take : K.lookup f_Store_take = some ⟨oc_Store_take, od_Store_take, .func (PySem.W.fnOf "take" "Store.take" (defArgs S_Store_take) (defBody S_Store_take) (defScope S_Store_take) .none kV_Store_take dc_Store_take pm_Store_take an_Store_take cd_Store_take ct_Store_take), sl_Store_take⟩)
    (cd_Store_take' : PySem.W.codeIn K cd_Store_take "Store.take" = true)
    (kp_Store_take : PySem.W.keepIn K (.ref f_Store_take) = true)
    (a_Store_give_back : PySem.W.findIn K (.ref C_Store) "give_back" = some (some (.ref f_Store_give_back)))
    (i_Store_give_back : PySem.W.isFn K (.ref f_Store_give_back) = true)
    (l_Store_give_back : K.lookup f_Store_give_back = some ⟨oc_Store_give_back, od_Store_give_back, .func (PySem.W.fnOf "give_back" "Store.give_back" (defArgs S_Store_give_back) (defBody S_Store_give_back) (defScope S_Store_give_back) .none kV_Store_give_back dc_Store_give_back pm_Store_give_back an_Store_give_back cd_Store_give_back ct_Store_give_back), sl_Store_give_back⟩)
    (cd_Store_give_back' : PySem.W.codeIn K cd_Store_give_back "Store.give_back" = true)
    (kp_Store_give_back : PySem.W.keepIn K (.ref f_Store_give_back) = true)
    (a_Store_take_out : PySem.W.findIn K (.ref C_Store) "take_out" = some (some (.ref f_Store_take_out)))
    (i_Store_take_out : PySem.W.isFn K (.ref f_Store_take_out) = true)
    (l_Store_take_out : K.lookup f_Store_take_out = some ⟨oc_Store_take_out, od_Store_take_out, .func (PySem.W.fnOf "take_out" "Store.take_out" (defArgs S_Store_take_out) (defBody S_Store_take_out) (defScope S_Store_take_out) .none kV_Store_take_out dc_Store_take_out pm_Store_take_out an_Store_take_out cd_Store_take_out ct_Store_take_out), sl_Store_take_out⟩)
    (cd_Store_take_out' : PySem.W.codeIn K cd_Store_take_out "Store.take_out" = true)
    (kp_Store_take_out : PySem.W.keepIn K (.ref f_Store_take_out) = true)
    (a_Store_free_cells : PySem.W.findIn K (.ref C_Store) "free_cells" = some (some (.ref f_Store_free_cells)))
    (i_Store_free_cells : PySem.W.isFn K (.ref f_Store_free_cells) = true)
    (l_Store_free_cells : K.lookup f_Store_free_cells = some ⟨oc_Store_free_cells, od_Store_free_cells, .func (PySem.W.fnOf "free_cells" "Store.free_cells" (defArgs S_Store_free_cells) (defBody S_Store_free_cells) (defScope S_Store_free_cells) .none kV_Store_free_cells dc_Store_free_cells pm_Store_free_cells an_Store_free_cells cd_Store_free_cells ct_Store_free_cells), sl_Store_free_cells⟩)
    (cd_Store_free_cells' : PySem.W.codeIn K cd_Store_free_cells "Store.free_cells" = true)
    (kp_Store_free_cells : PySem.W.keepIn K (.ref f_Store_free_cells) = true)
    (a_Store_free_pages : PySem.W.findIn K (.ref C_Store) "free_pages" = some (some (.ref f_Store_free_pages)))
    (i_Store_free_pages : PySem.W.isFn K (.ref f_Store_free_pages) = true)
    (l_Store_free_pages : K.lookup f_Store_free_pages = some ⟨oc_Store_free_pages, od_Store_free_pages, .func (PySem.W.fnOf "free_pages" "Store.free_pages" (defArgs S_Store_free_pages) (defBody S_Store_free_pages) (defScope S_Store_free_pages) .none kV_Store_free_pages dc_Store_free_pages pm_Store_free_pages an_Store_free_pages cd_Store_free_pages ct_Store_free_pages), sl_Store_free_pages⟩)
    (cd_Store_free_pages' : PySem.W.codeIn K cd_Store_free_pages "Store.free_pages" = true)
    (kp_Store_free_pages : PySem.W.keepIn K (.ref f_Store_free_pages) = true)
    (a_Store_waiting : PySem.W.findIn K (.ref C_Store) "waiting" = some (some (.ref f_Store_waiting)))
    (i_Store_waiting : PySem.W.isFn K (.ref f_Store_waiting) = true)
    (l_Store_waiting : K.lookup f_Store_waiting = some ⟨oc_Store_waiting, od_Store_waiting, .func (PySem.W.fnOf "waiting" "Store.waiting" (defArgs S_Store_waiting) (defBody S_Store_waiting) (defScope S_Store_waiting) .none kV_Store_waiting dc_Store_waiting pm_Store_waiting an_Store_waiting cd_Store_waiting ct_Store_waiting), sl_Store_waiting⟩)
    (cd_Store_waiting' : PySem.W.codeIn K cd_Store_waiting "Store.waiting" = true)
    (kp_Store_waiting : PySem.W.keepIn K (.ref f_Store_waiting) = true)
    (a_Store_has_taken_out : PySem.W.findIn K (.ref C_Store) "has_taken_out" = some (some (.ref f_Store_has_taken_out)))
    (i_Store_has_taken_out : PySem.W.isFn K (.ref f_Store_has_taken_out) = true)
    (l_Store_has_taken_out : K.lookup f_Store_has_taken_out = some ⟨oc_Store_has_taken_out, od_Store_has_taken_out, .func (PySem.W.fnOf "has_taken_out" "Store.has_taken_out" (defArgs S_Store_has_taken_out) (defBody S_Store_has_taken_out) (defScope S_Store_has_taken_out) .none kV_Store_has_taken_out dc_Store_has_taken_out pm_Store_has_taken_out an_Store_has_taken_out cd_Store_has_taken_out ct_Store_has_taken_out), sl_Store_has_taken_out⟩)
    (cd_Store_has_taken_out' : PySem.W.codeIn K cd_Store_has_taken_out "Store.has_taken_out" = true)
    (kp_Store_has_taken_out : PySem.W.keepIn K (.ref f_Store_has_taken_out) = true)
    (a_law_tape : PySem.W.nsIn K mainGlobals "_law_tape" = some (some (.ref f_law_tape)))
    (l_law_tape : K.lookup f_law_tape = some ⟨oc_law_tape, od_law_tape, .func (PySem.W.fnOf "_law_tape" "_law_tape" (defArgs S_law_tape) (defBody S_law_tape) (defScope S_law_tape) .none kV_law_tape dc_law_tape pm_law_tape an_law_tape cd_law_tape ct_law_tape), sl_law_tape⟩)
    (cd_law_tape' : PySem.W.codeIn K cd_law_tape "_law_tape" = true)
    (kp_law_tape : PySem.W.keepIn K (.ref f_law_tape) = true)
    (a_law_at : PySem.W.nsIn K mainGlobals "_law_at" = some (some (.ref f_law_at)))
    (l_law_at : K.lookup f_law_at = some ⟨oc_law_at, od_law_at, .func (PySem.W.fnOf "_law_at" "_law_at" (defArgs S_law_at) (defBody S_law_at) (defScope S_law_at) .none kV_law_at dc_law_at pm_law_at an_law_at cd_law_at ct_law_at), sl_law_at⟩)
    (cd_law_at' : PySem.W.codeIn K cd_law_at "_law_at" = true)
    (kp_law_at : PySem.W.keepIn K (.ref f_law_at) = true)
    (a_law_same : PySem.W.nsIn K mainGlobals "_law_same" = some (some (.ref f_law_same)))
    (l_law_same : K.lookup f_law_same = some ⟨oc_law_same, od_law_same, .func (PySem.W.fnOf "_law_same" "_law_same" (defArgs S_law_same) (defBody S_law_same) (defScope S_law_same) .none kV_law_same dc_law_same pm_law_same an_law_same cd_law_same ct_law_same), sl_law_same⟩)
    (cd_law_same' : PySem.W.codeIn K cd_law_same "_law_same" = true)
    (kp_law_same : PySem.W.keepIn K (.ref f_law_same) = true)
    (a_law_without : PySem.W.nsIn K mainGlobals "_law_without" = some (some (.ref f_law_without)))
    (l_law_without : K.lookup f_law_without = some ⟨oc_law_without, od_law_without, .func (PySem.W.fnOf "_law_without" "_law_without" (defArgs S_law_without) (defBody S_law_without) (defScope S_law_without) .none kV_law_without dc_law_without pm_law_without an_law_without cd_law_without ct_law_without), sl_law_without⟩)
    (cd_law_without' : PySem.W.codeIn K cd_law_without "_law_without" = true)
    (kp_law_without : PySem.W.keepIn K (.ref f_law_without) = true)
    (a_law : PySem.W.nsIn K mainGlobals "law" = some (some (.ref f_law)))
    (l_law : K.lookup f_law = some ⟨oc_law, od_law, .func (PySem.W.fnOf "law" "law" (defArgs S_law) (defBody S_law) (defScope S_law) .none kV_law dc_law pm_law an_law cd_law ct_law), sl_law⟩)
    (cd_law' : PySem.W.codeIn K cd_law "law" = true)
    (kp_law : PySem.W.keepIn K (.ref f_law) = true)
    (z_ValueError : PySem.W.nsIn K mainGlobals "ValueError" = some none)
    (z_abs : PySem.W.nsIn K mainGlobals "abs" = some none)
    (z_bool : PySem.W.nsIn K mainGlobals "bool" = some none)
    (z_int : PySem.W.nsIn K mainGlobals "int" = some none)
    (z_isinstance : PySem.W.nsIn K mainGlobals "isinstance" = some none)
    (z_len : PySem.W.nsIn K mainGlobals "len" = some none)
    (z_list : PySem.W.nsIn K mainGlobals "list" = some none)
    (z_max : PySem.W.nsIn K mainGlobals "max" = some none)
    (z_min : PySem.W.nsIn K mainGlobals "min" = some none)
    (z_range : PySem.W.nsIn K mainGlobals "range" = some none)
    (z_sorted : PySem.W.nsIn K mainGlobals "sorted" = some none)
    (z_tuple : PySem.W.nsIn K mainGlobals "tuple" = some none)
    (vV : PySem.W.findCls K (.type "ValueError") (.type "type") "__init__" = some (.val (.builtin "ValueError.__init__")))
    (sp : PySem.W.specialIn K (.builtin "object.__class__") "__get__" = some (some (.builtin "getset_descriptor.__get__")))
    (tk : PySem.W.takesIn K (.builtin "object.__class__") = some true)
    (cn_MOST_THREADS : PySem.W.nsIn K mainGlobals "MOST_THREADS" = some (some (.int 4 t_MOST_THREADS)))
    (cn_LEAST_PAGES : PySem.W.nsIn K mainGlobals "LEAST_PAGES" = some (some (.int 2 t_LEAST_PAGES)))
    (cn_MOST_PAGES : PySem.W.nsIn K mainGlobals "MOST_PAGES" = some (some (.int 48 t_MOST_PAGES)))
    (cn_FIRST_WORD : PySem.W.nsIn K mainGlobals "FIRST_WORD" = some (some (.int 5 t_FIRST_WORD)))
    : ∃ A : Ad, Txt K mg A ∧ A.a_law = f_law ∧ A.d_law = PySem.W.fnOf "law" "law" (defArgs S_law) (defBody S_law) (defScope S_law) .none kV_law dc_law pm_law an_law cd_law ct_law := by
  refine ⟨{
    C_EspalierError := C_EspalierError,
    C_NotValid := C_NotValid,
    C_Layout := C_Layout,
    C_Store := C_Store,
    a_EspalierError_init := f_EspalierError_init,
    d_EspalierError_init := PySem.W.fnOf "__init__" "EspalierError.__init__" (defArgs S_EspalierError_init) (defBody S_EspalierError_init) (defScope S_EspalierError_init) .none kV_EspalierError_init dc_EspalierError_init pm_EspalierError_init an_EspalierError_init cd_EspalierError_init ct_EspalierError_init,
    a_is_whole := f_is_whole,
    d_is_whole := PySem.W.fnOf "is_whole" "is_whole" (defArgs S_is_whole) (defBody S_is_whole) (defScope S_is_whole) .none kV_is_whole dc_is_whole pm_is_whole an_is_whole cd_is_whole ct_is_whole,
    a_is_between := f_is_between,
    d_is_between := PySem.W.fnOf "_is_between" "_is_between" (defArgs S_is_between) (defBody S_is_between) (defScope S_is_between) .none kV_is_between dc_is_between pm_is_between an_is_between cd_is_between ct_is_between,
    a_Layout_init := f_Layout_init,
    d_Layout_init := PySem.W.fnOf "__init__" "Layout.__init__" (defArgs S_Layout_init) (defBody S_Layout_init) (defScope S_Layout_init) .none kV_Layout_init dc_Layout_init pm_Layout_init an_Layout_init cd_Layout_init ct_Layout_init,
    a_Layout_record := f_Layout_record,
    d_Layout_record := PySem.W.fnOf "record" "Layout.record" (defArgs S_Layout_record) (defBody S_Layout_record) (defScope S_Layout_record) .none kV_Layout_record dc_Layout_record pm_Layout_record an_Layout_record cd_Layout_record ct_Layout_record,
    a_own := f_own,
    d_own := PySem.W.fnOf "_own" "_own" (defArgs S_own) (defBody S_own) (defScope S_own) .none kV_own dc_own pm_own an_own cd_own ct_own,
    a_Store_init := f_Store_init,
    d_Store_init := PySem.W.fnOf "__init__" "Store.__init__" (defArgs S_Store_init) (defBody S_Store_init) (defScope S_Store_init) .none kV_Store_init dc_Store_init pm_Store_init an_Store_init cd_Store_init ct_Store_init,
    a_Store_take := f_Store_take,
    d_Store_take := PySem.W.fnOf "take" "Store.take" (defArgs S_Store_take) (defBody S_Store_take) (defScope S_Store_take) .none kV_Store_take dc_Store_take pm_Store_take an_Store_take cd_Store_take ct_Store_take,
    a_Store_give_back := f_Store_give_back,
    d_Store_give_back := PySem.W.fnOf "give_back" "Store.give_back" (defArgs S_Store_give_back) (defBody S_Store_give_back) (defScope S_Store_give_back) .none kV_Store_give_back dc_Store_give_back pm_Store_give_back an_Store_give_back cd_Store_give_back ct_Store_give_back,
    a_Store_take_out := f_Store_take_out,
    d_Store_take_out := PySem.W.fnOf "take_out" "Store.take_out" (defArgs S_Store_take_out) (defBody S_Store_take_out) (defScope S_Store_take_out) .none kV_Store_take_out dc_Store_take_out pm_Store_take_out an_Store_take_out cd_Store_take_out ct_Store_take_out,
    a_Store_free_cells := f_Store_free_cells,
    d_Store_free_cells := PySem.W.fnOf "free_cells" "Store.free_cells" (defArgs S_Store_free_cells) (defBody S_Store_free_cells) (defScope S_Store_free_cells) .none kV_Store_free_cells dc_Store_free_cells pm_Store_free_cells an_Store_free_cells cd_Store_free_cells ct_Store_free_cells,
    a_Store_free_pages := f_Store_free_pages,
    d_Store_free_pages := PySem.W.fnOf "free_pages" "Store.free_pages" (defArgs S_Store_free_pages) (defBody S_Store_free_pages) (defScope S_Store_free_pages) .none kV_Store_free_pages dc_Store_free_pages pm_Store_free_pages an_Store_free_pages cd_Store_free_pages ct_Store_free_pages,
    a_Store_waiting := f_Store_waiting,
    d_Store_waiting := PySem.W.fnOf "waiting" "Store.waiting" (defArgs S_Store_waiting) (defBody S_Store_waiting) (defScope S_Store_waiting) .none kV_Store_waiting dc_Store_waiting pm_Store_waiting an_Store_waiting cd_Store_waiting ct_Store_waiting,
    a_Store_has_taken_out := f_Store_has_taken_out,
    d_Store_has_taken_out := PySem.W.fnOf "has_taken_out" "Store.has_taken_out" (defArgs S_Store_has_taken_out) (defBody S_Store_has_taken_out) (defScope S_Store_has_taken_out) .none kV_Store_has_taken_out dc_Store_has_taken_out pm_Store_has_taken_out an_Store_has_taken_out cd_Store_has_taken_out ct_Store_has_taken_out,
    a_law_tape := f_law_tape,
    d_law_tape := PySem.W.fnOf "_law_tape" "_law_tape" (defArgs S_law_tape) (defBody S_law_tape) (defScope S_law_tape) .none kV_law_tape dc_law_tape pm_law_tape an_law_tape cd_law_tape ct_law_tape,
    a_law_at := f_law_at,
    d_law_at := PySem.W.fnOf "_law_at" "_law_at" (defArgs S_law_at) (defBody S_law_at) (defScope S_law_at) .none kV_law_at dc_law_at pm_law_at an_law_at cd_law_at ct_law_at,
    a_law_same := f_law_same,
    d_law_same := PySem.W.fnOf "_law_same" "_law_same" (defArgs S_law_same) (defBody S_law_same) (defScope S_law_same) .none kV_law_same dc_law_same pm_law_same an_law_same cd_law_same ct_law_same,
    a_law_without := f_law_without,
    d_law_without := PySem.W.fnOf "_law_without" "_law_without" (defArgs S_law_without) (defBody S_law_without) (defScope S_law_without) .none kV_law_without dc_law_without pm_law_without an_law_without cd_law_without ct_law_without,
    a_law := f_law,
    d_law := PySem.W.fnOf "law" "law" (defArgs S_law) (defBody S_law) (defScope S_law) .none kV_law dc_law pm_law an_law cd_law ct_law,
    t_MOST_THREADS := t_MOST_THREADS,
    t_LEAST_PAGES := t_LEAST_PAGES,
    t_MOST_PAGES := t_MOST_PAGES,
    t_FIRST_WORD := t_FIRST_WORD }, ?_, rfl, rfl⟩
  exact {
    g_EspalierError := PySem.W.mg_of X G gC_EspalierError,
    o_EspalierError := ⟨⟨nm_EspalierError, qn_EspalierError, N_EspalierError, bs_EspalierError, _, sn_EspalierError, sub_EspalierError, ab_EspalierError, col_EspalierError, dd_EspalierError, m0_EspalierError, m1_EspalierError, m2_EspalierError, m3_EspalierError, m5_EspalierError, xL_EspalierError, rfl⟩, sa_EspalierError, eC_EspalierError, tC_EspalierError, kC_EspalierError⟩,
    x_EspalierError := ⟨ga_EspalierError, gg_EspalierError, eC_EspalierError, hd_EspalierError, hc_EspalierError, sp, tk, hm_EspalierError⟩,
    q_EspalierError := kit_self,
    e_EspalierError_EspalierError := PySem.W.exm_ref eC_EspalierError hd_EspalierError tC_EspalierError su_EspalierError_EspalierError,
    i_EspalierError := fi_EspalierError,
    g_NotValid := PySem.W.mg_of X G gC_NotValid,
    o_NotValid := ⟨⟨nm_NotValid, qn_NotValid, N_NotValid, bs_NotValid, _, sn_NotValid, sub_NotValid, ab_NotValid, col_NotValid, dd_NotValid, m0_NotValid, m1_NotValid, m2_NotValid, m3_NotValid, m5_NotValid, xL_NotValid, rfl⟩, sa_NotValid, eC_NotValid, tC_NotValid, kC_NotValid⟩,
    x_NotValid := ⟨ga_NotValid, gg_NotValid, eC_NotValid, hd_NotValid, hc_NotValid, sp, tk, hm_NotValid⟩,
    q_NotValid := kit_self,
    e_NotValid_NotValid := PySem.W.exm_ref eC_NotValid hd_NotValid tC_NotValid su_NotValid_NotValid,
    e_NotValid_EspalierError := PySem.W.exm_ref eC_EspalierError hd_EspalierError tC_EspalierError su_NotValid_EspalierError,
    i_NotValid := fi_NotValid,
    g_Layout := PySem.W.mg_of X G gC_Layout,
    c_Layout := ⟨pg_Layout, hd_Layout, po_Layout, sa_Layout⟩,
    k_Layout := ⟨hc_Layout, sp, tk, hm_Layout⟩,
    kl_Layout := kit_sub kl_Layout (by decide +kernel),
    M_Layout := ⟨mk_Layout, a_Layout_init, i_Layout_init, kC_Layout⟩,
    n_Layout_threads := nA_Layout_threads,
    n_Layout_pages := nA_Layout_pages,
    n_Layout_records := nA_Layout_records,
    g_Store := PySem.W.mg_of X G gC_Store,
    c_Store := ⟨pg_Store, hd_Store, po_Store, sa_Store⟩,
    k_Store := ⟨hc_Store, sp, tk, hm_Store⟩,
    kl_Store := kit_sub kl_Store (by decide +kernel),
    M_Store := ⟨mk_Store, a_Store_init, i_Store_init, kC_Store⟩,
    n_Store_layout := nA_Store_layout,
    n_Store_thread := nA_Store_thread,
    n_Store__cells := nA_Store__cells,
    n_Store__pages := nA_Store__pages,
    n_Store__taken_out := nA_Store__taken_out,
    n_Store__stamped := nA_Store__stamped,
    F_EspalierError_init := fun_mk (st := S_EspalierError_init) l_EspalierError_init cd_EspalierError_init' kp_EspalierError_init,
    b_EspalierError_init := (fun_mk (st := S_EspalierError_init) l_EspalierError_init cd_EspalierError_init' kp_EspalierError_init).binds (ps := ["self"]) fun _ _ _ _ _ _ us hl => match us, hl with | [_], _ => rfl,
    ty_EspalierError_init := ty_EspalierError_init,
    F_is_whole := fun_mk (st := S_is_whole) l_is_whole cd_is_whole' kp_is_whole,
    b_is_whole := (fun_mk (st := S_is_whole) l_is_whole cd_is_whole' kp_is_whole).binds (ps := ["value"]) fun _ _ _ _ _ _ us hl => match us, hl with | [_], _ => rfl,
    g_is_whole := PySem.W.mg_of X G a_is_whole,
    F_is_between := fun_mk (st := S_is_between) l_is_between cd_is_between' kp_is_between,
    b_is_between := (fun_mk (st := S_is_between) l_is_between cd_is_between' kp_is_between).binds (ps := ["value", "least", "most"]) fun _ _ _ _ _ _ us hl => match us, hl with | [_, _, _], _ => rfl,
    g_is_between := PySem.W.mg_of X G a_is_between,
    F_Layout_init := fun_mk (st := S_Layout_init) l_Layout_init cd_Layout_init' kp_Layout_init,
    b_Layout_init := (fun_mk (st := S_Layout_init) l_Layout_init cd_Layout_init' kp_Layout_init).binds (ps := ["self", "threads", "pages", "records"]) fun _ _ _ _ _ _ us hl => match us, hl with | [_, _, _, _], _ => rfl,
    F_Layout_record := fun_mk (st := S_Layout_record) l_Layout_record cd_Layout_record' kp_Layout_record,
    b_Layout_record := (fun_mk (st := S_Layout_record) l_Layout_record cd_Layout_record' kp_Layout_record).binds (ps := ["self", "index"]) fun _ _ _ _ _ _ us hl => match us, hl with | [_, _], _ => rfl,
    m_Layout_record := ⟨a_Layout_record, i_Layout_record, kp_Layout_record⟩,
    F_own := fun_mk (st := S_own) l_own cd_own' kp_own,
    b_own := (fun_mk (st := S_own) l_own cd_own' kp_own).binds (ps := ["thread", "threads", "first", "end"]) fun _ _ _ _ _ _ us hl => match us, hl with | [_, _, _, _], _ => rfl,
    g_own := PySem.W.mg_of X G a_own,
    F_Store_init := fun_mk (st := S_Store_init) l_Store_init cd_Store_init' kp_Store_init,
    b_Store_init := (fun_mk (st := S_Store_init) l_Store_init cd_Store_init' kp_Store_init).binds (ps := ["self", "layout", "thread"]) fun _ _ _ _ _ _ us hl => match us, hl with | [_, _, _], _ => rfl,
    F_Store_take := fun_mk (st := S_Store_take) l_Store_take cd_Store_take' kp_Store_take,
    b_Store_take := (fun_mk (st := S_Store_take) l_Store_take cd_Store_take' kp_Store_take).binds (ps := ["self", "cells", "pages"]) fun _ _ _ _ _ _ us hl => match us, hl with | [_, _, _], _ => rfl,
    m_Store_take := ⟨a_Store_take, i_Store_take, kp_Store_take⟩,
    F_Store_give_back := fun_mk (st := S_Store_give_back) l_Store_give_back cd_Store_give_back' kp_Store_give_back,
    b_Store_give_back := (fun_mk (st := S_Store_give_back) l_Store_give_back cd_Store_give_back' kp_Store_give_back).binds (ps := ["self", "cells", "pages"]) fun _ _ _ _ _ _ us hl => match us, hl with | [_, _, _], _ => rfl,
    m_Store_give_back := ⟨a_Store_give_back, i_Store_give_back, kp_Store_give_back⟩,
    F_Store_take_out := fun_mk (st := S_Store_take_out) l_Store_take_out cd_Store_take_out' kp_Store_take_out,
    b_Store_take_out := (fun_mk (st := S_Store_take_out) l_Store_take_out cd_Store_take_out' kp_Store_take_out).binds (ps := ["self", "cells"]) fun _ _ _ _ _ _ us hl => match us, hl with | [_, _], _ => rfl,
    m_Store_take_out := ⟨a_Store_take_out, i_Store_take_out, kp_Store_take_out⟩,
    F_Store_free_cells := fun_mk (st := S_Store_free_cells) l_Store_free_cells cd_Store_free_cells' kp_Store_free_cells,
    b_Store_free_cells := (fun_mk (st := S_Store_free_cells) l_Store_free_cells cd_Store_free_cells' kp_Store_free_cells).binds (ps := ["self"]) fun _ _ _ _ _ _ us hl => match us, hl with | [_], _ => rfl,
    m_Store_free_cells := ⟨a_Store_free_cells, i_Store_free_cells, kp_Store_free_cells⟩,
    F_Store_free_pages := fun_mk (st := S_Store_free_pages) l_Store_free_pages cd_Store_free_pages' kp_Store_free_pages,
    b_Store_free_pages := (fun_mk (st := S_Store_free_pages) l_Store_free_pages cd_Store_free_pages' kp_Store_free_pages).binds (ps := ["self"]) fun _ _ _ _ _ _ us hl => match us, hl with | [_], _ => rfl,
    m_Store_free_pages := ⟨a_Store_free_pages, i_Store_free_pages, kp_Store_free_pages⟩,
    F_Store_waiting := fun_mk (st := S_Store_waiting) l_Store_waiting cd_Store_waiting' kp_Store_waiting,
    b_Store_waiting := (fun_mk (st := S_Store_waiting) l_Store_waiting cd_Store_waiting' kp_Store_waiting).binds (ps := ["self"]) fun _ _ _ _ _ _ us hl => match us, hl with | [_], _ => rfl,
    m_Store_waiting := ⟨a_Store_waiting, i_Store_waiting, kp_Store_waiting⟩,
    F_Store_has_taken_out := fun_mk (st := S_Store_has_taken_out) l_Store_has_taken_out cd_Store_has_taken_out' kp_Store_has_taken_out,
    b_Store_has_taken_out := (fun_mk (st := S_Store_has_taken_out) l_Store_has_taken_out cd_Store_has_taken_out' kp_Store_has_taken_out).binds (ps := ["self"]) fun _ _ _ _ _ _ us hl => match us, hl with | [_], _ => rfl,
    m_Store_has_taken_out := ⟨a_Store_has_taken_out, i_Store_has_taken_out, kp_Store_has_taken_out⟩,
    F_law_tape := fun_mk (st := S_law_tape) l_law_tape cd_law_tape' kp_law_tape,
    b_law_tape := (fun_mk (st := S_law_tape) l_law_tape cd_law_tape' kp_law_tape).binds (ps := ["script"]) fun _ _ _ _ _ _ us hl => match us, hl with | [_], _ => rfl,
    g_law_tape := PySem.W.mg_of X G a_law_tape,
    F_law_at := fun_mk (st := S_law_at) l_law_at cd_law_at' kp_law_at,
    b_law_at := (fun_mk (st := S_law_at) l_law_at cd_law_at' kp_law_at).binds (ps := ["tape", "k"]) fun _ _ _ _ _ _ us hl => match us, hl with | [_, _], _ => rfl,
    g_law_at := PySem.W.mg_of X G a_law_at,
    F_law_same := fun_mk (st := S_law_same) l_law_same cd_law_same' kp_law_same,
    b_law_same := (fun_mk (st := S_law_same) l_law_same cd_law_same' kp_law_same).binds (ps := ["store", "cells", "pages", "out"]) fun _ _ _ _ _ _ us hl => match us, hl with | [_, _, _, _], _ => rfl,
    g_law_same := PySem.W.mg_of X G a_law_same,
    F_law_without := fun_mk (st := S_law_without) l_law_without cd_law_without' kp_law_without,
    b_law_without := (fun_mk (st := S_law_without) l_law_without cd_law_without' kp_law_without).binds (ps := ["rows", "gone"]) fun _ _ _ _ _ _ us hl => match us, hl with | [_, _], _ => rfl,
    g_law_without := PySem.W.mg_of X G a_law_without,
    F_law := fun_mk (st := S_law) l_law cd_law' kp_law,
    b_law := (fun_mk (st := S_law) l_law cd_law' kp_law).binds (ps := ["script"]) fun _ _ _ _ _ _ us hl => match us, hl with | [_], _ => rfl,
    g_law := PySem.W.mg_of X G a_law,
    z_ValueError := PySem.W.mg_none_of X G z_ValueError,
    z_abs := PySem.W.mg_none_of X G z_abs,
    z_bool := PySem.W.mg_none_of X G z_bool,
    z_int := PySem.W.mg_none_of X G z_int,
    z_isinstance := PySem.W.mg_none_of X G z_isinstance,
    z_len := PySem.W.mg_none_of X G z_len,
    z_list := PySem.W.mg_none_of X G z_list,
    z_max := PySem.W.mg_none_of X G z_max,
    z_min := PySem.W.mg_none_of X G z_min,
    z_range := PySem.W.mg_none_of X G z_range,
    z_sorted := PySem.W.mg_none_of X G z_sorted,
    z_tuple := PySem.W.mg_none_of X G z_tuple,
    v_init := vV,
    k_MOST_THREADS := PySem.W.mg_of X G cn_MOST_THREADS,
    k_LEAST_PAGES := PySem.W.mg_of X G cn_LEAST_PAGES,
    k_MOST_PAGES := PySem.W.mg_of X G cn_MOST_PAGES,
    k_FIRST_WORD := PySem.W.mg_of X G cn_FIRST_WORD }
theorem fin_mk {P : Program} {w : World} {K : PySem.W.Frag} {h : Heap} {mg : Str → Option Value} {fa : Addr} (X : K.In h) (G : h.Ns mainGlobals mg) (hfa : mg "law" = some (.ref fa))
    {C_EspalierError C_NotValid C_Layout C_Store f_EspalierError_init f_is_whole f_is_between f_Layout_init f_Layout_record f_own f_Store_init f_Store_take f_Store_give_back f_Store_take_out f_Store_free_cells f_Store_free_pages f_Store_waiting f_Store_has_taken_out f_law_tape f_law_at f_law_same f_law_without f_law : Addr}
    {t_MOST_THREADS t_LEAST_PAGES t_MOST_PAGES t_FIRST_WORD : Tok}
    {od_EspalierError_init an_EspalierError_init : Option Addr} {sl_EspalierError_init : Array (Option Value)} {oc_EspalierError_init kV_EspalierError_init dc_EspalierError_init pm_EspalierError_init cd_EspalierError_init ct_EspalierError_init : Value}
    {od_is_whole an_is_whole : Option Addr} {sl_is_whole : Array (Option Value)} {oc_is_whole kV_is_whole dc_is_whole pm_is_whole cd_is_whole ct_is_whole : Value}
    {od_is_between an_is_between : Option Addr} {sl_is_between : Array (Option Value)} {oc_is_between kV_is_between dc_is_between pm_is_between cd_is_between ct_is_between : Value}
    {od_Layout_init an_Layout_init : Option Addr} {sl_Layout_init : Array (Option Value)} {oc_Layout_init kV_Layout_init dc_Layout_init pm_Layout_init cd_Layout_init ct_Layout_init : Value}
    {od_Layout_record an_Layout_record : Option Addr} {sl_Layout_record : Array (Option Value)} {oc_Layout_record kV_Layout_record dc_Layout_record pm_Layout_record cd_Layout_record ct_Layout_record : Value}
    {od_own an_own : Option Addr} {sl_own : Array (Option Value)} {oc_own kV_own dc_own pm_own cd_own ct_own : Value}
    {od_Store_init an_Store_init : Option Addr} {sl_Store_init : Array (Option Value)} {oc_Store_init kV_Store_init dc_Store_init pm_Store_init cd_Store_init ct_Store_init : Value}
    {od_Store_take an_Store_take : Option Addr} {sl_Store_take : Array (Option Value)} {oc_Store_take kV_Store_take dc_Store_take pm_Store_take cd_Store_take ct_Store_take : Value}
    {od_Store_give_back an_Store_give_back : Option Addr} {sl_Store_give_back : Array (Option Value)} {oc_Store_give_back kV_Store_give_back dc_Store_give_back pm_Store_give_back cd_Store_give_back ct_Store_give_back : Value}
    {od_Store_take_out an_Store_take_out : Option Addr} {sl_Store_take_out : Array (Option Value)} {oc_Store_take_out kV_Store_take_out dc_Store_take_out pm_Store_take_out cd_Store_take_out ct_Store_take_out : Value}
    {od_Store_free_cells an_Store_free_cells : Option Addr} {sl_Store_free_cells : Array (Option Value)} {oc_Store_free_cells kV_Store_free_cells dc_Store_free_cells pm_Store_free_cells cd_Store_free_cells ct_Store_free_cells : Value}
    {od_Store_free_pages an_Store_free_pages : Option Addr} {sl_Store_free_pages : Array (Option Value)} {oc_Store_free_pages kV_Store_free_pages dc_Store_free_pages pm_Store_free_pages cd_Store_free_pages ct_Store_free_pages : Value}
    {od_Store_waiting an_Store_waiting : Option Addr} {sl_Store_waiting : Array (Option Value)} {oc_Store_waiting kV_Store_waiting dc_Store_waiting pm_Store_waiting cd_Store_waiting ct_Store_waiting : Value}
    {od_Store_has_taken_out an_Store_has_taken_out : Option Addr} {sl_Store_has_taken_out : Array (Option Value)} {oc_Store_has_taken_out kV_Store_has_taken_out dc_Store_has_taken_out pm_Store_has_taken_out cd_Store_has_taken_out ct_Store_has_taken_out : Value}
    {od_law_tape an_law_tape : Option Addr} {sl_law_tape : Array (Option Value)} {oc_law_tape kV_law_tape dc_law_tape pm_law_tape cd_law_tape ct_law_tape : Value}
    {od_law_at an_law_at : Option Addr} {sl_law_at : Array (Option Value)} {oc_law_at kV_law_at dc_law_at pm_law_at cd_law_at ct_law_at : Value}
    {od_law_same an_law_same : Option Addr} {sl_law_same : Array (Option Value)} {oc_law_same kV_law_same dc_law_same pm_law_same cd_law_same ct_law_same : Value}
    {od_law_without an_law_without : Option Addr} {sl_law_without : Array (Option Value)} {oc_law_without kV_law_without dc_law_without pm_law_without cd_law_without ct_law_without : Value}
    {od_law an_law : Option Addr} {sl_law : Array (Option Value)} {oc_law kV_law dc_law pm_law cd_law ct_law : Value}
    {nm_EspalierError qn_EspalierError : Str} {N_EspalierError : Addr} {bs_EspalierError : List Value} {sn_EspalierError : List Str} {sub_EspalierError : List Value} {ab_EspalierError : Bool} {col_EspalierError : Option Bool} {dd_EspalierError : Option Addr} {m0_EspalierError m1_EspalierError m2_EspalierError m3_EspalierError m5_EspalierError : Option Value}
    {nm_NotValid qn_NotValid : Str} {N_NotValid : Addr} {bs_NotValid : List Value} {sn_NotValid : List Str} {sub_NotValid : List Value} {ab_NotValid : Bool} {col_NotValid : Option Bool} {dd_NotValid : Option Addr} {m0_NotValid m1_NotValid m2_NotValid m3_NotValid m5_NotValid : Option Value}
    (gC_EspalierError : PySem.W.nsIn K mainGlobals "EspalierError" = some (some (.ref C_EspalierError)))
    (gC_NotValid : PySem.W.nsIn K mainGlobals "NotValid" = some (some (.ref C_NotValid)))
    (gC_Layout : PySem.W.nsIn K mainGlobals "Layout" = some (some (.ref C_Layout)))
    (gC_Store : PySem.W.nsIn K mainGlobals "Store" = some (some (.ref C_Store)))
    (xL_EspalierError : K.lookup C_EspalierError = some (excClassObj nm_EspalierError qn_EspalierError C_EspalierError N_EspalierError bs_EspalierError [.type "ValueError", .type "Exception", .type "BaseException", .type "object"] true sn_EspalierError sub_EspalierError ab_EspalierError col_EspalierError dd_EspalierError m0_EspalierError m1_EspalierError m2_EspalierError m3_EspalierError m5_EspalierError "ValueError.__new__"))
    (sa_EspalierError : PySem.W.findIn K (.ref C_EspalierError) "__setattr__" = some (some (.builtin "object.__setattr__")))
    (eC_EspalierError : PySem.W.subIn K (.ref C_EspalierError) (.type "BaseException") = some true)
    (tC_EspalierError : PySem.W.typeIn K (.ref C_EspalierError) = some (.type "type"))
    (kC_EspalierError : PySem.W.keepIn K (.ref C_EspalierError) = true)
    (ga_EspalierError : PySem.W.findIn K (.ref C_EspalierError) "__getattribute__" = some (some (.builtin "BaseException.__getattribute__")))
    (gg_EspalierError : PySem.W.findIn K (.ref C_EspalierError) "__getattr__" = some none)
    (hd_EspalierError : PySem.W.hasDictIn K C_EspalierError = true)
    (hc_EspalierError : PySem.W.findIn K (.ref C_EspalierError) "__class__" = some (some (.builtin "object.__class__")))
    (hm_EspalierError : PySem.W.mroIn K C_EspalierError (.type "object") = some true)
    (su_EspalierError_EspalierError : PySem.W.subIn K (.ref C_EspalierError) (.ref C_EspalierError) = some true)
    (fi_EspalierError : PySem.W.findIn K (.ref C_EspalierError) "__init__" = some (some (.ref f_EspalierError_init)))
    (xL_NotValid : K.lookup C_NotValid = some (excClassObj nm_NotValid qn_NotValid C_NotValid N_NotValid bs_NotValid [.ref C_EspalierError, .type "ValueError", .type "Exception", .type "BaseException", .type "object"] true sn_NotValid sub_NotValid ab_NotValid col_NotValid dd_NotValid m0_NotValid m1_NotValid m2_NotValid m3_NotValid m5_NotValid "ValueError.__new__"))
    (sa_NotValid : PySem.W.findIn K (.ref C_NotValid) "__setattr__" = some (some (.builtin "object.__setattr__")))
    (eC_NotValid : PySem.W.subIn K (.ref C_NotValid) (.type "BaseException") = some true)
    (tC_NotValid : PySem.W.typeIn K (.ref C_NotValid) = some (.type "type"))
    (kC_NotValid : PySem.W.keepIn K (.ref C_NotValid) = true)
    (ga_NotValid : PySem.W.findIn K (.ref C_NotValid) "__getattribute__" = some (some (.builtin "BaseException.__getattribute__")))
    (gg_NotValid : PySem.W.findIn K (.ref C_NotValid) "__getattr__" = some none)
    (hd_NotValid : PySem.W.hasDictIn K C_NotValid = true)
    (hc_NotValid : PySem.W.findIn K (.ref C_NotValid) "__class__" = some (some (.builtin "object.__class__")))
    (hm_NotValid : PySem.W.mroIn K C_NotValid (.type "object") = some true)
    (su_NotValid_NotValid : PySem.W.subIn K (.ref C_NotValid) (.ref C_NotValid) = some true)
    (su_NotValid_EspalierError : PySem.W.subIn K (.ref C_NotValid) (.ref C_EspalierError) = some true)
    (fi_NotValid : PySem.W.findIn K (.ref C_NotValid) "__init__" = some (some (.ref f_EspalierError_init)))
    (pg_Layout : PySem.W.plainGet K C_Layout Str.empty = true)
    (hd_Layout : PySem.W.hasDictIn K C_Layout = true)
    (po_Layout : PySem.W.plainOver K C_Layout = true)
    (sa_Layout : PySem.W.findIn K (.ref C_Layout) "__setattr__" = some (some (.builtin "object.__setattr__")))
    (hc_Layout : PySem.W.findIn K (.ref C_Layout) "__class__" = some (some (.builtin "object.__class__")))
    (hm_Layout : PySem.W.mroIn K C_Layout (.type "object") = some true)
    (kl_Layout : PySem.W.subIn K (.ref C_Layout) (.type "list") = some false)
    (mk_Layout : PySem.W.makesIn K C_Layout = true)
    (kC_Layout : PySem.W.keepIn K (.ref C_Layout) = true)
    (nA_Layout_threads : PySem.W.findIn K (.ref C_Layout) "threads" = some none)
    (nA_Layout_pages : PySem.W.findIn K (.ref C_Layout) "pages" = some none)
    (nA_Layout_records : PySem.W.findIn K (.ref C_Layout) "records" = some none)
    (pg_Store : PySem.W.plainGet K C_Store Str.empty = true)
    (hd_Store : PySem.W.hasDictIn K C_Store = true)
    (po_Store : PySem.W.plainOver K C_Store = true)
    (sa_Store : PySem.W.findIn K (.ref C_Store) "__setattr__" = some (some (.builtin "object.__setattr__")))
    (hc_Store : PySem.W.findIn K (.ref C_Store) "__class__" = some (some (.builtin "object.__class__")))
    (hm_Store : PySem.W.mroIn K C_Store (.type "object") = some true)
    (kl_Store : PySem.W.subIn K (.ref C_Store) (.type "list") = some false)
    (mk_Store : PySem.W.makesIn K C_Store = true)
    (kC_Store : PySem.W.keepIn K (.ref C_Store) = true)
    (nA_Store_layout : PySem.W.findIn K (.ref C_Store) "layout" = some none)
    (nA_Store_thread : PySem.W.findIn K (.ref C_Store) "thread" = some none)
    (nA_Store__cells : PySem.W.findIn K (.ref C_Store) "_cells" = some none)
    (nA_Store__pages : PySem.W.findIn K (.ref C_Store) "_pages" = some none)
    (nA_Store__taken_out : PySem.W.findIn K (.ref C_Store) "_taken_out" = some none)
    (nA_Store__stamped : PySem.W.findIn K (.ref C_Store) "_stamped" = some none)
    (ty_EspalierError_init : PySem.W.typeIn K (.ref f_EspalierError_init) = some (.type "function"))
    (l_EspalierError_init : K.lookup f_EspalierError_init = some ⟨oc_EspalierError_init, od_EspalierError_init, .func (PySem.W.fnOf "__init__" "EspalierError.__init__" (defArgs S_EspalierError_init) (defBody S_EspalierError_init) (defScope S_EspalierError_init) .none kV_EspalierError_init dc_EspalierError_init pm_EspalierError_init an_EspalierError_init cd_EspalierError_init ct_EspalierError_init), sl_EspalierError_init⟩)
    (cd_EspalierError_init' : PySem.W.codeIn K cd_EspalierError_init "EspalierError.__init__" = true)
    (kp_EspalierError_init : PySem.W.keepIn K (.ref f_EspalierError_init) = true)
    (a_is_whole : PySem.W.nsIn K mainGlobals "is_whole" = some (some (.ref f_is_whole)))
    (l_is_whole : K.lookup f_is_whole = some ⟨oc_is_whole, od_is_whole, .func (PySem.W.fnOf "is_whole" "is_whole" (defArgs S_is_whole) (defBody S_is_whole) (defScope S_is_whole) .none kV_is_whole dc_is_whole pm_is_whole an_is_whole cd_is_whole ct_is_whole), sl_is_whole⟩)
    (cd_is_whole' : PySem.W.codeIn K cd_is_whole "is_whole" = true)
    (kp_is_whole : PySem.W.keepIn K (.ref f_is_whole) = true)
    (a_is_between : PySem.W.nsIn K mainGlobals "_is_between" = some (some (.ref f_is_between)))
    (l_is_between : K.lookup f_is_between = some ⟨oc_is_between, od_is_between, .func (PySem.W.fnOf "_is_between" "_is_between" (defArgs S_is_between) (defBody S_is_between) (defScope S_is_between) .none kV_is_between dc_is_between pm_is_between an_is_between cd_is_between ct_is_between), sl_is_between⟩)
    (cd_is_between' : PySem.W.codeIn K cd_is_between "_is_between" = true)
    (kp_is_between : PySem.W.keepIn K (.ref f_is_between) = true)
    (a_Layout_init : PySem.W.findIn K (.ref C_Layout) "__init__" = some (some (.ref f_Layout_init)))
    (i_Layout_init : PySem.W.isFn K (.ref f_Layout_init) = true)
    (l_Layout_init : K.lookup f_Layout_init = some ⟨oc_Layout_init, od_Layout_init, .func (PySem.W.fnOf "__init__" "Layout.__init__" (defArgs S_Layout_init) (defBody S_Layout_init) (defScope S_Layout_init) .none kV_Layout_init dc_Layout_init pm_Layout_init an_Layout_init cd_Layout_init ct_Layout_init), sl_Layout_init⟩)
    (cd_Layout_init' : PySem.W.codeIn K cd_Layout_init "Layout.__init__" = true)
    (kp_Layout_init : PySem.W.keepIn K (.ref f_Layout_init) = true)
    (a_Layout_record : PySem.W.findIn K (.ref C_Layout) "record" = some (some (.ref f_Layout_record)))
    (i_Layout_record : PySem.W.isFn K (.ref f_Layout_record) = true)
    (l_Layout_record : K.lookup f_Layout_record = some ⟨oc_Layout_record, od_Layout_record, .func (PySem.W.fnOf "record" "Layout.record" (defArgs S_Layout_record) (defBody S_Layout_record) (defScope S_Layout_record) .none kV_Layout_record dc_Layout_record pm_Layout_record an_Layout_record cd_Layout_record ct_Layout_record), sl_Layout_record⟩)
    (cd_Layout_record' : PySem.W.codeIn K cd_Layout_record "Layout.record" = true)
    (kp_Layout_record : PySem.W.keepIn K (.ref f_Layout_record) = true)
    (a_own : PySem.W.nsIn K mainGlobals "_own" = some (some (.ref f_own)))
    (l_own : K.lookup f_own = some ⟨oc_own, od_own, .func (PySem.W.fnOf "_own" "_own" (defArgs S_own) (defBody S_own) (defScope S_own) .none kV_own dc_own pm_own an_own cd_own ct_own), sl_own⟩)
    (cd_own' : PySem.W.codeIn K cd_own "_own" = true)
    (kp_own : PySem.W.keepIn K (.ref f_own) = true)
    (a_Store_init : PySem.W.findIn K (.ref C_Store) "__init__" = some (some (.ref f_Store_init)))
    (i_Store_init : PySem.W.isFn K (.ref f_Store_init) = true)
    (l_Store_init : K.lookup f_Store_init = some ⟨oc_Store_init, od_Store_init, .func (PySem.W.fnOf "__init__" "Store.__init__" (defArgs S_Store_init) (defBody S_Store_init) (defScope S_Store_init) .none kV_Store_init dc_Store_init pm_Store_init an_Store_init cd_Store_init ct_Store_init), sl_Store_init⟩)
    (cd_Store_init' : PySem.W.codeIn K cd_Store_init "Store.__init__" = true)
    (kp_Store_init : PySem.W.keepIn K (.ref f_Store_init) = true)
    (a_Store_take : PySem.W.findIn K (.ref C_Store) "take" = some (some (.ref f_Store_take)))
    (i_Store_take : PySem.W.isFn K (.ref f_Store_take) = true)
    (l_Store_take : K.lookup f_Store_take = some ⟨oc_Store_take, od_Store_take, .func (PySem.W.fnOf "take" "Store.take" (defArgs S_Store_take) (defBody S_Store_take) (defScope S_Store_take) .none kV_Store_take dc_Store_take pm_Store_take an_Store_take cd_Store_take ct_Store_take), sl_Store_take⟩)
    (cd_Store_take' : PySem.W.codeIn K cd_Store_take "Store.take" = true)
    (kp_Store_take : PySem.W.keepIn K (.ref f_Store_take) = true)
    (a_Store_give_back : PySem.W.findIn K (.ref C_Store) "give_back" = some (some (.ref f_Store_give_back)))
    (i_Store_give_back : PySem.W.isFn K (.ref f_Store_give_back) = true)
    (l_Store_give_back : K.lookup f_Store_give_back = some ⟨oc_Store_give_back, od_Store_give_back, .func (PySem.W.fnOf "give_back" "Store.give_back" (defArgs S_Store_give_back) (defBody S_Store_give_back) (defScope S_Store_give_back) .none kV_Store_give_back dc_Store_give_back pm_Store_give_back an_Store_give_back cd_Store_give_back ct_Store_give_back), sl_Store_give_back⟩)
    (cd_Store_give_back' : PySem.W.codeIn K cd_Store_give_back "Store.give_back" = true)
    (kp_Store_give_back : PySem.W.keepIn K (.ref f_Store_give_back) = true)
    (a_Store_take_out : PySem.W.findIn K (.ref C_Store) "take_out" = some (some (.ref f_Store_take_out)))
    (i_Store_take_out : PySem.W.isFn K (.ref f_Store_take_out) = true)
    (l_Store_take_out : K.lookup f_Store_take_out = some ⟨oc_Store_take_out, od_Store_take_out, .func (PySem.W.fnOf "take_out" "Store.take_out" (defArgs S_Store_take_out) (defBody S_Store_take_out) (defScope S_Store_take_out) .none kV_Store_take_out dc_Store_take_out pm_Store_take_out an_Store_take_out cd_Store_take_out ct_Store_take_out), sl_Store_take_out⟩)
    (cd_Store_take_out' : PySem.W.codeIn K cd_Store_take_out "Store.take_out" = true)
    (kp_Store_take_out : PySem.W.keepIn K (.ref f_Store_take_out) = true)
    (a_Store_free_cells : PySem.W.findIn K (.ref C_Store) "free_cells" = some (some (.ref f_Store_free_cells)))
    (i_Store_free_cells : PySem.W.isFn K (.ref f_Store_free_cells) = true)
    (l_Store_free_cells : K.lookup f_Store_free_cells = some ⟨oc_Store_free_cells, od_Store_free_cells, .func (PySem.W.fnOf "free_cells" "Store.free_cells" (defArgs S_Store_free_cells) (defBody S_Store_free_cells) (defScope S_Store_free_cells) .none kV_Store_free_cells dc_Store_free_cells pm_Store_free_cells an_Store_free_cells cd_Store_free_cells ct_Store_free_cells), sl_Store_free_cells⟩)
    (cd_Store_free_cells' : PySem.W.codeIn K cd_Store_free_cells "Store.free_cells" = true)
    (kp_Store_free_cells : PySem.W.keepIn K (.ref f_Store_free_cells) = true)
    (a_Store_free_pages : PySem.W.findIn K (.ref C_Store) "free_pages" = some (some (.ref f_Store_free_pages)))
    (i_Store_free_pages : PySem.W.isFn K (.ref f_Store_free_pages) = true)
    (l_Store_free_pages : K.lookup f_Store_free_pages = some ⟨oc_Store_free_pages, od_Store_free_pages, .func (PySem.W.fnOf "free_pages" "Store.free_pages" (defArgs S_Store_free_pages) (defBody S_Store_free_pages) (defScope S_Store_free_pages) .none kV_Store_free_pages dc_Store_free_pages pm_Store_free_pages an_Store_free_pages cd_Store_free_pages ct_Store_free_pages), sl_Store_free_pages⟩)
    (cd_Store_free_pages' : PySem.W.codeIn K cd_Store_free_pages "Store.free_pages" = true)
    (kp_Store_free_pages : PySem.W.keepIn K (.ref f_Store_free_pages) = true)
    (a_Store_waiting : PySem.W.findIn K (.ref C_Store) "waiting" = some (some (.ref f_Store_waiting)))
    (i_Store_waiting : PySem.W.isFn K (.ref f_Store_waiting) = true)
    (l_Store_waiting : K.lookup f_Store_waiting = some ⟨oc_Store_waiting, od_Store_waiting, .func (PySem.W.fnOf "waiting" "Store.waiting" (defArgs S_Store_waiting) (defBody S_Store_waiting) (defScope S_Store_waiting) .none kV_Store_waiting dc_Store_waiting pm_Store_waiting an_Store_waiting cd_Store_waiting ct_Store_waiting), sl_Store_waiting⟩)
    (cd_Store_waiting' : PySem.W.codeIn K cd_Store_waiting "Store.waiting" = true)
    (kp_Store_waiting : PySem.W.keepIn K (.ref f_Store_waiting) = true)
    (a_Store_has_taken_out : PySem.W.findIn K (.ref C_Store) "has_taken_out" = some (some (.ref f_Store_has_taken_out)))
    (i_Store_has_taken_out : PySem.W.isFn K (.ref f_Store_has_taken_out) = true)
    (l_Store_has_taken_out : K.lookup f_Store_has_taken_out = some ⟨oc_Store_has_taken_out, od_Store_has_taken_out, .func (PySem.W.fnOf "has_taken_out" "Store.has_taken_out" (defArgs S_Store_has_taken_out) (defBody S_Store_has_taken_out) (defScope S_Store_has_taken_out) .none kV_Store_has_taken_out dc_Store_has_taken_out pm_Store_has_taken_out an_Store_has_taken_out cd_Store_has_taken_out ct_Store_has_taken_out), sl_Store_has_taken_out⟩)
    (cd_Store_has_taken_out' : PySem.W.codeIn K cd_Store_has_taken_out "Store.has_taken_out" = true)
    (kp_Store_has_taken_out : PySem.W.keepIn K (.ref f_Store_has_taken_out) = true)
    (a_law_tape : PySem.W.nsIn K mainGlobals "_law_tape" = some (some (.ref f_law_tape)))
    (l_law_tape : K.lookup f_law_tape = some ⟨oc_law_tape, od_law_tape, .func (PySem.W.fnOf "_law_tape" "_law_tape" (defArgs S_law_tape) (defBody S_law_tape) (defScope S_law_tape) .none kV_law_tape dc_law_tape pm_law_tape an_law_tape cd_law_tape ct_law_tape), sl_law_tape⟩)
    (cd_law_tape' : PySem.W.codeIn K cd_law_tape "_law_tape" = true)
    (kp_law_tape : PySem.W.keepIn K (.ref f_law_tape) = true)
    (a_law_at : PySem.W.nsIn K mainGlobals "_law_at" = some (some (.ref f_law_at)))
    (l_law_at : K.lookup f_law_at = some ⟨oc_law_at, od_law_at, .func (PySem.W.fnOf "_law_at" "_law_at" (defArgs S_law_at) (defBody S_law_at) (defScope S_law_at) .none kV_law_at dc_law_at pm_law_at an_law_at cd_law_at ct_law_at), sl_law_at⟩)
    (cd_law_at' : PySem.W.codeIn K cd_law_at "_law_at" = true)
    (kp_law_at : PySem.W.keepIn K (.ref f_law_at) = true)
    (a_law_same : PySem.W.nsIn K mainGlobals "_law_same" = some (some (.ref f_law_same)))
    (l_law_same : K.lookup f_law_same = some ⟨oc_law_same, od_law_same, .func (PySem.W.fnOf "_law_same" "_law_same" (defArgs S_law_same) (defBody S_law_same) (defScope S_law_same) .none kV_law_same dc_law_same pm_law_same an_law_same cd_law_same ct_law_same), sl_law_same⟩)
    (cd_law_same' : PySem.W.codeIn K cd_law_same "_law_same" = true)
    (kp_law_same : PySem.W.keepIn K (.ref f_law_same) = true)
    (a_law_without : PySem.W.nsIn K mainGlobals "_law_without" = some (some (.ref f_law_without)))
    (l_law_without : K.lookup f_law_without = some ⟨oc_law_without, od_law_without, .func (PySem.W.fnOf "_law_without" "_law_without" (defArgs S_law_without) (defBody S_law_without) (defScope S_law_without) .none kV_law_without dc_law_without pm_law_without an_law_without cd_law_without ct_law_without), sl_law_without⟩)
    (cd_law_without' : PySem.W.codeIn K cd_law_without "_law_without" = true)
    (kp_law_without : PySem.W.keepIn K (.ref f_law_without) = true)
    (a_law : PySem.W.nsIn K mainGlobals "law" = some (some (.ref f_law)))
    (l_law : K.lookup f_law = some ⟨oc_law, od_law, .func (PySem.W.fnOf "law" "law" (defArgs S_law) (defBody S_law) (defScope S_law) .none kV_law dc_law pm_law an_law cd_law ct_law), sl_law⟩)
    (cd_law' : PySem.W.codeIn K cd_law "law" = true)
    (kp_law : PySem.W.keepIn K (.ref f_law) = true)
    (z_ValueError : PySem.W.nsIn K mainGlobals "ValueError" = some none)
    (z_abs : PySem.W.nsIn K mainGlobals "abs" = some none)
    (z_bool : PySem.W.nsIn K mainGlobals "bool" = some none)
    (z_int : PySem.W.nsIn K mainGlobals "int" = some none)
    (z_isinstance : PySem.W.nsIn K mainGlobals "isinstance" = some none)
    (z_len : PySem.W.nsIn K mainGlobals "len" = some none)
    (z_list : PySem.W.nsIn K mainGlobals "list" = some none)
    (z_max : PySem.W.nsIn K mainGlobals "max" = some none)
    (z_min : PySem.W.nsIn K mainGlobals "min" = some none)
    (z_range : PySem.W.nsIn K mainGlobals "range" = some none)
    (z_sorted : PySem.W.nsIn K mainGlobals "sorted" = some none)
    (z_tuple : PySem.W.nsIn K mainGlobals "tuple" = some none)
    (vV : PySem.W.findCls K (.type "ValueError") (.type "type") "__init__" = some (.val (.builtin "ValueError.__init__")))
    (sp : PySem.W.specialIn K (.builtin "object.__class__") "__get__" = some (some (.builtin "getset_descriptor.__get__")))
    (tk : PySem.W.takesIn K (.builtin "object.__class__") = some true)
    (cn_MOST_THREADS : PySem.W.nsIn K mainGlobals "MOST_THREADS" = some (some (.int 4 t_MOST_THREADS)))
    (cn_LEAST_PAGES : PySem.W.nsIn K mainGlobals "LEAST_PAGES" = some (some (.int 2 t_LEAST_PAGES)))
    (cn_MOST_PAGES : PySem.W.nsIn K mainGlobals "MOST_PAGES" = some (some (.int 48 t_MOST_PAGES)))
    (cn_FIRST_WORD : PySem.W.nsIn K mainGlobals "FIRST_WORD" = some (some (.int 5 t_FIRST_WORD)))
    : ∃ fd : FuncData, (∀ (s : Shared) (v : Value), BindsTo s fd ⟨[v], []⟩ [("script", v)]) ∧ ∀ base : Heap, K.In base → base.Ns mainGlobals mg → FnOk P w K mg base CX0 30 fa fd ["script"] (spLaw K) := by
  have e := hfa.symm.trans (PySem.W.mg_of X G a_law)
  cases e
  obtain ⟨A, T, e1, e2⟩ := all_mk X G gC_EspalierError gC_NotValid gC_Layout gC_Store xL_EspalierError sa_EspalierError eC_EspalierError tC_EspalierError kC_EspalierError ga_EspalierError gg_EspalierError hd_EspalierError hc_EspalierError hm_EspalierError su_EspalierError_EspalierError fi_EspalierError xL_NotValid sa_NotValid eC_NotValid tC_NotValid kC_NotValid ga_NotValid gg_NotValid hd_NotValid hc_NotValid hm_NotValid su_NotValid_NotValid su_NotValid_EspalierError fi_NotValid pg_Layout hd_Layout po_Layout sa_Layout hc_Layout hm_Layout kl_Layout mk_Layout kC_Layout nA_Layout_threads nA_Layout_pages nA_Layout_records pg_Store hd_Store po_Store sa_Store hc_Store hm_Store kl_Store mk_Store kC_Store nA_Store_layout nA_Store_thread nA_Store__cells nA_Store__pages nA_Store__taken_out nA_Store__stamped ty_EspalierError_init l_EspalierError_init cd_EspalierError_init' kp_EspalierError_init a_is_whole l_is_whole cd_is_whole' kp_is_whole a_is_between l_is_between cd_is_between' kp_is_between a_Layout_init i_Layout_init l_Layout_init cd_Layout_init' kp_Layout_init a_Layout_record i_Layout_record l_Layout_record cd_Layout_record' kp_Layout_record a_own l_own cd_own' kp_own a_Store_init i_Store_init l_Store_init cd_Store_init' kp_Store_init a_Store_take i_Store_take l_Store_take cd_Store_take' kp_Store_take a_Store_give_back i_Store_give_back l_Store_give_back cd_Store_give_back' kp_Store_give_back a_Store_take_out i_Store_take_out l_Store_take_out cd_Store_take_out' kp_Store_take_out a_Store_free_cells i_Store_free_cells l_Store_free_cells cd_Store_free_cells' kp_Store_free_cells a_Store_free_pages i_Store_free_pages l_Store_free_pages cd_Store_free_pages' kp_Store_free_pages a_Store_waiting i_Store_waiting l_Store_waiting cd_Store_waiting' kp_Store_waiting a_Store_has_taken_out i_Store_has_taken_out l_Store_has_taken_out cd_Store_has_taken_out' kp_Store_has_taken_out a_law_tape l_law_tape cd_law_tape' kp_law_tape a_law_at l_law_at cd_law_at' kp_law_at a_law_same l_law_same cd_law_same' kp_law_same a_law_without l_law_without cd_law_without' kp_law_without a_law l_law cd_law' kp_law z_ValueError z_abs z_bool z_int z_isinstance z_len z_list z_max z_min z_range z_sorted z_tuple vV sp tk cn_MOST_THREADS cn_LEAST_PAGES cn_MOST_PAGES cn_FIRST_WORD
  have F := fun base => law_ofM (fun _ _ _ _ z => z) (ok_law (P := P) (w := w) T base)
  rw [e1, e2] at F
  exact ⟨_, fun s v => .of_eq rfl, fun base _ _ => (F base).mono (by decide)⟩
theorem walk {l : PySem.W.OpenLaw} {q : Program} {loose : List Str} {XP : (Str → Option Value) → Heap → Prop} {YP : World → Heap → Prop} {d : DefRec} {K : Params → PySem.W.Frag} (hn : l.most = some 63) (hdf : d.params.defaults = [])
    (hY : ∀ (w : World) (h : Heap), YP w h → (K w.params).In h)
    (F : ∀ (w : World) (mg : Str → Option Value) (fa : Addr) (h : Heap), (K w.params).In h → h.Ns mainGlobals mg → mg d.name = some (.ref fa) →
      ∃ fd : FuncData, (∀ (s : Shared) (u : Value), BindsTo s fd ⟨[u], []⟩ [("script", u)]) ∧ ∀ base : Heap, (K w.params).In base → base.Ns mainGlobals mg → FnOk l.prog w (K w.params) mg base CX0 30 fa fd ["script"] (spLaw (K w.params))) :
    PySem.W.WalkO q loose XP YP l.row.toRowW d [] (fun f vs => PySem.call f vs) :=
  L2.walk_of (n := 63) (k := 30) (x := "script") (CX := fun _ => CX0) (sp := fun w => spLaw (K w.params)) hn (by decide) hdf ⟨rfl, by decide, by decide⟩ hY F (fun _ _ a ns hl _ hS => ⟨a, ns, rfl, hS, hl, fun _ => rfl⟩) fun _ _ _ _ _ z => z
end K07
open PySem PySem.W PyProof.Rows
set_option maxRecDepth 100000 in
set_option maxHeartbeats 0 in
theorem K07.whole : PySem.Challenge.rw_espalier_k07_stores.Holds := by
  w_on; o_law; k_head; (case hw => w_witness2)
  k_fill
  refine K07.walk (l := PySem.Challenge.rw_espalier_k07_stores) rfl rfl (fun w h Y => PySem.W.kIn_of Y) ?F
  case F =>
    intro w mg fa h KX G hmg
    refine' K07.fin_mk KX G hmg ?gC_EspalierError ?gC_NotValid ?gC_Layout ?gC_Store ?xL_EspalierError ?sa_EspalierError ?eC_EspalierError ?tC_EspalierError ?kC_EspalierError ?ga_EspalierError ?gg_EspalierError ?hd_EspalierError ?hc_EspalierError ?hm_EspalierError ?su_EspalierError_EspalierError ?fi_EspalierError ?xL_NotValid ?sa_NotValid ?eC_NotValid ?tC_NotValid ?kC_NotValid ?ga_NotValid ?gg_NotValid ?hd_NotValid ?hc_NotValid ?hm_NotValid ?su_NotValid_NotValid ?su_NotValid_EspalierError ?fi_NotValid ?pg_Layout ?hd_Layout ?po_Layout ?sa_Layout ?hc_Layout ?hm_Layout ?kl_Layout ?mk_Layout ?kC_Layout ?nA_Layout_threads ?nA_Layout_pages ?nA_Layout_records ?pg_Store ?hd_Store ?po_Store ?sa_Store ?hc_Store ?hm_Store ?kl_Store ?mk_Store ?kC_Store ?nA_Store_layout ?nA_Store_thread ?nA_Store__cells ?nA_Store__pages ?nA_Store__taken_out ?nA_Store__stamped ?ty_EspalierError_init ?l_EspalierError_init ?cd_EspalierError_initq ?kp_EspalierError_init ?a_is_whole ?l_is_whole ?cd_is_wholeq ?kp_is_whole ?a_is_between ?l_is_between ?cd_is_betweenq ?kp_is_between ?a_Layout_init ?i_Layout_init ?l_Layout_init ?cd_Layout_initq ?kp_Layout_init ?a_Layout_record ?i_Layout_record ?l_Layout_record ?cd_Layout_recordq ?kp_Layout_record ?a_own ?l_own ?cd_ownq ?kp_own ?a_Store_init ?i_Store_init ?l_Store_init ?cd_Store_initq ?kp_Store_init ?a_Store_take ?i_Store_take ?l_Store_take ?cd_Store_takeq ?kp_Store_take ?a_Store_give_back ?i_Store_give_back ?l_Store_give_back ?cd_Store_give_backq ?kp_Store_give_back ?a_Store_take_out ?i_Store_take_out ?l_Store_take_out ?cd_Store_take_outq ?kp_Store_take_out ?a_Store_free_cells ?i_Store_free_cells ?l_Store_free_cells ?cd_Store_free_cellsq ?kp_Store_free_cells ?a_Store_free_pages ?i_Store_free_pages ?l_Store_free_pages ?cd_Store_free_pagesq ?kp_Store_free_pages ?a_Store_waiting ?i_Store_waiting ?l_Store_waiting ?cd_Store_waitingq ?kp_Store_waiting ?a_Store_has_taken_out ?i_Store_has_taken_out ?l_Store_has_taken_out ?cd_Store_has_taken_outq ?kp_Store_has_taken_out ?a_law_tape ?l_law_tape ?cd_law_tapeq ?kp_law_tape ?a_law_at ?l_law_at ?cd_law_atq ?kp_law_at ?a_law_same ?l_law_same ?cd_law_sameq ?kp_law_same ?a_law_without ?l_law_without ?cd_law_withoutq ?kp_law_without ?a_law ?l_law ?cd_lawq ?kp_law ?z_ValueError ?z_abs ?z_bool ?z_int ?z_isinstance ?z_len ?z_list ?z_max ?z_min ?z_range ?z_sorted ?z_tuple ?vV ?sp ?tk ?cn_MOST_THREADS ?cn_LEAST_PAGES ?cn_MOST_PAGES ?cn_FIRST_WORD
    (case gC_EspalierError => k_is)
    (case gC_NotValid => k_is)
    (case gC_Layout => k_is)
    (case gC_Store => k_is)
    (case xL_EspalierError => k_is)
    (case sa_EspalierError => k_is)
    (case eC_EspalierError => k_is)
    (case tC_EspalierError => k_is)
    (case kC_EspalierError => k_is)
    (case ga_EspalierError => k_is)
    (case gg_EspalierError => k_is)
    (case hd_EspalierError => k_is)
    (case hc_EspalierError => k_is)
    (case hm_EspalierError => k_is)
    (case su_EspalierError_EspalierError => k_is)
    (case fi_EspalierError => k_is)
    (case xL_NotValid => k_is)
    (case sa_NotValid => k_is)
    (case eC_NotValid => k_is)
    (case tC_NotValid => k_is)
    (case kC_NotValid => k_is)
    (case ga_NotValid => k_is)
    (case gg_NotValid => k_is)
    (case hd_NotValid => k_is)
    (case hc_NotValid => k_is)
    (case hm_NotValid => k_is)
    (case su_NotValid_NotValid => k_is)
    (case su_NotValid_EspalierError => k_is)
    (case fi_NotValid => k_is)
    (case pg_Layout => k_is)
    (case hd_Layout => k_is)
    (case po_Layout => k_is)
    (case sa_Layout => k_is)
    (case hc_Layout => k_is)
    (case hm_Layout => k_is)
    (case kl_Layout => k_is)
    (case mk_Layout => k_is)
    (case kC_Layout => k_is)
    (case nA_Layout_threads => k_is)
    (case nA_Layout_pages => k_is)
    (case nA_Layout_records => k_is)
    (case pg_Store => k_is)
    (case hd_Store => k_is)
    (case po_Store => k_is)
    (case sa_Store => k_is)
    (case hc_Store => k_is)
    (case hm_Store => k_is)
    (case kl_Store => k_is)
    (case mk_Store => k_is)
    (case kC_Store => k_is)
    (case nA_Store_layout => k_is)
    (case nA_Store_thread => k_is)
    (case nA_Store__cells => k_is)
    (case nA_Store__pages => k_is)
    (case nA_Store__taken_out => k_is)
    (case nA_Store__stamped => k_is)
    (case ty_EspalierError_init => k_is)
    (case l_EspalierError_init => k_is)
    (case cd_EspalierError_initq => k_is)
    (case kp_EspalierError_init => k_is)
    (case a_is_whole => k_is)
    (case l_is_whole => k_is)
    (case cd_is_wholeq => k_is)
    (case kp_is_whole => k_is)
    (case a_is_between => k_is)
    (case l_is_between => k_is)
    (case cd_is_betweenq => k_is)
    (case kp_is_between => k_is)
    (case a_Layout_init => k_is)
    (case i_Layout_init => k_is)
    (case l_Layout_init => k_is)
    (case cd_Layout_initq => k_is)
    (case kp_Layout_init => k_is)
    (case a_Layout_record => k_is)
    (case i_Layout_record => k_is)
    (case l_Layout_record => k_is)
    (case cd_Layout_recordq => k_is)
    (case kp_Layout_record => k_is)
    (case a_own => k_is)
    (case l_own => k_is)
    (case cd_ownq => k_is)
    (case kp_own => k_is)
    (case a_Store_init => k_is)
    (case i_Store_init => k_is)
    (case l_Store_init => k_is)
    (case cd_Store_initq => k_is)
    (case kp_Store_init => k_is)
    (case a_Store_take => k_is)
    (case i_Store_take => k_is)
    (case l_Store_take => k_is)
    (case cd_Store_takeq => k_is)
    (case kp_Store_take => k_is)
    (case a_Store_give_back => k_is)
    (case i_Store_give_back => k_is)
    (case l_Store_give_back => k_is)
    (case cd_Store_give_backq => k_is)
    (case kp_Store_give_back => k_is)
    (case a_Store_take_out => k_is)
    (case i_Store_take_out => k_is)
    (case l_Store_take_out => k_is)
    (case cd_Store_take_outq => k_is)
    (case kp_Store_take_out => k_is)
    (case a_Store_free_cells => k_is)
    (case i_Store_free_cells => k_is)
    (case l_Store_free_cells => k_is)
    (case cd_Store_free_cellsq => k_is)
    (case kp_Store_free_cells => k_is)
    (case a_Store_free_pages => k_is)
    (case i_Store_free_pages => k_is)
    (case l_Store_free_pages => k_is)
    (case cd_Store_free_pagesq => k_is)
    (case kp_Store_free_pages => k_is)
    (case a_Store_waiting => k_is)
    (case i_Store_waiting => k_is)
    (case l_Store_waiting => k_is)
    (case cd_Store_waitingq => k_is)
    (case kp_Store_waiting => k_is)
    (case a_Store_has_taken_out => k_is)
    (case i_Store_has_taken_out => k_is)
    (case l_Store_has_taken_out => k_is)
    (case cd_Store_has_taken_outq => k_is)
    (case kp_Store_has_taken_out => k_is)
    (case a_law_tape => k_is)
    (case l_law_tape => k_is)
    (case cd_law_tapeq => k_is)
    (case kp_law_tape => k_is)
    (case a_law_at => k_is)
    (case l_law_at => k_is)
    (case cd_law_atq => k_is)
    (case kp_law_at => k_is)
    (case a_law_same => k_is)
    (case l_law_same => k_is)
    (case cd_law_sameq => k_is)
    (case kp_law_same => k_is)
    (case a_law_without => k_is)
    (case l_law_without => k_is)
    (case cd_law_withoutq => k_is)
    (case kp_law_without => k_is)
    (case a_law => k_is)
    (case l_law => k_is)
    (case cd_lawq => k_is)
    (case kp_law => k_is)
    (case z_ValueError => k_is)
    (case z_abs => k_is)
    (case z_bool => k_is)
    (case z_int => k_is)
    (case z_isinstance => k_is)
    (case z_len => k_is)
    (case z_list => k_is)
    (case z_max => k_is)
    (case z_min => k_is)
    (case z_range => k_is)
    (case z_sorted => k_is)
    (case z_tuple => k_is)
    (case vV => k_is)
    (case sp => k_is)
    (case tk => k_is)
    (case cn_MOST_THREADS => k_is)
    (case cn_LEAST_PAGES => k_is)
    (case cn_MOST_PAGES => k_is)
    (case cn_FIRST_WORD => k_is)
theorem PySem.Challenge.cw_espalier_k07_stores_holds : PySem.Challenge.rw_espalier_k07_stores.Holds :=
  K07.whole
#print axioms PySem.Challenge.cw_espalier_k07_stores_holds

