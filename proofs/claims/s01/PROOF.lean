import PyProof.Rows.All
import Wide.All
import OpenK.AllK
import Wide.FinOn
import Open.SpecLaws
import KE.OsGo
import HandS.ForSpec
import HandS.ForMost
import KE.GoesEnumKw
import KE.OsArith
import PyFlatLaws
import PySem.Challenge.RW_twopads_s01_answers
set_option Elab.async false
set_option maxRecDepth 100000
set_option maxHeartbeats 2000000
/-! Own words over the hand layer: a callee as one fact; calls of such; fields; heaps. -/
namespace TP
open PySem PySem.Spec PyProof.Rows L2

section
variable (P : Program) (w : World) (K : PySem.W.Frag) (mg : Str → Option Value) (base : Heap)
/-- the method m of the class at C keeps its promise -/
structure MethF (k : Nat) (C : Addr) (m : Str) (ps : List Str) (sp : Sp) : Prop where
  ex : ∃ (f : Addr) (fd : FuncData), Meth K C m f ∧ Binds K fd ps [] ∧ FnOk P w K mg base CX0 k f fd ps sp
/-- the def x of the module keeps its promise -/
structure FunF (k : Nat) (x : Str) (ps : List Str) (sp : Sp) : Prop where
  ex : ∃ (f : Addr) (fd : FuncData), mg x = some (.ref f) ∧ PySem.W.keepIn K (.ref f) = true ∧ Binds K fd ps [] ∧ FnOk P w K mg base CX0 k f fd ps sp
/-- the class x at C makes instances by its __init__, which keeps its promise -/
structure MakeF (k : Nat) (C : Addr) (x : Str) (ps : List Str) (sp : Sp) : Prop where
  ex : ∃ (f : Addr) (fd : FuncData), Mk K C f ∧ mg x = some (.ref C) ∧ Binds K fd ps [] ∧ FnOk P w K mg base CX0 k f fd ps sp
end

/-- no star among a call's arguments -/
structure NoStar (X : Cx) (pos : Pos) (e : Expr) (es : List Expr) : Prop where
  one : starEach (e :: es) X.env = (false, eval e X.env) :: starEach es X.env
  rest : (backTo pos (starEach es X.env)).any (·.1) = false
/-- a method's call is read: the object, the method, the arguments -/
def Reads3 (X : Cx) (o : Expr) (m : Str) (apos pos : Pos) (es : List Expr) (pl : Sem Bool) : Prop :=
  eval (.Call (.Attribute o m apos) es [] pos) X.env = (do let ov ← eval o X.env; standAt apos.atName; let (f, first) ← holding [ov] (getMethod ov m pl); callWith pos f first (backTo pos (starEach es X.env)) (backToKw pos (keywordEach [] X.env)))
section
variable {X : Cx} {k : Nat} {C : Addr} {ps : List Str} {sp : Sp} {x m : Str} {p pos apos : Pos} {e o : Expr} {es : List Expr} {ta : TE} {t : TA}
theorem pe_methF {pl : Sem Bool} (he : PE X o ta) (c : Cls X.K C) (G : MethF X.prog X.w X.K X.mg X.base k C m ps sp) (hr : Room k X.A) (ha : PA X (e :: es) t) (ns : NoStar X pos e es := by exact ⟨rfl, rfl⟩) (ht : Reads3 X o m apos pos (e :: es) pl := by exact rfl) :
    PE X (.Call (.Attribute o m apos) (e :: es) [] pos) (tMeth C m sp [] E0 ta t) := by
  obtain ⟨f, fd, hm, hb, F⟩ := G.ex
  exact pe_meth he c hm F hr hb .nil pass0 ha ns.one ns.rest ht
theorem pe_methF0 {pl : Sem Bool} (he : PE X o ta) (c : Cls X.K C) (G : MethF X.prog X.w X.K X.mg X.base k C m ps sp) (hr : Room k X.A) (ht : Reads3 X o m apos pos [] pl := by exact rfl) :
    PE X (.Call (.Attribute o m apos) [] [] pos) (tMeth C m sp [] E0 ta tNil) := by
  obtain ⟨f, fd, hm, hb, F⟩ := G.ex
  exact pe_meth0 he c hm F hr hb .nil pass0 ht
theorem pe_callF (G : FunF X.prog X.w X.K X.mg X.base k x ps sp) (hr : Room k X.A) (ha : PA X (e :: es) t) (hg : Gl X x := by rfl) (hdb : (x == ("__debug__" : Str)) = false := by decide) (ns : NoStar X pos e es := by exact ⟨rfl, rfl⟩) :
    PE X (.Call (.Name x p) (e :: es) [] pos) (tCall sp [] E0 t) := by
  obtain ⟨f, fd, hm, hk, hb, F⟩ := G.ex
  exact pe_call F hr hg hm hk hb .nil pass0 ha hdb ns.one ns.rest
theorem pe_callF0 (G : FunF X.prog X.w X.K X.mg X.base k x ps sp) (hr : Room k X.A) (hg : Gl X x := by rfl) (hdb : (x == ("__debug__" : Str)) = false := by decide) :
    PE X (.Call (.Name x p) [] [] pos) (tCall sp [] E0 tNil) := by
  obtain ⟨f, fd, hm, hk, hb, F⟩ := G.ex
  exact pe_call0 F hr hg hm hk hb .nil pass0 hdb
theorem pe_makeF (G : MakeF X.prog X.w X.K X.mg X.base k C x ps sp) (hr : Room (k + 1) X.A) (ha : PA X (e :: es) t) (hg : Gl X x := by rfl) (hdb : (x == ("__debug__" : Str)) = false := by decide) (ns : NoStar X pos e es := by exact ⟨rfl, rfl⟩) :
    PE X (.Call (.Name x p) (e :: es) [] pos) (tMake C sp [] E0 t) := by
  obtain ⟨f, fd, M, hm, hb, F⟩ := G.ex
  exact pe_make M F hr hg hm hb .nil pass0 ha hdb ns.one ns.rest
theorem pe_makeF0 (G : MakeF X.prog X.w X.K X.mg X.base k C x ps sp) (hr : Room (k + 1) X.A) (hg : Gl X x := by rfl) (hdb : (x == ("__debug__" : Str)) = false := by decide) :
    PE X (.Call (.Name x p) [] [] pos) (tMake C sp [] E0 tNil) := by
  obtain ⟨f, fd, M, hm, hb, F⟩ := G.ex
  exact pe_make0 M F hr hg hm hb .nil pass0 hdb
end

/-- the token of an int that a name holds -/
def tokOf (o : Option Value) : Tok := match o with
  | some (.int _ t) => t
  | _ => 0
theorem tok_mk {o : Option Value} {n : Int} {t : Tok} (h : o = some (.int n t)) : o = some (.int n (tokOf o)) := by
  subst h
  rfl
/-! ### fields -/
theorem getF0 {n : Str} {y : V} {fs : List (Str × V)} : ((n, y) :: fs).lookup n = some y := by simp only [List.lookup, beq_self_eq_true n]
theorem getF1 {n n' : Str} {y : V} {fs : List (Str × V)} (h : (n == n') = false) : ((n', y) :: fs).lookup n = fs.lookup n := by simp only [List.lookup, h]
theorem storeF0 {n : Str} {y z : V} {fs : List (Str × V)} : putF n y ((n, z) :: fs) = (n, y) :: fs := if_pos rfl
theorem storeF1 {n n' : Str} {y z : V} {fs : List (Str × V)} (h : ¬ n' = n) : putF n y ((n', z) :: fs) = (n', z) :: putF n y fs := if_neg h

/-! ### an if whose test is known -/
theorem ifY {t : Bool} {Y N : Prop} (e : t = true) (y : Y) : if t = true then Y else N := by subst e; exact iteT y
theorem ifN {t : Bool} {Y N : Prop} (e : t = false) (n : N) : if t = true then Y else N := by subst e; exact iteF n
theorem if_dec {p : Prop} [Decidable p] {A B : Prop} (h1 : p → A) (h2 : ¬ p → B) : if decide p = true then A else B := by
  by_cases h : p
  · rw [if_pos (decide_eq_true h)]; exact h1 h
  · rw [if_neg (by rw [decide_eq_false h]; exact Bool.false_ne_true)]; exact h2 h

/-- 1 if p else 0 -/
def b01 (b : Bool) : Int := if b = true then 1 else 0
theorem if_10 {b : Bool} {σ : L2.St} {H : Hp} {Q : VK} (h : Q (.int (b01 b)) H) : if b = true then tC (.int 1) σ H Q else tC (.int 0) σ H Q := by
  cases b with
  | true => exact iteT h
  | false => exact iteF h
/-! ### heaps: all that was tracked is as it was, but at S -/
def Kp (S : Addr → Prop) (H H' : Hp) : Prop := ∀ b o, H b = some o → ¬ S b → H' b = some o
theorem Kp.refl {S : Addr → Prop} {H : Hp} : Kp S H H := fun _ _ h _ => h
theorem Kp.trans {S : Addr → Prop} {H H1 H2 : Hp} (a : Kp S H H1) (b : Kp S H1 H2) : Kp S H H2 := fun c o h n => b c o (a c o h n) n
theorem Kp.upd {S : Addr → Prop} {H H1 : Hp} {a : Addr} {o : HO} (k : Kp S H H1) (h : S a) : Kp S H (L2.upd H1 a o) := fun c u e n => by
  have q : c ≠ a := fun z => n (by rw [z]; exact h)
  rw [upd_ne q]
  exact k c u e n
theorem Kp.new {S : Addr → Prop} {H H1 : Hp} {a : Addr} {o : HO} (k : Kp S H H1) (h : H1 a = none) : Kp S H (L2.upd H1 a o) := fun c u e n => by
  have q := k c u e n
  rw [upd_ne (ne_of_none q h)]
  exact q
theorem Kp.mono {S S' : Addr → Prop} {H H' : Hp} (a : Kp S H H') (h : ∀ b, S b → S' b) : Kp S' H H' := fun b o e n => a b o e fun s => n (h b s)
theorem Kp.same {S : Addr → Prop} {H H' : Hp} (s : Same H H') : Kp S H H' := fun b o e _ => s b o e

/-! ### slices -/
theorem drop_min {α : Type} (xs : List α) (a : Nat) : xs.drop (min a xs.length) = xs.drop a := by
  by_cases h : a ≤ xs.length
  · rw [Nat.min_eq_left h]
  · rw [Nat.min_eq_right (by omega), List.drop_eq_nil_of_le (Nat.le_refl _), List.drop_eq_nil_of_le (by omega)]
theorem cut_mid (xs : List V) (a b : Nat) : cutV xs (some (a : Int)) (some (b : Int)) = (xs.drop a).take (b - a) := by
  unfold cutV
  rw [HT.sIx_nat, HT.sIx_nat, drop_min, List.take_eq_take_iff, List.length_drop]
  omega
theorem cut_from (xs : List V) (a : Nat) : cutV xs (some (a : Int)) none = xs.drop a := by
  unfold cutV
  rw [HT.sIx_nat, HT.sIx_none, drop_min, List.take_of_length_le]
  rw [List.length_drop]
  omega
theorem cut_to (xs : List V) (b : Nat) : cutV xs none (some (b : Int)) = xs.take b := by
  unfold cutV
  rw [HT.sIx_nat, HT.sIx_none]
  show xs.take (min b xs.length - 0) = xs.take b
  rw [List.take_eq_take_iff]
  omega
end TP
/-! One rule more: for t, x in enumerate(xs, start=k). -/
namespace TP
open PySem PySem.Spec PyProof.Rows L2
/-- what a turn meets: the list at a as it then stands, a new pair of the count and the item -/
def IteK (K : PySem.W.Frag) (k : Int) (a : Addr) : It where
  go := fun i H => ∃ (xs : List V) (x : V), SqL K H a xs ∧ xs[i]? = some x
  yld := fun i H v H' => ∃ T x, v = .ref T ∧ H T = none ∧ H' = upd H T (.tup [.int (k + (i : Nat)), x]) ∧ ∀ xs, SqL K H a xs → xs[i]? = some x
  stop := fun i H => ∃ xs : List V, SqL K H a xs ∧ xs.length ≤ i
/-- ahead of turn i: the enumeration at e counts k + i, its walker at it stands at i -/
structure AtTurn (k : Int) (a e it : Addr) (i : Nat) (h : Heap) : Prop where
  cnt : ∃ old, IsEnum h e it (k + ((i : Nat) : Int)) old
  wlk : h.IsListIter it a i
  two : e ≠ it
theorem two_of {b e it : Addr} (h : b ∈ [e, it]) : b = e ∨ b = it := by simpa using h
theorem not_two {b e it : Addr} (h : b ∉ [e, it]) : b ≠ e ∧ b ≠ it := ⟨fun z => h (by simp [z]), fun z => h (by simp [z])⟩
section
variable {k : Int} {a e it : Addr} {i : Nat} {h : Heap}
theorem AtTurn.low (S : AtTurn k a e it i h) {b : Addr} (hb : b ∈ [e, it]) : b < h.objs.size := by
  obtain ⟨old, q⟩ := S.cnt
  obtain ⟨o, q2, _⟩ := S.wlk
  rcases two_of hb with z | z
  · exact z ▸ Heap.lt_size q
  · exact z ▸ Heap.lt_size q2
/-- a list is neither of the two -/
theorem AtTurn.off (S : AtTurn k a e it i h) {l : Addr} {vs : Array Value} (hl : h.IsList l vs) : l ≠ e ∧ l ≠ it := by
  obtain ⟨old, q⟩ := S.cnt
  obtain ⟨o, q2, c2, _⟩ := S.wlk
  obtain ⟨ol, q3, c3, _⟩ := hl
  refine ⟨fun z => ?_, fun z => ?_⟩
  · rw [z] at q3
    have same := Option.some.inj ((show h.get? e = some _ from q).symm.trans q3)
    rw [← same] at c3
    exact absurd (Value.type.inj c3) (by decide)
  · rw [z, q2] at q3
    rw [← Option.some.inj q3, c2] at c3
    exact absurd (Value.type.inj c3) (by decide)
end
/-- a walker behind the last item -/
theorem behind_last {prog : Program} {w : World} {A : Around} (calm : A.handled = none) (it a : Addr) (i : Nat) (vs : Array Value) (out : vs[i]? = none) :
    Draws prog w A it [it, a] 0 (fun _ _ => False) (fun _ h => h.IsListIter it a i ∧ h.IsList a vs) where
  live := fun _ _ ⟨⟨o, q, _⟩, _⟩ => ⟨o, q⟩
  frame := fun _ _ _ st kept => ⟨st.1.at (kept it (by simp)), st.2.at (kept a (by simp))⟩
  item := fun j _ _ _ hj _ _ => absurd hj (Nat.not_lt_zero j)
  done := fun _ _ _ st raise => wpAny_nextOf_list_end calm st.1 st.2 out raise
theorem turn_enumK {P : Program} {w : World} {K : PySem.W.Frag} {elts : List Expr} {kk : Nat} {tpos : Pos} (k : Int) (a e it : Addr) : Turn P w K (.Tuple elts kk tpos) (IteK K k a) [e, it] e (AtTurn k a e it) where
  mem := List.mem_cons_self
  obj := fun i h S b hb => by
    obtain ⟨old, q⟩ := S.cnt
    obtain ⟨o, q2, _, dat⟩ := S.wlk
    obtain rfl | rfl := two_of hb
    · exact ⟨_, q, nofun⟩
    · refine ⟨o, q2, fun v y => ?_⟩
      rw [dat] at y
      cases y
  keep := fun i h h' S kept => ⟨S.cnt.imp fun old q => kept e (by simp) _ q, S.wlk.at (kept it (by simp)), S.two⟩
  item := by
    rintro X rfl rfl rfl calm i pins s σ H E inv own S ⟨xs, x, sq, at_i⟩
    obtain ⟨vs, rel, pl, _⟩ := inv.list sq
    obtain ⟨u, got, ru⟩ := rel.get at_i
    obtain ⟨old, isE⟩ := S.cnt
    have hd : X.A.in1.handled = none := inv.ok.hd calm
    have got' : vs.toArray[i]? = some u := by simpa using got
    have inb : i < vs.toArray.size := (Array.getElem?_eq_some_iff.mp got').1
    have el : e < s.heap.objs.size := S.low List.mem_cons_self
    obtain ⟨a_e, a_it⟩ := S.off pl.isList
    refine wpAny_pyNext_enum_itemC (Draws.list (A := X.A.in1) hd it a a_it vs.toArray) isE ⟨S.wlk, pl.isList⟩ inb S.two ?_ fun u' h1 tk pu out at1 tup sz kept => ?_
    · intro z
      rcases (by simpa using z : e = it ∨ e = a) with y | y
      · exact S.two y
      · exact a_e y.symm
    cases got'.symm.trans pu
    refine ⟨_, rfl, wpAny_letOwnedTupleGo_enum (s := { s with heap := h1, toks := tk + 1 }) out fun h2 isE2 but => ?_⟩
    have keptAll : ∀ b o, b ∉ [e, it] → s.heap.get? b = some o → h2.get? b = some o := fun b o nb q => (but.2 b (not_two nb).1).trans (kept b o (not_two nb).1 (not_two nb).2 q)
    have pairOk : ObjOk X.prog X.w (upd H s.heap.objs.size (.tup [.int (k + (i : Nat)), x])) h2 s.heap.objs.size (.tup [.int (k + (i : Nat)), x]) :=
      ⟨show 2 ≤ sizeLine by decide, [.int (k + (i : Nat)) tk, u], .cons ⟨_, rfl⟩ (.cons ru .nil), ⟨_, (but.2 _ (Nat.ne_of_gt el)).trans tup, rfl, _, rfl⟩⟩
    refine ⟨.ref s.heap.objs.size, _, inv.turnedNew (t' := tk + 1) (ch := [e, it]) keptAll own (Nat.le_refl _) pairOk, rfl, ⟨_, x, rfl, inv.hok.fresh (Nat.le_refl _), rfl, fun ys sq' => inv.list_inj sq' sq ▸ at_i⟩, ⟨⟨u, ?_⟩, at1.1.at fun o q => (but.2 it S.two.symm).trans q, S.two⟩, fun b hb => ?_⟩
    · rw [show k + ((i + 1 : Nat) : Int) = k + (i : Int) + 1 by omega]
      exact isE2
    · rw [upd_ne (Nat.ne_of_lt (S.low hb))]
      exact (own b hb).1
  done := by
    rintro X rfl rfl rfl calm i pins s σ H E inv own S ⟨xs, sq, le⟩
    obtain ⟨vs, rel, pl, _⟩ := inv.list sq
    obtain ⟨old, isE⟩ := S.cnt
    have hd : X.A.in1.handled = none := inv.ok.hd calm
    have ln := rel.length
    obtain ⟨o0, o1, _, o3, o4, o5⟩ := own it (by simp)
    refine wpAny_pyNext_enum_endD (behind_last (A := X.A.in1) hd it a i vs.toArray (by simp; omega)) isE ⟨S.wlk, pl.isList⟩ fun h1 ext => ⟨rfl, ?_⟩
    exact inv.turned (t' := s.toks) (fun b o nb q => ext b o nb q) o0 o1 o3 o4 o5
  self := fun A i s Q E S h => by
    obtain ⟨old, isE⟩ := S.cnt
    exact wpAny_pyIter_enum isE h
def iEnumK (K : PySem.W.Frag) (ta tk : TA) : TI := fun σ H R => ta σ H fun vs H1 => tk σ H1 fun zs H2 => ∃ a xs k, vs = [.ref a] ∧ zs = [.int k] ∧ SqL K H2 a xs ∧ -(2 ^ 63) ≤ k ∧ k < 2 ^ 63 ∧ R (IteK K k a) H2
/-- how a call's arguments stand: one that is no star, keywords that all have names -/
structure Named (X : Cx) (pos : Pos) (e : Expr) (kws : List Keyword) (ks : List Str) : Prop where
  one : starEach [e] X.env = (false, eval e X.env) :: starEach [] X.env
  back : backTo pos (starEach [e] X.env) = (false, eval e X.env) :: backTo pos (starEach [] X.env)
  plain : (backTo pos (starEach [e] X.env)).any (·.1) = false
  all : (backToKw pos (keywordEach kws X.env)).all (·.1.isSome) = true
  none : (backToKw pos (keywordEach kws X.env)).any (·.1.isNone) = false
  names : (backToKw pos (keywordEach kws X.env)).filterMap (·.1) = ks
/-- a built-in class called with one argument and keywords -/
theorem named_call {X : Cx} {pos : Pos} {e : Expr} {kws : List Keyword} {ks : List Str} (N : Named X pos e kws ks) {T : String} {M : Model} {A : Around} {E : Value → Shared → Prop} {s : Shared} {Q : Value → Shared → Prop}
    (h : wpAny M A (spliced (backTo pos (starEach [e] X.env))) (fun vs s1 => wpAny M A (evalAll ((backToKw pos (keywordEach kws X.env)).map (·.2))) (fun ws s2 => wpAny M A (call (.type T) vs (ks.zip ws)) Q E s2) E s1) E s) :
    wpAny M A (callWith pos (.type T) [] (backTo pos (starEach [e] X.env)) (backToKw pos (keywordEach kws X.env))) Q E s := by
  have args : wpAny M A (evalArgs (.type T) true (backTo pos (starEach [e] X.env)) (backToKw pos (keywordEach kws X.env))) (fun a s1 => wpAny M A (call (.type T) ([] ++ a.pos) a.kw) Q E s1) E s := by
    rw [N.back] at h ⊢
    refine evalArgs_kwB N.all (wpAny_mono h (fun vs s1 h1 => wpAny_mono h1 (fun ws s2 h2 => ?_) fun _ _ z => z) fun _ _ z => z)
    rw [N.names]
    exact h2
  unfold callWith
  refine wpAny_bind (wpAny_holding (wpAny_mono args (fun a s1 h1 => wpAny_bind (wpAny_standAt ?_)) fun _ _ z => z))
  simp only [N.plain, N.none, Bool.or_false]
  exact wpAny_bind (wpAny_pure (wpAny_bind (wpAny_mono h1 (fun r s2 h2 => wpAny_bind (wpAny_holding (wpAny_point (wpAny_pure h2)))) fun _ _ z => z)))
theorem pi_enumK {X : Cx} {e f : Expr} {te tf : TE} {p pos tpos kpos : Pos} {elts : List Expr} {kk : Nat} (hg : Gl X "enumerate") (hm : X.mg "enumerate" = none) (ha : PE X e te) (hk : PE X f tf)
    (N : Named X pos e [⟨some "start", f, kpos⟩] [Str.ofString "start"] := by exact ⟨rfl, rfl, rfl, rfl, rfl, rfl⟩) :
    PI X (.Tuple elts kk tpos) (.Call (.Name "enumerate" p) [e] [⟨some "start", f, kpos⟩] pos) (iEnumK X.K (tCons te tNil) (tCons tf tNil)) := by
  have hA : PA X [e] (tCons te tNil) := pa_cons ha pa_nil N.one
  have hK : PK X [⟨some "start", f, kpos⟩] (tCons tf tNil) := pk_cons hk pk_nil
  constructor
  intro pins s σ H R inv h
  refine wpAny_Call_Name_kw (ld_blt inv hg hm boot_enumerate (named_call N (thn (hA.run pos pins s σ H _ inv h) fun us s1 ⟨vs, H1, inv1, r1, q1⟩ => thn (hK.run pos pins s1 σ H1 _ inv1 q1) fun ws s2 ⟨zs, H2, inv2, r2, q2⟩ => ?_)))
  obtain ⟨a, xs, k, rfl, rfl, sq, k0, k1, q⟩ := q2
  obtain ⟨_, rfl, rfl⟩ := vals1 r1
  obtain ⟨_, rfl, tt, rfl⟩ := vals1 r2
  obtain ⟨vs, rel, pl, _⟩ := inv2.list sq
  refine enum_begins_start (begins_list a vs.toArray) pl.isList k0 k1 fun h' isE wlk sz kept => wpAny_pyIter_enum isE ?_
  refine ⟨s2.heap.objs.size + 1, [s2.heap.objs.size + 1, s2.heap.objs.size], _, _, H2, rfl, inv2.kept (t' := s2.toks) kept, turn_enumK k a (s2.heap.objs.size + 1) s2.heap.objs.size, ⟨⟨.none, ?_⟩, ⟨_, wlk, rfl, rfl⟩, Nat.succ_ne_self _⟩, fun b hb => ?_, q⟩
  · rw [show k + ((0 : Nat) : Int) = k by omega]
    exact isE
  · have new : s2.heap.objs.size ≤ b := by
      rcases two_of hb with z | z
      · exact z ▸ Nat.le_succ _
      · exact z ▸ Nat.le_refl _
    exact inv2.fpOk new (inv2.hok.fresh new)
end TP
/-! The mathematics: no Python here. -/
namespace TP
open Cs14 CsBase

/-! ### what is known -/
theorem at_nil (t : Nat) : at? [] t = none := rfl
theorem at_cons (p : Nat × Nat) (l : Known) (t : Nat) : at? (p :: l) t = if p.1 = t then some p.2 else at? l t := by
  unfold at?
  rw [List.find?_cons]
  by_cases h : p.1 = t
  · rw [if_pos h, beq_iff_eq.mpr h]; rfl
  · rw [if_neg h, beq_eq_false_iff_ne.mpr h]
theorem at_snoc (l : Known) (k v t : Nat) : at? (l ++ [(k, v)]) t = if (at? l t).isSome = true then at? l t else if k = t then some v else none := by
  induction l with
  | nil => rw [List.nil_append, at_cons, at_nil]; rfl
  | cons p l ih =>
    rw [List.cons_append, at_cons, at_cons, ih]
    by_cases h : p.1 = t
    · rw [if_pos h, if_pos h]; rfl
    · rw [if_neg h, if_neg h]
theorem at_mem {l : Known} {t v : Nat} (h : at? l t = some v) : (t, v) ∈ l := by
  induction l with
  | nil => cases h
  | cons p l ih =>
    rw [at_cons] at h
    by_cases c : p.1 = t
    · rw [if_pos c] at h
      obtain ⟨a, b⟩ := p
      cases h
      cases c
      exact List.mem_cons_self
    · rw [if_neg c] at h
      exact List.mem_cons_of_mem _ (ih h)
theorem pigeon : ∀ (n : Nat) (l : Known), (∀ t, t < n → ∃ v, (t, v) ∈ l) → n ≤ l.length
  | 0, _, _ => Nat.zero_le _
  | n + 1, l, h => by
    obtain ⟨v, hv⟩ := h n (Nat.lt_succ_self n)
    have lt : (l.filter fun p => p.1 != n).length < l.length := by
      apply Nat.lt_of_le_of_ne (List.length_filter_le _ _)
      intro e
      have := List.length_filter_eq_length_iff.mp e (n, v) hv
      simp at this
    have := pigeon n (l.filter fun p => p.1 != n) fun t ht => by
      obtain ⟨u, hu⟩ := h t (by omega)
      exact ⟨u, List.mem_filter.mpr ⟨hu, by simp; omega⟩⟩
    omega
theorem known_le {l : Known} {n : Nat} (h : ∀ t, t < n → (at? l t).isSome = true) : n ≤ l.length := by
  refine pigeon n l fun t ht => ?_
  obtain ⟨v, hv⟩ := Option.isSome_iff_exists.mp (h t ht)
  exact ⟨v, at_mem hv⟩
theorem gapless_eq {l : Known} {t : Nat} (ht : at? l t = none) : ∀ (n s : Nat), s ≤ t → t < s + n → (∀ j, s ≤ j → j < t → (at? l j).isSome = true) → gapless n l s = t
  | 0, s, h1, h2, _ => by omega
  | n + 1, s, h1, h2, h => by
    unfold gapless
    by_cases c : s = t
    · rw [c, ht]; exact if_neg (by simp)
    · rw [if_pos (h s (Nat.le_refl _) (by omega))]
      exact gapless_eq ht n (s + 1) (by omega) (by omega) fun j a b => h j (by omega) b
theorem upTo_eq {l : Known} {t : Nat} (h : ∀ j, j < t → (at? l j).isSome = true) (ht : at? l t = none) : Cs14.upTo l = t :=
  gapless_eq ht _ 0 (Nat.zero_le _) (by have := known_le h; omega) fun j _ b => h j b
theorem first_gap (l : Known) : ∀ (n t : Nat), n + t = l.length + 1 → (∀ j, j < t → (at? l j).isSome = true) → ∃ u, (∀ j, j < u → (at? l j).isSome = true) ∧ at? l u = none
  | 0, t, e, h => absurd (known_le h) (by omega)
  | n + 1, t, e, h => by
    cases c : at? l t with
    | none => exact ⟨t, h, c⟩
    | some v =>
      refine first_gap l n (t + 1) (by omega) fun j hj => ?_
      by_cases z : j = t
      · rw [z, c]; rfl
      · exact h j (by omega)
theorem upTo_spec (l : Known) : (∀ j, j < Cs14.upTo l → (at? l j).isSome = true) ∧ at? l (Cs14.upTo l) = none := by
  obtain ⟨u, h1, h2⟩ := first_gap l (l.length + 1) 0 rfl fun j hj => absurd hj (by omega)
  rw [upTo_eq h1 h2]
  exact ⟨h1, h2⟩
theorem upTo_le (l : Known) : Cs14.upTo l ≤ l.length := known_le (upTo_spec l).1
/-- what is known stays known -/
def Sub (l m : Known) : Prop := ∀ t v, at? l t = some v → at? m t = some v
theorem upTo_mono {l m : Known} (h : Sub l m) : Cs14.upTo l ≤ Cs14.upTo m := by
  have a := (upTo_spec l).1
  have b := (upTo_spec m).2
  apply Nat.le_of_not_lt
  intro c
  obtain ⟨v, hv⟩ := Option.isSome_iff_exists.mp (a _ c)
  rw [h _ _ hv] at b
  cases b
/-- all pads below 16 -/
def Low (l : Known) : Prop := ∀ p ∈ l, p.2 < 16
theorem Low.at {l : Known} (h : Low l) {t v : Nat} (e : at? l t = some v) : v < 16 := h _ (at_mem e)
theorem Low.getD {l : Known} (h : Low l) (t : Nat) : (at? l t).getD 0 < 16 := by
  cases e : at? l t with
  | none => exact Nat.zero_lt_succ _
  | some v => exact h.at e
/-- the first ones, 0 -/
def zer (d : Nat) : Known := (List.range d).map fun i => (i, 0)
theorem zer_succ (d : Nat) : zer (d + 1) = zer d ++ [(d, 0)] := by
  unfold zer
  rw [List.range_succ, List.map_append]
  rfl
theorem zer_at (d : Nat) (t : Nat) : at? (zer d) t = if t < d then some 0 else none := by
  induction d with
  | zero => rfl
  | succ d ih =>
    rw [zer_succ, at_snoc, ih]
    by_cases c : t < d
    · rw [if_pos c, if_pos (show t < d + 1 by omega)]; rfl
    · rw [if_neg c, if_neg (by simp)]
      by_cases e : d = t
      · rw [if_pos e, if_pos (by omega)]
      · rw [if_neg e, if_neg (by omega)]
theorem zer_len (d : Nat) : (zer d).length = d := by simp [zer]
theorem zer_low (d : Nat) : Low (zer d) := fun p h => by
  obtain ⟨i, _, rfl⟩ := List.mem_map.mp h
  exact Nat.zero_lt_succ _
theorem zer_upTo (d : Nat) : Cs14.upTo (zer d) = d :=
  upTo_eq (fun j hj => by rw [zer_at, if_pos hj]; rfl) (by rw [zer_at, if_neg (Nat.lt_irrefl _)])
/-! ### learning -/
def lstep (first : Nat) (l : Known) (p : Nat × Nat) : Known := if (at? l (first + p.2)).isSome = true then l else l ++ [(first + p.2, p.1)]
theorem learn_fold (l : Known) (first : Nat) (pads : List Nat) : learn l first pads = pads.zipIdx.foldl (lstep first) l := rfl
theorem learn_nil (l : Known) (first : Nat) : learn l first [] = l := rfl
theorem learn_snoc (l : Known) (first : Nat) (pads : List Nat) (v : Nat) : learn l first (pads ++ [v]) = lstep first (learn l first pads) (v, pads.length) := by
  rw [learn_fold, List.zipIdx_append, List.foldl_append, ← learn_fold]
  simp
theorem lstep_sub (first : Nat) (l : Known) (p : Nat × Nat) : Sub l (lstep first l p) := fun t v h => by
  unfold lstep
  split
  · exact h
  · rw [at_snoc, h]; rfl
theorem learn_ind {P : Known → Prop} {first : Nat} {l : Known} (h0 : P l) (hs : ∀ m p, P m → P (lstep first m p)) (pads : List Nat) : P (learn l first pads) := by
  rw [learn_fold]
  generalize pads.zipIdx = z
  induction z generalizing l with
  | nil => exact h0
  | cons p z ih => exact ih (hs l p h0)
theorem learn_sub (l : Known) (first : Nat) (pads : List Nat) : Sub l (learn l first pads) :=
  learn_ind (P := fun m => Sub l m) (fun _ _ h => h) (fun m p h t v e => lstep_sub first m p t v (h t v e)) pads
theorem lstep_len (first : Nat) (l : Known) (p : Nat × Nat) : (lstep first l p).length ≤ l.length + 1 := by
  unfold lstep
  split
  · omega
  · simp
theorem learn_len (l : Known) (first : Nat) (pads : List Nat) : (learn l first pads).length ≤ l.length + pads.length := by
  rw [learn_fold, ← List.length_zipIdx (l := pads) (i := 0)]
  generalize pads.zipIdx = z
  induction z generalizing l with
  | nil => exact Nat.le_refl _
  | cons p z ih =>
    have := ih (lstep first l p)
    have h := lstep_len first l p
    rw [List.foldl_cons, List.length_cons]
    omega
theorem learn_low {l : Known} {first : Nat} {pads : List Nat} (h : Low l) (hp : ∀ v ∈ pads, v < 16) : Low (learn l first pads) := by
  rw [learn_fold]
  have hz : ∀ p ∈ pads.zipIdx, p.1 < 16 := fun p hm => hp _ (by
    obtain ⟨a, b⟩ := p
    exact (List.mem_zipIdx hm).2.2 ▸ List.getElem_mem _)
  generalize pads.zipIdx = z at hz
  induction z generalizing l with
  | nil => exact h
  | cons p z ih =>
    refine ih (l := lstep first l p) ?_ fun q hq => hz q (List.mem_cons_of_mem _ hq)
    unfold lstep
    split
    · exact h
    · intro q hq
      rcases List.mem_append.mp hq with a | a
      · exact h q a
      · obtain rfl := List.mem_singleton.mp a
        exact hz p List.mem_cons_self
/-! ### a side's own pads -/
def ownK (ow : List Nat) : Known := ow.zipIdx.map fun p => (p.2, p.1)
theorem ownK_snoc (ow : List Nat) (v : Nat) : ownK (ow ++ [v]) = ownK ow ++ [(ow.length, v)] := by
  unfold ownK
  rw [List.zipIdx_append, List.map_append]
  simp
theorem ownK_snd (ow : List Nat) : (ownK ow).map (·.2) = ow := by
  unfold ownK
  rw [List.map_map]
  have : ((fun x : Nat × Nat => x.2) ∘ fun p : Nat × Nat => (p.2, p.1)) = Prod.fst := rfl
  rw [this, List.zipIdx_map_fst]
theorem snoc_ind {α : Type} {P : List α → Prop} (h0 : P []) (hs : ∀ l a, P l → P (l ++ [a])) (l : List α) : P l := by
  have : ∀ r : List α, P r.reverse := fun r => by
    induction r with
    | nil => exact h0
    | cons a r ih => rw [List.reverse_cons]; exact hs _ a ih
  rw [← List.reverse_reverse l]
  exact this _
theorem ownK_at (ow : List Nat) (t : Nat) : at? (ownK ow) t = ow[t]? := by
  refine snoc_ind (P := fun ow => at? (ownK ow) t = ow[t]?) rfl (fun l a ih => ?_) ow
  rw [ownK_snoc, at_snoc, ih]
  by_cases c : t < l.length
  · rw [List.getElem?_append_left c, if_pos (by rw [List.getElem?_eq_getElem c]; rfl)]
  · rw [List.getElem?_eq_none (show l.length ≤ t by omega), if_neg (by simp), List.getElem?_append_right (by omega)]
    by_cases e : l.length = t
    · rw [if_pos e, e, Nat.sub_self]; rfl
    · rw [if_neg e, List.getElem?_eq_none (by simp; omega)]
theorem ownK_upTo (ow : List Nat) : Cs14.upTo (ownK ow) = ow.length :=
  upTo_eq (fun j hj => by rw [ownK_at, List.getElem?_eq_getElem hj]; rfl) (by rw [ownK_at, List.getElem?_eq_none (Nat.le_refl _)])
theorem zer_ownK (d : Nat) : zer d = ownK (List.replicate d 0) := by
  induction d with
  | zero => rfl
  | succ d ih => rw [zer_succ, ih, List.replicate_succ', ownK_snoc, List.length_replicate]
/-! ### what is used -/
/-- the pad that is used of frame t, those ahead being us -/
def oth (l : Known) (us : List Nat) (t : Nat) : Nat := (at? l t).getD (if t = 0 then 0 else us.getD (t - 1) 0)
def shF (l : Known) (x : List Nat × Nat) (t : Nat) : List Nat × Nat := let v := (at? l t).getD x.2
  (v :: x.1, v)
theorem should_fold (l : Known) (n : Nat) : should l n = ((List.range n).foldl (shF l) ([], 0)).1.reverse := rfl

theorem sh_succ (l : Known) (n : Nat) : (List.range (n + 1)).foldl (shF l) ([], 0) = shF l ((List.range n).foldl (shF l) ([], 0)) n := by
  rw [List.range_succ, List.foldl_append]
  rfl
theorem should_step (l : Known) (n : Nat) : should l (n + 1) = should l n ++ [(at? l n).getD ((List.range n).foldl (shF l) ([], 0)).2] := by
  rw [should_fold, sh_succ]
  show (_ :: _).reverse = _
  rw [List.reverse_cons]
  rfl
theorem should_len (l : Known) (n : Nat) : (should l n).length = n := by
  induction n with
  | zero => rfl
  | succ n ih => rw [should_step, List.length_append, ih]; rfl
theorem getD_snoc (us : List Nat) (o : Nat) : (us ++ [o]).getD us.length 0 = o := by simp
theorem getD_snoc_lt {us : List Nat} {o f : Nat} (h : f < us.length) : (us ++ [o]).getD f 0 = us.getD f 0 := by
  rw [List.getD, List.getD, List.getElem?_append_left h]
theorem sh_last (l : Known) (n : Nat) : ((List.range n).foldl (shF l) ([], 0)).2 = if n = 0 then 0 else (should l n).getD (n - 1) 0 := by
  cases n with
  | zero => rfl
  | succ n =>
    rw [if_neg (Nat.succ_ne_zero n), sh_succ, should_step]
    have := should_len l n
    rw [Nat.add_sub_cancel]
    conv => rhs; rw [← this]
    rw [this]
    have e := getD_snoc (should l n) ((at? l n).getD ((List.range n).foldl (shF l) ([], 0)).2)
    rw [this] at e
    rw [e]
    rfl
theorem should_succ (l : Known) (n : Nat) : should l (n + 1) = should l n ++ [oth l (should l n) n] := by
  rw [should_step, sh_last]
  rfl
theorem should_take (l : Known) {n k : Nat} (h : k ≤ n) : (should l n).take k = should l k := by
  induction n with
  | zero =>
    obtain rfl : k = 0 := by omega
    rfl
  | succ n ih =>
    by_cases c : k = n + 1
    · rw [c, List.take_of_length_le (by rw [should_len]; exact Nat.le_refl _)]
    · rw [should_succ, List.take_append_of_le_length (by rw [should_len]; omega)]
      exact ih (by omega)
theorem oth_congr {l : Known} {us vs : List Nat} {t : Nat} (h : ∀ j, j < t → us.getD j 0 = vs.getD j 0) : oth l us t = oth l vs t := by
  unfold oth
  by_cases c : t = 0
  · rw [if_pos c, if_pos c]
  · rw [if_neg c, if_neg c, h (t - 1) (by omega)]
theorem should_getD (l : Known) {n t : Nat} (h : t < n) : (should l n).getD t 0 = oth l (should l n) t := by
  have e : (should l n).getD t 0 = (should l (t + 1)).getD t 0 := by
    rw [← should_take l (show t + 1 ≤ n by omega), List.getD, List.getD, List.getElem?_take_of_lt (Nat.lt_succ_self t)]
  rw [e, should_succ]
  have := getD_snoc (should l t) (oth l (should l t) t)
  rw [should_len] at this
  rw [this]
  refine oth_congr fun j hj => ?_
  rw [← should_take l (show t ≤ n by omega), List.getD, List.getD, List.getElem?_take_of_lt hj]
theorem oth_low {l : Known} (h : Low l) {us : List Nat} (hu : ∀ v ∈ us, v < 16) (t : Nat) : oth l us t < 16 := by
  unfold oth
  cases e : at? l t with
  | some v => exact h.at e
  | none =>
    show (if t = 0 then 0 else us.getD (t - 1) 0) < 16
    split
    · decide
    · rw [List.getD]
      cases e2 : us[t - 1]? with
      | none => decide
      | some v => exact hu v (List.mem_of_getElem? e2)
theorem should_low {l : Known} (h : Low l) (n : Nat) : ∀ v ∈ should l n, v < 16 := by
  induction n with
  | zero => intro v hv; cases hv
  | succ n ih =>
    rw [should_succ]
    intro v hv
    rcases List.mem_append.mp hv with a | a
    · exact ih v a
    · obtain rfl := List.mem_singleton.mp a
      exact oth_low h ih n
/-- the first frame that was run with another pad than it should -/
structure Wrong (l : Known) (us : List Nat) (t : Nat) : Prop where
  le : t ≤ us.length
  ok : ∀ j, j < t → us.getD j 0 = oth l us j
  no : t < us.length → us.getD t 0 ≠ oth l us t
theorem wrong_same {l : Known} {us : List Nat} {n t : Nat} (hn : t ≤ n) (ok : ∀ j, j < t → us.getD j 0 = oth l us j) : ∀ j, j < t → us.getD j 0 = (should l n).getD j 0 := by
  intro j
  induction j using Nat.strongRecOn with
  | _ j ih =>
    intro hj
    rw [ok j hj, should_getD l (show j < n by omega)]
    exact oth_congr fun k hk => ih k hk (by omega)
theorem getD_some {us : List Nat} {t : Nat} (h : t < us.length) : us[t]? = some (us.getD t 0) := by
  rw [List.getD, List.getElem?_eq_getElem h]
  rfl
theorem take_eq_of {us vs : List Nat} {t : Nat} (h1 : t ≤ us.length) (h2 : t ≤ vs.length) (h : ∀ j, j < t → us.getD j 0 = vs.getD j 0) : us.take t = vs.take t := by
  apply List.ext_getElem?
  intro j
  by_cases c : j < t
  · rw [List.getElem?_take_of_lt c, List.getElem?_take_of_lt c, getD_some (by omega), getD_some (by omega), h j c]
  · rw [List.getElem?_eq_none (by rw [List.length_take]; omega), List.getElem?_eq_none (by rw [List.length_take]; omega)]
theorem Wrong.idx {l : Known} {us : List Nat} {t : Nat} (W : Wrong l us t) : ((us.zip (should l us.length)).findIdx? fun (p : Nat × Nat) => p.1 != p.2).getD us.length = t := by
  have zl : (us.zip (should l us.length)).length = us.length := by rw [List.length_zip, should_len]; omega
  have zg : ∀ j (h : j < (us.zip (should l us.length)).length), (us.zip (should l us.length))[j] = (us.getD j 0, (should l us.length).getD j 0) := by
    intro j h
    have h' : j < us.length := by omega
    have h'' : j < (should l us.length).length := by rw [should_len]; exact h'
    rw [List.getElem_zip]
    simp [List.getD, h', h'']
  have ws := wrong_same (n := us.length) W.le W.ok
  by_cases c : t < us.length
  · have : (us.zip (should l us.length)).findIdx? (fun (p : Nat × Nat) => p.1 != p.2) = some t := by
      rw [List.findIdx?_eq_some_iff_getElem]
      refine ⟨by omega, ?_, fun j hj => ?_⟩
      · rw [zg, bne_iff_ne]
        show us.getD t 0 ≠ (should l us.length).getD t 0
        rw [should_getD l c, ← oth_congr ws]
        exact W.no c
      · rw [zg]
        show ¬ (us.getD j 0 != (should l us.length).getD j 0) = true
        rw [bne_iff_ne]
        exact fun z => z (ws j hj)
    rw [this]
    rfl
  · have e : t = us.length := by have := W.le; omega
    have : (us.zip (should l us.length)).findIdx? (fun (p : Nat × Nat) => p.1 != p.2) = none := by
      rw [List.findIdx?_eq_none_iff]
      intro p hp
      obtain ⟨j, hj, rfl⟩ := List.getElem_of_mem hp
      rw [zg]
      show (us.getD j 0 != (should l us.length).getD j 0) = false
      rw [bne_eq_false_iff_eq]
      exact ws j (by omega)
    rw [this, e]
    rfl
theorem Wrong.take {l : Known} {us : List Nat} {t : Nat} (W : Wrong l us t) : us.take t = should l t := by
  rw [← should_take l W.le]
  exact take_eq_of W.le (by rw [should_len]; exact W.le) (wrong_same W.le W.ok)
/-! ### a side's data -/
structure SD where
  i : Nat
  ow : List Nat
  had : Known
  acked : Nat
  us : List Nat
  ms : List Mach
  fl : List (Nat × Nat × Nat)
  runs : Nat
def runS (prog : List Nat) (i : Nat) (ow us : List Nat) (fl : List (Nat × Nat × Nat)) (t : Nat) : Mach :=
  (List.range t).foldl (fun (m : Mach) (f : Nat) => frame (faulted m fl f) (pad i (ow.getD f 0) (us.getD f 0))) (loaded prog)
theorem runS_succ (prog : List Nat) (i : Nat) (ow us : List Nat) (fl : List (Nat × Nat × Nat)) (t : Nat) :
    runS prog i ow us fl (t + 1) = frame (faulted (runS prog i ow us fl t) fl t) (pad i (ow.getD t 0) (us.getD t 0)) := by
  unfold runS
  rw [List.range_succ, List.foldl_append]
  rfl
theorem runS_congr {prog : List Nat} {i : Nat} {ow us ow' us' : List Nat} {fl fl' : List (Nat × Nat × Nat)} {t : Nat}
    (h : ∀ f, f < t → ow.getD f 0 = ow'.getD f 0 ∧ us.getD f 0 = us'.getD f 0 ∧ ∀ m, faulted m fl f = faulted m fl' f) : runS prog i ow us fl t = runS prog i ow' us' fl' t := by
  induction t with
  | zero => simp only [runS, List.range_zero, List.foldl_nil]
  | succ t ih =>
    obtain ⟨a, b, c⟩ := h t (Nat.lt_succ_self t)
    rw [runS_succ, runS_succ, ih fun f hf => h f (by omega), a, b, c]
/-- its machines are those of its frames -/
def Can (prog : List Nat) (d : SD) : Prop := d.ms = (List.range (d.us.length + 1)).map (runS prog d.i d.ow d.us d.fl)
theorem Can.len {prog : List Nat} {d : SD} (c : Can prog d) : d.ms.length = d.us.length + 1 := by rw [c, List.length_map, List.length_range]
theorem Can.at {prog : List Nat} {d : SD} (c : Can prog d) {t : Nat} (h : t ≤ d.us.length) : d.ms[t]? = some (runS prog d.i d.ow d.us d.fl t) := by
  rw [c, List.getElem?_map, List.getElem?_range (by omega)]
  rfl
def nextM (d : SD) : Mach := frame (faulted (d.ms.getD d.us.length (loaded [])) d.fl d.us.length) (pad d.i (d.ow.getD d.us.length 0) (oth d.had d.us d.us.length))
def next (d : SD) : SD := { d with us := d.us ++ [oth d.had d.us d.us.length], ms := d.ms ++ [nextM d], runs := d.runs + 1 }
def nextN : Nat → SD → SD
  | 0, d => d
  | n + 1, d => next (nextN n d)
theorem Can.getD {prog : List Nat} {d : SD} (c : Can prog d) {t : Nat} (h : t ≤ d.us.length) {e : Mach} : d.ms.getD t e = runS prog d.i d.ow d.us d.fl t := by
  rw [List.getD, c.at h]
  rfl
theorem Can.next {prog : List Nat} {d : SD} (c : Can prog d) : Can prog (next d) := by
  unfold Can TP.next
  show d.ms ++ [nextM d] = (List.range ((d.us ++ [_]).length + 1)).map (runS prog d.i d.ow (d.us ++ [_]) d.fl)
  rw [List.length_append, List.length_singleton, List.range_succ, List.map_append]
  have e1 : (List.range (d.us.length + 1)).map (runS prog d.i d.ow (d.us ++ [oth d.had d.us d.us.length]) d.fl) = d.ms := by
    rw [c]
    refine List.map_congr_left fun t ht => runS_congr fun f hf => ⟨rfl, ?_, fun _ => rfl⟩
    have := List.mem_range.mp ht
    exact getD_snoc_lt (by omega)
  rw [e1]
  refine congrArg (fun z => d.ms ++ [z]) ?_
  rw [runS_succ, getD_snoc]
  unfold nextM
  rw [c.getD (Nat.le_refl _)]
  refine congrArg (fun z => frame (faulted z _ _) _) (runS_congr fun f hf => ⟨rfl, (getD_snoc_lt hf).symm, fun _ => rfl⟩)
theorem Can.nextN {prog : List Nat} {d : SD} (c : Can prog d) (n : Nat) : Can prog (nextN n d) := by
  induction n with
  | zero => exact c
  | succ n ih => exact ih.next
def cut (w : Nat) (d : SD) : SD := { d with us := d.us.take w, ms := d.ms.take (w + 1) }
theorem Can.cut {prog : List Nat} {d : SD} (c : Can prog d) {w : Nat} (h : w ≤ d.us.length) : Can prog (cut w d) := by
  unfold Can TP.cut
  show d.ms.take (w + 1) = (List.range ((d.us.take w).length + 1)).map (runS prog d.i d.ow (d.us.take w) d.fl)
  rw [c, ← List.map_take, List.length_take, Nat.min_eq_left h, List.take_range, Nat.min_eq_left (by omega)]
  refine List.map_congr_left fun t ht => runS_congr fun f hf => ⟨rfl, ?_, fun _ => rfl⟩
  have := List.mem_range.mp ht
  rw [List.getD, List.getD, List.getElem?_take_of_lt (by omega)]
/-- a letter's pads come to a side -/
def heardD (d : SD) (knows first : Nat) (pads : List Nat) (w : Nat) : SD :=
  nextN (d.us.length - w) (cut w { d with acked := max d.acked knows, had := learn d.had first pads })
/-- a side of the specification, and its data -/
structure Rel (prog : List Nat) (i : Nat) (x : Side) (d : SD) : Prop where
  i : d.i = i
  ow : x.own = ownK d.ow
  had : d.had = x.had
  acked : d.acked = x.acked
  us : d.us = x.used
  can : Can prog d
  fl : d.fl = x.faults
  runs : d.runs = x.runs
theorem Rel.now {prog : List Nat} {i : Nat} {x : Side} {d : SD} (R : Rel prog i x d) : Cs14.now x = d.us.length := by
  unfold Cs14.now
  rw [R.us]
theorem Rel.state {s : St} {i : Nat} {d : SD} (R : Rel s.program i (side s i) d) (t : Nat) : stateAt s i t = runS s.program d.i d.ow d.us d.fl t := by
  unfold stateAt runS
  show (List.range t).foldl (fun (m : Mach) (f : Nat) => frame (faulted m (side s i).faults f) (pad i ((at? (side s i).own f).getD 0) ((side s i).used.getD f 0))) (loaded s.program) = _
  rw [← R.fl, ← R.us, R.ow, R.i]
  have : (fun (m : Mach) (f : Nat) => frame (faulted m d.fl f) (pad i ((at? (ownK d.ow) f).getD 0) (d.us.getD f 0))) = fun (m : Mach) (f : Nat) => frame (faulted m d.fl f) (pad i (d.ow.getD f 0) (d.us.getD f 0)) := by
    funext m f
    rw [ownK_at]
    rfl
  rw [this]
theorem Can.own {prog : List Nat} {d : SD} (c : Can prog d) (h : d.us.length ≤ d.ow.length) (v : Nat) : Can prog { d with ow := d.ow ++ [v] } := by
  unfold Can
  show d.ms = (List.range (d.us.length + 1)).map (runS prog d.i (d.ow ++ [v]) d.us d.fl)
  rw [c]
  refine List.map_congr_left fun t ht => runS_congr fun f hf => ⟨?_, rfl, fun _ => rfl⟩
  have := List.mem_range.mp ht
  exact (getD_snoc_lt (by omega)).symm
theorem faulted_snoc (m : Mach) (fl : List (Nat × Nat × Nat)) (x : Nat × Nat × Nat) (t : Nat) : faulted m (fl ++ [x]) t = if x.1 = t then put (faulted m fl t) x.2.1 x.2.2 else faulted m fl t := by
  unfold faulted
  rw [List.filter_append, List.foldl_append]
  by_cases h : x.1 = t
  · rw [if_pos h, List.filter_cons_of_pos (by simp [h])]
    rfl
  · rw [if_neg h, List.filter_cons_of_neg (by simp [h])]
    rfl
theorem Can.fault {prog : List Nat} {d : SD} (c : Can prog d) (p v : Nat) : Can prog { d with fl := d.fl ++ [(d.us.length, p, v)] } := by
  unfold Can
  show d.ms = (List.range (d.us.length + 1)).map (runS prog d.i d.ow d.us (d.fl ++ [(d.us.length, p, v)]))
  rw [c]
  refine List.map_congr_left fun t ht => runS_congr fun f hf => ⟨rfl, rfl, fun m => ?_⟩
  have := List.mem_range.mp ht
  rw [faulted_snoc, if_neg (show ¬ d.us.length = f by omega)]
theorem Rel.frame {prog : List Nat} {i : Nat} {x : Side} {d : SD} (R : Rel prog i x d) (hu : x.used = should x.had (Cs14.now x)) {delay : Nat} (ho : d.ow.length = Cs14.now x + delay) (v : Nat) :
    Rel prog i { x with own := x.own ++ [(Cs14.now x + delay, v)], used := should x.had (Cs14.now x + 1), runs := x.runs + 1 } (next { d with ow := d.ow ++ [v] }) := by
  refine ⟨R.i, ?_, R.had, R.acked, ?_, (R.can.own (by rw [ho, R.now]; omega) v).next, R.fl, congrArg (· + 1) R.runs⟩
  · show x.own ++ _ = ownK (d.ow ++ [v])
    rw [ownK_snoc, R.ow, ho]
  · show d.us ++ [oth d.had d.us d.us.length] = should x.had (Cs14.now x + 1)
    rw [should_succ, ← hu, R.us, R.had]
    rfl
theorem Rel.fault {prog : List Nat} {i : Nat} {x : Side} {d : SD} (R : Rel prog i x d) (p v : Nat) :
    Rel prog i { x with faults := x.faults ++ [(Cs14.now x, p, v)] } { d with fl := d.fl ++ [(d.us.length, p, v)] } := by
  refine ⟨R.i, R.ow, R.had, R.acked, R.us, R.can.fault p v, ?_, R.runs⟩
  show d.fl ++ _ = x.faults ++ _
  rw [R.fl, R.now]
theorem nextN_data (n : Nat) (d : SD) : (nextN n d).i = d.i ∧ (nextN n d).ow = d.ow ∧ (nextN n d).had = d.had ∧ (nextN n d).acked = d.acked ∧ (nextN n d).fl = d.fl ∧ (nextN n d).runs = d.runs + n := by
  induction n with
  | zero => exact ⟨rfl, rfl, rfl, rfl, rfl, rfl⟩
  | succ n ih =>
    obtain ⟨a, b, c, e, f, g⟩ := ih
    refine ⟨a, b, c, e, f, ?_⟩
    show (nextN n d).runs + 1 = _
    rw [g]
    rfl
theorem nextN_us (n : Nat) {d : SD} {t : Nat} (h : d.us = should d.had t) : (nextN n d).us = should d.had (t + n) := by
  induction n with
  | zero => exact h
  | succ n ih =>
    show (nextN n d).us ++ [oth (nextN n d).had (nextN n d).us (nextN n d).us.length] = should d.had (t + n + 1)
    rw [ih, (nextN_data n d).2.2.1, should_succ, should_len]
theorem nextN_usl (n : Nat) (d : SD) : (nextN n d).us.length = d.us.length + n := by
  induction n with
  | zero => rfl
  | succ n ih =>
    show ((nextN n d).us ++ [_]).length = _
    rw [List.length_append, ih]
    rfl
theorem nextN_msl (n : Nat) (d : SD) : (nextN n d).ms.length = d.ms.length + n := by
  induction n with
  | zero => rfl
  | succ n ih =>
    show ((nextN n d).ms ++ [_]).length = _
    rw [List.length_append, ih]
    rfl
theorem Rel.heard {prog : List Nat} {i : Nat} {x : Side} {d : SD} (R : Rel prog i x d) {knows first w : Nat} {pads : List Nat} (W : Wrong (learn d.had first pads) d.us w) :
    Rel prog i (Cs14.heard { x with acked := max x.acked knows } first pads).1 (heardD d knows first pads w) ∧ (Cs14.heard { x with acked := max x.acked knows } first pads).2 = d.us.length - w := by
  have hw := W.idx
  have ht := W.take
  have hl := W.le
  rw [R.had] at hw ht
  have e2 : (Cs14.heard { x with acked := max x.acked knows } first pads).2 = d.us.length - w := by
    show Cs14.now x - ((x.used.zip (should (learn x.had first pads) (Cs14.now x))).findIdx? fun (p : Nat × Nat) => p.1 != p.2).getD (Cs14.now x) = _
    rw [← R.us, R.now, hw]
  refine ⟨?_, e2⟩
  have dat := nextN_data (d.us.length - w) (cut w { d with acked := max d.acked knows, had := learn d.had first pads })
  have cd : Can prog { d with acked := max d.acked knows, had := learn d.had first pads } := R.can
  refine ⟨dat.1.trans R.i, R.ow.trans (congrArg ownK dat.2.1.symm), dat.2.2.1.trans ?_, dat.2.2.2.1.trans ?_, ?_, (cd.cut hl).nextN _, dat.2.2.2.2.1.trans R.fl, dat.2.2.2.2.2.trans ?_⟩
  · show learn d.had first pads = learn x.had first pads
    rw [R.had]
  · show max d.acked knows = max x.acked knows
    rw [R.acked]
  · show (nextN _ _).us = should (learn x.had first pads) (Cs14.now x)
    rw [nextN_us (t := w) _ (by show d.us.take w = should (learn d.had first pads) w; rw [R.had]; exact ht)]
    show should (learn d.had first pads) _ = _
    rw [R.had, R.now]
    congr 1
    omega
  · show d.runs + (d.us.length - w) = x.runs + _
    rw [R.runs, ← e2]
    rfl
end TP
namespace TP
open PySem PySem.Spec PyProof.Rows L2
open CsBase (Mach)
/-! # The machine -/
def top (i : Nat) : Stmt := PySem.Challenge.pw_twopads_s01_answers.main.body.getD i (.Pass ⟨0, 0, 0, 0⟩)
abbrev nI (n : Nat) : V := .int (n : Int)
def fM (v0 v1 v2 v3 v4 v5 : V) : List (Str × V) := [("a", v0), ("x", v1), ("place", v2), ("z", v3), ("c", v4), ("memory", v5)]
section
variable {v0 v1 v2 v3 v4 v5 w : V}
theorem fM_a : (fM v0 v1 v2 v3 v4 v5).lookup ("a" : Str) = some v0 := getF0
theorem fM_x : (fM v0 v1 v2 v3 v4 v5).lookup ("x" : Str) = some v1 := (getF1 (by decide +kernel)).trans (getF0)
theorem fM_place : (fM v0 v1 v2 v3 v4 v5).lookup ("place" : Str) = some v2 := (getF1 (by decide +kernel)).trans ((getF1 (by decide +kernel)).trans (getF0))
theorem fM_z : (fM v0 v1 v2 v3 v4 v5).lookup ("z" : Str) = some v3 := (getF1 (by decide +kernel)).trans ((getF1 (by decide +kernel)).trans ((getF1 (by decide +kernel)).trans (getF0)))
theorem fM_c : (fM v0 v1 v2 v3 v4 v5).lookup ("c" : Str) = some v4 := (getF1 (by decide +kernel)).trans ((getF1 (by decide +kernel)).trans ((getF1 (by decide +kernel)).trans ((getF1 (by decide +kernel)).trans (getF0))))
theorem fM_memory : (fM v0 v1 v2 v3 v4 v5).lookup ("memory" : Str) = some v5 := (getF1 (by decide +kernel)).trans ((getF1 (by decide +kernel)).trans ((getF1 (by decide +kernel)).trans ((getF1 (by decide +kernel)).trans ((getF1 (by decide +kernel)).trans (getF0)))))
theorem fM_no_byte_at : (fM v0 v1 v2 v3 v4 v5).lookup ("byte_at" : Str) = none := (getF1 (by decide +kernel)).trans ((getF1 (by decide +kernel)).trans ((getF1 (by decide +kernel)).trans ((getF1 (by decide +kernel)).trans ((getF1 (by decide +kernel)).trans ((getF1 (by decide +kernel)).trans (rfl))))))
theorem fM_no_put_byte : (fM v0 v1 v2 v3 v4 v5).lookup ("put_byte" : Str) = none := (getF1 (by decide +kernel)).trans ((getF1 (by decide +kernel)).trans ((getF1 (by decide +kernel)).trans ((getF1 (by decide +kernel)).trans ((getF1 (by decide +kernel)).trans ((getF1 (by decide +kernel)).trans (rfl))))))
theorem fM_no_put_a : (fM v0 v1 v2 v3 v4 v5).lookup ("put_a" : Str) = none := (getF1 (by decide +kernel)).trans ((getF1 (by decide +kernel)).trans ((getF1 (by decide +kernel)).trans ((getF1 (by decide +kernel)).trans ((getF1 (by decide +kernel)).trans ((getF1 (by decide +kernel)).trans (rfl))))))
theorem fM_no_put_x : (fM v0 v1 v2 v3 v4 v5).lookup ("put_x" : Str) = none := (getF1 (by decide +kernel)).trans ((getF1 (by decide +kernel)).trans ((getF1 (by decide +kernel)).trans ((getF1 (by decide +kernel)).trans ((getF1 (by decide +kernel)).trans ((getF1 (by decide +kernel)).trans (rfl))))))
theorem fM_no_run_frame : (fM v0 v1 v2 v3 v4 v5).lookup ("run_frame" : Str) = none := (getF1 (by decide +kernel)).trans ((getF1 (by decide +kernel)).trans ((getF1 (by decide +kernel)).trans ((getF1 (by decide +kernel)).trans ((getF1 (by decide +kernel)).trans ((getF1 (by decide +kernel)).trans (rfl))))))
theorem fM_no_do_instruction : (fM v0 v1 v2 v3 v4 v5).lookup ("do_instruction" : Str) = none := (getF1 (by decide +kernel)).trans ((getF1 (by decide +kernel)).trans ((getF1 (by decide +kernel)).trans ((getF1 (by decide +kernel)).trans ((getF1 (by decide +kernel)).trans ((getF1 (by decide +kernel)).trans (rfl))))))
theorem fM_no_move : (fM v0 v1 v2 v3 v4 v5).lookup ("move" : Str) = none := (getF1 (by decide +kernel)).trans ((getF1 (by decide +kernel)).trans ((getF1 (by decide +kernel)).trans ((getF1 (by decide +kernel)).trans ((getF1 (by decide +kernel)).trans ((getF1 (by decide +kernel)).trans (rfl))))))
theorem fM_no_change_x : (fM v0 v1 v2 v3 v4 v5).lookup ("change_x" : Str) = none := (getF1 (by decide +kernel)).trans ((getF1 (by decide +kernel)).trans ((getF1 (by decide +kernel)).trans ((getF1 (by decide +kernel)).trans ((getF1 (by decide +kernel)).trans ((getF1 (by decide +kernel)).trans (rfl))))))
theorem fM_no_reckon : (fM v0 v1 v2 v3 v4 v5).lookup ("reckon" : Str) = none := (getF1 (by decide +kernel)).trans ((getF1 (by decide +kernel)).trans ((getF1 (by decide +kernel)).trans ((getF1 (by decide +kernel)).trans ((getF1 (by decide +kernel)).trans ((getF1 (by decide +kernel)).trans (rfl))))))
theorem fM_no_jump : (fM v0 v1 v2 v3 v4 v5).lookup ("jump" : Str) = none := (getF1 (by decide +kernel)).trans ((getF1 (by decide +kernel)).trans ((getF1 (by decide +kernel)).trans ((getF1 (by decide +kernel)).trans ((getF1 (by decide +kernel)).trans ((getF1 (by decide +kernel)).trans (rfl))))))
theorem fM_no_numbers : (fM v0 v1 v2 v3 v4 v5).lookup ("numbers" : Str) = none := (getF1 (by decide +kernel)).trans ((getF1 (by decide +kernel)).trans ((getF1 (by decide +kernel)).trans ((getF1 (by decide +kernel)).trans ((getF1 (by decide +kernel)).trans ((getF1 (by decide +kernel)).trans (rfl))))))
theorem fM_put_a : putF "a" w (fM v0 v1 v2 v3 v4 v5) = fM w v1 v2 v3 v4 v5 := storeF0
theorem fM_put_x : putF "x" w (fM v0 v1 v2 v3 v4 v5) = fM v0 w v2 v3 v4 v5 := (storeF1 (by decide +kernel)).trans (congrArg _ (storeF0))
theorem fM_put_place : putF "place" w (fM v0 v1 v2 v3 v4 v5) = fM v0 v1 w v3 v4 v5 := (storeF1 (by decide +kernel)).trans (congrArg _ ((storeF1 (by decide +kernel)).trans (congrArg _ (storeF0))))
theorem fM_put_z : putF "z" w (fM v0 v1 v2 v3 v4 v5) = fM v0 v1 v2 w v4 v5 := (storeF1 (by decide +kernel)).trans (congrArg _ ((storeF1 (by decide +kernel)).trans (congrArg _ ((storeF1 (by decide +kernel)).trans (congrArg _ (storeF0))))))
theorem fM_put_c : putF "c" w (fM v0 v1 v2 v3 v4 v5) = fM v0 v1 v2 v3 w v5 := (storeF1 (by decide +kernel)).trans (congrArg _ ((storeF1 (by decide +kernel)).trans (congrArg _ ((storeF1 (by decide +kernel)).trans (congrArg _ ((storeF1 (by decide +kernel)).trans (congrArg _ (storeF0))))))))
theorem fM_put_memory : putF "memory" w (fM v0 v1 v2 v3 v4 v5) = fM v0 v1 v2 v3 v4 w := (storeF1 (by decide +kernel)).trans (congrArg _ ((storeF1 (by decide +kernel)).trans (congrArg _ ((storeF1 (by decide +kernel)).trans (congrArg _ ((storeF1 (by decide +kernel)).trans (congrArg _ ((storeF1 (by decide +kernel)).trans (congrArg _ (storeF0))))))))))
theorem fM_new1 : putF "x" v1 ([("a", v0)] : List (Str × V)) = ([("a", v0), ("x", v1)] : List (Str × V)) := (storeF1 (by decide +kernel)).trans (congrArg _ (rfl))
theorem fM_new2 : putF "place" v2 ([("a", v0), ("x", v1)] : List (Str × V)) = ([("a", v0), ("x", v1), ("place", v2)] : List (Str × V)) := (storeF1 (by decide +kernel)).trans (congrArg _ ((storeF1 (by decide +kernel)).trans (congrArg _ (rfl))))
theorem fM_new3 : putF "z" v3 ([("a", v0), ("x", v1), ("place", v2)] : List (Str × V)) = ([("a", v0), ("x", v1), ("place", v2), ("z", v3)] : List (Str × V)) := (storeF1 (by decide +kernel)).trans (congrArg _ ((storeF1 (by decide +kernel)).trans (congrArg _ ((storeF1 (by decide +kernel)).trans (congrArg _ (rfl))))))
theorem fM_new4 : putF "c" v4 ([("a", v0), ("x", v1), ("place", v2), ("z", v3)] : List (Str × V)) = ([("a", v0), ("x", v1), ("place", v2), ("z", v3), ("c", v4)] : List (Str × V)) := (storeF1 (by decide +kernel)).trans (congrArg _ ((storeF1 (by decide +kernel)).trans (congrArg _ ((storeF1 (by decide +kernel)).trans (congrArg _ ((storeF1 (by decide +kernel)).trans (congrArg _ (rfl))))))))
theorem fM_new5 : putF "memory" v5 ([("a", v0), ("x", v1), ("place", v2), ("z", v3), ("c", v4)] : List (Str × V)) = ([("a", v0), ("x", v1), ("place", v2), ("z", v3), ("c", v4), ("memory", v5)] : List (Str × V)) := (storeF1 (by decide +kernel)).trans (congrArg _ ((storeF1 (by decide +kernel)).trans (congrArg _ ((storeF1 (by decide +kernel)).trans (congrArg _ ((storeF1 (by decide +kernel)).trans (congrArg _ ((storeF1 (by decide +kernel)).trans (congrArg _ (rfl))))))))))
end

def mF (q : Addr) (m : Mach) : List (Str × V) := fM (nI m.a) (nI m.x) (nI m.pc) (.int (b01 m.z)) (.int (b01 m.c)) (.ref q)
def memL (m : Mach) : List V := m.mem.toList.map nI
structure Good (m : Mach) : Prop where
  sz : m.mem.size = 128
  lt : ∀ v ∈ m.mem.toList, v < 256
  a : m.a < 256
  x : m.x < 256
  pc : m.pc < 128
/-- a machine m stands at p, its bytes at q -/
structure MachAt (C : Addr) (H : Hp) (p q : Addr) (m : Mach) : Prop where
  o : ∃ dx, H p = some (.ins C dx (mF q m))
  l : H q = some (.lst (memL m))
  g : Good m
def S2 (p q : Addr) : Addr → Prop := fun b => b = p ∨ b = q
def S1 (p : Addr) : Addr → Prop := fun b => b = p
theorem MachAt.ne {C : Addr} {H : Hp} {p q : Addr} {m : Mach} (M : MachAt C H p q m) : p ≠ q := by
  obtain ⟨dx, h⟩ := M.o
  exact ne_of h M.l (by intro z; cases z)

/-! ### the promises -/
open CsBase (byteAt put inA inX)
def spByteAt (C : Addr) : Sp := fun vs H Q _ => ∃ (p q : Addr) (m : Mach) (k : Nat), vs = [.ref p, nI k] ∧ MachAt C H p q m ∧ Q (nI (byteAt m k)) H
/-- the machine is then m', all else as it was -/
def Then (C : Addr) (H : Hp) (p q : Addr) (m' : Mach) (Q : Hp → Prop) : Prop := ∀ H', MachAt C H' p q m' → Kp (S2 p q) H H' → Q H'
def spPutByte (C : Addr) : Sp := fun vs H Q _ => ∃ (p q : Addr) (m : Mach) (k v : Nat), vs = [.ref p, nI k, nI v] ∧ v < 256 ∧ MachAt C H p q m ∧ Then C H p q (put m k v) (Q .non)
def spPutA (C : Addr) : Sp := fun vs H Q _ => ∃ (p q : Addr) (m : Mach) (n : Int), vs = [.ref p, .int n] ∧ MachAt C H p q m ∧ Then C H p q (inA m (n % 256).toNat) (Q .non)
def spPutX (C : Addr) : Sp := fun vs H Q _ => ∃ (p q : Addr) (m : Mach) (n : Int), vs = [.ref p, .int n] ∧ MachAt C H p q m ∧ Then C H p q (inX m (n % 256).toNat) (Q .non)

structure TxtM (K : PySem.W.Frag) (mg : Str → Option Value) (C : Addr) : Prop where
  cl_Machine : Cls K C
  n_a : NoAttr K C "a"
  n_x : NoAttr K C "x"
  n_place : NoAttr K C "place"
  n_z : NoAttr K C "z"
  n_c : NoAttr K C "c"
  n_memory : NoAttr K C "memory"
  g_PLACES : mg "PLACES" = some (.int 128 (tokOf (mg "PLACES")))
  g_PAD_PLACE : mg "PAD_PLACE" = some (.int 127 (tokOf (mg "PAD_PLACE")))
  g_MOST_INSTRUCTIONS : mg "MOST_INSTRUCTIONS" = some (.int 300 (tokOf (mg "MOST_INSTRUCTIONS")))
  g_REST : mg "REST" = some (.int 0 (tokOf (mg "REST")))
  g_FIRST_BYTE : mg "FIRST_BYTE" = some (.int 5 (tokOf (mg "FIRST_BYTE")))
  b_len : mg "len" = none

theorem pos128 : (0 : Int) < 128 := by decide
theorem pos256 : (0 : Int) < 256 := by decide
theorem pos16 : (0 : Int) < 16 := by decide
/-! ### the parts of a step -/
def moveM (i n : Nat) (q : Mach) : Mach := if i = 1 then inA q n else if i = 2 then inA q (byteAt q n) else if i = 3 then put q n q.a else if i = 4 then inA q (byteAt q (n + q.x)) else put q (n + q.x) q.a
def changeM (i n : Nat) (q : Mach) : Mach := if i = 6 then inX q n else inX q (q.x + n)
def reckM (i n : Nat) (q : Mach) : Mach := if i = 8 then { inA q (q.a + byteAt q n) with c := decide (256 ≤ q.a + byteAt q n) } else if i = 9 then { inA q (q.a + 256 - byteAt q n) with c := decide (q.a < byteAt q n) }
  else if i = 10 then inA q (q.a &&& byteAt q n) else inA q (q.a ^^^ byteAt q n)
def dueM (i : Nat) (q : Mach) : Bool := if i = 12 then true else if i = 13 then q.z else if i = 14 then !q.z else q.c
def jumpM (i n : Nat) (q : Mach) : Mach := if dueM i q = true then { q with pc := n % 128 } else q
def further (m : Mach) : Mach := { m with pc := (m.pc + 2) % 128 }
def opI (m : Mach) : Nat := byteAt m m.pc % 16
def opN (m : Mach) : Nat := byteAt m (m.pc + 1)
theorem step_eq {m : Mach} (gb : ∀ k, byteAt m k < 256) : CsBase.step m = if 12 ≤ opI m then jumpM (opI m) (opN m) (further m) else if 8 ≤ opI m then reckM (opI m) (opN m) (further m) else if 6 ≤ opI m then changeM (opI m) (opN m) (further m)
    else if opI m ≠ 0 then moveM (opI m) (opN m) (further m) else further m := by
  have h : opI m < 16 := Nat.mod_lt _ (by decide)
  unfold CsBase.step CsBase.opAt
  show (match opI m with
    | 1 => inA (further m) (opN m)
    | 2 => inA (further m) (byteAt m (opN m))
    | 3 => put (further m) (opN m) m.a
    | 4 => inA (further m) (byteAt m (opN m + m.x))
    | 5 => put (further m) (opN m + m.x) m.a
    | 6 => inX (further m) (opN m)
    | 7 => inX (further m) (m.x + opN m)
    | 8 => { inA (further m) (m.a + byteAt m (opN m)) with c := decide (256 ≤ m.a + byteAt m (opN m)) }
    | 9 => { inA (further m) (m.a + 256 - byteAt m (opN m)) with c := decide (m.a + 256 - byteAt m (opN m) < 256) }
    | 10 => inA (further m) (m.a &&& byteAt m (opN m))
    | 11 => inA (further m) (m.a ^^^ byteAt m (opN m))
    | 12 => { m with pc := opN m % 128 }
    | 13 => if m.z = true then { m with pc := opN m % 128 } else (further m)
    | 14 => if m.z = false then { m with pc := opN m % 128 } else (further m)
    | 15 => if m.c = true then { m with pc := opN m % 128 } else (further m)
    | _ => further m) = _
  generalize opI m = i at h ⊢
  generalize opN m = n
  have e9 : decide (m.a + 256 - byteAt m n < 256) = decide (m.a < byteAt m n) := by
    have := gb n
    by_cases c : m.a < byteAt m n
    · rw [decide_eq_true c, decide_eq_true (by omega)]
    · rw [decide_eq_false c, decide_eq_false (by omega)]
  match i, h with
  | 0, _ => rfl
  | 1, _ => rfl
  | 2, _ => rfl
  | 3, _ => rfl
  | 4, _ => rfl
  | 5, _ => rfl
  | 6, _ => rfl
  | 7, _ => rfl
  | 8, _ => rfl
  | 9, _ => show _ = { inA (further m) (m.a + 256 - byteAt m n) with c := decide (m.a < byteAt m n) }; rw [← e9]; rfl
  | 10, _ => rfl
  | 11, _ => rfl
  | 12, _ => rfl
  | 13, _ => rfl
  | 14, _ =>
    show (if m.z = false then { m with pc := n % 128 } else further m) = if (!m.z) = true then { m with pc := n % 128 } else further m
    cases m.z <;> rfl
  | 15, _ => rfl
  | j + 16, hj => exact absurd hj (by omega)
/-! ### plain lemmas about the machine -/
theorem memL_length (m : Mach) : (memL m).length = m.mem.size := by simp [memL]
theorem memL_at {m : Mach} {i : Nat} (h : i < m.mem.size) : (memL m)[i]? = some (nI (m.mem.getD i 0)) := by
  unfold memL
  rw [List.getElem?_map, Array.getElem?_toList, Array.getElem?_eq_getElem h]
  simp [Array.getD, h]
theorem mod128 (k : Nat) : ((k : Int) % 128) = ((k % 128 : Nat) : Int) := by omega
theorem Good.byte {m : Mach} (g : Good m) (k : Nat) : byteAt m k < 256 := by
  unfold byteAt
  have h : k % CsBase.SIZE < m.mem.size := by rw [g.sz]; exact Nat.mod_lt _ (by decide)
  apply g.lt
  rw [Array.getD_eq_getD_getElem?, Array.getElem?_eq_getElem h]
  simp
theorem memL_byte {m : Mach} (g : Good m) (k : Nat) : atI (memL m) ((k : Int) % 128) = some (nI (byteAt m k)) := by
  refine at_of (mod128 k) ?_
  exact memL_at (m := m) (by rw [g.sz]; exact Nat.mod_lt _ (by decide))
theorem memL_put {m : Mach} {k v : Nat} (hv : v < 256) : memL (put m k v) = (memL m).set (k % 128) (nI v) := by
  unfold memL put
  show List.map nI (m.mem.setIfInBounds (k % CsBase.SIZE) (v % 256)).toList = _
  rw [Array.toList_setIfInBounds, List.map_set, Nat.mod_eq_of_lt hv]
  rfl
theorem Good.put {m : Mach} (g : Good m) {k v : Nat} : Good (put m k v) := by
  refine ⟨?_, ?_, g.a, g.x, g.pc⟩
  · show (m.mem.setIfInBounds _ _).size = 128
    rw [Array.size_setIfInBounds]; exact g.sz
  · intro u hu
    have hu' : u ∈ (m.mem.setIfInBounds (k % CsBase.SIZE) (v % 256)).toList := hu
    rw [Array.toList_setIfInBounds] at hu'
    rcases List.mem_or_eq_of_mem_set hu' with h | h
    · exact g.lt u h
    · rw [h]; exact Nat.mod_lt _ (by decide)
theorem Good.inA {m : Mach} (g : Good m) {v : Nat} : Good (inA m v) := ⟨g.sz, g.lt, Nat.mod_lt _ (by decide), g.x, g.pc⟩
theorem Good.inX {m : Mach} (g : Good m) {v : Nat} : Good (inX m v) := ⟨g.sz, g.lt, g.a, Nat.mod_lt _ (by decide), g.pc⟩
theorem ixN_byte {m : Mach} (g : Good m) (k : Nat) : ixN (memL m).length ((k : Int) % 128) = some (k % 128) := by
  unfold ixN
  rw [memL_length, g.sz, if_pos (by omega), if_pos (by omega)]
  congr 1

section
variable {P : Program} {w : World} {K : PySem.W.Frag} {mg : Str → Option Value} {base : Heap} {C : Addr}
abbrev s_Machine_byte_at : Stmt := inClass (top 6) 2
theorem sc_Machine_byte_at : FnScope ["self", "place"] ["self", "place"] (defScope s_Machine_byte_at) := ⟨rfl, rfl, rfl, by decide +kernel, rfl, by decide +kernel, by decide +kernel⟩
theorem ok_Machine_byte_at {f : Addr} {fd : FuncData} (F : Fun K "byte_at" "Machine.byte_at" s_Machine_byte_at f fd) (T : TxtM K mg C) : FnOk P w K mg base CX0 1 f fd ["self", "place"] (spByteAt C) := by
  refine F.ok sc_Machine_byte_at (fun vs H Q E h => ?_) (fun cdv A outer s H vs Q E hr h => ?_)
  · obtain ⟨p, q, m, k, rfl, _⟩ := h
    rfl
  · obtain ⟨p, q, m, k, rfl, ⟨⟨dx, h1⟩, h2, g⟩, kq⟩ := h
    refine ⟨_, (pss_one (ps_ret (pe_ix ix_list (pe_fld (pv 0) rfl) (pe_op op_mod (pv 1) (pe_glob (v := .int (128)) rfl T.g_PLACES ⟨_, rfl⟩)) (fun _ _ => rfl)))), ?_⟩
    exact ⟨_, rfl, p, C, dx, _, _, rfl, h1, T.cl_Machine, T.n_memory, fM_memory, _, rfl, _, _, rfl, rfl, pos128, q, _, _, _, rfl, rfl, SqL.of h2, memL_byte g k, kq⟩
abbrev s_Machine_put_byte : Stmt := inClass (top 6) 3
theorem sc_Machine_put_byte : FnScope ["self", "place", "byte"] ["self", "place", "byte"] (defScope s_Machine_put_byte) := ⟨rfl, rfl, rfl, by decide +kernel, rfl, by decide +kernel, by decide +kernel⟩
theorem ok_Machine_put_byte {f : Addr} {fd : FuncData} (F : Fun K "put_byte" "Machine.put_byte" s_Machine_put_byte f fd) (T : TxtM K mg C) : FnOk P w K mg base CX0 1 f fd ["self", "place", "byte"] (spPutByte C) := by
  refine F.ok sc_Machine_put_byte (fun vs H Q E h => ?_) (fun cdv A outer s H vs Q E hr h => ?_)
  · obtain ⟨p, q, m, k, v, rfl, _⟩ := h
    rfl
  · obtain ⟨p, q, m, k, v, rfl, hv, M, kq⟩ := h
    have ne := M.ne
    obtain ⟨⟨dx, h1⟩, h2, g⟩ := M
    refine ⟨_, (pss_one (ps_asg (pv 2) (pg_sub (pe_fld (pv 0) rfl) (pe_op op_mod (pv 1) (pe_glob (v := .int (128)) rfl T.g_PLACES ⟨_, rfl⟩)) set_list))), ?_⟩
    refine ⟨_, rfl, _, rfl, p, C, dx, _, _, rfl, h1, T.cl_Machine, T.n_memory, fM_memory, _, rfl, _, _, rfl, rfl, pos128, q, _, _, _, rfl, rfl, h2, ixN_byte g k, ?_⟩
    refine kq _ ⟨⟨dx, by rw [upd_ne ne]; exact h1⟩, ?_, g.put⟩ (Kp.refl.upd (Or.inr rfl))
    rw [upd_same, memL_put hv]
theorem inA_nat (m : Mach) (k : Nat) : inA m ((k : Int) % 256).toNat = inA m k := by
  unfold inA
  have h : ((k : Int) % 256).toNat % 256 = k % 256 := by omega
  rw [h]
theorem inX_nat (m : Mach) (k : Nat) : inX m ((k : Int) % 256).toNat = inX m k := by
  unfold inX
  have h : ((k : Int) % 256).toNat % 256 = k % 256 := by omega
  rw [h]
theorem inA_sub (m : Mach) {k b : Nat} (h : b ≤ k + 256) : inA m (((k : Int) - b) % 256).toNat = inA m (k + 256 - b) := by
  unfold inA
  have h : (((k : Int) - b) % 256).toNat % 256 = (k + 256 - b) % 256 := by omega
  rw [h]
theorem bxor_nat (a b : Nat) : Builtin.bitXor (a : Int) (b : Int) = ((a ^^^ b : Nat) : Int) := by
  rw [Bits.bitXor_pp (Int.natCast_nonneg a) (Int.natCast_nonneg b), Int.toNat_natCast, Int.toNat_natCast]
theorem mF_inA {q : Addr} {m : Mach} {n : Int} : mF q (inA m (n % 256).toNat) = fM (.int (n % 256)) (nI m.x) (nI m.pc) (.int (if n % 256 = 0 then 1 else 0)) (.int (b01 m.c)) (.ref q) := by
  unfold mF inA b01
  have h1 : (((n % 256).toNat % 256 : Nat) : Int) = n % 256 := by omega
  have h2 : ((n % 256).toNat % 256 == 0) = decide (n % 256 = 0) := by
    by_cases c : n % 256 = 0
    · rw [c]; rfl
    · rw [decide_eq_false c, beq_eq_false_iff_ne]; omega
  show fM (.int (((n % 256).toNat % 256 : Nat) : Int)) (nI m.x) (nI m.pc) (.int (if ((n % 256).toNat % 256 == 0) = true then 1 else 0)) _ _ = _
  rw [h1, h2]
  by_cases c : n % 256 = 0
  · rw [if_pos c, if_pos (decide_eq_true c)]
  · rw [if_neg c, if_neg (by rw [decide_eq_false c]; exact Bool.false_ne_true)]
theorem mF_inX {q : Addr} {m : Mach} {n : Int} : mF q (inX m (n % 256).toNat) = fM (nI m.a) (.int (n % 256)) (nI m.pc) (.int (if n % 256 = 0 then 1 else 0)) (.int (b01 m.c)) (.ref q) := by
  unfold mF inX b01
  have h1 : (((n % 256).toNat % 256 : Nat) : Int) = n % 256 := by omega
  have h2 : ((n % 256).toNat % 256 == 0) = decide (n % 256 = 0) := by
    by_cases c : n % 256 = 0
    · rw [c]; rfl
    · rw [decide_eq_false c, beq_eq_false_iff_ne]; omega
  show fM (nI m.a) (.int (((n % 256).toNat % 256 : Nat) : Int)) (nI m.pc) (.int (if ((n % 256).toNat % 256 == 0) = true then 1 else 0)) _ _ = _
  rw [h1, h2]
  by_cases c : n % 256 = 0
  · rw [if_pos c, if_pos (decide_eq_true c)]
  · rw [if_neg c, if_neg (by rw [decide_eq_false c]; exact Bool.false_ne_true)]
abbrev s_Machine_put_a : Stmt := inClass (top 6) 4
theorem sc_Machine_put_a : FnScope ["self", "number"] ["self", "number"] (defScope s_Machine_put_a) := ⟨rfl, rfl, rfl, by decide +kernel, rfl, by decide +kernel, by decide +kernel⟩
theorem ok_Machine_put_a {f : Addr} {fd : FuncData} (F : Fun K "put_a" "Machine.put_a" s_Machine_put_a f fd) (T : TxtM K mg C) : FnOk P w K mg base CX0 1 f fd ["self", "number"] (spPutA C) := by
  refine F.ok sc_Machine_put_a (fun vs H Q E h => ?_) (fun cdv A outer s H vs Q E hr h => ?_)
  · obtain ⟨p, q, m, n, rfl, _⟩ := h
    rfl
  · obtain ⟨p, q, m, n, rfl, M, kq⟩ := h
    have ne := M.ne
    obtain ⟨⟨dx, h1⟩, h2, g⟩ := M
    refine ⟨_, (pss_cons (ps_fld (pv 0) (pe_op op_mod (pv 1) pe_int) rfl)
      (pss_one (ps_fld (pv 0) (pe_ifExp (pt_cmpR op_eq (pe_fld (pv 0) rfl) pe_int (nomark _)) pe_int pe_int) rfl))), ?_⟩
    refine ⟨_, rfl, _, _, rfl, rfl, pos256, _, rfl, p, C, dx, _, rfl, h1, T.cl_Machine, T.n_a, (by show 6 < 1000; decide), ?_⟩
    rw [show mF q m = fM (nI m.a) (nI m.x) (nI m.pc) (.int (b01 m.z)) (.int (b01 m.c)) (.ref q) from rfl, fM_put_a]
    refine ⟨_, rfl, p, C, dx, _, _, rfl, upd_same, T.cl_Machine, T.n_a, fM_a, rfl, _, rfl, ?_⟩
    have fin : ∀ z : Int, z = (if n % 256 = 0 then 1 else 0) → MachAt C (upd (upd H p (.ins C dx (fM (.int (n % 256)) (nI m.x) (nI m.pc) (.int (b01 m.z)) (.int (b01 m.c)) (.ref q)))) p (.ins C dx (putF "z" (.int z) (fM (.int (n % 256)) (nI m.x) (nI m.pc) (.int (b01 m.z)) (.int (b01 m.c)) (.ref q))))) p q (inA m (n % 256).toNat) := by
      rintro z rfl
      refine ⟨⟨dx, ?_⟩, ?_, g.inA⟩
      · rw [upd_same, mF_inA, fM_put_z]
      · rw [upd_ne ne.symm, upd_ne ne.symm]; exact h2
    refine if_dec (fun c => ?_) (fun c => ?_)
    · exact ⟨_, rfl, p, C, dx, _, rfl, upd_same, T.cl_Machine, T.n_z, (by show 6 < 1000; decide), kq _ (fin 1 (by rw [if_pos (V.int.inj c)])) ((Kp.refl.upd (.inl rfl)).upd (.inl rfl))⟩
    · exact ⟨_, rfl, p, C, dx, _, rfl, upd_same, T.cl_Machine, T.n_z, (by show 6 < 1000; decide), kq _ (fin 0 (by rw [if_neg fun z => c (congrArg V.int z)])) ((Kp.refl.upd (.inl rfl)).upd (.inl rfl))⟩
abbrev s_Machine_put_x : Stmt := inClass (top 6) 5
theorem sc_Machine_put_x : FnScope ["self", "number"] ["self", "number"] (defScope s_Machine_put_x) := ⟨rfl, rfl, rfl, by decide +kernel, rfl, by decide +kernel, by decide +kernel⟩
theorem ok_Machine_put_x {f : Addr} {fd : FuncData} (F : Fun K "put_x" "Machine.put_x" s_Machine_put_x f fd) (T : TxtM K mg C) : FnOk P w K mg base CX0 1 f fd ["self", "number"] (spPutX C) := by
  refine F.ok sc_Machine_put_x (fun vs H Q E h => ?_) (fun cdv A outer s H vs Q E hr h => ?_)
  · obtain ⟨p, q, m, n, rfl, _⟩ := h
    rfl
  · obtain ⟨p, q, m, n, rfl, M, kq⟩ := h
    have ne := M.ne
    obtain ⟨⟨dx, h1⟩, h2, g⟩ := M
    refine ⟨_, (pss_cons (ps_fld (pv 0) (pe_op op_mod (pv 1) pe_int) rfl)
      (pss_one (ps_fld (pv 0) (pe_ifExp (pt_cmpR op_eq (pe_fld (pv 0) rfl) pe_int (nomark _)) pe_int pe_int) rfl))), ?_⟩
    refine ⟨_, rfl, _, _, rfl, rfl, pos256, _, rfl, p, C, dx, _, rfl, h1, T.cl_Machine, T.n_x, (by show 6 < 1000; decide), ?_⟩
    rw [show mF q m = fM (nI m.a) (nI m.x) (nI m.pc) (.int (b01 m.z)) (.int (b01 m.c)) (.ref q) from rfl, fM_put_x]
    refine ⟨_, rfl, p, C, dx, _, _, rfl, upd_same, T.cl_Machine, T.n_x, fM_x, rfl, _, rfl, ?_⟩
    have fin : ∀ z : Int, z = (if n % 256 = 0 then 1 else 0) → MachAt C (upd (upd H p (.ins C dx (fM (nI m.a) (.int (n % 256)) (nI m.pc) (.int (b01 m.z)) (.int (b01 m.c)) (.ref q)))) p (.ins C dx (putF "z" (.int z) (fM (nI m.a) (.int (n % 256)) (nI m.pc) (.int (b01 m.z)) (.int (b01 m.c)) (.ref q))))) p q (inX m (n % 256).toNat) := by
      rintro z rfl
      refine ⟨⟨dx, ?_⟩, ?_, g.inX⟩
      · rw [upd_same, mF_inX, fM_put_z]
      · rw [upd_ne ne.symm, upd_ne ne.symm]; exact h2
    refine if_dec (fun c => ?_) (fun c => ?_)
    · exact ⟨_, rfl, p, C, dx, _, rfl, upd_same, T.cl_Machine, T.n_z, (by show 6 < 1000; decide), kq _ (fin 1 (by rw [if_pos (V.int.inj c)])) ((Kp.refl.upd (.inl rfl)).upd (.inl rfl))⟩
    · exact ⟨_, rfl, p, C, dx, _, rfl, upd_same, T.cl_Machine, T.n_z, (by show 6 < 1000; decide), kq _ (fin 0 (by rw [if_neg fun z => c (congrArg V.int z)])) ((Kp.refl.upd (.inl rfl)).upd (.inl rfl))⟩
def spMove (C : Addr) : Sp := fun vs H Q _ => ∃ (p q : Addr) (m : Mach) (i n : Nat), vs = [.ref p, nI i, nI n] ∧ i ≤ 5 ∧ 1 ≤ i ∧ MachAt C H p q m ∧ Then C H p q (moveM i n m) (Q .non)
def spChange (C : Addr) : Sp := fun vs H Q _ => ∃ (p q : Addr) (m : Mach) (i n : Nat), vs = [.ref p, nI i, nI n] ∧ MachAt C H p q m ∧ Then C H p q (changeM i n m) (Q .non)
def spReckon (C : Addr) : Sp := fun vs H Q _ => ∃ (p q : Addr) (m : Mach) (i n : Nat), vs = [.ref p, nI i, nI n] ∧ MachAt C H p q m ∧ Then C H p q (reckM i n m) (Q .non)
def spJump (C : Addr) : Sp := fun vs H Q _ => ∃ (p q : Addr) (m : Mach) (i n : Nat), vs = [.ref p, nI i, nI n] ∧ MachAt C H p q m ∧ Then C H p q (jumpM i n m) (Q .non)
def spDo (C : Addr) : Sp := fun vs H Q _ => ∃ (p q : Addr) (m : Mach), vs = [.ref p] ∧ MachAt C H p q m ∧ Then C H p q (CsBase.step m) (Q (nI (opI m)))
def spRun (C : Addr) : Sp := fun vs H Q _ => ∃ (p q : Addr) (m : Mach) (v : Nat), vs = [.ref p, nI v] ∧ v < 256 ∧ MachAt C H p q m ∧ Then C H p q (CsBase.frame m v) (Q .non)
theorem nI_inj {a b : Nat} (h : nI a = nI b) : a = b := by
  have := V.int.inj h
  omega
theorem i_inj {a : Nat} {b : Int} (h : nI a = V.int b) : (a : Int) = b := V.int.inj h
abbrev s_Machine_move : Stmt := inClass (top 6) 8
theorem sc_Machine_move : FnScope ["self", "which", "n"] ["self", "which", "n"] (defScope s_Machine_move) := ⟨rfl, rfl, rfl, by decide +kernel, rfl, by decide +kernel, by decide +kernel⟩
theorem ok_Machine_move {f : Addr} {fd : FuncData} (F : Fun K "move" "Machine.move" s_Machine_move f fd) (T : TxtM K mg C)
    (G_Machine_byte_at : MethF P w K mg base 1 C "byte_at" ["self", "place"] (spByteAt C)) (G_Machine_put_byte : MethF P w K mg base 1 C "put_byte" ["self", "place", "byte"] (spPutByte C)) (G_Machine_put_a : MethF P w K mg base 1 C "put_a" ["self", "number"] (spPutA C)) :
    FnOk P w K mg base CX0 2 f fd ["self", "which", "n"] (spMove C) := by
  refine F.ok sc_Machine_move (fun vs H Q E h => ?_) (fun cdv A outer s H vs Q E hr h => ?_)
  · obtain ⟨p, q, m, i, n, rfl, _⟩ := h
    rfl
  · obtain ⟨p, q, m, i, n, rfl, hi, hi1, M, kq⟩ := h
    obtain ⟨dx, h1⟩ := M.o
    refine ⟨_, (pss_one (ps_if (pt_cmpR op_eq (pv 1) pe_int (nomark _)) (pss_one (ps_expr (pe_methF (pv 0) T.cl_Machine G_Machine_put_a (hr.mono (by decide)) (pa_cons (pv 2) pa_nil)))) (pss_one (ps_if (pt_cmpR op_eq (pv 1) pe_int (nomark _)) (pss_one (ps_expr (pe_methF (pv 0) T.cl_Machine G_Machine_put_a (hr.mono (by decide)) (pa_cons (pe_methF (pv 0) T.cl_Machine G_Machine_byte_at (hr.mono (by decide)) (pa_cons (pv 2) pa_nil)) pa_nil)))) (pss_one (ps_if (pt_cmpR op_eq (pv 1) pe_int (nomark _)) (pss_one (ps_expr (pe_methF (pv 0) T.cl_Machine G_Machine_put_byte (hr.mono (by decide)) (pa_cons (pv 2) (pa_cons (pe_fld (pv 0) rfl) pa_nil))))) (pss_one (ps_if (pt_cmpR op_eq (pv 1) pe_int (nomark _)) (pss_one (ps_expr (pe_methF (pv 0) T.cl_Machine G_Machine_put_a (hr.mono (by decide)) (pa_cons (pe_methF (pv 0) T.cl_Machine G_Machine_byte_at (hr.mono (by decide)) (pa_cons (pe_op op_add (pv 2) (pe_fld (pv 0) rfl)) pa_nil)) pa_nil)))) (pss_one (ps_expr (pe_methF (pv 0) T.cl_Machine G_Machine_put_byte (hr.mono (by decide)) (pa_cons (pe_op op_add (pv 2) (pe_fld (pv 0) rfl)) (pa_cons (pe_fld (pv 0) rfl) pa_nil))))))))))))), ?_⟩
    refine ⟨_, rfl, rfl, _, rfl, if_dec (fun c => ?_) (fun c => ?_)⟩
    · refine ⟨_, rfl, p, dx, _, rfl, h1, fM_no_put_a, _, rfl, p, q, m, _, rfl, M, ?_⟩
      rw [inA_nat]
      have e : moveM i n m = inA m n := by unfold moveM; rw [if_pos (by have := i_inj c; omega)]
      rw [← e]; exact kq
    refine ⟨_, rfl, rfl, _, rfl, if_dec (fun c2 => ?_) (fun c2 => ?_)⟩
    · refine ⟨_, rfl, p, dx, _, rfl, h1, fM_no_put_a, _, rfl, p, dx, _, rfl, h1, fM_no_byte_at, _, rfl, p, q, m, n, rfl, M, p, q, m, _, rfl, M, ?_⟩
      rw [inA_nat]
      have e : moveM i n m = inA m (byteAt m n) := by unfold moveM; rw [if_neg (by intro z; exact c (by rw [z]; rfl)), if_pos (by have := i_inj c2; omega)]
      rw [← e]; exact kq
    refine ⟨_, rfl, rfl, _, rfl, if_dec (fun c3 => ?_) (fun c3 => ?_)⟩
    · refine ⟨_, rfl, p, dx, _, rfl, h1, fM_no_put_byte, _, rfl, _, rfl, p, C, dx, _, _, rfl, h1, T.cl_Machine, T.n_a, fM_a, p, q, m, n, _, rfl, M.g.a, M, ?_⟩
      have e : moveM i n m = put m n m.a := by unfold moveM; rw [if_neg (by intro z; exact c (by rw [z]; rfl)), if_neg (by intro z; exact c2 (by rw [z]; rfl)), if_pos (by have := i_inj c3; omega)]
      rw [← e]; exact kq
    refine ⟨_, rfl, rfl, _, rfl, if_dec (fun c4 => ?_) (fun c4 => ?_)⟩
    · refine ⟨_, rfl, p, dx, _, rfl, h1, fM_no_put_a, _, rfl, p, dx, _, rfl, h1, fM_no_byte_at, _, rfl, _, rfl, p, C, dx, _, _, rfl, h1, T.cl_Machine, T.n_x, fM_x, _, _, rfl, rfl, p, q, m, n + m.x, rfl, M, p, q, m, _, rfl, M, ?_⟩
      rw [inA_nat]
      have e : moveM i n m = inA m (byteAt m (n + m.x)) := by unfold moveM; rw [if_neg (by intro z; exact c (by rw [z]; rfl)), if_neg (by intro z; exact c2 (by rw [z]; rfl)), if_neg (by intro z; exact c3 (by rw [z]; rfl)), if_pos (by have := i_inj c4; omega)]
      rw [← e]; exact kq
    · refine ⟨_, rfl, p, dx, _, rfl, h1, fM_no_put_byte, _, rfl, _, rfl, p, C, dx, _, _, rfl, h1, T.cl_Machine, T.n_x, fM_x, _, _, rfl, rfl, _, rfl, p, C, dx, _, _, rfl, h1, T.cl_Machine, T.n_a, fM_a, p, q, m, n + m.x, _, rfl, M.g.a, M, ?_⟩
      have e : moveM i n m = put m (n + m.x) m.a := by unfold moveM; rw [if_neg (by intro z; exact c (by rw [z]; rfl)), if_neg (by intro z; exact c2 (by rw [z]; rfl)), if_neg (by intro z; exact c3 (by rw [z]; rfl)), if_neg (by intro z; exact c4 (by rw [z]; rfl))]
      rw [← e]; exact kq
abbrev s_Machine_change_x : Stmt := inClass (top 6) 9
theorem sc_Machine_change_x : FnScope ["self", "which", "n"] ["self", "which", "n"] (defScope s_Machine_change_x) := ⟨rfl, rfl, rfl, by decide +kernel, rfl, by decide +kernel, by decide +kernel⟩
theorem ok_Machine_change_x {f : Addr} {fd : FuncData} (F : Fun K "change_x" "Machine.change_x" s_Machine_change_x f fd) (T : TxtM K mg C)
    (G_Machine_put_x : MethF P w K mg base 1 C "put_x" ["self", "number"] (spPutX C)) :
    FnOk P w K mg base CX0 2 f fd ["self", "which", "n"] (spChange C) := by
  refine F.ok sc_Machine_change_x (fun vs H Q E h => ?_) (fun cdv A outer s H vs Q E hr h => ?_)
  · obtain ⟨p, q, m, i, n, rfl, _⟩ := h
    rfl
  · obtain ⟨p, q, m, i, n, rfl, M, kq⟩ := h
    obtain ⟨dx, h1⟩ := M.o
    refine ⟨_, (pss_one (ps_if (pt_cmpR op_eq (pv 1) pe_int (nomark _)) (pss_one (ps_expr (pe_methF (pv 0) T.cl_Machine G_Machine_put_x (hr.mono (by decide)) (pa_cons (pv 2) pa_nil)))) (pss_one (ps_expr (pe_methF (pv 0) T.cl_Machine G_Machine_put_x (hr.mono (by decide)) (pa_cons (pe_op op_add (pe_fld (pv 0) rfl) (pv 2)) pa_nil)))))), ?_⟩
    refine ⟨_, rfl, rfl, _, rfl, if_dec (fun c => ?_) (fun c => ?_)⟩
    · refine ⟨_, rfl, p, dx, _, rfl, h1, fM_no_put_x, _, rfl, p, q, m, _, rfl, M, ?_⟩
      rw [inX_nat]
      have e : changeM i n m = inX m n := by unfold changeM; rw [if_pos (by have := i_inj c; omega)]
      rw [← e]; exact kq
    · refine ⟨_, rfl, p, dx, _, rfl, h1, fM_no_put_x, _, rfl, p, C, dx, _, _, rfl, h1, T.cl_Machine, T.n_x, fM_x, _, rfl, _, _, rfl, rfl, p, q, m, ((m.x + n : Nat) : Int), rfl, M, ?_⟩
      rw [inX_nat]
      have e : changeM i n m = inX m (m.x + n) := by unfold changeM; rw [if_neg (by intro z; exact c (by rw [z]; rfl))]
      rw [← e]; exact kq
/-- the flag c set ahead of a -/
theorem MachAt.setC {H : Hp} {p q dx : Addr} {m : Mach} (M : MachAt C H p q m) (b : Bool) :
    MachAt C (upd H p (.ins C dx (putF "c" (.int (b01 b)) (mF q m)))) p q { m with c := b } := by
  refine ⟨⟨dx, ?_⟩, ?_, ⟨M.g.sz, M.g.lt, M.g.a, M.g.x, M.g.pc⟩⟩
  · rw [upd_same]
    show some (HO.ins C dx (putF "c" (.int (b01 b)) (fM (nI m.a) (nI m.x) (nI m.pc) (.int (b01 m.z)) (.int (b01 m.c)) (.ref q)))) = _
    rw [fM_put_c]
    rfl
  · rw [upd_ne M.ne.symm]; exact M.l
theorem MachAt.setPc {H : Hp} {p q dx : Addr} {m : Mach} (M : MachAt C H p q m) {k : Nat} (hk : k < 128) :
    MachAt C (upd H p (.ins C dx (putF "place" (nI k) (mF q m)))) p q { m with pc := k } := by
  refine ⟨⟨dx, ?_⟩, ?_, ⟨M.g.sz, M.g.lt, M.g.a, M.g.x, hk⟩⟩
  · rw [upd_same]
    show some (HO.ins C dx (putF "place" (nI k) (fM (nI m.a) (nI m.x) (nI m.pc) (.int (b01 m.z)) (.int (b01 m.c)) (.ref q)))) = _
    rw [fM_put_place]
    rfl
  · rw [upd_ne M.ne.symm]; exact M.l
theorem Then.upd {H : Hp} {p q : Addr} {m : Mach} {o : HO} {Q : Hp → Prop} (k : Then C H p q m Q) : Then C (L2.upd H p o) p q m Q := fun H' M K => k H' M (Kp.trans (Kp.refl.upd (.inl rfl)) K)
abbrev s_Machine_reckon : Stmt := inClass (top 6) 10
theorem sc_Machine_reckon : FnScope ["self", "which", "n", "byte"] ["self", "which", "n"] (defScope s_Machine_reckon) := ⟨rfl, rfl, rfl, by decide +kernel, rfl, by decide +kernel, by decide +kernel⟩
theorem ok_Machine_reckon {f : Addr} {fd : FuncData} (F : Fun K "reckon" "Machine.reckon" s_Machine_reckon f fd) (T : TxtM K mg C)
    (G_Machine_byte_at : MethF P w K mg base 1 C "byte_at" ["self", "place"] (spByteAt C)) (G_Machine_put_a : MethF P w K mg base 1 C "put_a" ["self", "number"] (spPutA C)) :
    FnOk P w K mg base CX0 2 f fd ["self", "which", "n"] (spReckon C) := by
  refine F.ok sc_Machine_reckon (fun vs H Q E h => ?_) (fun cdv A outer s H vs Q E hr h => ?_)
  · obtain ⟨p, q, m, i, n, rfl, _⟩ := h
    rfl
  · obtain ⟨p, q, m, i, n, rfl, M, kq⟩ := h
    obtain ⟨dx, h1⟩ := M.o
    have hb := M.g.byte n
    have ha := M.g.a
    refine ⟨_, (pss_cons (ps_set (i := 3) sc_Machine_reckon.nd rfl (Or.inl rfl) (pe_methF (pv 0) T.cl_Machine G_Machine_byte_at (hr.mono (by decide)) (pa_cons (pv 2) pa_nil)))
      (pss_one (ps_if (pt_cmpR op_eq (pv 1) pe_int (nomark _)) (pss_cons (ps_fld (pv 0) (pe_ifExp (pt_cmpR op_ge (pe_op op_add (pe_fld (pv 0) rfl) (pv 3)) pe_int (nomark _)) pe_int pe_int) rfl)
      (pss_one (ps_expr (pe_methF (pv 0) T.cl_Machine G_Machine_put_a (hr.mono (by decide)) (pa_cons (pe_op op_add (pe_fld (pv 0) rfl) (pv 3)) pa_nil))))) (pss_one (ps_if (pt_cmpR op_eq (pv 1) pe_int (nomark _)) (pss_cons (ps_fld (pv 0) (pe_ifExp (pt_cmpR op_gt (pv 3) (pe_fld (pv 0) rfl) (nomark _)) pe_int pe_int) rfl)
      (pss_one (ps_expr (pe_methF (pv 0) T.cl_Machine G_Machine_put_a (hr.mono (by decide)) (pa_cons (pe_op op_sub (pe_fld (pv 0) rfl) (pv 3)) pa_nil))))) (pss_one (ps_if (pt_cmpR op_eq (pv 1) pe_int (nomark _)) (pss_one (ps_expr (pe_methF (pv 0) T.cl_Machine G_Machine_put_a (hr.mono (by decide)) (pa_cons (pe_op op_and (pe_fld (pv 0) rfl) (pv 3)) pa_nil)))) (pss_one (ps_expr (pe_methF (pv 0) T.cl_Machine G_Machine_put_a (hr.mono (by decide)) (pa_cons (pe_op op_xor (pe_fld (pv 0) rfl) (pv 3)) pa_nil))))))))))), ?_⟩
    refine ⟨_, rfl, p, dx, _, rfl, h1, fM_no_byte_at, _, rfl, p, q, m, n, rfl, M, ?_⟩
    refine ⟨_, rfl, rfl, _, rfl, if_dec (fun c => ?_) (fun c => ?_)⟩
    · have e : reckM i n m = inA { m with c := decide ((256 : Int) ≤ (m.a : Int) + (byteAt m n : Nat)) } (m.a + byteAt m n) := by
        have d : decide ((256 : Int) ≤ (m.a : Int) + (byteAt m n : Nat)) = decide (256 ≤ m.a + byteAt m n) := decide_eq_decide.mpr (by omega)
        unfold reckM
        rw [if_pos (by have := i_inj c; omega), d]
        rfl
      refine ⟨_, rfl, p, C, dx, _, _, rfl, h1, T.cl_Machine, T.n_a, fM_a, _, rfl, _, _, rfl, rfl, _, _, rfl, rfl, _, rfl, ?_⟩
      refine if_10 ?_
      refine ⟨_, rfl, p, C, dx, _, rfl, h1, T.cl_Machine, T.n_c, (by show 6 < 1000; decide), ?_⟩
      have M2 := M.setC (dx := dx) (decide ((256 : Int) ≤ (m.a : Int) + (byteAt m n : Nat)))
      obtain ⟨dx2, h2⟩ := M2.o
      refine ⟨_, rfl, p, dx2, _, rfl, h2, fM_no_put_a, _, rfl, p, C, dx2, _, _, rfl, h2, T.cl_Machine, T.n_a, fM_a, _, rfl, _, _, rfl, rfl, p, q, _, ((m.a + byteAt m n : Nat) : Int), rfl, M2, ?_⟩
      rw [inA_nat, ← e]
      exact kq.upd
    refine ⟨_, rfl, rfl, _, rfl, if_dec (fun c2 => ?_) (fun c2 => ?_)⟩
    · have e : reckM i n m = inA { m with c := decide ((m.a : Int) < (byteAt m n : Nat)) } (m.a + 256 - byteAt m n) := by
        have d : decide ((m.a : Int) < (byteAt m n : Nat)) = decide (m.a < byteAt m n) := decide_eq_decide.mpr (by omega)
        unfold reckM
        rw [if_neg (by intro z; exact c (by rw [z]; rfl)), if_pos (by have := i_inj c2; omega), d]
        rfl
      refine ⟨_, rfl, _, rfl, p, C, dx, _, _, rfl, h1, T.cl_Machine, T.n_a, fM_a, _, _, rfl, rfl, _, rfl, ?_⟩
      refine if_10 ?_
      refine ⟨_, rfl, p, C, dx, _, rfl, h1, T.cl_Machine, T.n_c, (by show 6 < 1000; decide), ?_⟩
      have M2 := M.setC (dx := dx) (decide ((m.a : Int) < (byteAt m n : Nat)))
      obtain ⟨dx2, h2⟩ := M2.o
      refine ⟨_, rfl, p, dx2, _, rfl, h2, fM_no_put_a, _, rfl, p, C, dx2, _, _, rfl, h2, T.cl_Machine, T.n_a, fM_a, _, rfl, _, _, rfl, rfl, p, q, _, ((m.a : Nat) : Int) - (byteAt m n : Nat), rfl, M2, ?_⟩
      rw [inA_sub _ (by omega), ← e]
      exact kq.upd
    refine ⟨_, rfl, rfl, _, rfl, if_dec (fun c3 => ?_) (fun c3 => ?_)⟩
    · have e : reckM i n m = inA m (m.a &&& byteAt m n) := by
        unfold reckM
        rw [if_neg (by intro z; exact c (by rw [z]; rfl)), if_neg (by intro z; exact c2 (by rw [z]; rfl)), if_pos (by have := i_inj c3; omega)]
      refine ⟨_, rfl, p, dx, _, rfl, h1, fM_no_put_a, _, rfl, p, C, dx, _, _, rfl, h1, T.cl_Machine, T.n_a, fM_a, _, rfl, _, _, rfl, rfl, p, q, _, _, rfl, M, ?_⟩
      rw [PySem.W.os_band, inA_nat, ← e]
      exact kq
    · have e : reckM i n m = inA m (m.a ^^^ byteAt m n) := by
        unfold reckM
        rw [if_neg (by intro z; exact c (by rw [z]; rfl)), if_neg (by intro z; exact c2 (by rw [z]; rfl)), if_neg (by intro z; exact c3 (by rw [z]; rfl))]
      refine ⟨_, rfl, p, dx, _, rfl, h1, fM_no_put_a, _, rfl, p, C, dx, _, _, rfl, h1, T.cl_Machine, T.n_a, fM_a, _, rfl, _, _, rfl, rfl, p, q, _, _, rfl, M, ?_⟩
      rw [bxor_nat, inA_nat, ← e]
      exact kq
abbrev s_Machine_jump : Stmt := inClass (top 6) 11
theorem sc_Machine_jump : FnScope ["self", "which", "n", "due"] ["self", "which", "n"] (defScope s_Machine_jump) := ⟨rfl, rfl, rfl, by decide +kernel, rfl, by decide +kernel, by decide +kernel⟩
theorem b01_one {b : Bool} : (V.int (b01 b) = V.int 1) ↔ b = true := by cases b <;> decide
theorem b01_zero {b : Bool} : (V.int (b01 b) = V.int 0) ↔ b = false := by cases b <;> decide
theorem ok_Machine_jump {f : Addr} {fd : FuncData} (F : Fun K "jump" "Machine.jump" s_Machine_jump f fd) (T : TxtM K mg C) :
    FnOk P w K mg base CX0 1 f fd ["self", "which", "n"] (spJump C) := by
  refine F.ok sc_Machine_jump (fun vs H Q E h => ?_) (fun cdv A outer s H vs Q E hr h => ?_)
  · obtain ⟨p, q, m, i, n, rfl, _⟩ := h
    rfl
  · obtain ⟨p, q, m, i, n, rfl, M, kq⟩ := h
    obtain ⟨dx, h1⟩ := M.o
    have tail : ∀ b : Bool, b = dueM i m → tIfS (tB (tVar 3)) (sFld K (tVar 0) (tOp (rI (fun _ j => 0 < j) fun i j => V.int (i % j)) (tVar 2) (tC (V.int 128))) "place") tNext { nx := fun _ H' => Q .non H', rt := Q } [some (.ref p), some (nI i), some (nI n), some (.bl b)] H := by
      intro b hb
      refine ⟨_, rfl, _, rfl, ?_⟩
      cases b with
      | true =>
        refine iteT ⟨_, rfl, _, _, rfl, rfl, pos128, _, rfl, p, C, dx, _, rfl, h1, T.cl_Machine, T.n_place, (by show 6 < 1000; decide), ?_⟩
        have e : jumpM i n m = { m with pc := n % 128 } := by unfold jumpM; rw [if_pos hb.symm]
        have k2 := kq.upd (o := .ins C dx (putF "place" (nI (n % 128)) (mF q m)))
        rw [e] at k2
        exact k2 _ (M.setPc (Nat.mod_lt _ (by decide))) Kp.refl
      | false =>
        refine iteF ?_
        have e : jumpM i n m = m := by unfold jumpM; rw [if_neg (by rw [← hb]; exact Bool.false_ne_true)]
        rw [e] at kq
        exact kq H M Kp.refl
    have dec : ∀ b : Bool, decide (V.int (b01 b) = V.int 1) = b := fun b => by cases b <;> rfl
    have dec0 : ∀ b : Bool, decide (V.int (b01 b) = V.int 0) = !b := fun b => by cases b <;> rfl
    refine ⟨_, (pss_cons (ps_if (pt_cmpR op_eq (pv 1) pe_int (nomark _)) (pss_one (ps_set (i := 3) sc_Machine_jump.nd rfl (Or.inl rfl) pe_bl)) (pss_one (ps_if (pt_cmpR op_eq (pv 1) pe_int (nomark _)) (pss_one (ps_set (i := 3) sc_Machine_jump.nd rfl (Or.inl rfl) (pe_cmpR op_eq (pe_fld (pv 0) rfl) pe_int (nomark _)))) (pss_one (ps_if (pt_cmpR op_eq (pv 1) pe_int (nomark _)) (pss_one (ps_set (i := 3) sc_Machine_jump.nd rfl (Or.inl rfl) (pe_cmpR op_eq (pe_fld (pv 0) rfl) pe_int (nomark _)))) (pss_one (ps_set (i := 3) sc_Machine_jump.nd rfl (Or.inl rfl) (pe_cmpR op_eq (pe_fld (pv 0) rfl) pe_int (nomark _)))))))))
      (pss_one (ps_if (pt_val (pv 3)) (pss_one (ps_fld (pv 0) (pe_op op_mod (pv 2) (pe_glob (v := .int (128)) rfl T.g_PLACES ⟨_, rfl⟩)) rfl)) pss_nil))), ?_⟩
    refine ⟨_, rfl, rfl, _, rfl, if_dec (fun c => ?_) (fun c => ?_)⟩
    · exact tail true (by unfold dueM; rw [if_pos (by have := i_inj c; omega)])
    refine ⟨_, rfl, rfl, _, rfl, if_dec (fun c2 => ?_) (fun c2 => ?_)⟩
    · refine ⟨_, rfl, p, C, dx, _, _, rfl, h1, T.cl_Machine, T.n_z, fM_z, rfl, ?_⟩
      refine tail _ ?_
      rw [dec]
      unfold dueM
      rw [if_neg (by intro z; exact c (by rw [z]; rfl)), if_pos (by have := i_inj c2; omega)]
    refine ⟨_, rfl, rfl, _, rfl, if_dec (fun c3 => ?_) (fun c3 => ?_)⟩
    · refine ⟨_, rfl, p, C, dx, _, _, rfl, h1, T.cl_Machine, T.n_z, fM_z, rfl, ?_⟩
      refine tail _ ?_
      rw [dec0]
      unfold dueM
      rw [if_neg (by intro z; exact c (by rw [z]; rfl)), if_neg (by intro z; exact c2 (by rw [z]; rfl)), if_pos (by have := i_inj c3; omega)]
    · refine ⟨_, rfl, p, C, dx, _, _, rfl, h1, T.cl_Machine, T.n_c, fM_c, rfl, ?_⟩
      refine tail _ ?_
      rw [dec]
      unfold dueM
      rw [if_neg (by intro z; exact c (by rw [z]; rfl)), if_neg (by intro z; exact c2 (by rw [z]; rfl)), if_neg (by intro z; exact c3 (by rw [z]; rfl))]
abbrev s_Machine_do_instruction : Stmt := inClass (top 6) 7
theorem sc_Machine_do_instruction : FnScope ["self", "which", "n"] ["self"] (defScope s_Machine_do_instruction) := ⟨rfl, rfl, rfl, by decide +kernel, rfl, by decide +kernel, by decide +kernel⟩
theorem ok_Machine_do_instruction {f : Addr} {fd : FuncData} (F : Fun K "do_instruction" "Machine.do_instruction" s_Machine_do_instruction f fd) (T : TxtM K mg C)
    (G_Machine_byte_at : MethF P w K mg base 1 C "byte_at" ["self", "place"] (spByteAt C)) (G_Machine_move : MethF P w K mg base 2 C "move" ["self", "which", "n"] (spMove C))
    (G_Machine_change_x : MethF P w K mg base 2 C "change_x" ["self", "which", "n"] (spChange C)) (G_Machine_reckon : MethF P w K mg base 2 C "reckon" ["self", "which", "n"] (spReckon C))
    (G_Machine_jump : MethF P w K mg base 1 C "jump" ["self", "which", "n"] (spJump C)) :
    FnOk P w K mg base CX0 3 f fd ["self"] (spDo C) := by
  refine F.ok sc_Machine_do_instruction (fun vs H Q E h => ?_) (fun cdv A outer s H vs Q E hr h => ?_)
  · obtain ⟨p, q, m, rfl, _⟩ := h
    rfl
  · obtain ⟨p, q, m, rfl, M, kq⟩ := h
    obtain ⟨dx, h1⟩ := M.o
    have gs := step_eq (m := m) M.g.byte
    refine ⟨_, (pss_cons (ps_set (i := 1) sc_Machine_do_instruction.nd rfl (Or.inl rfl) (pe_op op_mod (pe_methF (pv 0) T.cl_Machine G_Machine_byte_at (hr.mono (by decide)) (pa_cons (pe_fld (pv 0) rfl) pa_nil)) pe_int))
      (pss_cons (ps_set (i := 2) sc_Machine_do_instruction.nd rfl (Or.inl rfl) (pe_methF (pv 0) T.cl_Machine G_Machine_byte_at (hr.mono (by decide)) (pa_cons (pe_op op_add (pe_fld (pv 0) rfl) pe_int) pa_nil)))
      (pss_cons (ps_fld (pv 0) (pe_op op_mod (pe_op op_add (pe_fld (pv 0) rfl) pe_int) (pe_glob (v := .int (128)) rfl T.g_PLACES ⟨_, rfl⟩)) rfl)
      (pss_cons (ps_if (pt_cmpR op_ge (pv 1) pe_int (nomark _)) (pss_one (ps_expr (pe_methF (pv 0) T.cl_Machine G_Machine_jump (hr.mono (by decide)) (pa_cons (pv 1) (pa_cons (pv 2) pa_nil))))) (pss_one (ps_if (pt_cmpR op_ge (pv 1) pe_int (nomark _)) (pss_one (ps_expr (pe_methF (pv 0) T.cl_Machine G_Machine_reckon (hr.mono (by decide)) (pa_cons (pv 1) (pa_cons (pv 2) pa_nil))))) (pss_one (ps_if (pt_cmpR op_ge (pv 1) pe_int (nomark _)) (pss_one (ps_expr (pe_methF (pv 0) T.cl_Machine G_Machine_change_x (hr.mono (by decide)) (pa_cons (pv 1) (pa_cons (pv 2) pa_nil))))) (pss_one (ps_if (pt_cmpR op_ne (pv 1) (pe_glob (v := .int (0)) rfl T.g_REST ⟨_, rfl⟩) (nomark _)) (pss_one (ps_expr (pe_methF (pv 0) T.cl_Machine G_Machine_move (hr.mono (by decide)) (pa_cons (pv 1) (pa_cons (pv 2) pa_nil))))) pss_nil)))))))
      (pss_one (ps_ret (pv 1))))))), ?_⟩
    refine ⟨_, rfl, p, dx, _, rfl, h1, fM_no_byte_at, _, rfl, p, C, dx, _, _, rfl, h1, T.cl_Machine, T.n_place, fM_place, p, q, m, _, rfl, M, _, _, rfl, rfl, pos16, ?_⟩
    refine ⟨_, rfl, p, dx, _, rfl, h1, fM_no_byte_at, _, rfl, p, C, dx, _, _, rfl, h1, T.cl_Machine, T.n_place, fM_place, _, _, rfl, rfl, p, q, m, m.pc + 1, rfl, M, ?_⟩
    refine ⟨_, rfl, p, C, dx, _, _, rfl, h1, T.cl_Machine, T.n_place, fM_place, _, _, rfl, rfl, _, _, rfl, rfl, pos128, _, rfl, p, C, dx, _, rfl, h1, T.cl_Machine, T.n_place, (by show 6 < 1000; decide), ?_⟩
    have M2 := M.setPc (dx := dx) (k := (m.pc + 2) % 128) (Nat.mod_lt _ (by decide))
    have k2 := kq.upd (o := .ins C dx (putF "place" (nI ((m.pc + 2) % 128)) (mF q m)))
    obtain ⟨dx2, h2⟩ := M2.o
    have h16 : opI m < 16 := Nat.mod_lt _ (by decide)
    refine ⟨_, rfl, _, _, rfl, rfl, _, rfl, if_dec (fun c => ?_) (fun c => ?_)⟩
    · refine ⟨_, rfl, p, dx2, _, rfl, h2, fM_no_jump, _, rfl, _, rfl, p, q, further m, opI m, opN m, rfl, M2, fun H' M' K' => ?_⟩
      refine ⟨_, rfl, k2 H' ?_ K'⟩
      have c' : 12 ≤ opI m := by have z : (12 : Int) ≤ (opI m : Nat) := c; omega
      rw [gs, if_pos c']; exact M'
    have c' : ¬ 12 ≤ opI m := fun z => c (show (12 : Int) ≤ (opI m : Nat) by omega)
    refine ⟨_, rfl, _, _, rfl, rfl, _, rfl, if_dec (fun d => ?_) (fun d => ?_)⟩
    · refine ⟨_, rfl, p, dx2, _, rfl, h2, fM_no_reckon, _, rfl, _, rfl, p, q, further m, opI m, opN m, rfl, M2, fun H' M' K' => ?_⟩
      refine ⟨_, rfl, k2 H' ?_ K'⟩
      have d' : 8 ≤ opI m := by have z : (8 : Int) ≤ (opI m : Nat) := d; omega
      rw [gs, if_neg c', if_pos d']; exact M'
    have d' : ¬ 8 ≤ opI m := fun z => d (show (8 : Int) ≤ (opI m : Nat) by omega)
    refine ⟨_, rfl, _, _, rfl, rfl, _, rfl, if_dec (fun e => ?_) (fun e => ?_)⟩
    · refine ⟨_, rfl, p, dx2, _, rfl, h2, fM_no_change_x, _, rfl, _, rfl, p, q, further m, opI m, opN m, rfl, M2, fun H' M' K' => ?_⟩
      refine ⟨_, rfl, k2 H' ?_ K'⟩
      have e' : 6 ≤ opI m := by have z : (6 : Int) ≤ (opI m : Nat) := e; omega
      rw [gs, if_neg c', if_neg d', if_pos e']; exact M'
    have e' : ¬ 6 ≤ opI m := fun z => e (show (6 : Int) ≤ (opI m : Nat) by omega)
    refine ⟨_, rfl, rfl, _, rfl, ?_⟩
    by_cases z : opI m = 0
    · refine iteNS (show nI (opI m) = V.int 0 by rw [z]; rfl) ?_
      refine ⟨_, rfl, k2 _ ?_ Kp.refl⟩
      rw [gs, if_neg c', if_neg d', if_neg e', if_neg (fun n => n z)]; exact M2
    · refine ifY (show (!decide (nI (opI m) = V.int 0)) = true by rw [decide_eq_false (fun n => z (by have := i_inj n; omega))]; rfl) ?_
      refine ⟨_, rfl, p, dx2, _, rfl, h2, fM_no_move, _, rfl, _, rfl, p, q, further m, opI m, opN m, rfl, by omega, by omega, M2, fun H' M' K' => ?_⟩
      refine ⟨_, rfl, k2 H' ?_ K'⟩
      rw [gs, if_neg c', if_neg d', if_neg e', if_pos z]; exact M'
theorem rests_opI (m : Mach) : CsBase.rests m = decide (nI (opI m) = V.int 0) := by
  unfold CsBase.rests
  show (opI m == 0) = _
  by_cases z : opI m = 0
  · rw [z]; rfl
  · rw [decide_eq_false (fun n => z (by have := i_inj n; omega)), beq_eq_false_iff_ne]; exact z
abbrev s_Machine_run_frame : Stmt := inClass (top 6) 6
theorem sc_Machine_run_frame : FnScope ["self", "pad", "done", "resting"] ["self", "pad"] (defScope s_Machine_run_frame) := ⟨rfl, rfl, rfl, by decide +kernel, rfl, by decide +kernel, by decide +kernel⟩
theorem ok_Machine_run_frame {f : Addr} {fd : FuncData} (F : Fun K "run_frame" "Machine.run_frame" s_Machine_run_frame f fd) (T : TxtM K mg C)
    (G_Machine_put_byte : MethF P w K mg base 1 C "put_byte" ["self", "place", "byte"] (spPutByte C)) (G_Machine_do_instruction : MethF P w K mg base 3 C "do_instruction" ["self"] (spDo C)) :
    FnOk P w K mg base CX0 4 f fd ["self", "pad"] (spRun C) := by
  refine F.ok sc_Machine_run_frame (fun vs H Q E h => ?_) (fun cdv A outer s H vs Q E hr h => ?_)
  · obtain ⟨p, q, m, v, rfl, _⟩ := h
    rfl
  · obtain ⟨p, q, m, v, rfl, hv, M, kq⟩ := h
    obtain ⟨dx, h1⟩ := M.o
    refine ⟨_, (pss_cons (ps_expr (pe_methF (pv 0) T.cl_Machine G_Machine_put_byte (hr.mono (by decide)) (pa_cons (pe_glob (v := .int (127)) rfl T.g_PAD_PLACE ⟨_, rfl⟩) (pa_cons (pv 1) pa_nil))))
      (pss_cons (ps_set (i := 2) sc_Machine_run_frame.nd rfl (Or.inl rfl) pe_int)
      (pss_cons (ps_set (i := 3) sc_Machine_run_frame.nd rfl (Or.inl rfl) pe_bl)
      (pss_one (ps_while PassesOwn.never (PW.pt (pw_and (pt_cmpR op_lt (pv 2) (pe_glob (v := .int (300)) rfl T.g_MOST_INSTRUCTIONS ⟨_, rfl⟩) (nomark _)) (pw_and1 (pt_not (pt_val (pv 3)))))) (pss_cons (ps_set (i := 3) sc_Machine_run_frame.nd rfl (Or.inl rfl) (pe_cmpR op_eq (pe_methF0 (pv 0) T.cl_Machine G_Machine_do_instruction (hr.mono (by decide))) (pe_glob (v := .int (0)) rfl T.g_REST ⟨_, rfl⟩) (nomark _)))
      (pss_one (ps_aug (i := 2) sc_Machine_run_frame.nd rfl (.inl rfl) pe_int ip_add)))))))), ?_⟩
    refine ⟨_, rfl, p, dx, _, rfl, h1, fM_no_put_byte, _, rfl, p, q, m, 127, v, rfl, hv, M, fun H1 M1 K1 => ?_⟩
    refine ⟨fun k σ H' => ∃ (d : Nat) (r : Bool) (m' : Mach), σ = [some (.ref p), some (nI v), some (nI d), some (.bl r)] ∧ k = 300 - d ∧ d ≤ 300 ∧ MachAt C H' p q m' ∧ Kp (S2 p q) H H' ∧ CsBase.frame m v = if r = true then m' else CsBase.upTo (300 - d) m',
      ⟨300, 0, false, _, rfl, rfl, by decide, M1, K1, (if_neg Bool.false_ne_true).symm⟩, ?_⟩
    rintro k σ H' ⟨d, r, m', rfl, rfl, hd, M', K', e⟩
    refine ⟨_, rfl, _, _, rfl, rfl, _, rfl, ?_⟩
    by_cases c : d < 300
    · refine ifY (decide_eq_true (show (d : Int) < 300 by omega)) ?_
      refine ⟨_, rfl, _, rfl, ?_⟩
      cases r with
      | true =>
        refine iteF ?_
        rw [if_pos rfl] at e
        exact kq H' (e ▸ M') K'
      | false =>
        refine iteT ⟨_, fun σ' H'' n => n, ?_⟩
        rw [if_neg Bool.false_ne_true] at e
        obtain ⟨dx', h1'⟩ := M'.o
        refine ⟨_, rfl, p, dx', _, rfl, h1', fM_no_do_instruction, p, q, m', rfl, M', fun H2 M2 K2 => ?_⟩
        refine ⟨rfl, ?_⟩
        refine ⟨_, rfl, _, _, rfl, rfl, ?_⟩
        refine ⟨300 - (d + 1), by omega, d + 1, _, _, rfl, rfl, by omega, M2, K'.trans K2, ?_⟩
        rw [← rests_opI, e]
        obtain ⟨n, hn⟩ : ∃ n, 300 - d = n + 1 := ⟨300 - d - 1, by omega⟩
        have hn' : 300 - (d + 1) = n := by omega
        rw [hn, hn']
        rfl
    · refine ifN (decide_eq_false (show ¬ (d : Int) < 300 by omega)) ?_
      refine iteF ?_
      have e0 : 300 - d = 0 := by omega
      rw [e0] at e
      have e1 : CsBase.frame m v = m' := by rw [e]; cases r <;> rfl
      exact kq H' (e1 ▸ M') K'
/-! ### all of it as numbers -/
def numL (m : Mach) : List V := (CsBase.told m).map nI
theorem b01_nat (b : Bool) : V.int (b01 b) = nI (if b = true then 1 else 0) := by cases b <;> rfl
theorem numL_eq (m : Mach) : numL m = [nI m.a, nI m.x, nI m.pc, .int (b01 m.z), .int (b01 m.c)] ++ memL m := by
  rw [b01_nat, b01_nat]
  unfold numL CsBase.told memL
  rw [List.map_append]
  rfl
theorem numL_length {m : Mach} (g : Good m) : (numL m).length = 133 := by
  rw [numL_eq, List.length_append, memL_length, g.sz]
  rfl
theorem numL_drop (m : Mach) : (numL m).drop 5 = memL m := by
  rw [numL_eq]
  rfl
/-- numbers: a new list -/
def spNumbers (C : Addr) : Sp := fun vs H Q _ => ∃ (p q : Addr) (m : Mach), vs = [.ref p] ∧ MachAt C H p q m ∧ ∀ (H' : Hp) (l : Addr), H l = none → H' l = some (.lst (numL m)) → Same H H' → Q (.ref l) H'
abbrev s_Machine_numbers : Stmt := inClass (top 6) 1
theorem sc_Machine_numbers : FnScope ["self"] ["self"] (defScope s_Machine_numbers) := ⟨rfl, rfl, rfl, by decide +kernel, rfl, by decide +kernel, by decide +kernel⟩
theorem ok_Machine_numbers {f : Addr} {fd : FuncData} (F : Fun K "numbers" "Machine.numbers" s_Machine_numbers f fd) (T : TxtM K mg C) :
    FnOk P w K mg base CX0 1 f fd ["self"] (spNumbers C) := by
  refine F.ok sc_Machine_numbers (fun vs H Q E h => ?_) (fun cdv A outer s H vs Q E hr h => ?_)
  · obtain ⟨p, q, m, rfl, _⟩ := h
    rfl
  · obtain ⟨p, q, m, rfl, M, kq⟩ := h
    obtain ⟨⟨dx, h1⟩, h2, g⟩ := M
    refine ⟨_, (pss_one (ps_ret (pe_op op_cat (pe_lst (pa_cons (pe_fld (pv 0) rfl) (pa_cons (pe_fld (pv 0) rfl) (pa_cons (pe_fld (pv 0) rfl) (pa_cons (pe_fld (pv 0) rfl) (pa_cons (pe_fld (pv 0) rfl) pa_nil)))))) (pe_fld (pv 0) rfl)))), ?_⟩
    refine ⟨_, rfl, p, C, dx, _, _, rfl, h1, T.cl_Machine, T.n_a, fM_a, _, rfl, p, C, dx, _, _, rfl, h1, T.cl_Machine, T.n_x, fM_x, _, rfl, p, C, dx, _, _, rfl, h1, T.cl_Machine, T.n_place, fM_place,
      _, rfl, p, C, dx, _, _, rfl, h1, T.cl_Machine, T.n_z, fM_z, _, rfl, p, C, dx, _, _, rfl, h1, T.cl_Machine, T.n_c, fM_c, (by show 5 ≤ sizeLine; decide), fun t ht => ?_⟩
    have npt : p ≠ t := ne_of_none h1 ht
    have nqt : q ≠ t := ne_of_none h2 ht
    refine ⟨_, rfl, p, C, dx, _, _, rfl, (by rw [upd_ne npt]; exact h1), T.cl_Machine, T.n_memory, fM_memory, t, q, _, _, rfl, rfl, upd_same, (by rw [upd_ne nqt]; exact h2), ?_, fun l hl => ?_⟩
    · rw [memL_length, g.sz]; show 5 + 128 ≤ sizeLine; decide
    · have nlt : l ≠ t := fun z => by rw [z, upd_same] at hl; cases hl
      have hl0 : H l = none := by rw [upd_ne nlt] at hl; exact hl
      refine kq _ l hl0 ?_ fun b o e => ?_
      · rw [upd_same, numL_eq]
      · rw [upd_ne (ne_of_none e hl0), upd_ne (ne_of_none e ht)]; exact e
/-- __init__: the numbers are all of m -/
def spMInit (K : PySem.W.Frag) (C : Addr) : Sp := fun vs H Q _ => ∃ (p dx l : Addr) (m : Mach), vs = [.ref p, .ref l] ∧ H p = some (.ins C dx []) ∧ SqL K H l (numL m) ∧ Good m ∧
  ∀ (H' : Hp) (q : Addr), H q = none → MachAt C H' p q m → Kp (S1 p) H H' → Q .non H'
theorem SqL.upd_ins {H : Hp} {l p C dx : Addr} {fs gs : List (Str × V)} {xs : List V} (h : SqL K H l xs) (hp : H p = some (.ins C dx fs)) : SqL K (upd H p (.ins C dx gs)) l xs := by
  rcases h with (h | ⟨o, h⟩) | h
  · exact .inl (.inl (by rw [upd_ne (ne_of h hp (by intro z; cases z))]; exact h))
  · exact .inl (.inr ⟨o, by rw [upd_ne (ne_of h hp (by intro z; cases z))]; exact h⟩)
  · exact .inr h
abbrev s_Machine_init : Stmt := inClass (top 6) 0
theorem sc_Machine_init : FnScope ["self", "numbers"] ["self", "numbers"] (defScope s_Machine_init) := ⟨rfl, rfl, rfl, by decide +kernel, rfl, by decide +kernel, by decide +kernel⟩
theorem ok_Machine_init {f : Addr} {fd : FuncData} (F : Fun K "__init__" "Machine.__init__" s_Machine_init f fd) (T : TxtM K mg C) :
    FnOk P w K mg base CX0 1 f fd ["self", "numbers"] (spMInit K C) := by
  refine F.ok sc_Machine_init (fun vs H Q E h => ?_) (fun cdv A outer s H vs Q E hr h => ?_)
  · obtain ⟨p, dx, l, m, rfl, _⟩ := h
    rfl
  · obtain ⟨p, dx, l, m, rfl, hp, hl, g, kq⟩ := h
    refine ⟨_, (pss_cons (ps_fld (pv 0) (pe_ix ix_list (pv 1) pe_int (fun _ _ => rfl)) rfl)
      (pss_cons (ps_fld (pv 0) (pe_ix ix_list (pv 1) pe_int (fun _ _ => rfl)) rfl)
      (pss_cons (ps_fld (pv 0) (pe_ix ix_list (pv 1) pe_int (fun _ _ => rfl)) rfl)
      (pss_cons (ps_fld (pv 0) (pe_ix ix_list (pv 1) pe_int (fun _ _ => rfl)) rfl)
      (pss_cons (ps_fld (pv 0) (pe_ix ix_list (pv 1) pe_int (fun _ _ => rfl)) rfl)
      (pss_one (ps_fld (pv 0) (pe_slice sl_list (pv 1) (po_some (pe_glob (v := .int (5)) rfl T.g_FIRST_BYTE ⟨_, rfl⟩)) po_none) rfl))))))), ?_⟩
    have hl1 := SqL.upd_ins (gs := [("a", nI m.a)]) hl hp
    have hl2 := SqL.upd_ins (gs := [("a", nI m.a), ("x", nI m.x)]) hl1 upd_same
    have hl3 := SqL.upd_ins (gs := [("a", nI m.a), ("x", nI m.x), ("place", nI m.pc)]) hl2 upd_same
    have hl4 := SqL.upd_ins (gs := [("a", nI m.a), ("x", nI m.x), ("place", nI m.pc), ("z", .int (b01 m.z))]) hl3 upd_same
    have hl5 := SqL.upd_ins (gs := [("a", nI m.a), ("x", nI m.x), ("place", nI m.pc), ("z", .int (b01 m.z)), ("c", .int (b01 m.c))]) hl4 upd_same
    have i0 : atI (numL m) 0 = some (nI m.a) := at_of (j := 0) rfl (by rw [numL_eq]; rfl)
    have i1 : atI (numL m) 1 = some (nI m.x) := at_of (j := 1) rfl (by rw [numL_eq]; rfl)
    have i2 : atI (numL m) 2 = some (nI m.pc) := at_of (j := 2) rfl (by rw [numL_eq]; rfl)
    have i3 : atI (numL m) 3 = some (.int (b01 m.z)) := at_of (j := 3) rfl (by rw [numL_eq]; rfl)
    have i4 : atI (numL m) 4 = some (.int (b01 m.c)) := at_of (j := 4) rfl (by rw [numL_eq]; rfl)
    refine ⟨_, rfl, l, _, _, _, rfl, rfl, hl, i0, _, rfl, p, C, dx, _, rfl, hp, T.cl_Machine, T.n_a, (by show 0 < 1000; decide), ?_⟩
    refine ⟨_, rfl, l, _, _, _, rfl, rfl, hl1, i1, _, rfl, p, C, dx, _, rfl, upd_same, T.cl_Machine, T.n_x, (by show 1 < 1000; decide), ?_⟩
    rw [show putF (Str.ofString "a") (nI m.a) [] = ([("a", nI m.a)] : List (Str × V)) from rfl, fM_new1]
    refine ⟨_, rfl, l, _, _, _, rfl, rfl, hl2, i2, _, rfl, p, C, dx, _, rfl, upd_same, T.cl_Machine, T.n_place, (by show 2 < 1000; decide), ?_⟩
    rw [fM_new2]
    refine ⟨_, rfl, l, _, _, _, rfl, rfl, hl3, i3, _, rfl, p, C, dx, _, rfl, upd_same, T.cl_Machine, T.n_z, (by show 3 < 1000; decide), ?_⟩
    rw [fM_new3]
    refine ⟨_, rfl, l, _, _, _, rfl, rfl, hl4, i4, _, rfl, p, C, dx, _, rfl, upd_same, T.cl_Machine, T.n_c, (by show 4 < 1000; decide), ?_⟩
    rw [fM_new4]
    refine ⟨_, rfl, _, rfl, l, _, rfl, hl5, fun q hq => ?_⟩
    have npq : p ≠ q := fun z => by rw [← z, upd_same] at hq; cases hq
    refine ⟨_, rfl, p, C, dx, _, rfl, (by rw [upd_ne npq]; exact upd_same), T.cl_Machine, T.n_memory, (by show 5 < 1000; decide), ?_⟩
    have hq0 : H q = none := by
      rw [upd_ne npq.symm, upd_ne npq.symm, upd_ne npq.symm, upd_ne npq.symm, upd_ne npq.symm] at hq
      exact hq
    refine kq _ q hq0 ⟨⟨dx, ?_⟩, ?_, g⟩ ?_
    · rw [upd_same, fM_new5]
      rfl
    · rw [upd_ne npq.symm, upd_same]
      rw [show (some (5 : Int)) = some ((5 : Nat) : Int) from rfl, cut_from, numL_drop]
    · have z : S1 p p := rfl
      exact ((((((Kp.refl.upd z).upd z).upd z).upd z).upd z).new hq).upd z
/-! ### the defs beside the class -/
def spBehind (K : PySem.W.Frag) : Sp := fun vs H Q _ => ∃ (l : Addr) (m : Mach) (v : Nat), vs = [.ref l, nI v] ∧ v < 256 ∧ SqL K H l (numL m) ∧ Good m ∧
  ∀ (H' : Hp) (r : Addr), H r = none → H' r = some (.lst (numL (CsBase.frame m v))) → Good (CsBase.frame m v) → Same H H' → Q (.ref r) H'
theorem SqL.new {H : Hp} {l p : Addr} {o : HO} {xs : List V} (h : SqL K H l xs) (hp : H p = none) : SqL K (upd H p o) l xs := by
  rcases h with (h | ⟨o, h⟩) | h
  · exact .inl (.inl (by rw [upd_ne (ne_of_none h hp)]; exact h))
  · exact .inl (.inr ⟨o, by rw [upd_ne (ne_of_none h hp)]; exact h⟩)
  · exact .inr h
theorem free_of_Kp {S : Addr → Prop} {H H' : Hp} (k : Kp S H H') {b : Addr} (n : ¬ S b) (h : H' b = none) : H b = none := by
  cases e : H b with
  | none => rfl
  | some o => rw [k b o e n] at h; cases h
abbrev s_behind_frame : Stmt := top 8
theorem sc_behind_frame : FnScope ["numbers", "pad", "machine"] ["numbers", "pad"] (defScope s_behind_frame) := ⟨rfl, rfl, rfl, by decide +kernel, rfl, by decide +kernel, by decide +kernel⟩
theorem ok_behind_frame {f : Addr} {fd : FuncData} (F : Fun K "behind_frame" "behind_frame" s_behind_frame f fd) (T : TxtM K mg C)
    (G_Machine_init : MakeF P w K mg base 1 C "Machine" ["self", "numbers"] (spMInit K C)) (G_Machine_run_frame : MethF P w K mg base 4 C "run_frame" ["self", "pad"] (spRun C))
    (G_Machine_numbers : MethF P w K mg base 1 C "numbers" ["self"] (spNumbers C)) :
    FnOk P w K mg base CX0 5 f fd ["numbers", "pad"] (spBehind K) := by
  refine F.ok sc_behind_frame (fun vs H Q E h => ?_) (fun cdv A outer s H vs Q E hr h => ?_)
  · obtain ⟨l, m, v, rfl, _⟩ := h
    rfl
  · obtain ⟨l, m, v, rfl, hv, hl, g, kq⟩ := h
    refine ⟨_, (pss_cons (ps_set (i := 2) sc_behind_frame.nd rfl (Or.inl rfl) (pe_makeF G_Machine_init (hr.mono (by decide)) (pa_cons (pv 0) pa_nil)))
      (pss_cons (ps_expr (pe_methF (pv 2) T.cl_Machine G_Machine_run_frame (hr.mono (by decide)) (pa_cons (pv 1) pa_nil)))
      (pss_one (ps_ret (pe_methF0 (pv 2) T.cl_Machine G_Machine_numbers (hr.mono (by decide))))))), ?_⟩
    refine ⟨_, rfl, fun x dx nx ndx ne => ?_⟩
    refine ⟨x, dx, l, m, rfl, upd_same, SqL.new (SqL.new hl ndx) (by rw [upd_ne ne.symm]; exact nx), g, fun H1 q hq M K1 => ⟨rfl, ?_⟩⟩
    have s1 : Same H H1 := fun b o e => K1 b o (by rw [upd_ne (ne_of_none e nx), upd_ne (ne_of_none e ndx)]; exact e) (ne_of_none e nx)
    have hq0 : H q = none := by
      rw [upd_ne (fun z => by rw [z, upd_same] at hq; cases hq)] at hq
      rw [upd_ne (fun z => by rw [z, upd_same] at hq; cases hq)] at hq
      exact hq
    obtain ⟨dx1, h1⟩ := M.o
    refine ⟨_, rfl, x, dx1, _, rfl, h1, fM_no_run_frame, _, rfl, x, q, m, v, rfl, hv, M, fun H2 M2 K2 => ?_⟩
    obtain ⟨dx2, h2⟩ := M2.o
    have s2 : Same H H2 := fun b o e => K2 b o (s1 b o e) (fun z => by
      rcases z with z | z
      · exact ne_of_none e nx z
      · exact ne_of_none e hq0 z)
    refine ⟨_, rfl, x, dx2, _, rfl, h2, fM_no_numbers, x, q, _, rfl, M2, fun H3 r hr3 h3 s3 => ?_⟩
    exact kq H3 r (s2.free hr3) h3 M2.g (s2.trans s3)
def spLoaded : Sp := fun vs H Q _ => ∃ (l : Addr) (bs : List Nat), vs = [.ref l] ∧ H l = some (.lst (bs.map nI)) ∧ bs.length ≤ 128 ∧ (∀ b ∈ bs, b < 256) ∧
  ∀ (H' : Hp) (r : Addr), H r = none → H' r = some (.lst (numL (CsBase.loaded bs))) → Same H H' → Q (.ref r) H'
theorem push_fold {α : Type} (g : Nat → α) : ∀ (l : List Nat) (w : Array α), (l.foldl (fun w i => w.push (g i)) w).toList = w.toList ++ l.map g
  | [], w => by simp
  | a :: r, w => by
    rw [List.foldl_cons, push_fold g r, Array.toList_push, List.map_cons, List.append_assoc]
    rfl
theorem loaded_mem (bs : List Nat) : (CsBase.loaded bs).mem.toList = (List.range 128).map fun i => bs.getD i 0 % 256 := by
  unfold CsBase.loaded
  show ((List.range 128).foldl (fun (w : Array Nat) (i : Nat) => w.push (bs.getD i 0 % 256)) #[]).toList = _
  rw [push_fold]
  rfl
theorem loaded_list {bs : List Nat} (h : bs.length ≤ 128) (hb : ∀ b ∈ bs, b < 256) : (CsBase.loaded bs).mem.toList = bs ++ List.replicate (128 - bs.length) 0 := by
  rw [loaded_mem]
  apply List.ext_getElem?
  intro i
  rw [List.getElem?_map]
  by_cases c : i < 128
  · rw [List.getElem?_range c]
    by_cases d : i < bs.length
    · rw [List.getElem?_append_left d, List.getElem?_eq_getElem d]
      show some (bs.getD i 0 % 256) = some bs[i]
      have e : bs.getD i 0 = bs[i] := by simp [List.getD, d]
      rw [e, Nat.mod_eq_of_lt (hb _ (List.getElem_mem d))]
    · rw [List.getElem?_append_right (by omega), List.getElem?_replicate, if_pos (by omega)]
      show some (bs.getD i 0 % 256) = some 0
      have e : bs.getD i 0 = 0 := by simp [List.getD, List.getElem?_eq_none (show bs.length ≤ i by omega)]
      rw [e]
  · rw [List.getElem?_eq_none (by rw [List.length_range]; omega), List.getElem?_eq_none (by rw [List.length_append, List.length_replicate]; omega)]
    rfl
theorem good_loaded (bs : List Nat) : Good (CsBase.loaded bs) := by
  refine ⟨?_, ?_, by show 0 < 256; decide, by show 0 < 256; decide, by show 0 < 128; decide⟩
  · rw [← Array.length_toList, loaded_mem, List.length_map, List.length_range]
  · intro v hv
    rw [loaded_mem] at hv
    obtain ⟨i, _, rfl⟩ := List.mem_map.mp hv
    exact Nat.mod_lt _ (by decide)
abbrev s_loaded : Stmt := top 7
theorem sc_loaded : FnScope ["some_bytes"] ["some_bytes"] (defScope s_loaded) := ⟨rfl, rfl, rfl, by decide +kernel, rfl, by decide +kernel, by decide +kernel⟩
theorem ok_loaded {f : Addr} {fd : FuncData} (F : Fun K "loaded" "loaded" s_loaded f fd) (T : TxtM K mg C) :
    FnOk P w K mg base CX0 1 f fd ["some_bytes"] spLoaded := by
  refine F.ok sc_loaded (fun vs H Q E h => ?_) (fun cdv A outer s H vs Q E hr h => ?_)
  · obtain ⟨l, bs, rfl, _⟩ := h
    rfl
  · obtain ⟨l, bs, rfl, hl, hn, hb, kq⟩ := h
    refine ⟨_, (pss_one (ps_ret (pe_op op_cat (pe_op op_cat (pe_lst (pa_cons pe_int (pa_cons pe_int (pa_cons pe_int (pa_cons pe_int (pa_cons pe_int pa_nil)))))) (pv 0)) (pe_op op_rep (pe_lst (pa_cons pe_int pa_nil)) (pe_op op_sub (pe_glob (v := .int (128)) rfl T.g_PLACES ⟨_, rfl⟩) (pe_callB call_len_seq (by rfl) T.b_len PySem.boot_len (pa_cons (pv 0) pa_nil))))))), ?_⟩
    refine ⟨by show 5 ≤ sizeLine; decide, fun t ht => ?_⟩
    have nlt : l ≠ t := ne_of_none hl ht
    refine ⟨_, rfl, t, l, _, _, rfl, rfl, upd_same, (by rw [upd_ne nlt]; exact hl), (by rw [List.length_map]; show 5 + bs.length ≤ sizeLine; exact Nat.le_trans (Nat.add_le_add_left hn 5) (by decide)), fun u hu => ?_⟩
    have nlu : l ≠ u := ne_of_none (show upd H t _ l = some (.lst (bs.map nI)) by rw [upd_ne nlt]; exact hl) hu
    refine ⟨by show 1 ≤ sizeLine; decide, fun v hv => ?_⟩
    have nlv : l ≠ v := ne_of_none (show upd (upd H t _) u _ l = some (.lst (bs.map nI)) by rw [upd_ne nlu, upd_ne nlt]; exact hl) hv
    have len : (bs.map nI).length = bs.length := List.length_map ..
    refine ⟨_, rfl, l, _, rfl, .inl (SqL.of (by rw [upd_ne nlv, upd_ne nlu, upd_ne nlt]; exact hl)), _, _, rfl, rfl, ?_⟩
    refine ⟨v, _, _, rfl, rfl, upd_same, (by show -(2 ^ 63) ≤ (128 : Int) - (bs.map nI).length; omega), (by show (128 : Int) - (bs.map nI).length < 2 ^ 63; omega), ?_, fun x hx => ?_⟩
    · show 1 * ((128 : Int) - (bs.map nI).length).toNat ≤ sizeLine
      have : 1 * ((128 : Int) - (bs.map nI).length).toNat ≤ 128 := by omega
      exact Nat.le_trans this (by decide)
    have nuv : u ≠ v := ne_of_none upd_same hv
    have nux : u ≠ x := ne_of_none (show upd (upd (upd H t _) u _) v _ u = some _ by rw [upd_ne nuv]; exact upd_same) hx
    refine ⟨u, x, _, _, rfl, rfl, (by rw [upd_ne nux, upd_ne nuv]; exact upd_same), upd_same, ?_, fun r hr' => ?_⟩
    · rw [List.length_append, len, List.length_flatten, List.map_replicate, List.sum_replicate_nat]
      show 5 + bs.length + ((128 : Int) - bs.length).toNat * 1 ≤ sizeLine
      have : 5 + bs.length + ((128 : Int) - bs.length).toNat * 1 ≤ 1000 := by omega
      exact Nat.le_trans this (by decide)
    have s0 : Same H (upd (upd (upd (upd H t (.lst [.int 0, .int 0, .int 0, .int 1, .int 0])) u (.lst ([.int 0, .int 0, .int 0, .int 1, .int 0] ++ bs.map nI))) v (.lst [.int 0])) x (.lst (List.replicate ((128 : Int) - (bs.map nI).length).toNat [V.int 0]).flatten)) := fun b o e => by
      have e1 : upd H t (.lst [.int 0, .int 0, .int 0, .int 1, .int 0]) b = some o := by rw [upd_ne (ne_of_none e ht)]; exact e
      have e2 : upd (upd H t (.lst [.int 0, .int 0, .int 0, .int 1, .int 0])) u (.lst ([.int 0, .int 0, .int 0, .int 1, .int 0] ++ bs.map nI)) b = some o := by rw [upd_ne (ne_of_none e1 hu)]; exact e1
      have e3 : upd (upd (upd H t (.lst [.int 0, .int 0, .int 0, .int 1, .int 0])) u (.lst ([.int 0, .int 0, .int 0, .int 1, .int 0] ++ bs.map nI))) v (.lst [.int 0]) b = some o := by rw [upd_ne (ne_of_none e2 hv)]; exact e2
      rw [upd_ne (ne_of_none e3 hx)]
      exact e3
    refine kq _ r (s0.free hr') ?_ fun b o e => ?_
    · rw [upd_same]
      refine congrArg (fun z => some (HO.lst z)) ?_
      rw [numL_eq]
      unfold memL
      rw [loaded_list hn hb, List.map_append, List.map_replicate]
      have rep : (List.replicate ((128 : Int) - (bs.map nI).length).toNat [V.int 0]).flatten = List.replicate (128 - bs.length) (nI 0) := by
        rw [show ((128 : Int) - (bs.map nI).length).toNat = 128 - bs.length by omega]
        generalize 128 - bs.length = k
        induction k with
        | zero => rfl
        | succ k ih => rw [List.replicate_succ, List.flatten_cons, ih, List.replicate_succ]; rfl
      rw [rep, List.append_assoc]
      rfl
    · rw [upd_ne (ne_of_none (s0 b o e) hr')]
      exact s0 b o e
def spMark (K : PySem.W.Frag) : Sp := fun vs H Q _ => ∃ (l : Addr) (m : Mach), vs = [.ref l] ∧ SqL K H l (numL m) ∧ Q (nI (CsBase.mark m)) H
abbrev s_mark : Stmt := top 9
theorem sc_mark : FnScope ["numbers", "total", "number"] ["numbers"] (defScope s_mark) := ⟨rfl, rfl, rfl, by decide +kernel, rfl, by decide +kernel, by decide +kernel⟩
def markF (l : List Nat) : Nat := l.foldl (fun (h v : Nat) => (31 * h + v + 7) % 65521) 0
theorem take_next {α : Type} {l : List α} {i : Nat} {x : α} (h : l[i]? = some x) : l.take (i + 1) = l.take i ++ [x] := by
  rw [List.take_add_one, h]
  rfl
theorem markF_more {l : List Nat} {i x : Nat} (h : l[i]? = some x) : markF (l.take (i + 1)) = (31 * markF (l.take i) + x + 7) % 65521 := by
  unfold markF
  rw [take_next h, List.foldl_append]
  rfl
theorem ok_mark {f : Addr} {fd : FuncData} (F : Fun K "mark" "mark" s_mark f fd) :
    FnOk P w K mg base CX0 1 f fd ["numbers"] (spMark K) := by
  refine F.ok sc_mark (fun vs H Q E h => ?_) (fun cdv A outer s H vs Q E hr h => ?_)
  · obtain ⟨l, m, rfl, _⟩ := h
    rfl
  · obtain ⟨l, m, rfl, hl, kq⟩ := h
    refine ⟨_, (pss_cons (ps_set (i := 1) sc_mark.nd rfl (Or.inl rfl) pe_int)
      (pss_cons (ps_for PassesOwn.never rfl (pi_list (pv 0)) (pg_name (i := 2) sc_mark.nd rfl (Or.inl rfl)) (pss_one (ps_set (i := 1) sc_mark.nd rfl (Or.inl rfl) (pe_op op_mod (pe_op op_add (pe_op op_add (pe_op op_mul pe_int (pv 1)) (pv 2)) pe_int) pe_int))))
      (pss_one (ps_ret (pv 1))))), ?_⟩
    refine ⟨_, rfl, l, rfl, ⟨_, hl⟩, for_list (K := K) (a := l) (xs := numL m) (fun i σ H' => ∃ v : Option V, σ = [some (.ref l), some (nI (markF ((CsBase.told m).take i))), v] ∧ H' = H) ⟨none, rfl, rfl⟩ (fun i σ H' _ ⟨_, _, e⟩ => by rw [e]; exact hl) ?_ ?_⟩
    · rintro i y σ H' hi ⟨v, rfl, rfl⟩
      unfold numL at hi
      rw [List.getElem?_map] at hi
      cases e : (CsBase.told m)[i]? with
      | none => rw [e] at hi; cases hi
      | some z =>
        rw [e] at hi
        obtain rfl : nI z = y := Option.some.inj hi
        refine ⟨_, rfl, _, _, rfl, rfl, .inl ⟨by decide, by decide⟩, _, rfl, _, _, rfl, rfl, _, _, rfl, rfl, _, _, rfl, rfl, (by show (0 : Int) < 65521; decide), ?_⟩
        refine ⟨some (nI z), ?_, rfl⟩
        rw [markF_more e]
        rfl
    · rintro σ H' ⟨v, rfl, rfl⟩
      refine ⟨_, rfl, ?_⟩
      have e : markF ((CsBase.told m).take (numL m).length) = CsBase.mark m := by
        unfold numL
        rw [List.length_map, List.take_length]
        rfl
      rw [e]
      exact kq
end
end TP
namespace TP
open PySem PySem.Spec PyProof.Rows L2
open CsBase (Mach)
open Cs14 (Known at? Letter)
/-! # What is known, letters -/
/-- a loop's turns over J come to what is behind the loop -/
def Goes (J : It) (g : TG) (tb : TS) (D : Ends) (σ : L2.St) (H : Hp) : Prop := ∃ W : Nat → Nat → L2.St → Hp → Prop, (∃ m, W 0 m σ H) ∧ ∀ i m σ H, W i m σ H → (J.stop i H ∧ D.nx σ H) ∨ (J.go i H ∧ ∃ N : L2.St → Hp → Prop, (∀ σ' H', N σ' H' → ∃ m', m' < m ∧ W (i + 1) m' σ' H') ∧ ∀ x H', J.yld i H x H' → g x σ H' fun σ2 H2 => tb { D with nx := N, ct := N, bk := D.nx } σ2 H2)
theorem for_enumK {K : PySem.W.Frag} {a : Addr} {k : Int} {xs : List V} {g : TG} {tb : TS} {D : Ends} {σ : L2.St} {H : Hp} (Pv : Nat → L2.St → Hp → Prop) (h0 : Pv 0 σ H) (hl : ∀ i σ H, i ≤ xs.length → Pv i σ H → SqL K H a xs)
    (hs : ∀ i x σ H T, xs[i]? = some x → Pv i σ H → H T = none → g (.ref T) σ (upd H T (.tup [.int (k + (i : Nat)), x])) fun σ2 H2 => tb { D with nx := Pv (i + 1), ct := Pv (i + 1), bk := D.nx } σ2 H2) (hd : ∀ σ H, Pv xs.length σ H → D.nx σ H) :
    Goes (IteK K k a) g tb D σ H := by
  refine ⟨fun i m σ H => m + i = xs.length ∧ Pv i σ H, ⟨xs.length, rfl, h0⟩, ?_⟩
  rintro i m σ H ⟨e, p⟩
  have q := hl i σ H (by omega) p
  by_cases c : i < xs.length
  · refine .inr ⟨⟨xs, xs[i], q, List.getElem?_eq_getElem c⟩, Pv (i + 1), fun σ' H' p' => ⟨m - 1, by omega, by omega, p'⟩, fun v H' y => ?_⟩
    obtain ⟨T, x, rfl, hT, rfl, hx⟩ := y
    exact hs i x σ H T (hx xs q) p hT
  · have z : i = xs.length := by omega
    subst z
    exact .inl ⟨⟨xs, q, Nat.le.refl⟩, hd σ H p⟩
def kn (l : Known) : List (Key × V) := l.map fun p => (Sum.inl (p.1 : Int), nI p.2)
theorem kn_len (l : Known) : (kn l).length = l.length := List.length_map ..
theorem kn_snoc (l : Known) (t v : Nat) : kn (l ++ [(t, v)]) = kn l ++ [(Sum.inl (t : Int), nI v)] := by
  unfold kn
  rw [List.map_append]
  rfl
theorem val_kn (l : Known) (t : Nat) : valV (kn l) (Sum.inl (t : Int)) = (at? l t).map nI := by
  induction l with
  | nil => rfl
  | cons p l ih =>
    rw [at_cons]
    show valV ((Sum.inl (p.1 : Int), nI p.2) :: kn l) _ = _
    by_cases c : p.1 = t
    · rw [if_pos c, valV_pos (by show (Sum.inl (p.1 : Int) : Key) = _; rw [c])]
      rfl
    · rw [if_neg c, valV_neg (by intro z; exact c (by have := Sum.inl.inj z; omega)), ih]
theorem put_kn {l : Known} {t : Nat} (h : at? l t = none) (v : Nat) : putK (kn l) (Sum.inl (t : Int)) (nI v) = kn (l ++ [(t, v)]) := by
  rw [putK_new _ (by rw [val_kn, h]; rfl), kn_snoc]
/-- a letter, told -/
def ltV (L : Letter) : List V := (Cs14.told1 L).map V.int
theorem ltV_eq (L : Letter) : ltV L = [nI L.src, nI L.first, nI L.knows, nI L.pads.length] ++ L.pads.map nI := by
  unfold ltV Cs14.told1
  rw [List.map_append, List.map_map]
  rfl
theorem ltV_drop (L : Letter) : (ltV L).drop 4 = L.pads.map nI := by
  rw [ltV_eq]
  rfl
structure TxtP (K : PySem.W.Frag) (mg : Str → Option Value) : Prop where
  g_LETTER_SIDE : mg "LETTER_SIDE" = some (.int 0 (tokOf (mg "LETTER_SIDE")))
  g_LETTER_FIRST : mg "LETTER_FIRST" = some (.int 1 (tokOf (mg "LETTER_FIRST")))
  g_LETTER_KNOWN : mg "LETTER_KNOWN" = some (.int 2 (tokOf (mg "LETTER_KNOWN")))
  g_LETTER_PADS : mg "LETTER_PADS" = some (.int 4 (tokOf (mg "LETTER_PADS")))
  b_range : mg "range" = none
  b_enumerate : mg "enumerate" = none
def spKnown : Sp := fun vs H Q _ => ∃ d : Nat, vs = [nI d] ∧ d ≤ 1000 ∧ ∀ (H' : Hp) (r : Addr), H r = none → H' r = some (.dK (kn (zer d))) → Same H H' → Q (.ref r) H'
def spLearn : Sp := fun vs H Q _ => ∃ (d l : Addr) (kl : Known) (L : Letter), vs = [.ref d, .ref l] ∧ H d = some (.dK (kn kl)) ∧ H l = some (.lst (ltV L)) ∧ L.pads.length ≤ 6 ∧ L.first ≤ 100000 ∧ kl.length ≤ 100000 ∧
  ∀ H' : Hp, H' d = some (.dK (kn (Cs14.learn kl L.first L.pads))) → Kp (S1 d) H H' → Q .non H'
def spGap : Sp := fun vs H Q _ => ∃ (d : Addr) (l : Known), vs = [.ref d] ∧ H d = some (.dK (kn l)) ∧ Q (nI (Cs14.upTo l)) H
def spTogether : Sp := fun vs H Q _ => ∃ a b : Nat, vs = [nI a, nI b] ∧ Q (nI (a + 16 * b)) H
section
variable {P : Program} {w : World} {K : PySem.W.Frag} {mg : Str → Option Value} {base : Heap}
abbrev s_known_at_first : Stmt := top 15
theorem sc_known_at_first : FnScope ["delay", "known", "t"] ["delay"] (defScope s_known_at_first) := ⟨rfl, rfl, rfl, by decide +kernel, rfl, by decide +kernel, by decide +kernel⟩
theorem ok_known_at_first {f : Addr} {fd : FuncData} (F : Fun K "known_at_first" "known_at_first" s_known_at_first f fd) (T : TxtP K mg) : FnOk P w K mg base CX0 1 f fd ["delay"] spKnown := by
  refine F.ok sc_known_at_first (fun vs H Q E h => ?_) (fun cdv A outer s H vs Q E hr h => ?_)
  · obtain ⟨d, rfl, _⟩ := h
    rfl
  · obtain ⟨d, rfl, hd, kq⟩ := h
    have hu := hu_of hr
    refine ⟨_, (pss_cons (ps_set (i := 1) sc_known_at_first.nd rfl (Or.inl rfl) pe_dnewK)
      (pss_cons (ps_for PassesOwn.never rfl (pi_range1 rfl T.b_range (pa_cons (pv 0) pa_nil)) (pg_name (i := 2) sc_known_at_first.nd rfl (Or.inl rfl)) (pss_one (ps_dput hu (pv 1) (pv 2) pe_int rfl)))
      (pss_one (ps_ret (pv 1))))), ?_⟩
    intro r hr0
    refine ⟨_, rfl, d, rfl, by omega, by omega, for_range (n := d) (fun i σ H' => ∃ v : Option V, σ = [some (nI d), some (.ref r), v] ∧ H' r = some (.dK (kn (zer i))) ∧ Same H H') ⟨_, rfl, upd_same, ?_⟩ ?_ ?_⟩
    · intro b o e
      rw [upd_ne (ne_of_none e hr0)]
      exact e
    · rintro i σ H' hi ⟨v, rfl, h1, h2⟩
      refine ⟨_, rfl, _, rfl, r, _, rfl, DPut.k (k := .inl (0 + (i : Int))) h1 (by rw [kn_len, zer_len]; exact Nat.lt_of_lt_of_le (show i < 1001 by omega) (by decide)), ?_⟩
      refine ⟨_, rfl, ?_, fun b o e => ?_⟩
      · rw [upd_same, Int.zero_add, zer_succ]
        exact congrArg (fun z => some (HO.dK z)) (put_kn (by rw [zer_at, if_neg (Nat.lt_irrefl _)]) 0)
      · rw [upd_ne (ne_of_none e hr0)]
        exact h2 b o e
    · rintro σ H' ⟨v, rfl, h1, h2⟩
      exact ⟨_, rfl, kq H' r hr0 h1 h2⟩
abbrev s_together : Stmt := top 18
theorem sc_together : FnScope ["pad_0", "pad_1"] ["pad_0", "pad_1"] (defScope s_together) := ⟨rfl, rfl, rfl, by decide +kernel, rfl, by decide +kernel, by decide +kernel⟩
theorem ok_together {f : Addr} {fd : FuncData} (F : Fun K "together" "together" s_together f fd) : FnOk P w K mg base CX0 1 f fd ["pad_0", "pad_1"] spTogether := by
  refine F.ok sc_together (fun vs H Q E h => ?_) (fun cdv A outer s H vs Q E hr h => ?_)
  · obtain ⟨a, b, rfl, _⟩ := h
    rfl
  · obtain ⟨a, b, rfl, kq⟩ := h
    refine ⟨_, (pss_one (ps_ret (pe_op op_add (pv 0) (pe_op op_mul pe_int (pv 1))))), ?_⟩
    exact ⟨_, rfl, _, rfl, _, _, rfl, rfl, .inl ⟨by decide, by decide⟩, _, _, rfl, rfl, kq⟩
abbrev s_without_gap : Stmt := top 17
theorem sc_without_gap : FnScope ["known", "t"] ["known"] (defScope s_without_gap) := ⟨rfl, rfl, rfl, by decide +kernel, rfl, by decide +kernel, by decide +kernel⟩
theorem ok_without_gap {f : Addr} {fd : FuncData} (F : Fun K "without_gap" "without_gap" s_without_gap f fd) : FnOk P w K mg base CX0 1 f fd ["known"] spGap := by
  refine F.ok sc_without_gap (fun vs H Q E h => ?_) (fun cdv A outer s H vs Q E hr h => ?_)
  · obtain ⟨d, l, rfl, _⟩ := h
    rfl
  · obtain ⟨d, l, rfl, hd, kq⟩ := h
    have hu := hu_of hr
    refine ⟨_, (pss_cons (ps_set (i := 1) sc_without_gap.nd rfl (Or.inl rfl) pe_int)
      (pss_cons (ps_while PassesOwn.never (pt_cmp (pc_din hu (pv 1) (pv 0))) (pss_one (ps_aug (i := 1) sc_without_gap.nd rfl (.inl rfl) pe_int ip_add)))
      (pss_one (ps_ret (pv 1))))), ?_⟩
    refine ⟨fun k σ H' => ∃ t : Nat, σ = [some (.ref d), some (nI t)] ∧ H' = H ∧ (∀ j, j < t → (at? l j).isSome = true) ∧ k = l.length - t, ⟨l.length, 0, rfl, rfl, fun j hj => absurd hj (Nat.not_lt_zero j), rfl⟩, ?_⟩
    rintro k σ H' ⟨t, rfl, rfl, ht, rfl⟩
    refine ⟨_, rfl, _, rfl, d, _, rfl, DGet.k (k := .inl (t : Int)) hd, _, rfl, ?_⟩
    rw [val_kn]
    cases c : at? l t with
    | none =>
      refine iteF ⟨_, rfl, ?_⟩
      rw [← upTo_eq ht c]
      exact kq
    | some v =>
      have ht' : ∀ j, j < t + 1 → (at? l j).isSome = true := fun j hj => by
        by_cases z : j = t
        · rw [z, c]; rfl
        · exact ht j (by omega)
      have := known_le ht'
      exact iteT ⟨_, fun σ' H'' n => n, _, rfl, _, _, rfl, rfl, l.length - (t + 1), by omega, t + 1, rfl, rfl, ht', rfl⟩
abbrev s_learn : Stmt := top 16
theorem sc_learn : FnScope ["known", "letter", "t", "pad"] ["known", "letter"] (defScope s_learn) := ⟨rfl, rfl, rfl, by decide +kernel, rfl, by decide +kernel, by decide +kernel⟩
theorem ok_learn {f : Addr} {fd : FuncData} (F : Fun K "learn" "learn" s_learn f fd) (T : TxtP K mg) : FnOk P w K mg base CX0 1 f fd ["known", "letter"] spLearn := by
  refine F.ok sc_learn (fun vs H Q E h => ?_) (fun cdv A outer s H vs Q E hr h => ?_)
  · obtain ⟨d, l, kl, L, rfl, _⟩ := h
    rfl
  · obtain ⟨d, l, kl, L, rfl, hd, hl, hp, hf, hk, kq⟩ := h
    have hu := hu_of hr
    refine ⟨_, (pss_one (ps_for PassesOwn.never rfl (pi_enumK (by rfl) T.b_enumerate (pe_slice sl_list (pv 1) (po_some (pe_glob (v := .int (4)) rfl T.g_LETTER_PADS ⟨_, rfl⟩)) po_none) (pe_ix ix_list (pv 1) (pe_glob (v := .int (1)) rfl T.g_LETTER_FIRST ⟨_, rfl⟩) (fun _ _ => rfl))) (pg_tup (by rfl) (pgs_cons (pg_name (i := 2) sc_learn.nd rfl (Or.inl rfl)) (pgs_cons (pg_name (i := 3) sc_learn.nd rfl (Or.inl rfl)) pgs_nil))) (pss_one (ps_if (pt_cmp (pc_dnotin hu (pv 2) (pv 0))) (pss_one (ps_dput hu (pv 0) (pv 2) (pv 3) rfl)) pss_nil)))), ?_⟩
    refine ⟨_, rfl, _, rfl, l, _, rfl, SqL.of hl, fun q hq => ?_⟩
    rw [show (some (4 : Int)) = some ((4 : Nat) : Int) from rfl, cut_from, ltV_drop]
    have nlq := ne_of_none hl hq
    have ndq := ne_of_none hd hq
    refine ⟨_, rfl, l, _, _, _, rfl, rfl, SqL.of (by rw [upd_ne nlq]; exact hl), at_of (j := 1) rfl (by rw [ltV_eq]; rfl), q, L.pads.map nI, _, rfl, rfl, SqL.of upd_same, (by omega), (by omega), ?_⟩
    refine for_enumK (K := K) (a := q) (k := L.first) (xs := L.pads.map nI) (fun i σ H' => ∃ v1 v2 : Option V, σ = [some (.ref d), some (.ref l), v1, v2] ∧ H' d = some (.dK (kn (Cs14.learn kl L.first (L.pads.take i)))) ∧ H' q = some (.lst (L.pads.map nI)) ∧ Kp (S1 d) H H') ⟨none, none, rfl, ?_, upd_same, ?_⟩ (fun i σ H' _ ⟨_, _, _, _, e, _⟩ => SqL.of e) ?_ ?_
    · rw [upd_ne ndq]; exact hd
    · exact Kp.refl.new hq
    · rintro i x σ H' t hi ⟨v1, v2, rfl, h1, h2, h3⟩ ht
      rw [List.getElem?_map] at hi
      cases e : L.pads[i]? with
      | none => rw [e] at hi; cases hi
      | some v =>
        rw [e] at hi
        obtain rfl : nI v = x := Option.some.inj hi
        have ndt := ne_of_none h1 ht
        have nqt := ne_of_none h2 ht
        have e1 := learn_snoc kl L.first (L.pads.take i) v
        have il : i < L.pads.length := by
          rcases Nat.lt_or_ge i L.pads.length with c | c
          · exact c
          · rw [List.getElem?_eq_none c] at e; cases e
        rw [← take_next e, List.length_take, Nat.min_eq_left (Nat.le_of_lt il)] at e1
        unfold lstep at e1
        dsimp only at e1
        refine ⟨t, _, rfl, SqT.of upd_same, rfl, _, _, rfl, _, _, rfl, rfl, ?_⟩
        refine ⟨_, rfl, _, rfl, d, _, rfl, DGet.k (k := .inl ((L.first : Int) + (i : Int))) (by rw [upd_ne ndt]; exact h1), _, rfl, ?_⟩
        have ek : ((L.first : Int) + (i : Int)) = ((L.first + i : Nat) : Int) := rfl
        rw [ek, val_kn]
        cases c : at? (Cs14.learn kl L.first (L.pads.take i)) (L.first + i) with
        | some u =>
          rw [c, if_pos (show (some u).isSome = true from rfl)] at e1
          refine iteF ⟨_, _, rfl, ?_, ?_, h3.new ht⟩
          · rw [upd_ne ndt, e1]; exact h1
          · rw [upd_ne nqt]; exact h2
        | none =>
          rw [c, if_neg (by simp)] at e1
          have ll := learn_len kl L.first (L.pads.take i)
          rw [List.length_take] at ll
          refine iteT ⟨_, rfl, _, rfl, _, rfl, d, _, rfl, DPut.k (k := .inl ((L.first : Int) + (i : Int))) (by rw [upd_ne ndt]; exact h1) (by rw [kn_len]; exact Nat.lt_of_lt_of_le (show _ < 200000 by omega) (by decide)), ?_⟩
          refine ⟨_, _, rfl, ?_, ?_, (h3.new ht).upd rfl⟩
          · rw [upd_same, e1, ek, put_kn c]
          · rw [upd_ne (fun z => by rw [z, h1] at h2; cases h2), upd_ne nqt]; exact h2
    · rintro σ H' ⟨v1, v2, rfl, h1, h2, h3⟩
      rw [List.length_map, List.take_length] at h1
      exact kq H' h1 h3
end
end TP
namespace TP
open PySem PySem.Spec PyProof.Rows L2
open CsBase (Mach)
open Cs14 (Known at? Letter)
/-! # A side -/
/-- what may be changed; all that belongs to it -/
structure Ft where
  m : Addr → Prop
  f : Addr → Prop
/-- from (H, F) to (H', F'): only what F may change has changed; what is new was free -/
structure Stp (H : Hp) (F : Ft) (H' : Hp) (F' : Ft) : Prop where
  m : ∀ b, F'.m b → F.m b ∨ H b = none
  f : ∀ b, F'.f b → F.f b ∨ H b = none
  k : Kp F.m H H'
theorem Stp.free {H H' : Hp} {F F' : Ft} (s : Stp H F H' F') {b : Addr} (h : H' b = none) : F.m b ∨ H b = none := by
  cases e : H b with
  | none => exact .inr rfl
  | some o =>
    refine .inl (Classical.byContradiction fun n => ?_)
    rw [s.k b o e n] at h
    cases h
theorem Stp.trans {H H1 H2 : Hp} {F F1 F2 : Ft} (hm : ∀ b, F.m b → F.f b) (s : Stp H F H1 F1) (t : Stp H1 F1 H2 F2) : Stp H F H2 F2 where
  m := fun b h => (t.m b h).elim (s.m b) s.free
  f := fun b h => (t.f b h).elim (s.f b) fun z => (s.free z).imp (hm b) id
  k := fun b o h n => t.k b o (s.k b o h n) fun z => (s.m b z).elim n fun y => by rw [y] at h; cases h
theorem Stp.refl {H : Hp} {F : Ft} : Stp H F H F := ⟨fun _ h => .inl h, fun _ h => .inl h, Kp.refl⟩
structure SideA where
  p : Addr
  own : Addr
  known : Addr
  used : Addr
  sts : Addr
  flt : Addr
  i : Nat
  ow : List Nat
  had : Known
  acked : Nat
  us : List Nat
  rs : List (Addr × Mach)
  fs : List (Addr × (Nat × Nat × Nat))
  runs : Nat
def SideA.sd (a : SideA) : SD := ⟨a.i, a.ow, a.had, a.acked, a.us, a.rs.map (·.2), a.fs.map (·.2), a.runs⟩
def SideA.m (a : SideA) (b : Addr) : Prop := b = a.p ∨ b = a.own ∨ b = a.known ∨ b = a.used ∨ b = a.sts ∨ b = a.flt
def SideA.f (a : SideA) (b : Addr) : Prop := a.m b ∨ (∃ r, r ∈ a.rs ∧ r.1 = b) ∨ ∃ r, r ∈ a.fs ∧ r.1 = b
def SideA.ft (a : SideA) : Ft := ⟨a.m, a.f⟩
def fS (v0 v1 v2 v3 v4 v5 v6 v7 : V) : List (Str × V) := [("number", v0), ("own", v1), ("known", v2), ("reached", v3), ("used", v4), ("states", v5), ("faults", v6), ("run_in_all", v7)]
section
variable {v0 v1 v2 v3 v4 v5 v6 v7 w : V}
theorem fS_number : (fS v0 v1 v2 v3 v4 v5 v6 v7).lookup ("number" : Str) = some v0 := getF0
theorem fS_own : (fS v0 v1 v2 v3 v4 v5 v6 v7).lookup ("own" : Str) = some v1 := (getF1 (by decide +kernel)).trans (getF0)
theorem fS_known : (fS v0 v1 v2 v3 v4 v5 v6 v7).lookup ("known" : Str) = some v2 := (getF1 (by decide +kernel)).trans ((getF1 (by decide +kernel)).trans (getF0))
theorem fS_reached : (fS v0 v1 v2 v3 v4 v5 v6 v7).lookup ("reached" : Str) = some v3 := (getF1 (by decide +kernel)).trans ((getF1 (by decide +kernel)).trans ((getF1 (by decide +kernel)).trans (getF0)))
theorem fS_used : (fS v0 v1 v2 v3 v4 v5 v6 v7).lookup ("used" : Str) = some v4 := (getF1 (by decide +kernel)).trans ((getF1 (by decide +kernel)).trans ((getF1 (by decide +kernel)).trans ((getF1 (by decide +kernel)).trans (getF0))))
theorem fS_states : (fS v0 v1 v2 v3 v4 v5 v6 v7).lookup ("states" : Str) = some v5 := (getF1 (by decide +kernel)).trans ((getF1 (by decide +kernel)).trans ((getF1 (by decide +kernel)).trans ((getF1 (by decide +kernel)).trans ((getF1 (by decide +kernel)).trans (getF0)))))
theorem fS_faults : (fS v0 v1 v2 v3 v4 v5 v6 v7).lookup ("faults" : Str) = some v6 := (getF1 (by decide +kernel)).trans ((getF1 (by decide +kernel)).trans ((getF1 (by decide +kernel)).trans ((getF1 (by decide +kernel)).trans ((getF1 (by decide +kernel)).trans ((getF1 (by decide +kernel)).trans (getF0))))))
theorem fS_run_in_all : (fS v0 v1 v2 v3 v4 v5 v6 v7).lookup ("run_in_all" : Str) = some v7 := (getF1 (by decide +kernel)).trans ((getF1 (by decide +kernel)).trans ((getF1 (by decide +kernel)).trans ((getF1 (by decide +kernel)).trans ((getF1 (by decide +kernel)).trans ((getF1 (by decide +kernel)).trans ((getF1 (by decide +kernel)).trans (getF0)))))))
theorem fS_no_frames_run : (fS v0 v1 v2 v3 v4 v5 v6 v7).lookup ("frames_run" : Str) = none := (getF1 (by decide +kernel)).trans ((getF1 (by decide +kernel)).trans ((getF1 (by decide +kernel)).trans ((getF1 (by decide +kernel)).trans ((getF1 (by decide +kernel)).trans ((getF1 (by decide +kernel)).trans ((getF1 (by decide +kernel)).trans ((getF1 (by decide +kernel)).trans (rfl))))))))
theorem fS_no_frames_known : (fS v0 v1 v2 v3 v4 v5 v6 v7).lookup ("frames_known" : Str) = none := (getF1 (by decide +kernel)).trans ((getF1 (by decide +kernel)).trans ((getF1 (by decide +kernel)).trans ((getF1 (by decide +kernel)).trans ((getF1 (by decide +kernel)).trans ((getF1 (by decide +kernel)).trans ((getF1 (by decide +kernel)).trans ((getF1 (by decide +kernel)).trans (rfl))))))))
theorem fS_no_frames_settled : (fS v0 v1 v2 v3 v4 v5 v6 v7).lookup ("frames_settled" : Str) = none := (getF1 (by decide +kernel)).trans ((getF1 (by decide +kernel)).trans ((getF1 (by decide +kernel)).trans ((getF1 (by decide +kernel)).trans ((getF1 (by decide +kernel)).trans ((getF1 (by decide +kernel)).trans ((getF1 (by decide +kernel)).trans ((getF1 (by decide +kernel)).trans (rfl))))))))
theorem fS_no_states_settled : (fS v0 v1 v2 v3 v4 v5 v6 v7).lookup ("states_settled" : Str) = none := (getF1 (by decide +kernel)).trans ((getF1 (by decide +kernel)).trans ((getF1 (by decide +kernel)).trans ((getF1 (by decide +kernel)).trans ((getF1 (by decide +kernel)).trans ((getF1 (by decide +kernel)).trans ((getF1 (by decide +kernel)).trans ((getF1 (by decide +kernel)).trans (rfl))))))))
theorem fS_no_mark_ahead : (fS v0 v1 v2 v3 v4 v5 v6 v7).lookup ("mark_ahead" : Str) = none := (getF1 (by decide +kernel)).trans ((getF1 (by decide +kernel)).trans ((getF1 (by decide +kernel)).trans ((getF1 (by decide +kernel)).trans ((getF1 (by decide +kernel)).trans ((getF1 (by decide +kernel)).trans ((getF1 (by decide +kernel)).trans ((getF1 (by decide +kernel)).trans (rfl))))))))
theorem fS_no_tell_pad : (fS v0 v1 v2 v3 v4 v5 v6 v7).lookup ("tell_pad" : Str) = none := (getF1 (by decide +kernel)).trans ((getF1 (by decide +kernel)).trans ((getF1 (by decide +kernel)).trans ((getF1 (by decide +kernel)).trans ((getF1 (by decide +kernel)).trans ((getF1 (by decide +kernel)).trans ((getF1 (by decide +kernel)).trans ((getF1 (by decide +kernel)).trans (rfl))))))))
theorem fS_no_tell_fault : (fS v0 v1 v2 v3 v4 v5 v6 v7).lookup ("tell_fault" : Str) = none := (getF1 (by decide +kernel)).trans ((getF1 (by decide +kernel)).trans ((getF1 (by decide +kernel)).trans ((getF1 (by decide +kernel)).trans ((getF1 (by decide +kernel)).trans ((getF1 (by decide +kernel)).trans ((getF1 (by decide +kernel)).trans ((getF1 (by decide +kernel)).trans (rfl))))))))
theorem fS_no_is_guess : (fS v0 v1 v2 v3 v4 v5 v6 v7).lookup ("is_guess" : Str) = none := (getF1 (by decide +kernel)).trans ((getF1 (by decide +kernel)).trans ((getF1 (by decide +kernel)).trans ((getF1 (by decide +kernel)).trans ((getF1 (by decide +kernel)).trans ((getF1 (by decide +kernel)).trans ((getF1 (by decide +kernel)).trans ((getF1 (by decide +kernel)).trans (rfl))))))))
theorem fS_no_others_pad : (fS v0 v1 v2 v3 v4 v5 v6 v7).lookup ("others_pad" : Str) = none := (getF1 (by decide +kernel)).trans ((getF1 (by decide +kernel)).trans ((getF1 (by decide +kernel)).trans ((getF1 (by decide +kernel)).trans ((getF1 (by decide +kernel)).trans ((getF1 (by decide +kernel)).trans ((getF1 (by decide +kernel)).trans ((getF1 (by decide +kernel)).trans (rfl))))))))
theorem fS_no_pads_together : (fS v0 v1 v2 v3 v4 v5 v6 v7).lookup ("pads_together" : Str) = none := (getF1 (by decide +kernel)).trans ((getF1 (by decide +kernel)).trans ((getF1 (by decide +kernel)).trans ((getF1 (by decide +kernel)).trans ((getF1 (by decide +kernel)).trans ((getF1 (by decide +kernel)).trans ((getF1 (by decide +kernel)).trans ((getF1 (by decide +kernel)).trans (rfl))))))))
theorem fS_no_state_with_faults : (fS v0 v1 v2 v3 v4 v5 v6 v7).lookup ("state_with_faults" : Str) = none := (getF1 (by decide +kernel)).trans ((getF1 (by decide +kernel)).trans ((getF1 (by decide +kernel)).trans ((getF1 (by decide +kernel)).trans ((getF1 (by decide +kernel)).trans ((getF1 (by decide +kernel)).trans ((getF1 (by decide +kernel)).trans ((getF1 (by decide +kernel)).trans (rfl))))))))
theorem fS_no_run_next : (fS v0 v1 v2 v3 v4 v5 v6 v7).lookup ("run_next" : Str) = none := (getF1 (by decide +kernel)).trans ((getF1 (by decide +kernel)).trans ((getF1 (by decide +kernel)).trans ((getF1 (by decide +kernel)).trans ((getF1 (by decide +kernel)).trans ((getF1 (by decide +kernel)).trans ((getF1 (by decide +kernel)).trans ((getF1 (by decide +kernel)).trans (rfl))))))))
theorem fS_no_letter : (fS v0 v1 v2 v3 v4 v5 v6 v7).lookup ("letter" : Str) = none := (getF1 (by decide +kernel)).trans ((getF1 (by decide +kernel)).trans ((getF1 (by decide +kernel)).trans ((getF1 (by decide +kernel)).trans ((getF1 (by decide +kernel)).trans ((getF1 (by decide +kernel)).trans ((getF1 (by decide +kernel)).trans ((getF1 (by decide +kernel)).trans (rfl))))))))
theorem fS_no_take : (fS v0 v1 v2 v3 v4 v5 v6 v7).lookup ("take" : Str) = none := (getF1 (by decide +kernel)).trans ((getF1 (by decide +kernel)).trans ((getF1 (by decide +kernel)).trans ((getF1 (by decide +kernel)).trans ((getF1 (by decide +kernel)).trans ((getF1 (by decide +kernel)).trans ((getF1 (by decide +kernel)).trans ((getF1 (by decide +kernel)).trans (rfl))))))))
theorem fS_no_first_wrong : (fS v0 v1 v2 v3 v4 v5 v6 v7).lookup ("first_wrong" : Str) = none := (getF1 (by decide +kernel)).trans ((getF1 (by decide +kernel)).trans ((getF1 (by decide +kernel)).trans ((getF1 (by decide +kernel)).trans ((getF1 (by decide +kernel)).trans ((getF1 (by decide +kernel)).trans ((getF1 (by decide +kernel)).trans ((getF1 (by decide +kernel)).trans (rfl))))))))
theorem fS_no_run_again : (fS v0 v1 v2 v3 v4 v5 v6 v7).lookup ("run_again" : Str) = none := (getF1 (by decide +kernel)).trans ((getF1 (by decide +kernel)).trans ((getF1 (by decide +kernel)).trans ((getF1 (by decide +kernel)).trans ((getF1 (by decide +kernel)).trans ((getF1 (by decide +kernel)).trans ((getF1 (by decide +kernel)).trans ((getF1 (by decide +kernel)).trans (rfl))))))))
theorem fS_put_number : putF "number" w (fS v0 v1 v2 v3 v4 v5 v6 v7) = fS w v1 v2 v3 v4 v5 v6 v7 := storeF0
theorem fS_put_own : putF "own" w (fS v0 v1 v2 v3 v4 v5 v6 v7) = fS v0 w v2 v3 v4 v5 v6 v7 := (storeF1 (by decide +kernel)).trans (congrArg _ (storeF0))
theorem fS_put_known : putF "known" w (fS v0 v1 v2 v3 v4 v5 v6 v7) = fS v0 v1 w v3 v4 v5 v6 v7 := (storeF1 (by decide +kernel)).trans (congrArg _ ((storeF1 (by decide +kernel)).trans (congrArg _ (storeF0))))
theorem fS_put_reached : putF "reached" w (fS v0 v1 v2 v3 v4 v5 v6 v7) = fS v0 v1 v2 w v4 v5 v6 v7 := (storeF1 (by decide +kernel)).trans (congrArg _ ((storeF1 (by decide +kernel)).trans (congrArg _ ((storeF1 (by decide +kernel)).trans (congrArg _ (storeF0))))))
theorem fS_put_used : putF "used" w (fS v0 v1 v2 v3 v4 v5 v6 v7) = fS v0 v1 v2 v3 w v5 v6 v7 := (storeF1 (by decide +kernel)).trans (congrArg _ ((storeF1 (by decide +kernel)).trans (congrArg _ ((storeF1 (by decide +kernel)).trans (congrArg _ ((storeF1 (by decide +kernel)).trans (congrArg _ (storeF0))))))))
theorem fS_put_states : putF "states" w (fS v0 v1 v2 v3 v4 v5 v6 v7) = fS v0 v1 v2 v3 v4 w v6 v7 := (storeF1 (by decide +kernel)).trans (congrArg _ ((storeF1 (by decide +kernel)).trans (congrArg _ ((storeF1 (by decide +kernel)).trans (congrArg _ ((storeF1 (by decide +kernel)).trans (congrArg _ ((storeF1 (by decide +kernel)).trans (congrArg _ (storeF0))))))))))
theorem fS_put_faults : putF "faults" w (fS v0 v1 v2 v3 v4 v5 v6 v7) = fS v0 v1 v2 v3 v4 v5 w v7 := (storeF1 (by decide +kernel)).trans (congrArg _ ((storeF1 (by decide +kernel)).trans (congrArg _ ((storeF1 (by decide +kernel)).trans (congrArg _ ((storeF1 (by decide +kernel)).trans (congrArg _ ((storeF1 (by decide +kernel)).trans (congrArg _ ((storeF1 (by decide +kernel)).trans (congrArg _ (storeF0))))))))))))
theorem fS_put_run_in_all : putF "run_in_all" w (fS v0 v1 v2 v3 v4 v5 v6 v7) = fS v0 v1 v2 v3 v4 v5 v6 w := (storeF1 (by decide +kernel)).trans (congrArg _ ((storeF1 (by decide +kernel)).trans (congrArg _ ((storeF1 (by decide +kernel)).trans (congrArg _ ((storeF1 (by decide +kernel)).trans (congrArg _ ((storeF1 (by decide +kernel)).trans (congrArg _ ((storeF1 (by decide +kernel)).trans (congrArg _ ((storeF1 (by decide +kernel)).trans (congrArg _ (storeF0))))))))))))))
theorem fS_new1 : putF "own" v1 ([("number", v0)] : List (Str × V)) = ([("number", v0), ("own", v1)] : List (Str × V)) := (storeF1 (by decide +kernel)).trans (congrArg _ (rfl))
theorem fS_new2 : putF "known" v2 ([("number", v0), ("own", v1)] : List (Str × V)) = ([("number", v0), ("own", v1), ("known", v2)] : List (Str × V)) := (storeF1 (by decide +kernel)).trans (congrArg _ ((storeF1 (by decide +kernel)).trans (congrArg _ (rfl))))
theorem fS_new3 : putF "reached" v3 ([("number", v0), ("own", v1), ("known", v2)] : List (Str × V)) = ([("number", v0), ("own", v1), ("known", v2), ("reached", v3)] : List (Str × V)) := (storeF1 (by decide +kernel)).trans (congrArg _ ((storeF1 (by decide +kernel)).trans (congrArg _ ((storeF1 (by decide +kernel)).trans (congrArg _ (rfl))))))
theorem fS_new4 : putF "used" v4 ([("number", v0), ("own", v1), ("known", v2), ("reached", v3)] : List (Str × V)) = ([("number", v0), ("own", v1), ("known", v2), ("reached", v3), ("used", v4)] : List (Str × V)) := (storeF1 (by decide +kernel)).trans (congrArg _ ((storeF1 (by decide +kernel)).trans (congrArg _ ((storeF1 (by decide +kernel)).trans (congrArg _ ((storeF1 (by decide +kernel)).trans (congrArg _ (rfl))))))))
theorem fS_new5 : putF "states" v5 ([("number", v0), ("own", v1), ("known", v2), ("reached", v3), ("used", v4)] : List (Str × V)) = ([("number", v0), ("own", v1), ("known", v2), ("reached", v3), ("used", v4), ("states", v5)] : List (Str × V)) := (storeF1 (by decide +kernel)).trans (congrArg _ ((storeF1 (by decide +kernel)).trans (congrArg _ ((storeF1 (by decide +kernel)).trans (congrArg _ ((storeF1 (by decide +kernel)).trans (congrArg _ ((storeF1 (by decide +kernel)).trans (congrArg _ (rfl))))))))))
theorem fS_new6 : putF "faults" v6 ([("number", v0), ("own", v1), ("known", v2), ("reached", v3), ("used", v4), ("states", v5)] : List (Str × V)) = ([("number", v0), ("own", v1), ("known", v2), ("reached", v3), ("used", v4), ("states", v5), ("faults", v6)] : List (Str × V)) := (storeF1 (by decide +kernel)).trans (congrArg _ ((storeF1 (by decide +kernel)).trans (congrArg _ ((storeF1 (by decide +kernel)).trans (congrArg _ ((storeF1 (by decide +kernel)).trans (congrArg _ ((storeF1 (by decide +kernel)).trans (congrArg _ ((storeF1 (by decide +kernel)).trans (congrArg _ (rfl))))))))))))
theorem fS_new7 : putF "run_in_all" v7 ([("number", v0), ("own", v1), ("known", v2), ("reached", v3), ("used", v4), ("states", v5), ("faults", v6)] : List (Str × V)) = ([("number", v0), ("own", v1), ("known", v2), ("reached", v3), ("used", v4), ("states", v5), ("faults", v6), ("run_in_all", v7)] : List (Str × V)) := (storeF1 (by decide +kernel)).trans (congrArg _ ((storeF1 (by decide +kernel)).trans (congrArg _ ((storeF1 (by decide +kernel)).trans (congrArg _ ((storeF1 (by decide +kernel)).trans (congrArg _ ((storeF1 (by decide +kernel)).trans (congrArg _ ((storeF1 (by decide +kernel)).trans (congrArg _ ((storeF1 (by decide +kernel)).trans (congrArg _ (rfl))))))))))))))
end

def sF (a : SideA) : List (Str × V) := fS (nI a.i) (.ref a.own) (.ref a.known) (nI a.acked) (.ref a.used) (.ref a.sts) (.ref a.flt) (nI a.runs)
def ftV (x : Nat × Nat × Nat) : List V := [nI x.1, nI x.2.1, nI x.2.2]
def refsOf {α : Type} (l : List (Addr × α)) : List V := l.map fun r => V.ref r.1
structure SideAt (C : Addr) (H : Hp) (a : SideA) : Prop where
  o : ∃ dx, H a.p = some (.ins C dx (sF a))
  own : H a.own = some (.lst (a.ow.map nI))
  known : H a.known = some (.dK (kn a.had))
  used : H a.used = some (.lst (a.us.map nI))
  sts : H a.sts = some (.lst (refsOf a.rs))
  flt : H a.flt = some (.lst (refsOf a.fs))
  rs : ∀ r, r ∈ a.rs → H r.1 = some (.lst (numL r.2)) ∧ Good r.2 ∧ r.1 ≠ a.own ∧ r.1 ≠ a.used ∧ r.1 ≠ a.sts ∧ r.1 ≠ a.flt
  fs : ∀ r, r ∈ a.fs → H r.1 = some (.tup (ftV r.2))
  n1 : a.own ≠ a.used
  n2 : a.own ≠ a.sts
  n3 : a.own ≠ a.flt
  n4 : a.used ≠ a.sts
  n5 : a.used ≠ a.flt
  n6 : a.sts ≠ a.flt
theorem kind_ne {H : Hp} {a b : Addr} {x y : HO} (ha : H a = some x) (hb : H b = some y) (h : x ≠ y) : a ≠ b := fun z => h (Option.some.inj (ha.symm.trans (z ▸ hb)))
section
variable {C : Addr} {H H' : Hp} {a : SideA}
theorem SideAt.trk (S : SideAt C H a) {b : Addr} (h : a.f b) : ∃ o, H b = some o := by
  obtain ⟨dx, h1⟩ := S.o
  rcases h with (h | h | h | h | h | h) | ⟨r, hr, h⟩ | ⟨r, hr, h⟩
  · exact ⟨_, h ▸ h1⟩
  · exact ⟨_, h ▸ S.own⟩
  · exact ⟨_, h ▸ S.known⟩
  · exact ⟨_, h ▸ S.used⟩
  · exact ⟨_, h ▸ S.sts⟩
  · exact ⟨_, h ▸ S.flt⟩
  · exact ⟨_, h ▸ (S.rs r hr).1⟩
  · exact ⟨_, h ▸ S.fs r hr⟩
theorem SideAt.fr {Z : Addr → Prop} (S : SideAt C H a) (k : Kp Z H H') (h : ∀ b, a.f b → ¬ Z b) : SideAt C H' a := by
  obtain ⟨dx, h1⟩ := S.o
  refine ⟨⟨dx, k _ _ h1 (h _ (.inl (.inl rfl)))⟩, k _ _ S.own (h _ (.inl (.inr (.inl rfl)))), k _ _ S.known (h _ (.inl (.inr (.inr (.inl rfl))))), k _ _ S.used (h _ (.inl (.inr (.inr (.inr (.inl rfl)))))),
    k _ _ S.sts (h _ (.inl (.inr (.inr (.inr (.inr (.inl rfl))))))), k _ _ S.flt (h _ (.inl (.inr (.inr (.inr (.inr (.inr rfl))))))), fun r hr => ?_, fun r hr => k _ _ (S.fs r hr) (h _ (.inr (.inr ⟨r, hr, rfl⟩))), S.n1, S.n2, S.n3, S.n4, S.n5, S.n6⟩
  obtain ⟨x, y⟩ := S.rs r hr
  exact ⟨k _ _ x (h _ (.inr (.inl ⟨r, hr, rfl⟩))), y⟩
theorem SideAt.same (S : SideAt C H a) (k : Same H H') : SideAt C H' a := S.fr (Z := fun _ => False) (fun b o e _ => k b o e) fun _ _ z => z
theorem SideAt.set_own (S : SideAt C H a) (w : List Nat) : SideAt C (upd H a.own (.lst (w.map nI))) { a with ow := w } := by
  obtain ⟨dx, h1⟩ := S.o
  refine ⟨⟨dx, ?_⟩, upd_same, ?_, ?_, ?_, ?_, fun r hr => ?_, fun r hr => ?_, S.n1, S.n2, S.n3, S.n4, S.n5, S.n6⟩
  · rw [upd_ne (kind_ne h1 S.own nofun)]; exact h1
  · rw [upd_ne (kind_ne S.known S.own nofun)]; exact S.known
  · rw [upd_ne S.n1.symm]; exact S.used
  · rw [upd_ne S.n2.symm]; exact S.sts
  · rw [upd_ne S.n3.symm]; exact S.flt
  · obtain ⟨x, y, z⟩ := S.rs r hr
    exact ⟨by rw [upd_ne z.1]; exact x, y, z⟩
  · rw [upd_ne (kind_ne (S.fs r hr) S.own nofun)]; exact S.fs r hr
theorem SideAt.set_used (S : SideAt C H a) (w : List Nat) : SideAt C (upd H a.used (.lst (w.map nI))) { a with us := w } := by
  obtain ⟨dx, h1⟩ := S.o
  refine ⟨⟨dx, ?_⟩, ?_, ?_, upd_same, ?_, ?_, fun r hr => ?_, fun r hr => ?_, S.n1, S.n2, S.n3, S.n4, S.n5, S.n6⟩
  · rw [upd_ne (kind_ne h1 S.used nofun)]; exact h1
  · rw [upd_ne S.n1]; exact S.own
  · rw [upd_ne (kind_ne S.known S.used nofun)]; exact S.known
  · rw [upd_ne S.n4.symm]; exact S.sts
  · rw [upd_ne S.n5.symm]; exact S.flt
  · obtain ⟨x, y, z⟩ := S.rs r hr
    exact ⟨by rw [upd_ne z.2.1]; exact x, y, z⟩
  · rw [upd_ne (kind_ne (S.fs r hr) S.used nofun)]; exact S.fs r hr
theorem SideAt.set_known (S : SideAt C H a) {l : Known} (hk : H' a.known = some (.dK (kn l))) (k : Kp (S1 a.known) H H') : SideAt C H' { a with had := l } := by
  obtain ⟨dx, h1⟩ := S.o
  refine ⟨⟨dx, k _ _ h1 (kind_ne h1 S.known nofun)⟩, k _ _ S.own (kind_ne S.own S.known nofun), hk, k _ _ S.used (kind_ne S.used S.known nofun), k _ _ S.sts (kind_ne S.sts S.known nofun), k _ _ S.flt (kind_ne S.flt S.known nofun),
    fun r hr => ?_, fun r hr => k _ _ (S.fs r hr) (kind_ne (S.fs r hr) S.known nofun), S.n1, S.n2, S.n3, S.n4, S.n5, S.n6⟩
  obtain ⟨x, y⟩ := S.rs r hr
  exact ⟨k _ _ x (kind_ne x S.known nofun), y⟩
theorem refs_snoc {α : Type} (l : List (Addr × α)) (x : Addr × α) : refsOf (l ++ [x]) = refsOf l ++ [V.ref x.1] := by
  unfold refsOf
  rw [List.map_append]
  rfl
theorem SideAt.add_state (S : SideAt C H a) {r : Addr} {m : Mach} (hr : H r = some (.lst (numL m))) (g : Good m) (h1 : r ≠ a.own) (h2 : r ≠ a.used) (h3 : r ≠ a.sts) (h4 : r ≠ a.flt) :
    SideAt C (upd H a.sts (.lst (refsOf a.rs ++ [V.ref r]))) { a with rs := a.rs ++ [(r, m)] } := by
  obtain ⟨dx, ho⟩ := S.o
  refine ⟨⟨dx, ?_⟩, ?_, ?_, ?_, ?_, ?_, fun r' hr' => ?_, fun r' hr' => ?_, S.n1, S.n2, S.n3, S.n4, S.n5, S.n6⟩
  · rw [upd_ne (kind_ne ho S.sts nofun)]; exact ho
  · rw [upd_ne S.n2]; exact S.own
  · rw [upd_ne (kind_ne S.known S.sts nofun)]; exact S.known
  · rw [upd_ne S.n4]; exact S.used
  · show upd _ _ _ a.sts = _
    rw [upd_same, refs_snoc]
  · rw [upd_ne S.n6.symm]; exact S.flt
  · rcases List.mem_append.mp hr' with c | c
    · obtain ⟨x, y, z⟩ := S.rs r' c
      exact ⟨by rw [upd_ne z.2.2.1]; exact x, y, z⟩
    · obtain rfl := List.mem_singleton.mp c
      exact ⟨by rw [upd_ne h3]; exact hr, g, h1, h2, h3, h4⟩
  · rw [upd_ne (kind_ne (S.fs r' hr') S.sts nofun)]; exact S.fs r' hr'
theorem SideAt.add_fault (S : SideAt C H a) {r : Addr} {x : Nat × Nat × Nat} (hr : H r = some (.tup (ftV x))) :
    SideAt C (upd H a.flt (.lst (refsOf a.fs ++ [V.ref r]))) { a with fs := a.fs ++ [(r, x)] } := by
  obtain ⟨dx, ho⟩ := S.o
  refine ⟨⟨dx, ?_⟩, ?_, ?_, ?_, ?_, ?_, fun r' hr' => ?_, fun r' hr' => ?_, S.n1, S.n2, S.n3, S.n4, S.n5, S.n6⟩
  · rw [upd_ne (kind_ne ho S.flt nofun)]; exact ho
  · rw [upd_ne S.n3]; exact S.own
  · rw [upd_ne (kind_ne S.known S.flt nofun)]; exact S.known
  · rw [upd_ne S.n5]; exact S.used
  · rw [upd_ne S.n6]; exact S.sts
  · show upd _ _ _ a.flt = _
    rw [upd_same, refs_snoc]
  · obtain ⟨x, y, z⟩ := S.rs r' hr'
    exact ⟨by rw [upd_ne z.2.2.2]; exact x, y, z⟩
  · rcases List.mem_append.mp hr' with c | c
    · rw [upd_ne (kind_ne (S.fs r' c) S.flt nofun)]; exact S.fs r' c
    · obtain rfl := List.mem_singleton.mp c
      rw [upd_ne (kind_ne hr S.flt nofun)]; exact hr
/-- its object alone: acked, runs -/
theorem SideAt.set_num (S : SideAt C H a) {dx : Addr} (k n : Nat) : SideAt C (upd H a.p (.ins C dx (sF { a with acked := k, runs := n }))) { a with acked := k, runs := n } := by
  obtain ⟨dx0, ho⟩ := S.o
  refine ⟨⟨dx, upd_same⟩, ?_, ?_, ?_, ?_, ?_, fun r hr => ?_, fun r hr => ?_, S.n1, S.n2, S.n3, S.n4, S.n5, S.n6⟩
  · rw [upd_ne (kind_ne S.own ho nofun)]; exact S.own
  · rw [upd_ne (kind_ne S.known ho nofun)]; exact S.known
  · rw [upd_ne (kind_ne S.used ho nofun)]; exact S.used
  · rw [upd_ne (kind_ne S.sts ho nofun)]; exact S.sts
  · rw [upd_ne (kind_ne S.flt ho nofun)]; exact S.flt
  · obtain ⟨x, y, z⟩ := S.rs r hr
    exact ⟨by rw [upd_ne (kind_ne x ho nofun)]; exact x, y, z⟩
  · rw [upd_ne (kind_ne (S.fs r hr) ho nofun)]; exact S.fs r hr
/-- used: a new list -/
theorem SideAt.new_used (S : SideAt C H a) {dx u : Addr} (hu : H u = none) (w : List Nat) :
    SideAt C (upd (upd H u (.lst (w.map nI))) a.p (.ins C dx (sF { a with used := u, us := w }))) { a with used := u, us := w } := by
  obtain ⟨dx0, ho⟩ := S.o
  have np := ne_of_none ho hu
  refine ⟨⟨dx, upd_same⟩, ?_, ?_, ?_, ?_, ?_, fun r hr => ?_, fun r hr => ?_, ne_of_none S.own hu, S.n2, S.n3, (ne_of_none S.sts hu).symm, (ne_of_none S.flt hu).symm, S.n6⟩
  · rw [upd_ne (kind_ne S.own ho nofun), upd_ne (ne_of_none S.own hu)]; exact S.own
  · rw [upd_ne (kind_ne S.known ho nofun), upd_ne (ne_of_none S.known hu)]; exact S.known
  · show upd _ _ _ u = _
    rw [upd_ne np.symm, upd_same]
  · rw [upd_ne (kind_ne S.sts ho nofun), upd_ne (ne_of_none S.sts hu)]; exact S.sts
  · rw [upd_ne (kind_ne S.flt ho nofun), upd_ne (ne_of_none S.flt hu)]; exact S.flt
  · obtain ⟨x, y, z1, z2, z3, z4⟩ := S.rs r hr
    exact ⟨by rw [upd_ne (kind_ne x ho nofun), upd_ne (ne_of_none x hu)]; exact x, y, z1, ne_of_none x hu, z3, z4⟩
  · rw [upd_ne (kind_ne (S.fs r hr) ho nofun), upd_ne (ne_of_none (S.fs r hr) hu)]; exact S.fs r hr
/-- states: a new list of some of them -/
theorem SideAt.new_sts (S : SideAt C H a) {dx u : Addr} (hu : H u = none) {w : List (Addr × Mach)} (hw : ∀ r, r ∈ w → r ∈ a.rs) :
    SideAt C (upd (upd H u (.lst (refsOf w))) a.p (.ins C dx (sF { a with sts := u, rs := w }))) { a with sts := u, rs := w } := by
  obtain ⟨dx0, ho⟩ := S.o
  have np := ne_of_none ho hu
  refine ⟨⟨dx, upd_same⟩, ?_, ?_, ?_, ?_, ?_, fun r hr => ?_, fun r hr => ?_, S.n1, ne_of_none S.own hu, S.n3, ne_of_none S.used hu, S.n5, (ne_of_none S.flt hu).symm⟩
  · rw [upd_ne (kind_ne S.own ho nofun), upd_ne (ne_of_none S.own hu)]; exact S.own
  · rw [upd_ne (kind_ne S.known ho nofun), upd_ne (ne_of_none S.known hu)]; exact S.known
  · rw [upd_ne (kind_ne S.used ho nofun), upd_ne (ne_of_none S.used hu)]; exact S.used
  · show upd _ _ _ u = _
    rw [upd_ne np.symm, upd_same]
  · rw [upd_ne (kind_ne S.flt ho nofun), upd_ne (ne_of_none S.flt hu)]; exact S.flt
  · obtain ⟨x, y, z1, z2, z3, z4⟩ := S.rs r (hw r hr)
    exact ⟨by rw [upd_ne (kind_ne x ho nofun), upd_ne (ne_of_none x hu)]; exact x, y, z1, z2, ne_of_none x hu, z4⟩
  · rw [upd_ne (kind_ne (S.fs r hr) ho nofun), upd_ne (ne_of_none (S.fs r hr) hu)]; exact S.fs r hr
end
/-- it is then d -/
def SUpd (C : Addr) (H : Hp) (a : SideA) (d : SD) (Q : Hp → Prop) : Prop := ∀ (H' : Hp) (a' : SideA), SideAt C H' a' → a'.sd = d → a'.p = a.p → Stp H a.ft H' a'.ft → Q H'
/-- what its data keep to -/
structure SOk (d : SD) : Prop where
  ow : ∀ v ∈ d.ow, v < 16
  had : Low d.had
  us : ∀ v ∈ d.us, v < 16
  fl : ∀ x ∈ d.fl, x.2.1 < 128 ∧ x.2.2 < 256
  ms : d.ms.length = d.us.length + 1
  i : d.i < 2
  fn : d.fl.length ≤ 1000
  un : d.us.length ≤ d.ow.length
  on : d.ow.length ≤ 1000
theorem SOk.next {d : SD} (o : SOk d) (h : d.us.length < d.ow.length) : SOk (next d) := by
  refine ⟨o.ow, o.had, fun v hv => ?_, o.fl, ?_, o.i, o.fn, ?_, o.on⟩
  · rcases List.mem_append.mp hv with c | c
    · exact o.us v c
    · obtain rfl := List.mem_singleton.mp c
      exact oth_low o.had o.us _
  · show (d.ms ++ [_]).length = (d.us ++ [_]).length + 1
    rw [List.length_append, List.length_append, o.ms]
    rfl
  · show (d.us ++ [_]).length ≤ d.ow.length
    rw [List.length_append]
    exact h
theorem SOk.cut {d : SD} (o : SOk d) {w : Nat} (h : w ≤ d.us.length) : SOk (cut w d) := by
  refine ⟨o.ow, o.had, fun v hv => o.us v (List.mem_of_mem_take hv), o.fl, ?_, o.i, o.fn, ?_, o.on⟩
  · show (d.ms.take (w + 1)).length = (d.us.take w).length + 1
    rw [List.length_take, List.length_take, o.ms]
    omega
  · show (d.us.take w).length ≤ d.ow.length
    have := o.un
    rw [List.length_take]
    omega
theorem SOk.nextN {d : SD} (o : SOk d) {n : Nat} (h : d.us.length + n ≤ d.ow.length) : SOk (nextN n d) := by
  induction n with
  | zero => exact o
  | succ n ih =>
    refine (ih (by omega)).next ?_
    rw [nextN_usl, (nextN_data n d).2.1]
    omega
end TP
namespace TP
open PySem PySem.Spec PyProof.Rows L2
open CsBase (Mach)
open Cs14 (Known at? Letter)
structure TxtS (K : PySem.W.Frag) (mg : Str → Option Value) (C : Addr) : Prop where
  cl_Side : Cls K C
  n_number : NoAttr K C "number"
  n_own : NoAttr K C "own"
  n_known : NoAttr K C "known"
  n_reached : NoAttr K C "reached"
  n_used : NoAttr K C "used"
  n_states : NoAttr K C "states"
  n_faults : NoAttr K C "faults"
  n_run_in_all : NoAttr K C "run_in_all"
  g_FIRST_BYTE : mg "FIRST_BYTE" = some (.int 5 (tokOf (mg "FIRST_BYTE")))
  g_MOST_PADS_TOLD : mg "MOST_PADS_TOLD" = some (.int 6 (tokOf (mg "MOST_PADS_TOLD")))
  g_LETTER_KNOWN : mg "LETTER_KNOWN" = some (.int 2 (tokOf (mg "LETTER_KNOWN")))
  b_len : mg "len" = none
  b_min : mg "min" = none
  b_max : mg "max" = none
  b_list : mg "list" = none
  b_range : mg "range" = none
/-! ### the promises -/
def spSRun (C : Addr) : Sp := fun vs H Q _ => ∃ a : SideA, vs = [.ref a.p] ∧ SideAt C H a ∧ Q (nI a.us.length) H
def spSKnown (C : Addr) : Sp := fun vs H Q _ => ∃ a : SideA, vs = [.ref a.p] ∧ SideAt C H a ∧ Q (nI (Cs14.upTo a.had)) H
def stl (a : SideA) : Nat := min a.us.length (Cs14.upTo a.had)
def spSettled (C : Addr) : Sp := fun vs H Q _ => ∃ a : SideA, vs = [.ref a.p] ∧ SideAt C H a ∧ Q (nI (stl a)) H
def spStates (C : Addr) : Sp := fun vs H Q _ => ∃ a : SideA, vs = [.ref a.p] ∧ SideAt C H a ∧ ∀ r, H r = none → Q (.ref r) (upd H r (.lst (refsOf (a.rs.take (stl a + 1)))))
def spMarkAt (C : Addr) : Sp := fun vs H Q _ => ∃ (a : SideA) (t : Nat) (r : Addr × Mach), vs = [.ref a.p, nI t] ∧ SideAt C H a ∧ a.rs[t]? = some r ∧ Q (nI (CsBase.mark r.2)) H
def spTellPad (C : Addr) : Sp := fun vs H Q _ => ∃ (a : SideA) (v : Nat), vs = [.ref a.p, nI v] ∧ SideAt C H a ∧ a.ow.length ≤ 1000 ∧ SUpd C H a { a.sd with ow := a.ow ++ [v] } (Q .non)
def spTellFault (C : Addr) : Sp := fun vs H Q _ => ∃ (a : SideA) (k v : Nat), vs = [.ref a.p, nI k, nI v] ∧ SideAt C H a ∧ a.fs.length ≤ 1000 ∧ SUpd C H a { a.sd with fl := a.sd.fl ++ [(a.us.length, k, v)] } (Q .non)
def spGuess (C : Addr) : Sp := fun vs H Q _ => ∃ (a : SideA) (t : Nat), vs = [.ref a.p, nI t] ∧ SideAt C H a ∧ Q (.bl (!(at? a.had t).isSome)) H
def spOthers (C : Addr) : Sp := fun vs H Q _ => ∃ (a : SideA) (t : Nat), vs = [.ref a.p, nI t] ∧ SideAt C H a ∧ t ≤ a.us.length ∧ Q (nI (oth a.had a.us t)) H
def spPadsT (C : Addr) : Sp := fun vs H Q _ => ∃ (a : SideA) (t o : Nat), vs = [.ref a.p, nI t, nI o] ∧ SideAt C H a ∧ t < a.ow.length ∧ Q (nI (Cs14.pad a.i (a.ow.getD t 0) o)) H
def spFaulted (C : Addr) : Sp := fun vs H Q _ => ∃ (a : SideA) (t : Nat) (r : Addr × Mach), vs = [.ref a.p, nI t] ∧ SideAt C H a ∧ a.rs[t]? = some r ∧ (∀ x ∈ a.sd.fl, x.2.1 < 128 ∧ x.2.2 < 256) ∧
  ∀ (H' : Hp) (q : Addr), H q = none → H' q = some (.lst (numL (Cs14.faulted r.2 a.sd.fl t))) → Good (Cs14.faulted r.2 a.sd.fl t) → Same H H' → Q (.ref q) H'
def spNext (C : Addr) : Sp := fun vs H Q _ => ∃ a : SideA, vs = [.ref a.p] ∧ SideAt C H a ∧ SOk a.sd ∧ a.us.length < a.ow.length ∧ SUpd C H a (next a.sd) (Q .non)
def letD (d : SD) : Letter := ⟨d.i, d.acked, (d.ow.drop d.acked).take 6, Cs14.upTo d.had⟩
def spLetter (C : Addr) : Sp := fun vs H Q _ => ∃ a : SideA, vs = [.ref a.p] ∧ SideAt C H a ∧ ∀ (H' : Hp) (q : Addr), H q = none → H' q = some (.lst (ltV (letD a.sd))) → Same H H' → Q (.ref q) H'
def spWrong (C : Addr) : Sp := fun vs H Q _ => ∃ a : SideA, vs = [.ref a.p] ∧ SideAt C H a ∧ ∀ t, Wrong a.had a.us t → Q (nI t) H
def spAgain (C : Addr) : Sp := fun vs H Q _ => ∃ (a : SideA) (w : Nat), vs = [.ref a.p, nI w] ∧ SideAt C H a ∧ SOk a.sd ∧ w ≤ a.us.length ∧ SUpd C H a (nextN (a.us.length - w) (cut w a.sd)) (Q (nI (a.us.length - w)))
/-- a letter that may come -/
structure LOk (L : Letter) : Prop where
  src : L.src < 2
  pn : L.pads.length ≤ 6
  pv : ∀ v ∈ L.pads, v < 16
  fn : L.first ≤ 1000
  kn : L.knows ≤ 1000
def spTake (C : Addr) : Sp := fun vs H Q _ => ∃ (a : SideA) (l : Addr) (L : Letter), vs = [.ref a.p, .ref l] ∧ SideAt C H a ∧ SOk a.sd ∧ H l = some (.lst (ltV L)) ∧ ¬ a.m l ∧ LOk L ∧ a.had.length ≤ 1000 ∧
  ∀ w, Wrong (Cs14.learn a.had L.first L.pads) a.us w → SUpd C H a (heardD a.sd L.knows L.first L.pads w) (Q (nI (a.us.length - w)))
def spSInit (C : Addr) : Sp := fun vs H Q _ => ∃ (p dx l : Addr) (i d : Nat) (bs : List Nat), vs = [.ref p, nI i, nI d, .ref l] ∧ H p = some (.ins C dx []) ∧ H l = some (.lst (bs.map nI)) ∧ d ≤ 6 ∧ bs.length ≤ 128 ∧ (∀ b ∈ bs, b < 256) ∧
  ∀ (H' : Hp) (a : SideA), a.p = p → SideAt C H' a → a.sd = ⟨i, List.replicate d 0, zer d, d, [], [CsBase.loaded bs], [], 0⟩ → (∀ b, a.f b → b = p ∨ H b = none) → Kp (S1 p) H H' → Q .non H'
theorem refs_at {α : Type} {l : List (Addr × α)} {t : Nat} {r : Addr × α} (h : l[t]? = some r) : (refsOf l)[t]? = some (V.ref r.1) := by
  unfold refsOf
  rw [List.getElem?_map, h]
  rfl
theorem refs_len {α : Type} (l : List (Addr × α)) : (refsOf l).length = l.length := List.length_map ..
theorem refs_take {α : Type} (l : List (Addr × α)) (n : Nat) : (refsOf l).take n = refsOf (l.take n) := List.map_take.symm
theorem map_at {l : List Nat} {t : Nat} (h : t < l.length) : (l.map nI)[t]? = some (nI (l.getD t 0)) := by
  rw [List.getElem?_map, getD_some h]
  rfl
theorem lt_line {n : Nat} (h : n ≤ 1000000) : n < sizeLine := Nat.lt_of_le_of_lt h (by decide)
theorem le_line {n : Nat} (h : n ≤ 1000000) : n ≤ sizeLine := Nat.le_of_lt (lt_line h)
section
variable {P : Program} {w : World} {K : PySem.W.Frag} {mg : Str → Option Value} {base : Heap} {C : Addr}
abbrev s_Side_frames_run : Stmt := inClass (top 21) 1
theorem sc_Side_frames_run : FnScope ["self"] ["self"] (defScope s_Side_frames_run) := ⟨rfl, rfl, rfl, by decide +kernel, rfl, by decide +kernel, by decide +kernel⟩
theorem ok_Side_frames_run {f : Addr} {fd : FuncData} (F : Fun K "frames_run" "Side.frames_run" s_Side_frames_run f fd) (T : TxtS K mg C) : FnOk P w K mg base CX0 1 f fd ["self"] (spSRun C) := by
  refine F.ok sc_Side_frames_run (fun vs H Q E h => ?_) (fun cdv A outer s H vs Q E hr h => ?_)
  · obtain ⟨a, rfl, _⟩ := h
    rfl
  · obtain ⟨a, rfl, S, kq⟩ := h
    obtain ⟨dx, h1⟩ := S.o
    refine ⟨_, (pss_one (ps_ret (pe_callB call_len_seq (by rfl) T.b_len PySem.boot_len (pa_cons (pe_fld (pv 0) rfl) pa_nil)))), ?_⟩
    refine ⟨_, rfl, a.p, C, dx, _, _, rfl, h1, T.cl_Side, T.n_used, fS_used, a.used, _, rfl, .inl (SqL.of S.used), ?_⟩
    rw [List.length_map]
    exact kq
abbrev s_Side_frames_known : Stmt := inClass (top 21) 2
theorem sc_Side_frames_known : FnScope ["self"] ["self"] (defScope s_Side_frames_known) := ⟨rfl, rfl, rfl, by decide +kernel, rfl, by decide +kernel, by decide +kernel⟩
theorem ok_Side_frames_known {f : Addr} {fd : FuncData} (F : Fun K "frames_known" "Side.frames_known" s_Side_frames_known f fd) (T : TxtS K mg C)
    (G_without_gap : FunF P w K mg base 1 "without_gap" ["known"] spGap) : FnOk P w K mg base CX0 2 f fd ["self"] (spSKnown C) := by
  refine F.ok sc_Side_frames_known (fun vs H Q E h => ?_) (fun cdv A outer s H vs Q E hr h => ?_)
  · obtain ⟨a, rfl, _⟩ := h
    rfl
  · obtain ⟨a, rfl, S, kq⟩ := h
    obtain ⟨dx, h1⟩ := S.o
    refine ⟨_, (pss_one (ps_ret (pe_callF G_without_gap (hr.mono (by decide)) (pa_cons (pe_fld (pv 0) rfl) pa_nil)))), ?_⟩
    exact ⟨_, rfl, a.p, C, dx, _, _, rfl, h1, T.cl_Side, T.n_known, fS_known, a.known, a.had, rfl, S.known, kq⟩
abbrev s_Side_frames_settled : Stmt := inClass (top 21) 3
theorem sc_Side_frames_settled : FnScope ["self"] ["self"] (defScope s_Side_frames_settled) := ⟨rfl, rfl, rfl, by decide +kernel, rfl, by decide +kernel, by decide +kernel⟩
theorem ok_Side_frames_settled {f : Addr} {fd : FuncData} (F : Fun K "frames_settled" "Side.frames_settled" s_Side_frames_settled f fd) (T : TxtS K mg C)
    (G_Side_frames_run : MethF P w K mg base 1 C "frames_run" ["self"] (spSRun C)) (G_Side_frames_known : MethF P w K mg base 2 C "frames_known" ["self"] (spSKnown C)) :
    FnOk P w K mg base CX0 3 f fd ["self"] (spSettled C) := by
  refine F.ok sc_Side_frames_settled (fun vs H Q E h => ?_) (fun cdv A outer s H vs Q E hr h => ?_)
  · obtain ⟨a, rfl, _⟩ := h
    rfl
  · obtain ⟨a, rfl, S, kq⟩ := h
    obtain ⟨dx, h1⟩ := S.o
    refine ⟨_, (pss_one (ps_ret (pe_callB (call_min2 rfl) (by rfl) T.b_min (by decide +kernel) (pa_cons (pe_methF0 (pv 0) T.cl_Side G_Side_frames_run (hr.mono (by decide))) (pa_cons (pe_methF0 (pv 0) T.cl_Side G_Side_frames_known (hr.mono (by decide))) pa_nil))))), ?_⟩
    refine ⟨_, rfl, a.p, dx, _, rfl, h1, fS_no_frames_run, a, rfl, S, _, rfl, a.p, dx, _, rfl, h1, fS_no_frames_known, a, rfl, S, _, _, rfl, ?_⟩
    have e : (if (Cs14.upTo a.had : Int) < (a.us.length : Int) then (Cs14.upTo a.had : Int) else (a.us.length : Int)) = ((stl a : Nat) : Int) := by
      unfold stl
      split <;> omega
    rw [e]
    exact kq
abbrev s_Side_states_settled : Stmt := inClass (top 21) 4
theorem sc_Side_states_settled : FnScope ["self"] ["self"] (defScope s_Side_states_settled) := ⟨rfl, rfl, rfl, by decide +kernel, rfl, by decide +kernel, by decide +kernel⟩
theorem ok_Side_states_settled {f : Addr} {fd : FuncData} (F : Fun K "states_settled" "Side.states_settled" s_Side_states_settled f fd) (T : TxtS K mg C)
    (G_Side_frames_settled : MethF P w K mg base 3 C "frames_settled" ["self"] (spSettled C)) :
    FnOk P w K mg base CX0 4 f fd ["self"] (spStates C) := by
  refine F.ok sc_Side_states_settled (fun vs H Q E h => ?_) (fun cdv A outer s H vs Q E hr h => ?_)
  · obtain ⟨a, rfl, _⟩ := h
    rfl
  · obtain ⟨a, rfl, S, kq⟩ := h
    obtain ⟨dx, h1⟩ := S.o
    refine ⟨_, (pss_one (ps_ret (pe_slice sl_list (pe_fld (pv 0) rfl) po_none (po_some (pe_op op_add (pe_methF0 (pv 0) T.cl_Side G_Side_frames_settled (hr.mono (by decide))) pe_int))))), ?_⟩
    refine ⟨_, rfl, a.p, C, dx, _, _, rfl, h1, T.cl_Side, T.n_states, fS_states, _, rfl, a.p, dx, _, rfl, h1, fS_no_frames_settled, a, rfl, S, _, _, rfl, rfl, _, rfl, a.sts, _, rfl, SqL.of S.sts, fun q hq => ?_⟩
    have e : cutV (refsOf a.rs) none (some (((stl a : Nat) : Int) + 1)) = refsOf (a.rs.take (stl a + 1)) := (cut_to (refsOf a.rs) (stl a + 1)).trans (refs_take a.rs _)
    rw [e]
    exact kq q hq
abbrev s_Side_mark_ahead : Stmt := inClass (top 21) 5
theorem sc_Side_mark_ahead : FnScope ["self", "t"] ["self", "t"] (defScope s_Side_mark_ahead) := ⟨rfl, rfl, rfl, by decide +kernel, rfl, by decide +kernel, by decide +kernel⟩
theorem ok_Side_mark_ahead {f : Addr} {fd : FuncData} (F : Fun K "mark_ahead" "Side.mark_ahead" s_Side_mark_ahead f fd) (T : TxtS K mg C)
    (G_mark : FunF P w K mg base 1 "mark" ["numbers"] (spMark K)) : FnOk P w K mg base CX0 2 f fd ["self", "t"] (spMarkAt C) := by
  refine F.ok sc_Side_mark_ahead (fun vs H Q E h => ?_) (fun cdv A outer s H vs Q E hr h => ?_)
  · obtain ⟨a, t, r, rfl, _⟩ := h
    rfl
  · obtain ⟨a, t, r, rfl, S, ht, kq⟩ := h
    obtain ⟨dx, h1⟩ := S.o
    refine ⟨_, (pss_one (ps_ret (pe_callF G_mark (hr.mono (by decide)) (pa_cons (pe_ix ix_list (pe_fld (pv 0) rfl) (pv 1) (fun _ _ => rfl)) pa_nil)))), ?_⟩
    exact ⟨_, rfl, a.p, C, dx, _, _, rfl, h1, T.cl_Side, T.n_states, fS_states, _, rfl, a.sts, _, _, _, rfl, rfl, SqL.of S.sts, atI_nat (refs_at ht), r.1, r.2, rfl, SqL.of (S.rs r (List.mem_of_getElem? ht)).1, kq⟩
abbrev s_Side_tell_pad : Stmt := inClass (top 21) 6
theorem sc_Side_tell_pad : FnScope ["self", "pad"] ["self", "pad"] (defScope s_Side_tell_pad) := ⟨rfl, rfl, rfl, by decide +kernel, rfl, by decide +kernel, by decide +kernel⟩
theorem ok_Side_tell_pad {f : Addr} {fd : FuncData} (F : Fun K "tell_pad" "Side.tell_pad" s_Side_tell_pad f fd) (T : TxtS K mg C) : FnOk P w K mg base CX0 1 f fd ["self", "pad"] (spTellPad C) := by
  refine F.ok sc_Side_tell_pad (fun vs H Q E h => ?_) (fun cdv A outer s H vs Q E hr h => ?_)
  · obtain ⟨a, v, rfl, _⟩ := h
    rfl
  · obtain ⟨a, v, rfl, S, hn, kq⟩ := h
    obtain ⟨dx, h1⟩ := S.o
    refine ⟨_, (pss_one (ps_expr (pe_bm PySem.F.plainAttrs_list PySem.F.slot_list_append PySem.F.type_list_append mt_append (pe_fld (pv 0) rfl) (pa_cons (pv 1) pa_nil)))), ?_⟩
    refine ⟨_, rfl, a.p, C, dx, _, _, rfl, h1, T.cl_Side, T.n_own, fS_own, .inl ⟨rfl, _, SqL.of S.own⟩, _, rfl, a.own, _, _, rfl, rfl, S.own, (by rw [List.length_map]; exact lt_line (by omega)), ?_⟩
    have e : a.ow.map nI ++ [nI v] = (a.ow ++ [v]).map nI := by rw [List.map_append]; rfl
    rw [e]
    exact kq _ { a with ow := a.ow ++ [v] } (S.set_own _) rfl rfl ⟨fun b h => .inl h, fun b h => .inl h, Kp.refl.upd (.inr (.inl rfl))⟩
abbrev s_Side_tell_fault : Stmt := inClass (top 21) 7
theorem sc_Side_tell_fault : FnScope ["self", "place", "byte"] ["self", "place", "byte"] (defScope s_Side_tell_fault) := ⟨rfl, rfl, rfl, by decide +kernel, rfl, by decide +kernel, by decide +kernel⟩
theorem ok_Side_tell_fault {f : Addr} {fd : FuncData} (F : Fun K "tell_fault" "Side.tell_fault" s_Side_tell_fault f fd) (T : TxtS K mg C)
    (G_Side_frames_run : MethF P w K mg base 1 C "frames_run" ["self"] (spSRun C)) : FnOk P w K mg base CX0 2 f fd ["self", "place", "byte"] (spTellFault C) := by
  refine F.ok sc_Side_tell_fault (fun vs H Q E h => ?_) (fun cdv A outer s H vs Q E hr h => ?_)
  · obtain ⟨a, k, v, rfl, _⟩ := h
    rfl
  · obtain ⟨a, k, v, rfl, S, hn, kq⟩ := h
    obtain ⟨dx, h1⟩ := S.o
    refine ⟨_, (pss_one (ps_expr (pe_bm PySem.F.plainAttrs_list PySem.F.slot_list_append PySem.F.type_list_append mt_append (pe_fld (pv 0) rfl) (pa_cons (pe_tup (pa_cons (pe_methF0 (pv 0) T.cl_Side G_Side_frames_run (hr.mono (by decide))) (pa_cons (pv 1) (pa_cons (pv 2) pa_nil)))) pa_nil)))), ?_⟩
    refine ⟨_, rfl, a.p, C, dx, _, _, rfl, h1, T.cl_Side, T.n_faults, fS_faults, .inl ⟨rfl, _, SqL.of S.flt⟩, _, rfl, a.p, dx, _, rfl, h1, fS_no_frames_run, a, rfl, S, _, rfl, _, rfl, (by show 3 ≤ sizeLine; decide), fun t ht => ?_⟩
    have S2 : SideAt C (upd H t (.tup [nI a.us.length, nI k, nI v])) a := S.same fun b o e => by rw [upd_ne (ne_of_none e ht)]; exact e
    refine ⟨a.flt, _, _, rfl, rfl, S2.flt, (by rw [refs_len]; exact lt_line (by omega)), ?_⟩
    refine kq _ { a with fs := a.fs ++ [(t, (a.us.length, k, v))] } (S2.add_fault upd_same) ?_ rfl ⟨fun b h => .inl h, fun b h => ?_, (Kp.refl.new ht).upd (.inr (.inr (.inr (.inr (.inr rfl)))))⟩
    · show SD.mk _ _ _ _ _ _ ((a.fs ++ [(t, (a.us.length, k, v))]).map (·.2)) _ = _
      rw [List.map_append]
      rfl
    · rcases h with h | h | ⟨r, h, e⟩
      · exact .inl (.inl h)
      · exact .inl (.inr (.inl h))
      · rcases List.mem_append.mp h with c | c
        · exact .inl (.inr (.inr ⟨r, c, e⟩))
        · obtain rfl := List.mem_singleton.mp c
          exact .inr (e ▸ ht)
abbrev s_Side_is_guess : Stmt := inClass (top 21) 8
theorem sc_Side_is_guess : FnScope ["self", "t"] ["self", "t"] (defScope s_Side_is_guess) := ⟨rfl, rfl, rfl, by decide +kernel, rfl, by decide +kernel, by decide +kernel⟩
theorem ok_Side_is_guess {f : Addr} {fd : FuncData} (F : Fun K "is_guess" "Side.is_guess" s_Side_is_guess f fd) (T : TxtS K mg C) : FnOk P w K mg base CX0 1 f fd ["self", "t"] (spGuess C) := by
  refine F.ok sc_Side_is_guess (fun vs H Q E h => ?_) (fun cdv A outer s H vs Q E hr h => ?_)
  · obtain ⟨a, t, rfl, _⟩ := h
    rfl
  · obtain ⟨a, t, rfl, S, kq⟩ := h
    obtain ⟨dx, h1⟩ := S.o
    have hu := hu_of hr
    refine ⟨_, (pss_one (ps_ret (pe_cmp (pc_dnotin hu (pv 1) (pe_fld (pv 0) rfl)) rfl))), ?_⟩
    refine ⟨_, rfl, _, rfl, a.p, C, dx, _, _, rfl, h1, T.cl_Side, T.n_known, fS_known, a.known, _, rfl, DGet.k (k := .inl (t : Int)) S.known, ?_⟩
    rw [val_kn, Option.isSome_map]
    exact kq
abbrev s_Side_others_pad : Stmt := inClass (top 21) 9
theorem sc_Side_others_pad : FnScope ["self", "t"] ["self", "t"] (defScope s_Side_others_pad) := ⟨rfl, rfl, rfl, by decide +kernel, rfl, by decide +kernel, by decide +kernel⟩
theorem ok_Side_others_pad {f : Addr} {fd : FuncData} (F : Fun K "others_pad" "Side.others_pad" s_Side_others_pad f fd) (T : TxtS K mg C) : FnOk P w K mg base CX0 1 f fd ["self", "t"] (spOthers C) := by
  refine F.ok sc_Side_others_pad (fun vs H Q E h => ?_) (fun cdv A outer s H vs Q E hr h => ?_)
  · obtain ⟨a, t, rfl, _⟩ := h
    rfl
  · obtain ⟨a, t, rfl, S, ht, kq⟩ := h
    obtain ⟨dx, h1⟩ := S.o
    have hu := hu_of hr
    have dg := DGet.k (k := .inl (t : Int)) S.known
    refine ⟨_, (pss_cons (ps_if (pt_cmp (pc_din hu (pv 1) (pe_fld (pv 0) rfl))) (pss_one (ps_ret (pe_dget hu (pe_fld (pv 0) rfl) (pv 1) (fun _ _ => rfl)))) pss_nil)
      (pss_cons (ps_if (pt_cmpR op_eq (pv 1) pe_int (nomark _)) (pss_one (ps_ret pe_int)) pss_nil)
      (pss_one (ps_ret (pe_ix ix_list (pe_fld (pv 0) rfl) (pe_op op_sub (pv 1) pe_int) (fun _ _ => rfl)))))), ?_⟩
    refine ⟨_, rfl, _, rfl, a.p, C, dx, _, _, rfl, h1, T.cl_Side, T.n_known, fS_known, a.known, _, rfl, dg, _, rfl, ?_⟩
    unfold oth at kq
    rw [val_kn] at dg ⊢
    cases c : at? a.had t with
    | some v =>
      rw [c] at dg kq
      exact iteT ⟨_, rfl, a.p, C, dx, _, _, rfl, h1, T.cl_Side, T.n_known, fS_known, _, rfl, a.known, _, rfl, dg, kq⟩
    | none =>
      rw [c] at kq
      refine iteF ⟨_, rfl, rfl, _, rfl, if_dec (fun z => ?_) (fun z => ?_)⟩
      · have e : t = 0 := by have := i_inj z; omega
        rw [if_pos e] at kq
        exact kq
      · have e : t ≠ 0 := fun y => z (by rw [y]; rfl)
        rw [if_neg e] at kq
        exact ⟨_, rfl, a.p, C, dx, _, _, rfl, h1, T.cl_Side, T.n_used, fS_used, _, rfl, _, _, rfl, rfl, a.used, _, _, _, rfl, rfl, SqL.of S.used, at_of (j := t - 1) (by omega) (map_at (by omega)), kq⟩
abbrev s_Side_pads_together : Stmt := inClass (top 21) 10
theorem sc_Side_pads_together : FnScope ["self", "t", "others"] ["self", "t", "others"] (defScope s_Side_pads_together) := ⟨rfl, rfl, rfl, by decide +kernel, rfl, by decide +kernel, by decide +kernel⟩
theorem ok_Side_pads_together {f : Addr} {fd : FuncData} (F : Fun K "pads_together" "Side.pads_together" s_Side_pads_together f fd) (T : TxtS K mg C)
    (G_together : FunF P w K mg base 1 "together" ["pad_0", "pad_1"] spTogether) : FnOk P w K mg base CX0 2 f fd ["self", "t", "others"] (spPadsT C) := by
  refine F.ok sc_Side_pads_together (fun vs H Q E h => ?_) (fun cdv A outer s H vs Q E hr h => ?_)
  · obtain ⟨a, t, o, rfl, _⟩ := h
    rfl
  · obtain ⟨a, t, o, rfl, S, ht, kq⟩ := h
    obtain ⟨dx, h1⟩ := S.o
    unfold Cs14.pad at kq
    refine ⟨_, (pss_cons (ps_if (pt_cmpR op_eq (pe_fld (pv 0) rfl) pe_int (nomark _)) (pss_one (ps_ret (pe_callF G_together (hr.mono (by decide)) (pa_cons (pe_ix ix_list (pe_fld (pv 0) rfl) (pv 1) (fun _ _ => rfl)) (pa_cons (pv 2) pa_nil))))) pss_nil)
      (pss_one (ps_ret (pe_callF G_together (hr.mono (by decide)) (pa_cons (pv 2) (pa_cons (pe_ix ix_list (pe_fld (pv 0) rfl) (pv 1) (fun _ _ => rfl)) pa_nil)))))), ?_⟩
    refine ⟨_, rfl, a.p, C, dx, _, _, rfl, h1, T.cl_Side, T.n_number, fS_number, rfl, _, rfl, if_dec (fun z => ?_) (fun z => ?_)⟩
    · have e : a.i = 0 := by have := i_inj z; omega
      rw [if_pos e] at kq
      exact ⟨_, rfl, a.p, C, dx, _, _, rfl, h1, T.cl_Side, T.n_own, fS_own, _, rfl, a.own, _, _, _, rfl, rfl, SqL.of S.own, atI_nat (map_at ht), _, rfl, _, _, rfl, kq⟩
    · have e : a.i ≠ 0 := fun y => z (by rw [y]; rfl)
      rw [if_neg e] at kq
      exact ⟨_, rfl, _, rfl, a.p, C, dx, _, _, rfl, h1, T.cl_Side, T.n_own, fS_own, _, rfl, a.own, _, _, _, rfl, rfl, SqL.of S.own, atI_nat (map_at ht), _, _, rfl, kq⟩
end
end TP
namespace TP
open PySem PySem.Spec PyProof.Rows L2
open CsBase (Mach)
open Cs14 (Known at? Letter)
theorem numL_put {m : Mach} {k v : Nat} (hk : k < 128) (hv : v < 256) : numL (CsBase.put m k v) = (numL m).set (5 + k) (nI v) := by
  rw [numL_eq, numL_eq, memL_put hv, Nat.mod_eq_of_lt hk]
  show [nI m.a, nI m.x, nI m.pc, V.int (b01 m.z), V.int (b01 m.c)] ++ (memL m).set k (nI v) = _
  rw [List.set_append_right _ _ (by show 5 ≤ 5 + k; omega)]
  show _ = _ ++ (memL m).set (5 + k - 5) _
  rw [Nat.add_sub_cancel_left]
theorem ixN_num {m : Mach} (g : Good m) {k : Nat} (hk : k < 128) : ixN (numL m).length (5 + (k : Int)) = some (5 + k) := by
  unfold ixN
  rw [numL_length g, if_pos (by omega), if_pos (by omega)]
  congr 1
section
variable {P : Program} {w : World} {K : PySem.W.Frag} {mg : Str → Option Value} {base : Heap} {C : Addr}
abbrev s_Side_state_with_faults : Stmt := inClass (top 21) 11
theorem sc_Side_state_with_faults : FnScope ["self", "t", "numbers", "frame", "place", "byte"] ["self", "t"] (defScope s_Side_state_with_faults) := ⟨rfl, rfl, rfl, by decide +kernel, rfl, by decide +kernel, by decide +kernel⟩
theorem ok_Side_state_with_faults {f : Addr} {fd : FuncData} (F : Fun K "state_with_faults" "Side.state_with_faults" s_Side_state_with_faults f fd) (T : TxtS K mg C) : FnOk P w K mg base CX0 1 f fd ["self", "t"] (spFaulted C) := by
  refine F.ok sc_Side_state_with_faults (fun vs H Q E h => ?_) (fun cdv A outer s H vs Q E hr h => ?_)
  · obtain ⟨a, t, r, rfl, _⟩ := h
    rfl
  · obtain ⟨a, t, r, rfl, S, ht, hfl, kq⟩ := h
    obtain ⟨dx, h1⟩ := S.o
    obtain ⟨hr1, hr2, _⟩ := S.rs r (List.mem_of_getElem? ht)
    refine ⟨_, (pss_cons (ps_set (i := 2) sc_Side_state_with_faults.nd rfl (Or.inl rfl) (pe_callTy call_list_of (by rfl) T.b_list (by decide +kernel) (pa_cons (pe_ix ix_list (pe_fld (pv 0) rfl) (pv 1) (fun _ _ => rfl)) pa_nil)))
      (pss_cons (ps_for PassesOwn.never rfl (pi_list (pe_fld (pv 0) rfl)) (pg_tup (by rfl) (pgs_cons (pg_name (i := 3) sc_Side_state_with_faults.nd rfl (Or.inl rfl)) (pgs_cons (pg_name (i := 4) sc_Side_state_with_faults.nd rfl (Or.inl rfl)) (pgs_cons (pg_name (i := 5) sc_Side_state_with_faults.nd rfl (Or.inl rfl)) pgs_nil)))) (pss_one (ps_if (pt_cmpR op_eq (pv 3) (pv 1) (nomark _)) (pss_one (ps_asg (pv 5) (pg_sub (pv 2) (pe_op op_add (pe_glob (v := .int (5)) rfl T.g_FIRST_BYTE ⟨_, rfl⟩) (pv 4)) set_list))) pss_nil)))
      (pss_one (ps_ret (pv 2))))), ?_⟩
    refine ⟨_, rfl, a.p, C, dx, _, _, rfl, h1, T.cl_Side, T.n_states, fS_states, _, rfl, a.sts, _, _, _, rfl, rfl, SqL.of S.sts, atI_nat (refs_at ht), r.1, _, rfl, .inl (SqL.of hr1), fun q hq => ?_⟩
    have s0 : Same H (upd H q (.lst (numL r.2))) := fun b o e => by rw [upd_ne (ne_of_none e hq)]; exact e
    refine ⟨_, rfl, a.p, C, dx, _, _, rfl, s0 _ _ h1, T.cl_Side, T.n_faults, fS_faults, a.flt, rfl, ⟨_, SqL.of (s0 _ _ S.flt)⟩, ?_⟩
    refine for_list (K := K) (a := a.flt) (xs := refsOf a.fs) (fun i σ H' => ∃ v3 v4 v5 : Option V, σ = [some (.ref a.p), some (nI t), some (.ref q), v3, v4, v5] ∧ H' q = some (.lst (numL (Cs14.faulted r.2 (a.sd.fl.take i) t))) ∧ Good (Cs14.faulted r.2 (a.sd.fl.take i) t) ∧ Same H H')
      ⟨none, none, none, rfl, upd_same, hr2, s0⟩ (fun i σ H' _ ⟨_, _, _, _, _, _, e⟩ => SqL.of (e _ _ S.flt)) ?_ ?_
    · rintro i y σ H' hi ⟨v3, v4, v5, rfl, e1, e2, e3⟩
      cases c : a.fs[i]? with
      | none =>
        unfold refsOf at hi
        rw [List.getElem?_map, c] at hi
        cases hi
      | some z =>
        rw [refs_at c] at hi
        obtain rfl := Option.some.inj hi
        have hz := S.fs z (List.mem_of_getElem? c)
        have cf : a.sd.fl[i]? = some z.2 := by
          show (a.fs.map (·.2))[i]? = _
          rw [List.getElem?_map, c]
          rfl
        obtain ⟨b1, b2⟩ := hfl z.2 (List.mem_of_getElem? cf)
        have sn := faulted_snoc r.2 (a.sd.fl.take i) z.2 t
        rw [← take_next cf] at sn
        refine ⟨z.1, _, rfl, SqT.of (e3 _ _ hz), rfl, _, _, rfl, _, _, rfl, _, _, rfl, rfl, ?_⟩
        refine ⟨_, rfl, _, rfl, rfl, _, rfl, if_dec (fun d => ?_) (fun d => ?_)⟩
        · rw [if_pos (nI_inj d)] at sn
          refine ⟨_, rfl, _, rfl, _, rfl, _, _, rfl, rfl, q, _, _, _, rfl, rfl, e1, ixN_num e2 b1, ?_⟩
          refine ⟨_, _, _, rfl, ?_, ?_, fun b o e => ?_⟩
          · rw [upd_same, sn, numL_put b1 b2]
          · rw [sn]; exact e2.put
          · rw [upd_ne (ne_of_none e hq)]; exact e3 b o e
        · rw [if_neg (fun y => d (congrArg nI y))] at sn
          exact ⟨_, _, _, rfl, by rw [sn]; exact e1, by rw [sn]; exact e2, e3⟩
    · rintro σ H' ⟨v3, v4, v5, rfl, e1, e2, e3⟩
      have ln : a.sd.fl.take (refsOf a.fs).length = a.sd.fl := by
        rw [refs_len]
        exact List.take_of_length_le (by show (a.fs.map (·.2)).length ≤ _; rw [List.length_map]; exact Nat.le_refl _)
      rw [ln] at e1 e2
      exact ⟨_, rfl, kq H' q hq e1 e2 e3⟩
abbrev s_Side_letter : Stmt := inClass (top 21) 13
theorem sc_Side_letter : FnScope ["self", "pads"] ["self"] (defScope s_Side_letter) := ⟨rfl, rfl, rfl, by decide +kernel, rfl, by decide +kernel, by decide +kernel⟩
theorem ok_Side_letter {f : Addr} {fd : FuncData} (F : Fun K "letter" "Side.letter" s_Side_letter f fd) (T : TxtS K mg C)
    (G_Side_frames_known : MethF P w K mg base 2 C "frames_known" ["self"] (spSKnown C)) : FnOk P w K mg base CX0 3 f fd ["self"] (spLetter C) := by
  refine F.ok sc_Side_letter (fun vs H Q E h => ?_) (fun cdv A outer s H vs Q E hr h => ?_)
  · obtain ⟨a, rfl, _⟩ := h
    rfl
  · obtain ⟨a, rfl, S, kq⟩ := h
    obtain ⟨dx, h1⟩ := S.o
    refine ⟨_, (pss_cons (ps_set (i := 1) sc_Side_letter.nd rfl (Or.inl rfl) (pe_slice sl_list (pe_fld (pv 0) rfl) (po_some (pe_fld (pv 0) rfl)) (po_some (pe_op op_add (pe_fld (pv 0) rfl) (pe_glob (v := .int (6)) rfl T.g_MOST_PADS_TOLD ⟨_, rfl⟩)))))
      (pss_one (ps_ret (pe_op op_cat (pe_lst (pa_cons (pe_fld (pv 0) rfl) (pa_cons (pe_fld (pv 0) rfl) (pa_cons (pe_methF0 (pv 0) T.cl_Side G_Side_frames_known (hr.mono (by decide))) (pa_cons (pe_callB call_len_seq (by rfl) T.b_len PySem.boot_len (pa_cons (pv 1) pa_nil)) pa_nil))))) (pv 1))))), ?_⟩
    refine ⟨_, rfl, a.p, C, dx, _, _, rfl, h1, T.cl_Side, T.n_own, fS_own, _, rfl, a.p, C, dx, _, _, rfl, h1, T.cl_Side, T.n_reached, fS_reached, _, rfl, _, rfl, a.p, C, dx, _, _, rfl, h1, T.cl_Side, T.n_reached, fS_reached, _, _, rfl, rfl, _, rfl, a.own, _, rfl, SqL.of S.own, fun q hq => ?_⟩
    have e : cutV (a.ow.map nI) (some (a.acked : Int)) (some ((a.acked : Int) + 6)) = ((a.ow.drop a.acked).take 6).map nI := by
      have := cut_mid (a.ow.map nI) a.acked (a.acked + 6)
      rw [Nat.add_sub_cancel_left, ← List.map_drop, ← List.map_take] at this
      exact this
    rw [e]
    have pl : ((a.ow.drop a.acked).take 6).length ≤ 6 := List.length_take_le _ _
    generalize hps : (a.ow.drop a.acked).take 6 = ps at pl
    have s0 : Same H (upd H q (.lst (ps.map nI))) := fun b o e => by rw [upd_ne (ne_of_none e hq)]; exact e
    have S2 := S.same s0
    obtain ⟨dx2, h2⟩ := S2.o
    refine ⟨_, rfl, a.p, C, dx2, _, _, rfl, h2, T.cl_Side, T.n_number, fS_number, _, rfl, a.p, C, dx2, _, _, rfl, h2, T.cl_Side, T.n_reached, fS_reached, _, rfl, a.p, dx2, _, rfl, h2, fS_no_frames_known, a, rfl, S2,
      _, rfl, q, _, rfl, .inl (SqL.of upd_same), (by show 4 ≤ sizeLine; decide), fun u hu => ?_⟩
    have nqu : q ≠ u := ne_of_none upd_same hu
    refine ⟨_, rfl, u, q, _, _, rfl, rfl, upd_same, (by rw [upd_ne nqu]; exact upd_same), (by rw [List.length_map]; exact le_line (by show 4 + ps.length ≤ _; omega)), fun v hv => ?_⟩
    have s1 := s0.trans fun b o e => (show upd _ u (.lst [nI a.i, nI a.acked, nI (Cs14.upTo a.had), .int (ps.map nI).length]) b = some o by rw [upd_ne (ne_of_none e hu)]; exact e)
    refine kq _ v (s1.free hv) ?_ (s1.trans fun b o e => by rw [upd_ne (ne_of_none e hv)]; exact e)
    rw [upd_same, ltV_eq]
    show some (HO.lst ([nI a.i, nI a.acked, nI (Cs14.upTo a.had), .int (ps.map nI).length] ++ ps.map nI)) = some (HO.lst ([nI a.i, nI a.acked, nI (Cs14.upTo a.had), nI ((a.ow.drop a.acked).take 6).length] ++ ((a.ow.drop a.acked).take 6).map nI))
    rw [hps, List.length_map]
abbrev s_Side_first_wrong : Stmt := inClass (top 21) 15
theorem sc_Side_first_wrong : FnScope ["self", "t"] ["self"] (defScope s_Side_first_wrong) := ⟨rfl, rfl, rfl, by decide +kernel, rfl, by decide +kernel, by decide +kernel⟩
theorem ok_Side_first_wrong {f : Addr} {fd : FuncData} (F : Fun K "first_wrong" "Side.first_wrong" s_Side_first_wrong f fd) (T : TxtS K mg C)
    (G_Side_frames_run : MethF P w K mg base 1 C "frames_run" ["self"] (spSRun C)) (G_Side_others_pad : MethF P w K mg base 1 C "others_pad" ["self", "t"] (spOthers C)) :
    FnOk P w K mg base CX0 2 f fd ["self"] (spWrong C) := by
  refine F.ok sc_Side_first_wrong (fun vs H Q E h => ?_) (fun cdv A outer s H vs Q E hr h => ?_)
  · obtain ⟨a, rfl, _⟩ := h
    rfl
  · obtain ⟨a, rfl, S, kq⟩ := h
    obtain ⟨dx, h1⟩ := S.o
    refine ⟨_, (pss_cons (ps_set (i := 1) sc_Side_first_wrong.nd rfl (Or.inl rfl) pe_int)
      (pss_cons (ps_while PassesOwn.never (PW.pt (pw_and (pt_cmpR op_lt (pv 1) (pe_methF0 (pv 0) T.cl_Side G_Side_frames_run (hr.mono (by decide))) (nomark _)) (pw_and1 (pt_cmpR op_eq (pe_ix ix_list (pe_fld (pv 0) rfl) (pv 1) (fun _ _ => rfl)) (pe_methF (pv 0) T.cl_Side G_Side_others_pad (hr.mono (by decide)) (pa_cons (pv 1) pa_nil)) (nomark _))))) (pss_one (ps_aug (i := 1) sc_Side_first_wrong.nd rfl (.inl rfl) pe_int ip_add)))
      (pss_one (ps_ret (pv 1))))), ?_⟩
    refine ⟨fun k σ H' => ∃ t : Nat, σ = [some (.ref a.p), some (nI t)] ∧ H' = H ∧ k = a.us.length - t ∧ t ≤ a.us.length ∧ ∀ j, j < t → a.us.getD j 0 = oth a.had a.us j, ⟨a.us.length, 0, rfl, rfl, rfl, Nat.zero_le _, fun j hj => absurd hj (Nat.not_lt_zero j)⟩, ?_⟩
    rintro k σ H' ⟨t, rfl, rfl, rfl, ht, ok⟩
    refine ⟨_, rfl, _, rfl, a.p, dx, _, rfl, h1, fS_no_frames_run, a, rfl, S, _, _, rfl, rfl, _, rfl, ?_⟩
    by_cases c : t < a.us.length
    · refine ifY (decide_eq_true (show (t : Int) < a.us.length by omega)) ?_
      refine ⟨_, rfl, a.p, C, dx, _, _, rfl, h1, T.cl_Side, T.n_used, fS_used, _, rfl, a.used, _, _, _, rfl, rfl, SqL.of S.used, atI_nat (map_at c), _, rfl, a.p, dx, _, rfl, h1, fS_no_others_pad, _, rfl, a, t, rfl, S, ht, rfl, _, rfl, if_dec (fun d => ?_) (fun d => ?_)⟩
      · refine ⟨_, fun σ' H'' n => n, _, rfl, _, _, rfl, rfl, a.us.length - (t + 1), by omega, t + 1, rfl, rfl, rfl, c, fun j hj => ?_⟩
        by_cases z : j = t
        · rw [z]; exact nI_inj d
        · exact ok j (by omega)
      · exact ⟨_, rfl, kq t ⟨ht, ok, fun _ z => d (congrArg nI z)⟩⟩
    · refine ifN (decide_eq_false (show ¬ (t : Int) < a.us.length by omega)) ?_
      exact iteF ⟨_, rfl, kq t ⟨ht, ok, fun z => absurd z c⟩⟩
theorem pad_lt {i a b : Nat} (ha : a < 16) (hb : b < 16) : Cs14.pad i a b < 256 := by
  unfold Cs14.pad
  split <;> omega
theorem getD_lt {l : List Nat} (h : ∀ v ∈ l, v < 16) (t : Nat) : l.getD t 0 < 16 := by
  rw [List.getD]
  cases e : l[t]? with
  | none => decide
  | some v => exact h v (List.mem_of_getElem? e)
abbrev s_Side_run_next : Stmt := inClass (top 21) 12
theorem sc_Side_run_next : FnScope ["self", "t", "others"] ["self"] (defScope s_Side_run_next) := ⟨rfl, rfl, rfl, by decide +kernel, rfl, by decide +kernel, by decide +kernel⟩
theorem ok_Side_run_next {f : Addr} {fd : FuncData} (F : Fun K "run_next" "Side.run_next" s_Side_run_next f fd) (T : TxtS K mg C)
    (G_Side_frames_run : MethF P w K mg base 1 C "frames_run" ["self"] (spSRun C)) (G_Side_others_pad : MethF P w K mg base 1 C "others_pad" ["self", "t"] (spOthers C))
    (G_Side_pads_together : MethF P w K mg base 2 C "pads_together" ["self", "t", "others"] (spPadsT C)) (G_Side_state_with_faults : MethF P w K mg base 1 C "state_with_faults" ["self", "t"] (spFaulted C))
    (G_behind_frame : FunF P w K mg base 5 "behind_frame" ["numbers", "pad"] (spBehind K)) :
    FnOk P w K mg base CX0 6 f fd ["self"] (spNext C) := by
  refine F.ok sc_Side_run_next (fun vs H Q E h => ?_) (fun cdv A outer s H vs Q E hr h => ?_)
  · obtain ⟨a, rfl, _⟩ := h
    rfl
  · obtain ⟨a, rfl, S, O, lt, kq⟩ := h
    obtain ⟨dx, h1⟩ := S.o
    have hms : a.rs.length = a.us.length + 1 := (List.length_map (fun r : Addr × Mach => r.2)).symm.trans O.ms
    obtain ⟨r, hr0⟩ : ∃ r, a.rs[a.us.length]? = some r := ⟨_, List.getElem?_eq_getElem (by omega)⟩
    have ho := oth_low O.had O.us a.us.length
    have hpd := pad_lt (i := a.i) (getD_lt O.ow a.us.length) ho
    have nM : nextM a.sd = CsBase.frame (Cs14.faulted r.2 a.sd.fl a.us.length) (Cs14.pad a.i (a.ow.getD a.us.length 0) (oth a.had a.us a.us.length)) := by
      unfold nextM
      have e : a.sd.ms.getD a.sd.us.length (CsBase.loaded []) = r.2 := by
        show (a.rs.map (·.2)).getD a.us.length _ = _
        rw [List.getD, List.getElem?_map, hr0]
        rfl
      rw [e]
      rfl
    refine ⟨_, (pss_cons (ps_set (i := 1) sc_Side_run_next.nd rfl (Or.inl rfl) (pe_methF0 (pv 0) T.cl_Side G_Side_frames_run (hr.mono (by decide))))
      (pss_cons (ps_set (i := 2) sc_Side_run_next.nd rfl (Or.inl rfl) (pe_methF (pv 0) T.cl_Side G_Side_others_pad (hr.mono (by decide)) (pa_cons (pv 1) pa_nil)))
      (pss_cons (ps_expr (pe_bm PySem.F.plainAttrs_list PySem.F.slot_list_append PySem.F.type_list_append mt_append (pe_fld (pv 0) rfl) (pa_cons (pe_callF G_behind_frame (hr.mono (by decide)) (pa_cons (pe_methF (pv 0) T.cl_Side G_Side_state_with_faults (hr.mono (by decide)) (pa_cons (pv 1) pa_nil)) (pa_cons (pe_methF (pv 0) T.cl_Side G_Side_pads_together (hr.mono (by decide)) (pa_cons (pv 1) (pa_cons (pv 2) pa_nil))) pa_nil))) pa_nil)))
      (pss_cons (ps_expr (pe_bm PySem.F.plainAttrs_list PySem.F.slot_list_append PySem.F.type_list_append mt_append (pe_fld (pv 0) rfl) (pa_cons (pv 2) pa_nil)))
      (pss_one (ps_fldaug (pv 0) pe_int in_add)))))), ?_⟩
    refine ⟨_, rfl, a.p, dx, _, rfl, h1, fS_no_frames_run, a, rfl, S, ?_⟩
    refine ⟨_, rfl, a.p, dx, _, rfl, h1, fS_no_others_pad, _, rfl, a, _, rfl, S, Nat.le_refl _, ?_⟩
    refine ⟨_, rfl, a.p, C, dx, _, _, rfl, h1, T.cl_Side, T.n_states, fS_states, .inl ⟨rfl, _, SqL.of S.sts⟩, ?_⟩
    refine ⟨_, rfl, a.p, dx, _, rfl, h1, fS_no_state_with_faults, _, rfl, a, _, r, rfl, S, hr0, O.fl, fun H1 q hq e1 g1 s1 => ?_⟩
    have S1 := S.same s1
    obtain ⟨dx1, h11⟩ := S1.o
    refine ⟨_, rfl, a.p, dx1, _, rfl, h11, fS_no_pads_together, _, rfl, _, rfl, a, _, _, rfl, S1, lt, ?_⟩
    refine ⟨q, _, _, rfl, hpd, SqL.of e1, g1, fun H2 r2 hr2 e2 g2 s2 => ?_⟩
    rw [← nM] at e2 g2
    have S2 := S1.same s2
    refine ⟨a.sts, _, _, rfl, rfl, S2.sts, (by rw [refs_len, hms]; have := O.un; have := O.on; exact lt_line (by show a.us.length + 1 ≤ _; have : a.us.length ≤ a.ow.length := O.un; have : a.ow.length ≤ 1000 := O.on; omega)), ?_⟩
    have S3 := S2.add_state e2 g2 (ne_of_none S1.own hr2).symm (ne_of_none S1.used hr2).symm (ne_of_none S1.sts hr2).symm (ne_of_none S1.flt hr2).symm
    have k3 : Kp a.m H (upd H2 a.sts (.lst (refsOf a.rs ++ [V.ref r2]))) := (Kp.same (s1.trans s2)).upd (.inr (.inr (.inr (.inr (.inl rfl)))))
    generalize upd H2 a.sts (.lst (refsOf a.rs ++ [V.ref r2])) = H3 at S3 k3 ⊢
    obtain ⟨dx3, h3⟩ := S3.o
    refine ⟨_, rfl, a.p, C, dx3, _, _, rfl, h3, T.cl_Side, T.n_used, fS_used, .inl ⟨rfl, _, SqL.of S3.used⟩, _, rfl, a.used, _, _, rfl, rfl, S3.used, (by rw [List.length_map]; exact lt_line (by show a.us.length ≤ _; have : a.us.length ≤ a.ow.length := O.un; have : a.ow.length ≤ 1000 := O.on; omega)), ?_⟩
    have S4 := S3.set_used (a.us ++ [oth a.had a.us a.us.length])
    have k4 : Kp a.m H (upd H3 a.used (.lst ((a.us ++ [oth a.had a.us a.us.length]).map nI))) := k3.upd (.inr (.inr (.inr (.inl rfl))))
    have el : a.us.map nI ++ [nI (oth a.had a.us a.us.length)] = (a.us ++ [oth a.had a.us a.us.length]).map nI := by rw [List.map_append]; rfl
    show sFldAug K (tVar 0) (tC (.int 1)) rAdd "run_in_all" _ _ (upd H3 a.used (.lst (a.us.map nI ++ [nI (oth a.had a.us a.us.length)])))
    rw [el]
    generalize upd H3 a.used (.lst ((a.us ++ [oth a.had a.us a.us.length]).map nI)) = H4 at S4 k4 ⊢
    obtain ⟨dx4, h4⟩ := S4.o
    refine ⟨_, rfl, a.p, C, dx4, _, _, rfl, h4, T.cl_Side, T.n_run_in_all, fS_run_in_all, _, _, rfl, rfl, dx4, _, h4, (by show 8 < 1000; decide), ?_⟩
    have S5 := S4.set_num (dx := dx4) a.acked (a.runs + 1)
    have k5 : Kp a.m H (upd H4 a.p (.ins C dx4 (sF { a with rs := a.rs ++ [(r2, nextM a.sd)], us := a.us ++ [oth a.had a.us a.us.length], runs := a.runs + 1 }))) := k4.upd (.inl rfl)
    have ef : putF "run_in_all" (.int ((a.runs : Int) + 1)) (sF { a with rs := a.rs ++ [(r2, nextM a.sd)], us := a.us ++ [oth a.had a.us a.us.length] }) = sF { a with rs := a.rs ++ [(r2, nextM a.sd)], us := a.us ++ [oth a.had a.us a.us.length], runs := a.runs + 1 } := fS_put_run_in_all
    have gl : Q .non (upd H4 a.p (.ins C dx4 (sF { a with rs := a.rs ++ [(r2, nextM a.sd)], us := a.us ++ [oth a.had a.us a.us.length], runs := a.runs + 1 }))) := by
      refine kq _ _ S5 ?_ rfl ⟨fun b h => .inl h, fun b h => ?_, k5⟩
      · show SD.mk a.i a.ow a.had a.acked (a.us ++ [oth a.had a.us a.us.length]) ((a.rs ++ [(r2, nextM a.sd)]).map (·.2)) (a.fs.map (·.2)) (a.runs + 1) = _
        rw [List.map_append]
        rfl
      · rcases h with h | ⟨y, h, e⟩ | h
        · exact .inl (.inl h)
        · rcases List.mem_append.mp h with c | c
          · exact .inl (.inr (.inl ⟨y, c, e⟩))
          · obtain rfl := List.mem_singleton.mp c
            exact .inr (e ▸ s1.free hr2)
        · exact .inl (.inr (.inr h))
    rw [← ef] at gl
    exact gl
abbrev s_Side_run_again : Stmt := inClass (top 21) 16
theorem sc_Side_run_again : FnScope ["self", "first", "count", "again"] ["self", "first"] (defScope s_Side_run_again) := ⟨rfl, rfl, rfl, by decide +kernel, rfl, by decide +kernel, by decide +kernel⟩
theorem ok_Side_run_again {f : Addr} {fd : FuncData} (F : Fun K "run_again" "Side.run_again" s_Side_run_again f fd) (T : TxtS K mg C)
    (G_Side_frames_run : MethF P w K mg base 1 C "frames_run" ["self"] (spSRun C)) (G_Side_run_next : MethF P w K mg base 6 C "run_next" ["self"] (spNext C)) :
    FnOk P w K mg base CX0 7 f fd ["self", "first"] (spAgain C) := by
  refine F.ok sc_Side_run_again (fun vs H Q E h => ?_) (fun cdv A outer s H vs Q E hr h => ?_)
  · obtain ⟨a, w, rfl, _⟩ := h
    rfl
  · obtain ⟨a, w, rfl, S, O, hw, kq⟩ := h
    obtain ⟨dx, h1⟩ := S.o
    have oun : a.us.length ≤ a.ow.length := O.un
    have oon : a.ow.length ≤ 1000 := O.on
    refine ⟨_, (pss_cons (ps_set (i := 2) sc_Side_run_again.nd rfl (Or.inl rfl) (pe_op op_sub (pe_methF0 (pv 0) T.cl_Side G_Side_frames_run (hr.mono (by decide))) (pv 1)))
      (pss_cons (ps_fld (pv 0) (pe_slice sl_list (pe_fld (pv 0) rfl) po_none (po_some (pv 1))) rfl)
      (pss_cons (ps_fld (pv 0) (pe_slice sl_list (pe_fld (pv 0) rfl) po_none (po_some (pe_op op_add (pv 1) pe_int))) rfl)
      (pss_cons (ps_for PassesOwn.never rfl (pi_range1 rfl T.b_range (pa_cons (pv 2) pa_nil)) (pg_name (i := 3) sc_Side_run_again.nd rfl (Or.inl rfl)) (pss_one (ps_expr (pe_methF0 (pv 0) T.cl_Side G_Side_run_next (hr.mono (by decide))))))
      (pss_one (ps_ret (pv 2))))))), ?_⟩
    refine ⟨_, rfl, a.p, dx, _, rfl, h1, fS_no_frames_run, a, rfl, S, _, rfl, _, _, rfl, rfl, ?_⟩
    refine ⟨_, rfl, a.p, C, dx, _, _, rfl, h1, T.cl_Side, T.n_used, fS_used, _, rfl, _, rfl, a.used, _, rfl, SqL.of S.used, fun u hu => ?_⟩
    have e1 : cutV (a.us.map nI) none (some (w : Int)) = (a.us.take w).map nI := (cut_to _ _).trans List.map_take.symm
    rw [e1]
    refine ⟨_, rfl, a.p, C, dx, _, rfl, (by rw [upd_ne (ne_of_none h1 hu)]; exact h1), T.cl_Side, T.n_used, (by show 8 < 1000; decide), ?_⟩
    rw [show putF "used" (.ref u) (sF a) = sF { a with used := u, us := a.us.take w } from fS_put_used]
    have S2 := S.new_used (dx := dx) hu (a.us.take w)
    have k2 : Kp a.m H (upd (upd H u (.lst ((a.us.take w).map nI))) a.p (.ins C dx (sF { a with used := u, us := a.us.take w }))) := (Kp.refl.new hu).upd (.inl rfl)
    have tk2 : ∀ b, upd (upd H u (.lst ((a.us.take w).map nI))) a.p (.ins C dx (sF { a with used := u, us := a.us.take w })) b = none → H b = none := fun b e => by
      have n1 : b ≠ a.p := fun z => by rw [z, upd_same] at e; cases e
      have n2 : b ≠ u := fun z => by rw [upd_ne n1, z, upd_same] at e; cases e
      rw [upd_ne n1, upd_ne n2] at e
      exact e
    generalize upd (upd H u (.lst ((a.us.take w).map nI))) a.p (.ins C dx (sF { a with used := u, us := a.us.take w })) = H2 at S2 k2 tk2 ⊢
    obtain ⟨dx2, h2⟩ := S2.o
    refine ⟨_, rfl, a.p, C, dx2, _, _, rfl, h2, T.cl_Side, T.n_states, fS_states, _, rfl, _, _, rfl, rfl, _, rfl, a.sts, _, rfl, SqL.of S2.sts, fun v hv => ?_⟩
    have e2 : cutV (refsOf ({ a with used := u, us := a.us.take w } : SideA).rs) none (some ((w : Int) + 1)) = refsOf (a.rs.take (w + 1)) := (cut_to (refsOf a.rs) (w + 1)).trans (refs_take _ _)
    rw [e2]
    refine ⟨_, rfl, a.p, C, dx2, _, rfl, (by rw [upd_ne (ne_of_none h2 hv)]; exact h2), T.cl_Side, T.n_states, (by show 8 < 1000; decide), ?_⟩
    rw [show putF "states" (.ref v) (sF { a with used := u, us := a.us.take w }) = sF { a with used := u, us := a.us.take w, sts := v, rs := a.rs.take (w + 1) } from fS_put_states]
    have S3 := S2.new_sts (dx := dx2) hv (w := a.rs.take (w + 1)) fun r h => List.mem_of_mem_take h
    have k3 : Kp a.m H (upd (upd H2 v (.lst (refsOf (a.rs.take (w + 1))))) a.p (.ins C dx2 (sF { a with used := u, us := a.us.take w, sts := v, rs := a.rs.take (w + 1) }))) := (k2.new hv).upd (.inl rfl)
    generalize upd (upd H2 v (.lst (refsOf (a.rs.take (w + 1))))) a.p (.ins C dx2 (sF { a with used := u, us := a.us.take w, sts := v, rs := a.rs.take (w + 1) })) = H3 at S3 k3 ⊢
    have st3 : Stp H a.ft H3 ({ a with used := u, us := a.us.take w, sts := v, rs := a.rs.take (w + 1) } : SideA).ft := by
      refine ⟨fun b h => ?_, fun b h => ?_, k3⟩
      · rcases h with h | h | h | h | h | h
        · exact .inl (.inl h)
        · exact .inl (.inr (.inl h))
        · exact .inl (.inr (.inr (.inl h)))
        · exact .inr (h ▸ hu)
        · exact .inr (h ▸ tk2 v hv)
        · exact .inl (.inr (.inr (.inr (.inr (.inr h)))))
      · rcases h with (h | h | h | h | h | h) | ⟨r, h, e⟩ | h
        · exact .inl (.inl (.inl h))
        · exact .inl (.inl (.inr (.inl h)))
        · exact .inl (.inl (.inr (.inr (.inl h))))
        · exact .inr (h ▸ hu)
        · exact .inr (h ▸ tk2 v hv)
        · exact .inl (.inl (.inr (.inr (.inr (.inr (.inr h))))))
        · exact .inl (.inr (.inl ⟨r, List.mem_of_mem_take h, e⟩))
        · exact .inl (.inr (.inr h))
    have d3 : ({ a with used := u, us := a.us.take w, sts := v, rs := a.rs.take (w + 1) } : SideA).sd = cut w a.sd := by
      show SD.mk a.i a.ow a.had a.acked (a.us.take w) ((a.rs.take (w + 1)).map (·.2)) (a.fs.map (·.2)) a.runs = SD.mk a.i a.ow a.had a.acked (a.us.take w) ((a.rs.map (·.2)).take (w + 1)) (a.fs.map (·.2)) a.runs
      rw [List.map_take]
    have O3 := O.cut (w := w) hw
    have ec : ((a.us.length : Int) - (w : Int)) = ((a.us.length - w : Nat) : Int) := by omega
    refine ⟨_, rfl, (a.us.length : Int) - (w : Int), rfl, by omega, by omega, ?_⟩
    rw [ec]
    refine for_range (n := a.us.length - w) (fun k σ H' => ∃ (z : Option V) (b : SideA), σ = [some (.ref a.p), some (nI w), some (nI (a.us.length - w)), z] ∧ SideAt C H' b ∧ b.sd = nextN k (cut w a.sd) ∧ b.p = a.p ∧ Stp H a.ft H' b.ft) ⟨none, _, ?_, S3, d3, rfl, st3⟩ ?_ ?_
    · show [some (V.ref a.p), some (nI w), some (V.int ((a.us.length : Int) - (w : Int))), none] = _
      rw [ec]
    · rintro k σ H' hk ⟨z, b, rfl, Sb, db, pb, stb⟩
      obtain ⟨dxb, hb⟩ := Sb.o
      rw [pb] at hb
      have ul := nextN_usl k (cut w a.sd)
      have cl : (cut w a.sd).us.length = w := by
        show (a.us.take w).length = w
        rw [List.length_take]
        omega
      have ol := (nextN_data k (cut w a.sd)).2.1
      have Ob : SOk b.sd := by
        rw [db]
        refine O3.nextN ?_
        rw [cl]
        show w + k ≤ a.ow.length
        omega
      have lt : b.us.length < b.ow.length := by
        show b.sd.us.length < b.sd.ow.length
        rw [db, ul, cl, ol]
        show w + k < a.ow.length
        omega
      refine ⟨_, rfl, a.p, dxb, _, rfl, hb, fS_no_run_next, b, congrArg (fun z => [V.ref z]) pb.symm, Sb, Ob, lt, fun H4 c Sc dc pc stc => ?_⟩
      refine ⟨_, c, rfl, Sc, ?_, pc.trans pb, Stp.trans (fun _ h => .inl h) stb stc⟩
      rw [dc, db]
      rfl
    · rintro σ H' ⟨z, b, rfl, Sb, db, pb, stb⟩
      exact ⟨_, rfl, kq H' b Sb db pb stb⟩
abbrev s_Side_take : Stmt := inClass (top 21) 14
theorem sc_Side_take : FnScope ["self", "letter"] ["self", "letter"] (defScope s_Side_take) := ⟨rfl, rfl, rfl, by decide +kernel, rfl, by decide +kernel, by decide +kernel⟩
theorem ok_Side_take {f : Addr} {fd : FuncData} (F : Fun K "take" "Side.take" s_Side_take f fd) (T : TxtS K mg C)
    (G_learn : FunF P w K mg base 1 "learn" ["known", "letter"] spLearn) (G_Side_first_wrong : MethF P w K mg base 2 C "first_wrong" ["self"] (spWrong C)) (G_Side_run_again : MethF P w K mg base 7 C "run_again" ["self", "first"] (spAgain C)) :
    FnOk P w K mg base CX0 8 f fd ["self", "letter"] (spTake C) := by
  refine F.ok sc_Side_take (fun vs H Q E h => ?_) (fun cdv A outer s H vs Q E hr h => ?_)
  · obtain ⟨a, l, L, rfl, _⟩ := h
    rfl
  · obtain ⟨a, l, L, rfl, S, O, hl, nl, LO, hn, kq⟩ := h
    obtain ⟨dx, h1⟩ := S.o
    refine ⟨_, (pss_cons (ps_fld (pv 0) (pe_callB (call_max2 rfl) (by rfl) T.b_max (by decide +kernel) (pa_cons (pe_fld (pv 0) rfl) (pa_cons (pe_ix ix_list (pv 1) (pe_glob (v := .int (2)) rfl T.g_LETTER_KNOWN ⟨_, rfl⟩) (fun _ _ => rfl)) pa_nil))) rfl)
      (pss_cons (ps_expr (pe_callF G_learn (hr.mono (by decide)) (pa_cons (pe_fld (pv 0) rfl) (pa_cons (pv 1) pa_nil))))
      (pss_one (ps_ret (pe_methF (pv 0) T.cl_Side G_Side_run_again (hr.mono (by decide)) (pa_cons (pe_methF0 (pv 0) T.cl_Side G_Side_first_wrong (hr.mono (by decide))) pa_nil)))))), ?_⟩
    refine ⟨_, rfl, a.p, C, dx, _, _, rfl, h1, T.cl_Side, T.n_reached, fS_reached, _, rfl, l, _, _, _, rfl, rfl, SqL.of hl, at_of (j := 2) rfl (by rw [ltV_eq]; rfl), _, _, rfl, _, rfl, a.p, C, dx, _, rfl, h1, T.cl_Side, T.n_reached, (by show 8 < 1000; decide), ?_⟩
    have em : (if (L.knows : Int) > (a.acked : Int) then (L.knows : Int) else (a.acked : Int)) = ((max a.acked L.knows : Nat) : Int) := by split <;> omega
    rw [em, show putF "reached" (.int ((max a.acked L.knows : Nat) : Int)) (sF a) = sF { a with acked := max a.acked L.knows } from fS_put_reached]
    have S1 := S.set_num (dx := dx) (max a.acked L.knows) a.runs
    have k1 : Kp a.m H (upd H a.p (.ins C dx (sF { a with acked := max a.acked L.knows }))) := Kp.refl.upd (.inl rfl)
    have nlp : l ≠ a.p := fun z => nl (.inl z)
    have hl1 : upd H a.p (.ins C dx (sF { a with acked := max a.acked L.knows })) l = some (.lst (ltV L)) := by rw [upd_ne nlp]; exact hl
    have h11 : upd H a.p (.ins C dx (sF { a with acked := max a.acked L.knows })) a.p = some (.ins C dx (sF { a with acked := max a.acked L.knows })) := upd_same
    generalize upd H a.p (.ins C dx (sF { a with acked := max a.acked L.knows })) = H1 at S1 k1 hl1 h11 ⊢
    have fn := LO.fn
    refine ⟨_, rfl, a.p, C, dx, _, _, rfl, h11, T.cl_Side, T.n_known, fS_known, _, rfl, a.known, l, a.had, L, rfl, S1.known, hl1, LO.pn, by omega, by omega, fun H2 e2 k2 => ?_⟩
    have S2 := S1.set_known e2 k2
    obtain ⟨dx2, h2⟩ := S2.o
    refine ⟨_, rfl, a.p, dx2, _, rfl, h2, fS_no_run_again, _, rfl, a.p, dx2, _, rfl, h2, fS_no_first_wrong, { a with acked := max a.acked L.knows, had := Cs14.learn a.had L.first L.pads }, rfl, S2, fun w W => ?_⟩
    have O2 : SOk ({ a with acked := max a.acked L.knows, had := Cs14.learn a.had L.first L.pads } : SideA).sd := ⟨O.ow, learn_low O.had LO.pv, O.us, O.fl, O.ms, O.i, O.fn, O.un, O.on⟩
    refine ⟨{ a with acked := max a.acked L.knows, had := Cs14.learn a.had L.first L.pads }, w, rfl, S2, O2, W.le, fun H3 b Sb db pb stb => ?_⟩
    refine kq w W H3 b Sb db pb (Stp.trans (F1 := ({ a with acked := max a.acked L.knows, had := Cs14.learn a.had L.first L.pads } : SideA).ft) (fun _ h => .inl h) ⟨fun b h => .inl h, fun b h => .inl h, k1.trans (k2.mono fun b h => ?_)⟩ stb)
    exact .inr (.inr (.inl h))
end
end TP
namespace TP
open PySem PySem.Spec PyProof.Rows L2
open CsBase (Mach)
open Cs14 (Known at? Letter)
/-- a field stored: all else stays -/
structure Sto (H Hx : Hp) (p C dx : Addr) (fs : List (Str × V)) : Prop where
  o : Hx p = some (.ins C dx fs)
  k : Kp (S1 p) H Hx
theorem Sto.put {H Hx : Hp} {p C dx : Addr} {fs gs : List (Str × V)} (s : Sto H Hx p C dx fs) : Sto H (upd Hx p (.ins C dx gs)) p C dx gs := ⟨upd_same, s.k.upd rfl⟩
theorem Sto.new {H Hx : Hp} {p C dx : Addr} {fs : List (Str × V)} (s : Sto H Hx p C dx fs) {q : Addr} {o : HO} (hq : Hx q = none) : Sto H (upd Hx q o) p C dx fs := ⟨by rw [upd_ne (ne_of_none s.o hq)]; exact s.o, s.k.new hq⟩
theorem Sto.same {H Hx Hy : Hp} {p C dx : Addr} {fs : List (Str × V)} (s : Sto H Hx p C dx fs) (e : Same Hx Hy) : Sto H Hy p C dx fs := ⟨e _ _ s.o, s.k.trans (Kp.same e)⟩
theorem Sto.free {H Hx : Hp} {p C dx : Addr} {fs : List (Str × V)} (s : Sto H Hx p C dx fs) {q : Addr} (hq : Hx q = none) : H q = none := free_of_Kp s.k (ne_of_none s.o hq).symm hq
/-- another object stays at such a store -/
theorem Sto.keep {H Hx : Hp} {p C dx : Addr} {fs gs : List (Str × V)} (s : Sto H Hx p C dx fs) {q : Addr} {o : HO} (h : Hx q = some o) (n : ∀ x, o ≠ .ins C dx x) : upd Hx p (.ins C dx gs) q = some o := by
  rw [upd_ne (kind_ne h s.o (n _))]
  exact h
theorem kept_new {Hx : Hp} {q x : Addr} {o u : HO} (h : Hx q = some o) (hx : Hx x = none) : upd Hx x u q = some o := by
  rw [upd_ne (ne_of_none h hx)]
  exact h
theorem rep_zero (d : Nat) : (List.replicate d [V.int 0]).flatten = (List.replicate d 0).map nI := by
  induction d with
  | zero => rfl
  | succ d ih => rw [List.replicate_succ, List.flatten_cons, ih, List.replicate_succ]; rfl
section
variable {P : Program} {w : World} {K : PySem.W.Frag} {mg : Str → Option Value} {base : Heap} {C : Addr}
abbrev s_Side_init : Stmt := inClass (top 21) 0
theorem sc_Side_init : FnScope ["self", "number", "delay", "some_bytes"] ["self", "number", "delay", "some_bytes"] (defScope s_Side_init) := ⟨rfl, rfl, rfl, by decide +kernel, rfl, by decide +kernel, by decide +kernel⟩
theorem ok_Side_init {f : Addr} {fd : FuncData} (F : Fun K "__init__" "Side.__init__" s_Side_init f fd) (T : TxtS K mg C)
    (G_known_at_first : FunF P w K mg base 1 "known_at_first" ["delay"] spKnown) (G_loaded : FunF P w K mg base 1 "loaded" ["some_bytes"] spLoaded) :
    FnOk P w K mg base CX0 2 f fd ["self", "number", "delay", "some_bytes"] (spSInit C) := by
  refine F.ok sc_Side_init (fun vs H Q E h => ?_) (fun cdv A outer s H vs Q E hr h => ?_)
  · obtain ⟨p, dx, l, i, d, bs, rfl, _⟩ := h
    rfl
  · obtain ⟨p, dx, l, i, d, bs, rfl, hp, hl, hd, hn, hb, kq⟩ := h
    refine ⟨_, (pss_cons (ps_fld (pv 0) (pv 1) rfl)
      (pss_cons (ps_fld (pv 0) (pe_op op_rep (pe_lst (pa_cons pe_int pa_nil)) (pv 2)) rfl)
      (pss_cons (ps_fld (pv 0) (pe_callF G_known_at_first (hr.mono (by decide)) (pa_cons (pv 2) pa_nil)) rfl)
      (pss_cons (ps_fld (pv 0) (pv 2) rfl)
      (pss_cons (ps_fld (pv 0) (pe_lst pa_nil) rfl)
      (pss_cons (ps_fld (pv 0) (pe_lst (pa_cons (pe_callF G_loaded (hr.mono (by decide)) (pa_cons (pv 3) pa_nil)) pa_nil)) rfl)
      (pss_cons (ps_fld (pv 0) (pe_lst pa_nil) rfl)
      (pss_one (ps_fld (pv 0) pe_int rfl))))))))), ?_⟩
    have s0 : Sto H H p C dx [] := ⟨hp, Kp.refl⟩
    refine ⟨_, rfl, _, rfl, p, C, dx, _, rfl, hp, T.cl_Side, T.n_number, (by show 0 < 1000; decide), ?_⟩
    rw [show putF (Str.ofString "number") (nI i) [] = ([("number", nI i)] : List (Str × V)) from rfl]
    have s1 := s0.put (gs := [("number", nI i)])
    have l1 := s0.keep (gs := [("number", nI i)]) hl nofun
    generalize upd H p (.ins C dx [("number", nI i)]) = H1 at s1 l1 ⊢
    -- own
    refine ⟨(by show 1 ≤ sizeLine; decide), fun t ht => ?_⟩
    refine ⟨_, rfl, t, d, _, rfl, rfl, upd_same, (by omega), (by omega), (by show 1 * ((d : Int)).toNat ≤ sizeLine; exact le_line (by omega)), fun x hx => ?_⟩
    rw [show ((d : Int)).toNat = d from rfl, rep_zero]
    have s2 := s1.new (o := .lst [.int 0]) ht
    have fx := s2.free hx
    have s2' := s2.new (o := .lst ((List.replicate d 0).map nI)) hx
    have l2 := kept_new (u := .lst ((List.replicate d 0).map nI)) (kept_new (u := .lst [.int 0]) l1 ht) hx
    have o2 : upd (upd H1 t (.lst [.int 0])) x (.lst ((List.replicate d 0).map nI)) x = some (.lst ((List.replicate d 0).map nI)) := upd_same
    generalize upd (upd H1 t (.lst [.int 0])) x (.lst ((List.replicate d 0).map nI)) = H2 at s2' l2 o2 ⊢
    refine ⟨_, rfl, p, C, dx, _, rfl, s2'.o, T.cl_Side, T.n_own, (by show 1 < 1000; decide), ?_⟩
    rw [fS_new1]
    have s3 := s2'.put (gs := [("number", nI i), ("own", .ref x)])
    have l3 := s2'.keep (gs := [("number", nI i), ("own", .ref x)]) l2 nofun
    have o3 := s2'.keep (gs := [("number", nI i), ("own", .ref x)]) o2 nofun
    generalize upd H2 p (.ins C dx [("number", nI i), ("own", .ref x)]) = H3 at s3 l3 o3 ⊢
    -- known
    refine ⟨_, rfl, d, rfl, (by omega), fun H4 k hk e4 m4 => ?_⟩
    have fk := s3.free hk
    have s4 := s3.same m4
    have l4 := m4 _ _ l3
    have o4 := m4 _ _ o3
    refine ⟨_, rfl, p, C, dx, _, rfl, s4.o, T.cl_Side, T.n_known, (by show 2 < 1000; decide), ?_⟩
    rw [fS_new2]
    have s5 := s4.put (gs := [("number", nI i), ("own", .ref x), ("known", .ref k)])
    have l5 := s4.keep (gs := [("number", nI i), ("own", .ref x), ("known", .ref k)]) l4 nofun
    have o5 := s4.keep (gs := [("number", nI i), ("own", .ref x), ("known", .ref k)]) o4 nofun
    have k5 := s4.keep (gs := [("number", nI i), ("own", .ref x), ("known", .ref k)]) e4 nofun
    generalize upd H4 p (.ins C dx [("number", nI i), ("own", .ref x), ("known", .ref k)]) = H5 at s5 l5 o5 k5 ⊢
    -- reached
    refine ⟨_, rfl, _, rfl, p, C, dx, _, rfl, s5.o, T.cl_Side, T.n_reached, (by show 3 < 1000; decide), ?_⟩
    rw [fS_new3]
    have s6 := s5.put (gs := [("number", nI i), ("own", .ref x), ("known", .ref k), ("reached", nI d)])
    have l6 := s5.keep (gs := [("number", nI i), ("own", .ref x), ("known", .ref k), ("reached", nI d)]) l5 nofun
    have o6 := s5.keep (gs := [("number", nI i), ("own", .ref x), ("known", .ref k), ("reached", nI d)]) o5 nofun
    have k6 := s5.keep (gs := [("number", nI i), ("own", .ref x), ("known", .ref k), ("reached", nI d)]) k5 nofun
    generalize upd H5 p (.ins C dx [("number", nI i), ("own", .ref x), ("known", .ref k), ("reached", nI d)]) = H6 at s6 l6 o6 k6 ⊢
    -- used
    refine ⟨(by show 0 ≤ sizeLine; decide), fun u hu => ?_⟩
    have fu := s6.free hu
    have s7 := s6.new (o := .lst []) hu
    have l7 := kept_new (u := .lst []) l6 hu
    have o7 := kept_new (u := .lst []) o6 hu
    have k7 := kept_new (u := .lst []) k6 hu
    have u7 : upd H6 u (.lst []) u = some (.lst []) := upd_same
    generalize upd H6 u (.lst []) = H7 at s7 l7 o7 k7 u7 ⊢
    refine ⟨_, rfl, p, C, dx, _, rfl, s7.o, T.cl_Side, T.n_used, (by show 4 < 1000; decide), ?_⟩
    rw [fS_new4]
    have s8 := s7.put (gs := [("number", nI i), ("own", .ref x), ("known", .ref k), ("reached", nI d), ("used", .ref u)])
    have l8 := s7.keep (gs := [("number", nI i), ("own", .ref x), ("known", .ref k), ("reached", nI d), ("used", .ref u)]) l7 nofun
    have o8 := s7.keep (gs := [("number", nI i), ("own", .ref x), ("known", .ref k), ("reached", nI d), ("used", .ref u)]) o7 nofun
    have k8 := s7.keep (gs := [("number", nI i), ("own", .ref x), ("known", .ref k), ("reached", nI d), ("used", .ref u)]) k7 nofun
    have u8 := s7.keep (gs := [("number", nI i), ("own", .ref x), ("known", .ref k), ("reached", nI d), ("used", .ref u)]) u7 nofun
    have nxu : x ≠ u := ne_of_none o6 hu
    generalize upd H7 p (.ins C dx [("number", nI i), ("own", .ref x), ("known", .ref k), ("reached", nI d), ("used", .ref u)]) = H8 at s8 l8 o8 k8 u8 ⊢
    -- states
    refine ⟨_, rfl, l, bs, rfl, l8, hn, hb, fun H9 r hr9 e9 m9 => ?_⟩
    have fr := s8.free hr9
    have nxr : r ≠ x := (ne_of_none o8 hr9).symm
    have nur : r ≠ u := (ne_of_none u8 hr9).symm
    have s9 := s8.same m9
    have o9 := m9 _ _ o8
    have k9 := m9 _ _ k8
    have u9 := m9 _ _ u8
    refine ⟨(by show 1 ≤ sizeLine; decide), fun q hq => ?_⟩
    have fq := s9.free hq
    have nxq := ne_of_none o9 hq
    have nuq := ne_of_none u9 hq
    have nrq := ne_of_none e9 hq
    have s10 := s9.new (o := .lst [.ref r]) hq
    have o10 := kept_new (u := .lst [.ref r]) o9 hq
    have k10 := kept_new (u := .lst [.ref r]) k9 hq
    have u10 := kept_new (u := .lst [.ref r]) u9 hq
    have r10 := kept_new (u := .lst [.ref r]) e9 hq
    have q10 : upd H9 q (.lst [.ref r]) q = some (.lst [.ref r]) := upd_same
    generalize upd H9 q (.lst [.ref r]) = H10 at s10 o10 k10 u10 r10 q10 ⊢
    refine ⟨_, rfl, p, C, dx, _, rfl, s10.o, T.cl_Side, T.n_states, (by show 5 < 1000; decide), ?_⟩
    rw [fS_new5]
    have s11 := s10.put (gs := [("number", nI i), ("own", .ref x), ("known", .ref k), ("reached", nI d), ("used", .ref u), ("states", .ref q)])
    have o11 := s10.keep (gs := [("number", nI i), ("own", .ref x), ("known", .ref k), ("reached", nI d), ("used", .ref u), ("states", .ref q)]) o10 nofun
    have k11 := s10.keep (gs := [("number", nI i), ("own", .ref x), ("known", .ref k), ("reached", nI d), ("used", .ref u), ("states", .ref q)]) k10 nofun
    have u11 := s10.keep (gs := [("number", nI i), ("own", .ref x), ("known", .ref k), ("reached", nI d), ("used", .ref u), ("states", .ref q)]) u10 nofun
    have r11 := s10.keep (gs := [("number", nI i), ("own", .ref x), ("known", .ref k), ("reached", nI d), ("used", .ref u), ("states", .ref q)]) r10 nofun
    have q11 := s10.keep (gs := [("number", nI i), ("own", .ref x), ("known", .ref k), ("reached", nI d), ("used", .ref u), ("states", .ref q)]) q10 nofun
    generalize upd H10 p (.ins C dx [("number", nI i), ("own", .ref x), ("known", .ref k), ("reached", nI d), ("used", .ref u), ("states", .ref q)]) = H11 at s11 o11 k11 u11 r11 q11 ⊢
    -- faults
    refine ⟨(by show 0 ≤ sizeLine; decide), fun y hy => ?_⟩
    have fy := s11.free hy
    have nxy := ne_of_none o11 hy
    have nuy := ne_of_none u11 hy
    have nry := ne_of_none r11 hy
    have nqy := ne_of_none q11 hy
    have s12 := s11.new (o := .lst []) hy
    have o12 := kept_new (u := .lst []) o11 hy
    have k12 := kept_new (u := .lst []) k11 hy
    have u12 := kept_new (u := .lst []) u11 hy
    have r12 := kept_new (u := .lst []) r11 hy
    have q12 := kept_new (u := .lst []) q11 hy
    have y12 : upd H11 y (.lst []) y = some (.lst []) := upd_same
    generalize upd H11 y (.lst []) = H12 at s12 o12 k12 u12 r12 q12 y12 ⊢
    refine ⟨_, rfl, p, C, dx, _, rfl, s12.o, T.cl_Side, T.n_faults, (by show 6 < 1000; decide), ?_⟩
    rw [fS_new6]
    have s13 := s12.put (gs := [("number", nI i), ("own", .ref x), ("known", .ref k), ("reached", nI d), ("used", .ref u), ("states", .ref q), ("faults", .ref y)])
    -- run_in_all
    refine ⟨_, rfl, p, C, dx, _, rfl, s13.o, T.cl_Side, T.n_run_in_all, (by show 7 < 1000; decide), ?_⟩
    rw [fS_new7]
    have s14 := s13.put (gs := fS (nI i) (.ref x) (.ref k) (nI d) (.ref u) (.ref q) (.ref y) (nI 0))
    have kp : ∀ b o, H12 b = some o → (∀ z, o ≠ .ins C dx z) → upd (upd H12 p (.ins C dx [("number", nI i), ("own", .ref x), ("known", .ref k), ("reached", nI d), ("used", .ref u), ("states", .ref q), ("faults", .ref y)])) p (.ins C dx (fS (nI i) (.ref x) (.ref k) (nI d) (.ref u) (.ref q) (.ref y) (nI 0))) b = some o :=
      fun b o e n => s13.keep (s12.keep e n) n
    refine kq _ ⟨p, x, k, u, q, y, i, List.replicate d 0, zer d, d, [], [(r, CsBase.loaded bs)], [], 0⟩ rfl ⟨⟨dx, s14.o⟩, kp _ _ o12 nofun, kp _ _ k12 nofun, kp _ _ u12 nofun, kp _ _ q12 nofun, kp _ _ y12 nofun, ?_, nofun, nxu, nxq, nxy, nuq, nuy, nqy⟩ rfl ?_ s14.k
    · intro z hz
      obtain rfl := List.mem_singleton.mp hz
      exact ⟨kp _ _ r12 nofun, good_loaded bs, nxr, nur, nrq, nry⟩
    · rintro b ((h | h | h | h | h | h) | ⟨z, hz, e⟩ | ⟨z, hz, e⟩)
      · exact .inl h
      · exact .inr (h ▸ fx)
      · exact .inr (h ▸ fk)
      · exact .inr (h ▸ fu)
      · exact .inr (h ▸ fq)
      · exact .inr (h ▸ fy)
      · obtain rfl := List.mem_singleton.mp hz
        exact .inr (e ▸ fr)
      · cases hz
end
end TP
namespace TP
open PySem PySem.Spec PyProof.Rows L2
open CsBase (Mach)
open Cs14 (Known at? Letter)
/-! # Who watches -/
structure WD where
  l0 : Known
  l1 : Known
  fm : List Nat
  ms : List Mach
def wcnt (w : WD) : Nat := min (Cs14.upTo w.l0) (Cs14.upTo w.l1)
def wpad (w : WD) (t : Nat) : Nat := Cs14.pad 0 ((at? w.l0 t).getD 0) ((at? w.l1 t).getD 0)
def wnext (w : WD) : WD := { w with fm := w.fm ++ [wpad w w.fm.length], ms := w.ms ++ [CsBase.frame (w.ms.getD w.fm.length (CsBase.loaded [])) (wpad w w.fm.length)] }
def wnextN : Nat → WD → WD
  | 0, w => w
  | n + 1, w => wnext (wnextN n w)
def seeD (w : WD) : WD := wnextN (wcnt w - w.fm.length) w
def readL (w : WD) (L : Letter) : WD := if L.src = 0 then { w with l0 := Cs14.learn w.l0 L.first L.pads } else { w with l1 := Cs14.learn w.l1 L.first L.pads }
theorem wnextN_l (n : Nat) (w : WD) : (wnextN n w).l0 = w.l0 ∧ (wnextN n w).l1 = w.l1 := by
  induction n with
  | zero => exact ⟨rfl, rfl⟩
  | succ n ih => exact ih
theorem wnextN_len (n : Nat) (w : WD) : (wnextN n w).fm.length = w.fm.length + n := by
  induction n with
  | zero => rfl
  | succ n ih =>
    show ((wnextN n w).fm ++ [_]).length = _
    rw [List.length_append, ih]
    rfl
theorem wnextN_ms (n : Nat) (w : WD) : (wnextN n w).ms.length = w.ms.length + n := by
  induction n with
  | zero => rfl
  | succ n ih =>
    show ((wnextN n w).ms ++ [_]).length = _
    rw [List.length_append, ih]
    rfl
structure WA where
  p : Addr
  tl : Addr
  d0 : Addr
  d1 : Addr
  seen : Addr
  sts : Addr
  l0 : Known
  l1 : Known
  fm : List Nat
  rs : List (Addr × Mach)
def WA.wd (a : WA) : WD := ⟨a.l0, a.l1, a.fm, a.rs.map (·.2)⟩
def WA.m (a : WA) (b : Addr) : Prop := b = a.d0 ∨ b = a.d1 ∨ b = a.seen ∨ b = a.sts
def WA.f (a : WA) (b : Addr) : Prop := a.m b ∨ b = a.p ∨ b = a.tl ∨ ∃ r, r ∈ a.rs ∧ r.1 = b
def WA.ft (a : WA) : Ft := ⟨a.m, a.f⟩
def fW (v0 v1 v2 : V) : List (Str × V) := [("told", v0), ("seen", v1), ("states", v2)]
section
variable {v0 v1 v2 w : V}
theorem fW_told : (fW v0 v1 v2).lookup ("told" : Str) = some v0 := getF0
theorem fW_seen : (fW v0 v1 v2).lookup ("seen" : Str) = some v1 := (getF1 (by decide +kernel)).trans (getF0)
theorem fW_states : (fW v0 v1 v2).lookup ("states" : Str) = some v2 := (getF1 (by decide +kernel)).trans ((getF1 (by decide +kernel)).trans (getF0))
theorem fW_no_read : (fW v0 v1 v2).lookup ("read" : Str) = none := (getF1 (by decide +kernel)).trans ((getF1 (by decide +kernel)).trans ((getF1 (by decide +kernel)).trans (rfl)))
theorem fW_no_see_on : (fW v0 v1 v2).lookup ("see_on" : Str) = none := (getF1 (by decide +kernel)).trans ((getF1 (by decide +kernel)).trans ((getF1 (by decide +kernel)).trans (rfl)))
theorem fW_no_mark_behind : (fW v0 v1 v2).lookup ("mark_behind" : Str) = none := (getF1 (by decide +kernel)).trans ((getF1 (by decide +kernel)).trans ((getF1 (by decide +kernel)).trans (rfl)))
theorem fW_put_told : putF "told" w (fW v0 v1 v2) = fW w v1 v2 := storeF0
theorem fW_put_seen : putF "seen" w (fW v0 v1 v2) = fW v0 w v2 := (storeF1 (by decide +kernel)).trans (congrArg _ (storeF0))
theorem fW_put_states : putF "states" w (fW v0 v1 v2) = fW v0 v1 w := (storeF1 (by decide +kernel)).trans (congrArg _ ((storeF1 (by decide +kernel)).trans (congrArg _ (storeF0))))
theorem fW_new1 : putF "seen" v1 ([("told", v0)] : List (Str × V)) = ([("told", v0), ("seen", v1)] : List (Str × V)) := (storeF1 (by decide +kernel)).trans (congrArg _ (rfl))
theorem fW_new2 : putF "states" v2 ([("told", v0), ("seen", v1)] : List (Str × V)) = ([("told", v0), ("seen", v1), ("states", v2)] : List (Str × V)) := (storeF1 (by decide +kernel)).trans (congrArg _ ((storeF1 (by decide +kernel)).trans (congrArg _ (rfl))))
end

def wF (a : WA) : List (Str × V) := fW (.ref a.tl) (.ref a.seen) (.ref a.sts)
structure WatAt (C : Addr) (H : Hp) (a : WA) : Prop where
  o : ∃ dx, H a.p = some (.ins C dx (wF a))
  tl : H a.tl = some (.lst [.ref a.d0, .ref a.d1])
  k0 : H a.d0 = some (.dK (kn a.l0))
  k1 : H a.d1 = some (.dK (kn a.l1))
  seen : H a.seen = some (.lst (a.fm.map nI))
  sts : H a.sts = some (.lst (refsOf a.rs))
  rs : ∀ r, r ∈ a.rs → H r.1 = some (.lst (numL r.2)) ∧ Good r.2 ∧ r.1 ≠ a.seen ∧ r.1 ≠ a.sts
  nd : a.d0 ≠ a.d1
  n1 : a.seen ≠ a.sts
  n2 : a.tl ≠ a.seen
  n3 : a.tl ≠ a.sts
section
variable {C : Addr} {H H' : Hp} {a : WA}
theorem WatAt.trk (S : WatAt C H a) {b : Addr} (h : a.f b) : ∃ o, H b = some o := by
  obtain ⟨dx, h1⟩ := S.o
  rcases h with (h | h | h | h) | h | h | ⟨r, hr, h⟩
  · exact ⟨_, h ▸ S.k0⟩
  · exact ⟨_, h ▸ S.k1⟩
  · exact ⟨_, h ▸ S.seen⟩
  · exact ⟨_, h ▸ S.sts⟩
  · exact ⟨_, h ▸ h1⟩
  · exact ⟨_, h ▸ S.tl⟩
  · exact ⟨_, h ▸ (S.rs r hr).1⟩
theorem WatAt.fr {Z : Addr → Prop} (S : WatAt C H a) (k : Kp Z H H') (h : ∀ b, a.f b → ¬ Z b) : WatAt C H' a := by
  obtain ⟨dx, h1⟩ := S.o
  refine ⟨⟨dx, k _ _ h1 (h _ (.inr (.inl rfl)))⟩, k _ _ S.tl (h _ (.inr (.inr (.inl rfl)))), k _ _ S.k0 (h _ (.inl (.inl rfl))), k _ _ S.k1 (h _ (.inl (.inr (.inl rfl)))),
    k _ _ S.seen (h _ (.inl (.inr (.inr (.inl rfl))))), k _ _ S.sts (h _ (.inl (.inr (.inr (.inr rfl))))), fun r hr => ?_, S.nd, S.n1, S.n2, S.n3⟩
  obtain ⟨x, y⟩ := S.rs r hr
  exact ⟨k _ _ x (h _ (.inr (.inr (.inr ⟨r, hr, rfl⟩)))), y⟩
theorem WatAt.same (S : WatAt C H a) (k : Same H H') : WatAt C H' a := S.fr (Z := fun _ => False) (fun b o e _ => k b o e) fun _ _ z => z
theorem WatAt.set_d0 (S : WatAt C H a) {l : Known} (hk : H' a.d0 = some (.dK (kn l))) (k : Kp (S1 a.d0) H H') : WatAt C H' { a with l0 := l } := by
  obtain ⟨dx, h1⟩ := S.o
  refine ⟨⟨dx, k _ _ h1 (kind_ne h1 S.k0 nofun)⟩, k _ _ S.tl (kind_ne S.tl S.k0 nofun), hk, k _ _ S.k1 S.nd.symm, k _ _ S.seen (kind_ne S.seen S.k0 nofun), k _ _ S.sts (kind_ne S.sts S.k0 nofun), fun r hr => ?_, S.nd, S.n1, S.n2, S.n3⟩
  obtain ⟨x, y⟩ := S.rs r hr
  exact ⟨k _ _ x (kind_ne x S.k0 nofun), y⟩
theorem WatAt.set_d1 (S : WatAt C H a) {l : Known} (hk : H' a.d1 = some (.dK (kn l))) (k : Kp (S1 a.d1) H H') : WatAt C H' { a with l1 := l } := by
  obtain ⟨dx, h1⟩ := S.o
  refine ⟨⟨dx, k _ _ h1 (kind_ne h1 S.k1 nofun)⟩, k _ _ S.tl (kind_ne S.tl S.k1 nofun), k _ _ S.k0 S.nd, hk, k _ _ S.seen (kind_ne S.seen S.k1 nofun), k _ _ S.sts (kind_ne S.sts S.k1 nofun), fun r hr => ?_, S.nd, S.n1, S.n2, S.n3⟩
  obtain ⟨x, y⟩ := S.rs r hr
  exact ⟨k _ _ x (kind_ne x S.k1 nofun), y⟩
theorem WatAt.set_seen (S : WatAt C H a) (w : List Nat) : WatAt C (upd H a.seen (.lst (w.map nI))) { a with fm := w } := by
  obtain ⟨dx, h1⟩ := S.o
  refine ⟨⟨dx, ?_⟩, ?_, ?_, ?_, upd_same, ?_, fun r hr => ?_, S.nd, S.n1, S.n2, S.n3⟩
  · rw [upd_ne (kind_ne h1 S.seen nofun)]; exact h1
  · rw [upd_ne S.n2]; exact S.tl
  · rw [upd_ne (kind_ne S.k0 S.seen nofun)]; exact S.k0
  · rw [upd_ne (kind_ne S.k1 S.seen nofun)]; exact S.k1
  · rw [upd_ne S.n1.symm]; exact S.sts
  · obtain ⟨x, y, z⟩ := S.rs r hr
    exact ⟨by rw [upd_ne z.1]; exact x, y, z⟩
theorem WatAt.add_state (S : WatAt C H a) {r : Addr} {m : Mach} (hr : H r = some (.lst (numL m))) (g : Good m) (h1 : r ≠ a.seen) (h2 : r ≠ a.sts) :
    WatAt C (upd H a.sts (.lst (refsOf a.rs ++ [V.ref r]))) { a with rs := a.rs ++ [(r, m)] } := by
  obtain ⟨dx, ho⟩ := S.o
  refine ⟨⟨dx, ?_⟩, ?_, ?_, ?_, ?_, ?_, fun r' hr' => ?_, S.nd, S.n1, S.n2, S.n3⟩
  · rw [upd_ne (kind_ne ho S.sts nofun)]; exact ho
  · rw [upd_ne S.n3]; exact S.tl
  · rw [upd_ne (kind_ne S.k0 S.sts nofun)]; exact S.k0
  · rw [upd_ne (kind_ne S.k1 S.sts nofun)]; exact S.k1
  · rw [upd_ne S.n1]; exact S.seen
  · show upd _ _ _ a.sts = _
    rw [upd_same, refs_snoc]
  · rcases List.mem_append.mp hr' with c | c
    · obtain ⟨x, y, z⟩ := S.rs r' c
      exact ⟨by rw [upd_ne z.2]; exact x, y, z⟩
    · obtain rfl := List.mem_singleton.mp c
      exact ⟨by rw [upd_ne h2]; exact hr, g, h1, h2⟩
end
def WUpd (C : Addr) (H : Hp) (a : WA) (d : WD) (Q : Hp → Prop) : Prop := ∀ (H' : Hp) (a' : WA), WatAt C H' a' → a'.wd = d → a'.p = a.p → Stp H a.ft H' a'.ft → Q H'
structure WOk (w : WD) : Prop where
  h0 : Low w.l0
  h1 : Low w.l1
  ms : w.ms.length = w.fm.length + 1
  le : w.fm.length ≤ wcnt w
  n0 : w.l0.length ≤ 1000
  n1 : w.l1.length ≤ 1000
structure TxtW (K : PySem.W.Frag) (mg : Str → Option Value) (C : Addr) : Prop where
  cl_Watcher : Cls K C
  n_told : NoAttr K C "told"
  n_seen : NoAttr K C "seen"
  n_states : NoAttr K C "states"
  g_LETTER_SIDE : mg "LETTER_SIDE" = some (.int 0 (tokOf (mg "LETTER_SIDE")))
  b_len : mg "len" = none
  b_min : mg "min" = none
  b_range : mg "range" = none
def spSee (C : Addr) : Sp := fun vs H Q _ => ∃ a : WA, vs = [.ref a.p] ∧ WatAt C H a ∧ WOk a.wd ∧ WUpd C H a (seeD a.wd) (Q .non)
def spRead (C : Addr) : Sp := fun vs H Q _ => ∃ (a : WA) (l : Addr) (L : Letter), vs = [.ref a.p, .ref l] ∧ WatAt C H a ∧ H l = some (.lst (ltV L)) ∧ LOk L ∧ WOk (readL a.wd L) ∧ a.l0.length ≤ 1000 ∧ a.l1.length ≤ 1000 ∧ WUpd C H a (seeD (readL a.wd L)) (Q .non)
def spMarkB (C : Addr) : Sp := fun vs H Q _ => ∃ (a : WA) (r : Addr × Mach), vs = [.ref a.p] ∧ WatAt C H a ∧ a.rs[a.rs.length - 1]? = some r ∧ Q (nI (CsBase.mark r.2)) H
def spWInit (C : Addr) : Sp := fun vs H Q _ => ∃ (p dx l : Addr) (d : Nat) (bs : List Nat), vs = [.ref p, nI d, .ref l] ∧ H p = some (.ins C dx []) ∧ H l = some (.lst (bs.map nI)) ∧ d ≤ 6 ∧ bs.length ≤ 128 ∧ (∀ b ∈ bs, b < 256) ∧
  ∀ (H' : Hp) (a : WA), a.p = p → WatAt C H' a → a.wd = seeD ⟨zer d, zer d, [], [CsBase.loaded bs]⟩ → (∀ b, a.f b → b = p ∨ H b = none) → Kp (S1 p) H H' → Q .non H'
theorem at_last {xs : List V} {v : V} (h : xs[xs.length - 1]? = some v) : atI xs (-1) = some v := by
  have hl : xs.length - 1 < xs.length := (List.getElem?_eq_some_iff.mp h).1
  unfold atI ixN
  rw [if_neg (by decide), if_pos (by omega)]
  show xs[(-1 + (xs.length : Int)).toNat]? = _
  rw [show (-1 + (xs.length : Int)).toNat = xs.length - 1 by omega]
  exact h
section
variable {P : Program} {w : World} {K : PySem.W.Frag} {mg : Str → Option Value} {base : Heap} {C : Addr}
abbrev s_Watcher_mark_behind : Stmt := inClass (top 23) 3
theorem sc_Watcher_mark_behind : FnScope ["self"] ["self"] (defScope s_Watcher_mark_behind) := ⟨rfl, rfl, rfl, by decide +kernel, rfl, by decide +kernel, by decide +kernel⟩
theorem ok_Watcher_mark_behind {f : Addr} {fd : FuncData} (F : Fun K "mark_behind" "Watcher.mark_behind" s_Watcher_mark_behind f fd) (T : TxtW K mg C)
    (G_mark : FunF P w K mg base 1 "mark" ["numbers"] (spMark K)) : FnOk P w K mg base CX0 2 f fd ["self"] (spMarkB C) := by
  refine F.ok sc_Watcher_mark_behind (fun vs H Q E h => ?_) (fun cdv A outer s H vs Q E hr h => ?_)
  · obtain ⟨a, r, rfl, _⟩ := h
    rfl
  · obtain ⟨a, r, rfl, S, ht, kq⟩ := h
    obtain ⟨dx, h1⟩ := S.o
    refine ⟨_, (pss_one (ps_ret (pe_callF G_mark (hr.mono (by decide)) (pa_cons (pe_ix ix_list (pe_fld (pv 0) rfl) (pe_un un_neg pe_int) (fun _ _ => rfl)) pa_nil)))), ?_⟩
    exact ⟨_, rfl, a.p, C, dx, _, _, rfl, h1, T.cl_Watcher, T.n_states, fW_states, _, rfl, a.sts, _, _, _, rfl, rfl, SqL.of S.sts, at_last (by rw [refs_len]; exact refs_at ht), r.1, r.2, rfl, SqL.of (S.rs r (List.mem_of_getElem? ht)).1, kq⟩
abbrev s_Watcher_see_on : Stmt := inClass (top 23) 2
theorem sc_Watcher_see_on : FnScope ["self", "count", "t", "pad"] ["self"] (defScope s_Watcher_see_on) := ⟨rfl, rfl, rfl, by decide +kernel, rfl, by decide +kernel, by decide +kernel⟩
theorem ok_Watcher_see_on {f : Addr} {fd : FuncData} (F : Fun K "see_on" "Watcher.see_on" s_Watcher_see_on f fd) (T : TxtW K mg C)
    (G_without_gap : FunF P w K mg base 1 "without_gap" ["known"] spGap) (G_together : FunF P w K mg base 1 "together" ["pad_0", "pad_1"] spTogether) (G_behind_frame : FunF P w K mg base 5 "behind_frame" ["numbers", "pad"] (spBehind K)) :
    FnOk P w K mg base CX0 6 f fd ["self"] (spSee C) := by
  refine F.ok sc_Watcher_see_on (fun vs H Q E h => ?_) (fun cdv A outer s H vs Q E hr h => ?_)
  · obtain ⟨a, rfl, _⟩ := h
    rfl
  · obtain ⟨a, rfl, S, O, kq⟩ := h
    obtain ⟨dx, h1⟩ := S.o
    have hu := hu_of hr
    have cn0 : wcnt a.wd ≤ 1000 := Nat.le_trans (Nat.min_le_left _ _) (Nat.le_trans (upTo_le _) O.n0)
    have ole : a.fm.length ≤ wcnt a.wd := O.le
    refine ⟨_, (pss_cons (ps_set (i := 1) sc_Watcher_see_on.nd rfl (Or.inl rfl) (pe_callB (call_min2 rfl) (by rfl) T.b_min (by decide +kernel) (pa_cons (pe_callF G_without_gap (hr.mono (by decide)) (pa_cons (pe_ix ix_list (pe_fld (pv 0) rfl) pe_int (fun _ _ => rfl)) pa_nil)) (pa_cons (pe_callF G_without_gap (hr.mono (by decide)) (pa_cons (pe_ix ix_list (pe_fld (pv 0) rfl) pe_int (fun _ _ => rfl)) pa_nil)) pa_nil))))
      (pss_one (ps_for PassesOwn.never rfl (pi_range2 rfl T.b_range (pa_cons (pe_callB call_len_seq (by rfl) T.b_len PySem.boot_len (pa_cons (pe_fld (pv 0) rfl) pa_nil)) (pa_cons (pv 1) pa_nil))) (pg_name (i := 2) sc_Watcher_see_on.nd rfl (Or.inl rfl)) (pss_cons (ps_set (i := 3) sc_Watcher_see_on.nd rfl (Or.inl rfl) (pe_callF G_together (hr.mono (by decide)) (pa_cons (pe_dget hu (pe_ix ix_list (pe_fld (pv 0) rfl) pe_int (fun _ _ => rfl)) (pv 2) (fun _ _ => rfl)) (pa_cons (pe_dget hu (pe_ix ix_list (pe_fld (pv 0) rfl) pe_int (fun _ _ => rfl)) (pv 2) (fun _ _ => rfl)) pa_nil))))
      (pss_cons (ps_expr (pe_bm PySem.F.plainAttrs_list PySem.F.slot_list_append PySem.F.type_list_append mt_append (pe_fld (pv 0) rfl) (pa_cons (pe_callF G_behind_frame (hr.mono (by decide)) (pa_cons (pe_ix ix_list (pe_fld (pv 0) rfl) (pv 2) (fun _ _ => rfl)) (pa_cons (pv 3) pa_nil))) pa_nil)))
      (pss_one (ps_expr (pe_bm PySem.F.plainAttrs_list PySem.F.slot_list_append PySem.F.type_list_append mt_append (pe_fld (pv 0) rfl) (pa_cons (pv 3) pa_nil))))))))), ?_⟩
    refine ⟨_, rfl, a.p, C, dx, _, _, rfl, h1, T.cl_Watcher, T.n_told, fW_told, a.tl, _, _, _, rfl, rfl, SqL.of S.tl, at_of (j := 0) rfl rfl, a.d0, a.l0, rfl, S.k0, _, rfl, a.p, C, dx, _, _, rfl, h1, T.cl_Watcher, T.n_told, fW_told, a.tl, _, _, _, rfl, rfl, SqL.of S.tl, at_of (j := 1) rfl rfl, a.d1, a.l1, rfl, S.k1, _, _, rfl, ?_⟩
    have ec : (if (Cs14.upTo a.l1 : Int) < (Cs14.upTo a.l0 : Int) then (Cs14.upTo a.l1 : Int) else (Cs14.upTo a.l0 : Int)) = ((wcnt a.wd : Nat) : Int) := by
      show _ = ((min (Cs14.upTo a.l0) (Cs14.upTo a.l1) : Nat) : Int)
      split <;> omega
    rw [ec]
    refine ⟨_, rfl, a.p, C, dx, _, _, rfl, h1, T.cl_Watcher, T.n_seen, fW_seen, a.seen, _, rfl, .inl (SqL.of S.seen), _, rfl, (a.fm.length : Int), ((wcnt a.wd : Nat) : Int), (by rw [List.length_map]), (by omega), ?_⟩
    have en : (((wcnt a.wd : Nat) : Int) - (a.fm.length : Int)).toNat = wcnt a.wd - a.fm.length := by omega
    rw [en]
    refine for_range (n := wcnt a.wd - a.fm.length) (fun k σ H' => ∃ (z1 z2 : Option V) (b : WA), σ = [some (.ref a.p), some (nI (wcnt a.wd)), z1, z2] ∧ WatAt C H' b ∧ b.wd = wnextN k a.wd ∧ b.p = a.p ∧ Stp H a.ft H' b.ft) ⟨none, none, a, rfl, S, rfl, rfl, Stp.refl⟩ ?_ ?_
    · rintro k σ H' hk ⟨z1, z2, b, rfl, Sb, db, pb, stb⟩
      obtain ⟨dxb, hb⟩ := Sb.o
      rw [pb] at hb
      have lb := wnextN_l k a.wd
      have e0 : b.l0 = a.l0 := by show b.wd.l0 = _; rw [db]; exact lb.1
      have e1 : b.l1 = a.l1 := by show b.wd.l1 = _; rw [db]; exact lb.2
      have fl : b.fm.length = a.fm.length + k := by show b.wd.fm.length = _; rw [db]; exact wnextN_len k a.wd
      have ml : b.rs.length = b.fm.length + 1 := by
        have h1 : b.wd.ms.length = a.wd.ms.length + k := by rw [db]; exact wnextN_ms k a.wd
        have h2 : b.wd.ms.length = b.rs.length := List.length_map ..
        have h3 : a.wd.ms.length = a.fm.length + 1 := O.ms
        omega
      have lt0 : a.fm.length + k < Cs14.upTo a.l0 := Nat.lt_of_lt_of_le (show a.fm.length + k < wcnt a.wd by omega) (Nat.min_le_left _ _)
      have lt1 : a.fm.length + k < Cs14.upTo a.l1 := Nat.lt_of_lt_of_le (show a.fm.length + k < wcnt a.wd by omega) (Nat.min_le_right _ _)
      obtain ⟨v0, hv0⟩ := Option.isSome_iff_exists.mp ((upTo_spec a.l0).1 _ lt0)
      obtain ⟨v1, hv1⟩ := Option.isSome_iff_exists.mp ((upTo_spec a.l1).1 _ lt1)
      have b0 : v0 < 16 := O.h0.at hv0
      have b1 : v1 < 16 := O.h1.at hv1
      have wp : wpad b.wd b.wd.fm.length = v0 + 16 * v1 := by
        show Cs14.pad 0 ((at? b.l0 b.fm.length).getD 0) ((at? b.l1 b.fm.length).getD 0) = _
        rw [fl, e0, e1, hv0, hv1]
        rfl
      have dg0 := DGet.k (k := .inl ((a.fm.length : Int) + (k : Int))) Sb.k0
      have dg1 := DGet.k (k := .inl ((a.fm.length : Int) + (k : Int))) Sb.k1
      have ek : ((a.fm.length : Int) + (k : Int)) = ((a.fm.length + k : Nat) : Int) := rfl
      rw [e0, show valV (kn a.l0) (Sum.inl ((a.fm.length : Int) + (k : Int))) = some (nI v0) by rw [ek, val_kn, hv0]; rfl] at dg0
      rw [e1, show valV (kn a.l1) (Sum.inl ((a.fm.length : Int) + (k : Int))) = some (nI v1) by rw [ek, val_kn, hv1]; rfl] at dg1
      refine ⟨_, rfl, a.p, C, dxb, _, _, rfl, hb, T.cl_Watcher, T.n_told, fW_told, b.tl, _, _, _, rfl, rfl, SqL.of Sb.tl, at_of (j := 0) rfl rfl, _, rfl, b.d0, _, rfl, dg0,
        _, rfl, a.p, C, dxb, _, _, rfl, hb, T.cl_Watcher, T.n_told, fW_told, b.tl, _, _, _, rfl, rfl, SqL.of Sb.tl, at_of (j := 1) rfl rfl, _, rfl, b.d1, _, rfl, dg1, v0, v1, rfl, ?_⟩
      obtain ⟨r, hr0⟩ : ∃ r, b.rs[b.fm.length]? = some r := ⟨_, List.getElem?_eq_getElem (by omega)⟩
      obtain ⟨r1, r2, r3, r4⟩ := Sb.rs r (List.mem_of_getElem? hr0)
      refine ⟨_, rfl, a.p, C, dxb, _, _, rfl, hb, T.cl_Watcher, T.n_states, fW_states, .inl ⟨rfl, _, SqL.of Sb.sts⟩, ?_⟩
      refine ⟨_, rfl, a.p, C, dxb, _, _, rfl, hb, T.cl_Watcher, T.n_states, fW_states, _, rfl, b.sts, _, _, _, rfl, rfl, SqL.of Sb.sts, at_of (j := b.fm.length) (by rw [fl]; rfl) (refs_at hr0), _, rfl, r.1, r.2, _, rfl, (by omega), SqL.of r1, r2, fun H2 q hq e2 g2 s2 => ?_⟩
      have S2 := Sb.same s2
      have fn : b.fm.length ≤ 1000 := by omega
      refine ⟨b.sts, _, _, rfl, rfl, S2.sts, (by rw [refs_len, ml]; exact lt_line (by omega)), ?_⟩
      have S3 := S2.add_state e2 g2 (ne_of_none Sb.seen hq).symm (ne_of_none Sb.sts hq).symm
      have k3 : Kp b.m H' (upd H2 b.sts (.lst (refsOf b.rs ++ [V.ref q]))) := (Kp.same s2).upd (.inr (.inr (.inr rfl)))
      generalize upd H2 b.sts (.lst (refsOf b.rs ++ [V.ref q])) = H3 at S3 k3 ⊢
      obtain ⟨dx3, h3⟩ := S3.o
      rw [show ({ b with rs := b.rs ++ [(q, CsBase.frame r.2 (v0 + 16 * v1))] } : WA).p = a.p from pb] at h3
      refine ⟨_, rfl, a.p, C, dx3, _, _, rfl, h3, T.cl_Watcher, T.n_seen, fW_seen, .inl ⟨rfl, _, SqL.of S3.seen⟩, _, rfl, b.seen, _, _, rfl, rfl, S3.seen, (by rw [List.length_map]; exact lt_line (by show b.fm.length ≤ _; omega)), ?_⟩
      have S4 := S3.set_seen (b.fm ++ [v0 + 16 * v1])
      have k4 : Kp b.m H' (upd H3 b.seen (.lst ((b.fm ++ [v0 + 16 * v1]).map nI))) := k3.upd (.inr (.inr (.inl rfl)))
      have el : (b.fm ++ [v0 + 16 * v1]).map nI = b.fm.map nI ++ [nI (v0 + 16 * v1)] := by rw [List.map_append]; rfl
      rw [el] at S4 k4
      refine ⟨_, _, _, rfl, S4, ?_, pb, Stp.trans (fun _ h => .inl h) stb ⟨fun x h => .inl h, fun x h => ?_, k4⟩⟩
      · show WD.mk b.l0 b.l1 (b.fm ++ [v0 + 16 * v1]) ((b.rs ++ [(q, CsBase.frame r.2 (v0 + 16 * v1))]).map (·.2)) = wnext (wnextN k a.wd)
        rw [← db, List.map_append]
        unfold wnext
        have em : b.wd.ms.getD b.wd.fm.length (CsBase.loaded []) = r.2 := by
          show (b.rs.map (·.2)).getD b.fm.length _ = _
          rw [List.getD, List.getElem?_map, hr0]
          rfl
        rw [wp, em]
        rfl
      · rcases h with h | h | h | ⟨y, h, e⟩
        · exact .inl (.inl h)
        · exact .inl (.inr (.inl h))
        · exact .inl (.inr (.inr (.inl h)))
        · rcases List.mem_append.mp h with c | c
          · exact .inl (.inr (.inr (.inr ⟨y, c, e⟩)))
          · obtain rfl := List.mem_singleton.mp c
            exact .inr (e ▸ hq)
    · rintro σ H' ⟨z1, z2, b, rfl, Sb, db, pb, stb⟩
      exact kq H' b Sb db pb stb
abbrev s_Watcher_read : Stmt := inClass (top 23) 1
theorem sc_Watcher_read : FnScope ["self", "letter"] ["self", "letter"] (defScope s_Watcher_read) := ⟨rfl, rfl, rfl, by decide +kernel, rfl, by decide +kernel, by decide +kernel⟩
theorem ok_Watcher_read {f : Addr} {fd : FuncData} (F : Fun K "read" "Watcher.read" s_Watcher_read f fd) (T : TxtW K mg C)
    (G_learn : FunF P w K mg base 1 "learn" ["known", "letter"] spLearn) (G_Watcher_see_on : MethF P w K mg base 6 C "see_on" ["self"] (spSee C)) :
    FnOk P w K mg base CX0 7 f fd ["self", "letter"] (spRead C) := by
  refine F.ok sc_Watcher_read (fun vs H Q E h => ?_) (fun cdv A outer s H vs Q E hr h => ?_)
  · obtain ⟨a, l, L, rfl, _⟩ := h
    rfl
  · obtain ⟨a, l, L, rfl, S, hl, LO, O, n0, n1, kq⟩ := h
    obtain ⟨dx, h1⟩ := S.o
    have fn := LO.fn
    have src := LO.src
    refine ⟨_, (pss_cons (ps_expr (pe_callF G_learn (hr.mono (by decide)) (pa_cons (pe_ix ix_list (pe_fld (pv 0) rfl) (pe_ix ix_list (pv 1) (pe_glob (v := .int (0)) rfl T.g_LETTER_SIDE ⟨_, rfl⟩) (fun _ _ => rfl)) (fun _ _ => rfl)) (pa_cons (pv 1) pa_nil))))
      (pss_one (ps_expr (pe_methF0 (pv 0) T.cl_Watcher G_Watcher_see_on (hr.mono (by decide)))))), ?_⟩
    refine ⟨_, rfl, a.p, C, dx, _, _, rfl, h1, T.cl_Watcher, T.n_told, fW_told, _, rfl, l, _, _, _, rfl, rfl, SqL.of hl, at_of (j := 0) rfl (by rw [ltV_eq]; rfl), ?_⟩
    by_cases c : L.src = 0
    · have er : readL a.wd L = ({ a with l0 := Cs14.learn a.l0 L.first L.pads } : WA).wd := if_pos c
      rw [er] at O kq
      refine ⟨a.tl, _, _, _, rfl, rfl, SqL.of S.tl, at_of (j := 0) (by rw [c]) rfl, _, rfl, a.d0, l, a.l0, L, rfl, S.k0, hl, LO.pn, by omega, by omega, fun H2 e2 k2 => ?_⟩
      have S2 := S.set_d0 e2 k2
      obtain ⟨dx2, h2⟩ := S2.o
      refine ⟨_, rfl, a.p, dx2, _, rfl, h2, fW_no_see_on, { a with l0 := Cs14.learn a.l0 L.first L.pads }, rfl, S2, O, fun H3 b Sb db pb stb => ?_⟩
      exact kq H3 b Sb db pb (Stp.trans (F1 := ({ a with l0 := Cs14.learn a.l0 L.first L.pads } : WA).ft) (fun _ h => .inl h) ⟨fun _ h => .inl h, fun _ h => .inl h, k2.mono fun b h => .inl h⟩ stb)
    · have c1 : L.src = 1 := by omega
      have er : readL a.wd L = ({ a with l1 := Cs14.learn a.l1 L.first L.pads } : WA).wd := if_neg c
      rw [er] at O kq
      refine ⟨a.tl, _, _, _, rfl, rfl, SqL.of S.tl, at_of (j := 1) (by rw [c1]) rfl, _, rfl, a.d1, l, a.l1, L, rfl, S.k1, hl, LO.pn, by omega, by omega, fun H2 e2 k2 => ?_⟩
      have S2 := S.set_d1 e2 k2
      obtain ⟨dx2, h2⟩ := S2.o
      refine ⟨_, rfl, a.p, dx2, _, rfl, h2, fW_no_see_on, { a with l1 := Cs14.learn a.l1 L.first L.pads }, rfl, S2, O, fun H3 b Sb db pb stb => ?_⟩
      exact kq H3 b Sb db pb (Stp.trans (F1 := ({ a with l1 := Cs14.learn a.l1 L.first L.pads } : WA).ft) (fun _ h => .inl h) ⟨fun _ h => .inl h, fun _ h => .inl h, k2.mono fun b h => .inr (.inl h)⟩ stb)
abbrev s_Watcher_init : Stmt := inClass (top 23) 0
theorem sc_Watcher_init : FnScope ["self", "delay", "some_bytes"] ["self", "delay", "some_bytes"] (defScope s_Watcher_init) := ⟨rfl, rfl, rfl, by decide +kernel, rfl, by decide +kernel, by decide +kernel⟩
theorem ok_Watcher_init {f : Addr} {fd : FuncData} (F : Fun K "__init__" "Watcher.__init__" s_Watcher_init f fd) (T : TxtW K mg C)
    (G_known_at_first : FunF P w K mg base 1 "known_at_first" ["delay"] spKnown) (G_loaded : FunF P w K mg base 1 "loaded" ["some_bytes"] spLoaded) (G_Watcher_see_on : MethF P w K mg base 6 C "see_on" ["self"] (spSee C)) :
    FnOk P w K mg base CX0 7 f fd ["self", "delay", "some_bytes"] (spWInit C) := by
  refine F.ok sc_Watcher_init (fun vs H Q E h => ?_) (fun cdv A outer s H vs Q E hr h => ?_)
  · obtain ⟨p, dx, l, d, bs, rfl, _⟩ := h
    rfl
  · obtain ⟨p, dx, l, d, bs, rfl, hp, hl, hd, hn, hb, kq⟩ := h
    refine ⟨_, (pss_cons (ps_fld (pv 0) (pe_lst (pa_cons (pe_callF G_known_at_first (hr.mono (by decide)) (pa_cons (pv 1) pa_nil)) (pa_cons (pe_callF G_known_at_first (hr.mono (by decide)) (pa_cons (pv 1) pa_nil)) pa_nil))) rfl)
      (pss_cons (ps_fld (pv 0) (pe_lst pa_nil) rfl)
      (pss_cons (ps_fld (pv 0) (pe_lst (pa_cons (pe_callF G_loaded (hr.mono (by decide)) (pa_cons (pv 2) pa_nil)) pa_nil)) rfl)
      (pss_one (ps_expr (pe_methF0 (pv 0) T.cl_Watcher G_Watcher_see_on (hr.mono (by decide)))))))), ?_⟩
    have s0 : Sto H H p C dx [] := ⟨hp, Kp.refl⟩
    refine ⟨_, rfl, d, rfl, (by omega), fun H1 k hk e1 m1 => ?_⟩
    have fk := s0.free hk
    have s1 := s0.same m1
    have l1 := m1 _ _ hl
    refine ⟨_, rfl, d, rfl, (by omega), fun H2 j hj e2 m2 => ?_⟩
    have fj := s1.free hj
    have nkj := ne_of_none e1 hj
    have s2 := s1.same m2
    have l2 := m2 _ _ l1
    have k2 := m2 _ _ e1
    refine ⟨(by show 2 ≤ sizeLine; decide), fun t ht => ?_⟩
    have ft := s2.free ht
    have s3 := s2.new (o := .lst [.ref k, .ref j]) ht
    have l3 := kept_new (u := .lst [.ref k, .ref j]) l2 ht
    have k3 := kept_new (u := .lst [.ref k, .ref j]) k2 ht
    have j3 := kept_new (u := .lst [.ref k, .ref j]) e2 ht
    have t3 : upd H2 t (.lst [.ref k, .ref j]) t = some (.lst [.ref k, .ref j]) := upd_same
    generalize upd H2 t (.lst [.ref k, .ref j]) = H3 at s3 l3 k3 j3 t3 ⊢
    refine ⟨_, rfl, p, C, dx, _, rfl, s3.o, T.cl_Watcher, T.n_told, (by show 0 < 1000; decide), ?_⟩
    rw [show putF (Str.ofString "told") (.ref t) [] = ([("told", .ref t)] : List (Str × V)) from rfl]
    have s4 := s3.put (gs := [("told", .ref t)])
    have l4 := s3.keep (gs := [("told", .ref t)]) l3 nofun
    have k4 := s3.keep (gs := [("told", .ref t)]) k3 nofun
    have j4 := s3.keep (gs := [("told", .ref t)]) j3 nofun
    have t4 := s3.keep (gs := [("told", .ref t)]) t3 nofun
    generalize upd H3 p (.ins C dx [("told", .ref t)]) = H4 at s4 l4 k4 j4 t4 ⊢
    refine ⟨(by show 0 ≤ sizeLine; decide), fun u hu => ?_⟩
    have fu := s4.free hu
    have ntu := ne_of_none t4 hu
    have s5 := s4.new (o := .lst []) hu
    have l5 := kept_new (u := .lst []) l4 hu
    have k5 := kept_new (u := .lst []) k4 hu
    have j5 := kept_new (u := .lst []) j4 hu
    have t5 := kept_new (u := .lst []) t4 hu
    have u5 : upd H4 u (.lst []) u = some (.lst []) := upd_same
    generalize upd H4 u (.lst []) = H5 at s5 l5 k5 j5 t5 u5 ⊢
    refine ⟨_, rfl, p, C, dx, _, rfl, s5.o, T.cl_Watcher, T.n_seen, (by show 1 < 1000; decide), ?_⟩
    rw [fW_new1]
    have s6 := s5.put (gs := [("told", .ref t), ("seen", .ref u)])
    have l6 := s5.keep (gs := [("told", .ref t), ("seen", .ref u)]) l5 nofun
    have k6 := s5.keep (gs := [("told", .ref t), ("seen", .ref u)]) k5 nofun
    have j6 := s5.keep (gs := [("told", .ref t), ("seen", .ref u)]) j5 nofun
    have t6 := s5.keep (gs := [("told", .ref t), ("seen", .ref u)]) t5 nofun
    have u6 := s5.keep (gs := [("told", .ref t), ("seen", .ref u)]) u5 nofun
    generalize upd H5 p (.ins C dx [("told", .ref t), ("seen", .ref u)]) = H6 at s6 l6 k6 j6 t6 u6 ⊢
    refine ⟨_, rfl, l, bs, rfl, l6, hn, hb, fun H7 r hr7 e7 m7 => ?_⟩
    have fr := s6.free hr7
    have nru := (ne_of_none u6 hr7).symm
    have s7 := s6.same m7
    have k7 := m7 _ _ k6
    have j7 := m7 _ _ j6
    have t7 := m7 _ _ t6
    have u7 := m7 _ _ u6
    refine ⟨(by show 1 ≤ sizeLine; decide), fun q hq => ?_⟩
    have fq := s7.free hq
    have nrq := ne_of_none e7 hq
    have nuq := ne_of_none u7 hq
    have ntq := ne_of_none t7 hq
    have s8 := s7.new (o := .lst [.ref r]) hq
    have k8 := kept_new (u := .lst [.ref r]) k7 hq
    have j8 := kept_new (u := .lst [.ref r]) j7 hq
    have t8 := kept_new (u := .lst [.ref r]) t7 hq
    have u8 := kept_new (u := .lst [.ref r]) u7 hq
    have r8 := kept_new (u := .lst [.ref r]) e7 hq
    have q8 : upd H7 q (.lst [.ref r]) q = some (.lst [.ref r]) := upd_same
    generalize upd H7 q (.lst [.ref r]) = H8 at s8 k8 j8 t8 u8 r8 q8 ⊢
    refine ⟨_, rfl, p, C, dx, _, rfl, s8.o, T.cl_Watcher, T.n_states, (by show 2 < 1000; decide), ?_⟩
    rw [fW_new2]
    have s9 := s8.put (gs := fW (.ref t) (.ref u) (.ref q))
    have kp : ∀ b o, H8 b = some o → (∀ z, o ≠ .ins C dx z) → upd H8 p (.ins C dx (fW (.ref t) (.ref u) (.ref q))) b = some o := fun b o e n => s8.keep e n
    have S : WatAt C (upd H8 p (.ins C dx (fW (.ref t) (.ref u) (.ref q)))) ⟨p, t, k, j, u, q, zer d, zer d, [], [(r, CsBase.loaded bs)]⟩ := by
      refine ⟨⟨dx, s9.o⟩, kp _ _ t8 nofun, kp _ _ k8 nofun, kp _ _ j8 nofun, kp _ _ u8 nofun, kp _ _ q8 nofun, fun z hz => ?_, nkj, nuq, ntu, ntq⟩
      obtain rfl := List.mem_singleton.mp hz
      exact ⟨kp _ _ r8 nofun, good_loaded bs, nru, nrq⟩
    have O : WOk ⟨zer d, zer d, [], [CsBase.loaded bs]⟩ := ⟨zer_low d, zer_low d, rfl, Nat.zero_le _, (by show (zer d).length ≤ _; rw [zer_len]; omega), (by show (zer d).length ≤ _; rw [zer_len]; omega)⟩
    refine ⟨_, rfl, p, dx, _, rfl, s9.o, fW_no_see_on, ⟨p, t, k, j, u, q, zer d, zer d, [], [(r, CsBase.loaded bs)]⟩, rfl, S, O, fun H10 b Sb db pb stb => ?_⟩
    refine kq H10 b pb Sb db (fun x hx => ?_) (fun x o e n => stb.k x o (s9.k x o e n) fun z => ?_)
    · rcases stb.f x hx with ((h | h | h | h) | h | h | ⟨z, hz, e⟩) | h
      · exact .inr (h ▸ fk)
      · exact .inr (h ▸ fj)
      · exact .inr (h ▸ fu)
      · exact .inr (h ▸ fq)
      · exact .inl h
      · exact .inr (h ▸ ft)
      · obtain rfl := List.mem_singleton.mp hz
        exact .inr (e ▸ fr)
      · exact .inr (s9.free h)
    · rcases z with h | h | h | h
      · rw [h, fk] at e; cases e
      · rw [h, fj] at e; cases e
      · rw [h, fu] at e; cases e
      · rw [h, fq] at e; cases e
end
end TP
namespace TP
open PySem PySem.Spec PyProof.Rows L2
open CsBase (Mach)
open Cs14 (Known at? Letter)
open Cs14 (Side side setSide upTo should now stateAt seen film watchedAt)
abbrev TSt := Cs14.St
/-! # The specification's states -/
def filmK (l0 l1 : Known) : List Nat := (List.range (min (upTo l0) (upTo l1))).map fun t => Cs14.pad 0 ((at? l0 t).getD 0) ((at? l1 t).getD 0)
theorem film_eq (s : TSt) : film s = filmK s.wa s.wb := rfl
theorem filmK_len (l0 l1 : Known) : (filmK l0 l1).length = min (upTo l0) (upTo l1) := by simp [filmK]
theorem filmK_at {l0 l1 : Known} {t : Nat} (h : t < min (upTo l0) (upTo l1)) : (filmK l0 l1)[t]? = some (Cs14.pad 0 ((at? l0 t).getD 0) ((at? l1 t).getD 0)) := by
  unfold filmK
  rw [List.getElem?_map, List.getElem?_range h]
  rfl
theorem filmK_mono {l0 l1 m0 m1 : Known} (h0 : Sub l0 m0) (h1 : Sub l1 m1) : filmK l0 l1 = (filmK m0 m1).take (filmK l0 l1).length := by
  have u0 := upTo_mono h0
  have u1 := upTo_mono h1
  apply List.ext_getElem?
  intro t
  by_cases c : t < min (upTo l0) (upTo l1)
  · rw [filmK_at c, List.getElem?_take_of_lt (by rw [filmK_len]; exact c), filmK_at (by omega)]
    obtain ⟨v0, e0⟩ := Option.isSome_iff_exists.mp ((upTo_spec l0).1 t (by omega))
    obtain ⟨v1, e1⟩ := Option.isSome_iff_exists.mp ((upTo_spec l1).1 t (by omega))
    rw [e0, e1, h0 _ _ e0, h1 _ _ e1]
  · rw [List.getElem?_eq_none (by rw [filmK_len]; omega), List.getElem?_eq_none (by rw [List.length_take, filmK_len]; omega)]
def wrun (prog : List Nat) (fm : List Nat) (t : Nat) : Mach := CsBase.frames (CsBase.loaded prog) (fm.take t)
def WCan (prog : List Nat) (w : WD) : Prop := w.ms = (List.range (w.fm.length + 1)).map (wrun prog w.fm)
theorem WCan.at {prog : List Nat} {w : WD} (c : WCan prog w) {t : Nat} (h : t ≤ w.fm.length) : w.ms[t]? = some (wrun prog w.fm t) := by
  rw [c, List.getElem?_map, List.getElem?_range (by omega)]
  rfl
theorem wrun_snoc (prog fm : List Nat) (v : Nat) : wrun prog (fm ++ [v]) (fm.length + 1) = CsBase.frame (wrun prog fm fm.length) v := by
  unfold wrun CsBase.frames
  rw [List.take_of_length_le (by simp), List.take_of_length_le (Nat.le_refl _), List.foldl_append, List.foldl_cons, List.foldl_nil]
theorem WCan.next {prog : List Nat} {w : WD} (c : WCan prog w) : WCan prog (wnext w) := by
  unfold WCan wnext
  show w.ms ++ [_] = (List.range ((w.fm ++ [_]).length + 1)).map _
  rw [List.length_append, List.length_singleton, List.range_succ, List.map_append]
  have e1 : (List.range (w.fm.length + 1)).map (wrun prog (w.fm ++ [wpad w w.fm.length])) = w.ms := by
    rw [c]
    refine List.map_congr_left fun t ht => ?_
    have := List.mem_range.mp ht
    unfold wrun
    rw [List.take_append_of_le_length (by omega)]
  rw [e1]
  refine congrArg (fun z => w.ms ++ z) ?_
  rw [List.map_singleton, wrun_snoc, List.getD, c.at (Nat.le_refl _)]
  rfl
theorem WCan.nextN {prog : List Nat} {w : WD} (c : WCan prog w) (n : Nat) : WCan prog (wnextN n w) := by
  induction n with
  | zero => exact c
  | succ n ih => exact ih.next
theorem wnextN_fm {w : WD} {j : Nat} (h : w.fm = (filmK w.l0 w.l1).take j) : ∀ n, j + n ≤ wcnt w → (wnextN n w).fm = (filmK w.l0 w.l1).take (j + n)
  | 0, _ => h
  | n + 1, hn => by
    have ih := wnextN_fm h n (by omega)
    show (wnextN n w).fm ++ [wpad (wnextN n w) (wnextN n w).fm.length] = _
    have l : (wnextN n w).fm.length = j + n := by
      rw [ih, List.length_take, filmK_len]
      unfold wcnt at hn
      omega
    rw [l, ih, ← Nat.add_assoc, take_next (filmK_at (l0 := w.l0) (l1 := w.l1) (t := j + n) (by unfold wcnt at hn; omega))]
    unfold wpad
    rw [(wnextN_l n w).1, (wnextN_l n w).2]
/-- who watches, of the specification, and its data -/
structure WRel (s : TSt) (w : WD) : Prop where
  l0 : w.l0 = s.wa
  l1 : w.l1 = s.wb
  fm : w.fm = film s
  can : WCan s.program w
theorem see_rel {prog : List Nat} {w : WD} (c : WCan prog w) {k0 k1 : Known} (h0 : Sub k0 w.l0) (h1 : Sub k1 w.l1) (hf : w.fm = filmK k0 k1) : (seeD w).fm = filmK w.l0 w.l1 ∧ WCan prog (seeD w) := by
  refine ⟨?_, c.nextN _⟩
  have hm := filmK_mono h0 h1
  rw [← hf] at hm
  have le : w.fm.length ≤ wcnt w := by
    have u0 := upTo_mono h0
    have u1 := upTo_mono h1
    rw [hf, filmK_len]
    unfold wcnt
    omega
  have := wnextN_fm hm (wcnt w - w.fm.length) (by omega)
  show (wnextN _ w).fm = _
  rw [this]
  refine List.take_of_length_le ?_
  rw [filmK_len]
  unfold wcnt at le ⊢
  omega
theorem seeD_l (w : WD) : (seeD w).l0 = w.l0 ∧ (seeD w).l1 = w.l1 := wnextN_l _ _
theorem Sub.refl (l : Known) : Sub l l := fun _ _ h => h
theorem readL_sub (w : WD) (L : Letter) : Sub w.l0 (readL w L).l0 ∧ Sub w.l1 (readL w L).l1 := by
  unfold readL
  split
  · exact ⟨learn_sub _ _ _, Sub.refl _⟩
  · exact ⟨Sub.refl _, learn_sub _ _ _⟩
theorem readL_fm (w : WD) (L : Letter) : (readL w L).fm = w.fm ∧ (readL w L).ms = w.ms := by
  unfold readL
  split <;> exact ⟨rfl, rfl⟩
theorem watched_l (s : TSt) (L : Letter) {w : WD} (W : WRel s w) : (readL w L).l0 = (Cs14.watched s L).wa ∧ (readL w L).l1 = (Cs14.watched s L).wb ∧ (Cs14.watched s L).program = s.program := by
  unfold readL Cs14.watched
  by_cases c : L.src = 0
  · rw [if_pos c, if_pos c]
    exact ⟨congrArg (fun z => Cs14.learn z _ _) W.l0, W.l1, rfl⟩
  · rw [if_neg c, if_neg c]
    exact ⟨W.l0, congrArg (fun z => Cs14.learn z _ _) W.l1, rfl⟩
theorem WRel.read {s : TSt} {w : WD} (W : WRel s w) (L : Letter) : WRel (Cs14.watched s L) (seeD (readL w L)) := by
  obtain ⟨e0, e1, ep⟩ := watched_l s L W
  obtain ⟨s0, s1⟩ := readL_sub w L
  obtain ⟨f1, f2⟩ := readL_fm w L
  have c : WCan s.program (readL w L) := by
    show (readL w L).ms = (List.range ((readL w L).fm.length + 1)).map (wrun s.program (readL w L).fm)
    rw [f1, f2]
    exact W.can
  obtain ⟨g1, g2⟩ := see_rel c s0 s1 (by rw [f1, W.fm, film_eq, W.l0, W.l1])
  refine ⟨(seeD_l _).1.trans e0, (seeD_l _).2.trans e1, ?_, ?_⟩
  · rw [g1, e0, e1, film_eq]
  · rw [ep]; exact g2
theorem WRel.at {s : TSt} {w : WD} (W : WRel s w) {t : Nat} (h : t ≤ seen s) : w.ms[t]? = some (watchedAt s t) := by
  have := W.can.at (t := t) (by rw [W.fm, film_eq, filmK_len]; exact h)
  rw [this, W.fm]
  rfl
theorem WRel.len {s : TSt} {w : WD} (W : WRel s w) : w.fm.length = seen s ∧ w.ms.length = seen s + 1 := by
  have a : w.fm.length = seen s := by rw [W.fm, film_eq, filmK_len]; rfl
  refine ⟨a, ?_⟩
  rw [W.can, List.length_map, List.length_range, a]
/-! ### what a state keeps to -/
structure XOk (n delay : Nat) (x : Side) : Prop where
  own : ∃ ow : List Nat, x.own = ownK ow ∧ ow.length = now x + delay ∧ ∀ v ∈ ow, v < 16
  had : Low x.had
  hl : x.had.length ≤ 6 + 6 * n
  used : x.used = should x.had (now x)
  now : now x ≤ 100
  ack : x.acked ≤ 6 + 6 * n
  fl : ∀ f ∈ x.faults, f.2.1 < 128 ∧ f.2.2 < 256
  fn : x.faults.length ≤ 10
structure LOkN (n : Nat) (L : Letter) : Prop where
  src : L.src < 2
  pn : L.pads.length ≤ 6
  pv : ∀ v ∈ L.pads, v < 16
  fn : L.first ≤ 6 + 6 * n
  kn : L.knows ≤ 6 + 6 * n
structure PInv (n : Nat) (s : TSt) : Prop where
  pn : s.program.length ≤ 128
  pb : ∀ b ∈ s.program, b < 256
  dl : s.delay ≤ 6
  a : XOk n s.delay s.a
  b : XOk n s.delay s.b
  net : ∀ L ∈ s.net, LOkN n L
  nl : s.net.length ≤ 30
  wa : Low s.wa
  wb : Low s.wb
  na : s.wa.length ≤ 6 + 6 * n
  nb : s.wb.length ≤ 6 + 6 * n
theorem XOk.mono {n m d : Nat} {x : Side} (h : XOk n d x) (e : n ≤ m) : XOk m d x := ⟨h.own, h.had, Nat.le_trans h.hl (by omega), h.used, h.now, Nat.le_trans h.ack (by omega), h.fl, h.fn⟩
theorem LOkN.mono {n m : Nat} {L : Letter} (h : LOkN n L) (e : n ≤ m) : LOkN m L := ⟨h.src, h.pn, h.pv, Nat.le_trans h.fn (by omega), Nat.le_trans h.kn (by omega)⟩
theorem PInv.mono {n m : Nat} {s : TSt} (h : PInv n s) (e : n ≤ m) : PInv m s := ⟨h.pn, h.pb, h.dl, h.a.mono e, h.b.mono e, fun L l => (h.net L l).mono e, h.nl, h.wa, h.wb, Nat.le_trans h.na (by omega), Nat.le_trans h.nb (by omega)⟩
theorem LOkN.ok {n : Nat} {L : Letter} (h : LOkN n L) (e : n ≤ 60) : LOk L := by
  have := h.fn
  have := h.kn
  exact ⟨h.src, h.pn, h.pv, by omega, by omega⟩
theorem PInv.side {n : Nat} {s : TSt} (h : PInv n s) (i : Nat) : XOk n s.delay (Cs14.side s i) := by
  unfold Cs14.side
  split
  · exact h.a
  · exact h.b
theorem PInv.set {n : Nat} {s : TSt} (h : PInv n s) (i : Nat) {x : Side} (hx : XOk n s.delay x) : PInv n (setSide s i x) := by
  unfold setSide
  split
  · exact ⟨h.pn, h.pb, h.dl, hx, h.b, h.net, h.nl, h.wa, h.wb, h.na, h.nb⟩
  · exact ⟨h.pn, h.pb, h.dl, h.a, hx, h.net, h.nl, h.wa, h.wb, h.na, h.nb⟩
theorem Rel.ow_eq {prog : List Nat} {i : Nat} {x : Side} {d : SD} (R : Rel prog i x d) {ow : List Nat} (h : x.own = ownK ow) : d.ow = ow := by
  rw [← ownK_snd d.ow, ← R.ow, h, ownK_snd]
theorem XOk.sok {n dl i : Nat} {prog : List Nat} {x : Side} {d : SD} (h : XOk n dl x) (hd : dl ≤ 6) (hi : i < 2) (R : Rel prog i x d) : SOk d := by
  obtain ⟨ow, e, l, b⟩ := h.own
  have eo := R.ow_eq e
  have nw := h.now
  have rn := R.now
  refine ⟨by rw [eo]; exact b, by rw [R.had]; exact h.had, ?_, by rw [R.fl]; exact h.fl, R.can.len, by rw [R.i]; exact hi, ?_, ?_, ?_⟩
  · rw [R.us, h.used]
    exact should_low h.had _
  · rw [R.fl]; exact Nat.le_trans h.fn (by omega)
  · rw [eo, l]; omega
  · rw [eo, l]; omega
theorem fresh_ok (n d : Nat) (h : d ≤ 6) : XOk n d (Cs14.fresh d) := by
  refine ⟨⟨List.replicate d 0, zer_ownK d, ?_, ?_⟩, zer_low d, ?_, rfl, Nat.zero_le _, ?_, nofun, Nat.zero_le _⟩
  · rw [List.length_replicate]; exact (Nat.zero_add d).symm
  · intro v hv
    rw [(List.mem_replicate.mp hv).2]
    decide
  · show (zer d).length ≤ _
    rw [zer_len]; omega
  · show d ≤ _
    omega
theorem begun_ok (n : Nat) {prog : List Nat} {d a : Nat} (h : d ≤ 6) (hp : prog.length ≤ 128) (hb : ∀ b ∈ prog, b < 256) : PInv n (Cs14.begun prog d a) := by
  refine ⟨hp, hb, h, fresh_ok n d h, fresh_ok n d h, nofun, Nat.zero_le _, zer_low d, zer_low d, ?_, ?_⟩
  · show (zer d).length ≤ _
    rw [zer_len]; omega
  · show (zer d).length ≤ _
    rw [zer_len]; omega
theorem letter_some {s : TSt} {k : Int} {L : Letter} (h : Cs14.letter? s k = some L) : 0 ≤ k ∧ s.net[k.toNat]? = some L := by
  unfold Cs14.letter? at h
  split at h
  · cases h
  · exact ⟨by omega, h⟩
theorem heard_ok {n d : Nat} {x : Side} (h : XOk n d x) {L : Letter} (hL : LOkN n L) : XOk (n + 1) d (Cs14.heard { x with acked := max x.acked L.knows } L.first L.pads).1 := by
  have ll := learn_len x.had L.first L.pads
  have := hL.pn
  have := h.hl
  have := h.ack
  have := hL.kn
  have el : now (Cs14.heard { x with acked := max x.acked L.knows } L.first L.pads).1 = now x := should_len _ _
  refine ⟨?_, learn_low h.had hL.pv, ?_, ?_, ?_, ?_, h.fl, h.fn⟩
  · rw [el]; exact h.own
  · show (Cs14.learn x.had L.first L.pads).length ≤ _
    omega
  · rw [el]; rfl
  · rw [el]; exact h.now
  · show max x.acked L.knows ≤ _
    omega
/-! ### the calls, one by one -/
section
variable (s : TSt)
theorem sp_begin (d a : Int) (l : List Int) : Cs14.spec s (.begin_ d a l) = if d < 0 ∨ 6 < d ∨ a < 1 ∨ 10 < a ∨ 128 < l.length ∨ (l.all Cs14.isByte) = false then (s, [-1]) else (Cs14.begun (l.map Int.toNat) d.toNat a.toNat, [0]) := rfl
theorem sp_frame (i v : Int) : Cs14.spec s (.frame i v) = if Cs14.isSide i = false ∨ v < 0 ∨ 15 < v then (s, [-1]) else if Cs14.LONG ≤ now (side s i.toNat) then (s, [-5]) else if upTo (side s i.toNat).had + s.ahead ≤ now (side s i.toNat) then (s, [-6]) else
  (setSide s i.toNat { side s i.toNat with own := (side s i.toNat).own ++ [(now (side s i.toNat) + s.delay, v.toNat)], used := should (side s i.toNat).had (now (side s i.toNat) + 1), runs := (side s i.toNat).runs + 1 },
    [Cs14.int (now (side s i.toNat) + 1), if (at? (side s i.toNat).had (now (side s i.toNat))).isSome = true then 0 else 1]) := rfl
theorem sp_send (i : Int) : Cs14.spec s (.send i) = if Cs14.isSide i = false then (s, [-1]) else if Cs14.NET ≤ s.net.length then (s, [-5]) else ({ s with net := s.net ++ [Cs14.letterOf s i.toNat] }, Cs14.told1 (Cs14.letterOf s i.toNat)) := rfl
def handed (k kp : Int) (L : Letter) : TSt := if kp = 1 then (Cs14.taken s L).1 else { (Cs14.taken s L).1 with net := (Cs14.taken s L).1.net.eraseIdx k.toNat }
theorem sp_hand (k kp : Int) : Cs14.spec s (.hand k kp) = if Cs14.isSide kp = false then (s, [-1]) else match Cs14.letter? s k with
  | none => (s, [-2])
  | some L => (handed s k kp L, [Cs14.int (Cs14.taken s L).2]) := rfl
theorem sp_lose (k : Int) : Cs14.spec s (.lose k) = match Cs14.letter? s k with
  | none => (s, [-2])
  | some _ => ({ s with net := s.net.eraseIdx k.toNat }, [Cs14.int (s.net.length - 1)]) := rfl
theorem sp_net : Cs14.spec s .net = (s, Cs14.int s.net.length :: s.net.flatMap Cs14.told1) := rfl
theorem sp_now (i : Int) : Cs14.spec s (.now i) = if Cs14.isSide i = false then (s, [-1]) else (s, [Cs14.int (now (side s i.toNat)), Cs14.int (CsBase.mark (stateAt s i.toNat (now (side s i.toNat))))]) := rfl
theorem sp_settled (i : Int) : Cs14.spec s (.settled i) = if Cs14.isSide i = false then (s, [-1]) else (s, [Cs14.int (Cs14.settled (side s i.toNat)), Cs14.int (CsBase.mark (stateAt s i.toNat (Cs14.settled (side s i.toNat))))]) := rfl
theorem sp_state (i t : Int) : Cs14.spec s (.state i t) = if Cs14.isSide i = false then (s, [-1]) else if t < 0 ∨ Cs14.int (now (side s i.toNat)) < t then (s, [-3]) else (s, (CsBase.told (stateAt s i.toNat t.toNat)).map Cs14.int) := rfl
theorem sp_pads (i t : Int) : Cs14.spec s (.pads i t) = if Cs14.isSide i = false then (s, [-1]) else if t < 0 ∨ Cs14.int (now (side s i.toNat)) ≤ t then (s, [-3]) else
  (s, [Cs14.int ((at? (side s i.toNat).own t.toNat).getD 0), Cs14.int ((side s i.toNat).used.getD t.toNat 0), if (at? (side s i.toNat).had t.toNat).isSome = true then 0 else 1]) := rfl
theorem sp_fault (i p v : Int) : Cs14.spec s (.fault i p v) = if Cs14.isSide i = false ∨ p < 0 ∨ 127 < p ∨ Cs14.isByte v = false then (s, [-1]) else if 10 ≤ (side s i.toNat).faults.length then (s, [-5]) else
  (setSide s i.toNat { side s i.toNat with faults := (side s i.toNat).faults ++ [(now (side s i.toNat), p.toNat, v.toNat)] }, [Cs14.int (now (side s i.toNat))]) := rfl
theorem sp_watch (k : Int) : Cs14.spec s (.watch k) = match Cs14.letter? s k with
  | none => (s, [-2])
  | some L => (Cs14.watched s L, [Cs14.int (seen (Cs14.watched s L)), Cs14.int (CsBase.mark (watchedAt (Cs14.watched s L) (seen (Cs14.watched s L))))]) := rfl
theorem sp_film : Cs14.spec s .film = (s, Cs14.int (seen s) :: (film s).map Cs14.int) := rfl
theorem sp_differ (i : Int) : Cs14.spec s (.differ i) = if Cs14.isSide i = false then (s, [-1]) else (s, match Cs14.parting (stateAt s i.toNat) (watchedAt s) (min (Cs14.settled (side s i.toNat)) (seen s)) with
    | none => [0, Cs14.int (min (Cs14.settled (side s i.toNat)) (seen s))]
    | some t => [1, Cs14.int t]) := rfl
theorem sp_both : Cs14.spec s .both = (s, match Cs14.parting (stateAt s 0) (stateAt s 1) (min (Cs14.settled s.a) (Cs14.settled s.b)) with
    | none => [0, Cs14.int (min (Cs14.settled s.a) (Cs14.settled s.b))]
    | some t => [1, Cs14.int t]) := rfl
theorem sp_runs (i : Int) : Cs14.spec s (.runs i) = if Cs14.isSide i = false then (s, [-1]) else (s, [Cs14.int (side s i.toNat).runs]) := rfl
end
theorem spec_ok {n : Nat} {s : TSt} (h : PInv n s) (c : Cs14.Call) : PInv (n + 1) (Cs14.spec s c).1 := by
  have h1 := h.mono (Nat.le_succ n)
  cases c with
  | begin_ d a l =>
    rw [sp_begin]
    by_cases c : d < 0 ∨ 6 < d ∨ a < 1 ∨ 10 < a ∨ 128 < l.length ∨ (l.all Cs14.isByte) = false
    · rw [if_pos c]; exact h1
    · rw [if_neg c]
      refine begun_ok _ (by omega) (by rw [List.length_map]; omega) fun b hb => ?_
      obtain ⟨z, hz, rfl⟩ := List.mem_map.mp hb
      have all : l.all Cs14.isByte = true := by
        cases e : l.all Cs14.isByte with
        | true => rfl
        | false => exact absurd (.inr (.inr (.inr (.inr (.inr e))))) c
      have := List.all_eq_true.mp all z hz
      unfold Cs14.isByte at this
      simp at this
      omega
  | frame i v =>
    rw [sp_frame]
    by_cases c : Cs14.isSide i = false ∨ v < 0 ∨ 15 < v
    · rw [if_pos c]; exact h1
    rw [if_neg c]
    by_cases c2 : Cs14.LONG ≤ now (side s i.toNat)
    · rw [if_pos c2]; exact h1
    rw [if_neg c2]
    by_cases c3 : upTo (side s i.toNat).had + s.ahead ≤ now (side s i.toNat)
    · rw [if_pos c3]; exact h1
    rw [if_neg c3]
    have hx := h1.side i.toNat
    refine h1.set _ ?_
    obtain ⟨ow, e, l, b⟩ := hx.own
    have nl : now ({ side s i.toNat with own := (side s i.toNat).own ++ [(now (side s i.toNat) + s.delay, v.toNat)], used := should (side s i.toNat).had (now (side s i.toNat) + 1), runs := (side s i.toNat).runs + 1 } : Side) = now (side s i.toNat) + 1 := should_len _ _
    refine ⟨⟨ow ++ [v.toNat], ?_, ?_, ?_⟩, hx.had, hx.hl, ?_, ?_, hx.ack, hx.fl, hx.fn⟩
    · show (side s i.toNat).own ++ _ = _
      rw [ownK_snoc, e, l]
    · rw [nl, List.length_append, l]
      show now (side s i.toNat) + s.delay + 1 = _
      omega
    · intro u hu
      rcases List.mem_append.mp hu with z | z
      · exact b u z
      · obtain rfl := List.mem_singleton.mp z
        omega
    · rw [nl]
    · rw [nl]
      unfold Cs14.LONG at c2
      omega
  | send i =>
    rw [sp_send]
    by_cases c : Cs14.isSide i = false
    · rw [if_pos c]; exact h1
    rw [if_neg c]
    by_cases c2 : Cs14.NET ≤ s.net.length
    · rw [if_pos c2]; exact h1
    rw [if_neg c2]
    have hx := h1.side i.toNat
    refine ⟨h1.pn, h1.pb, h1.dl, h1.a, h1.b, fun L hL => ?_, ?_, h1.wa, h1.wb, h1.na, h1.nb⟩
    · rcases List.mem_append.mp hL with z | z
      · exact h1.net L z
      · obtain rfl := List.mem_singleton.mp z
        have hs : Cs14.isSide i = true := by
          cases e : Cs14.isSide i with
          | true => rfl
          | false => exact absurd e c
        unfold Cs14.isSide at hs
        simp at hs
        refine ⟨?_, ?_, ?_, hx.ack, Nat.le_trans (upTo_le _) hx.hl⟩
        · show i.toNat < 2
          omega
        · show ((List.range (min 6 _)).map _).length ≤ 6
          rw [List.length_map, List.length_range]
          omega
        · intro v hv
          obtain ⟨k, _, rfl⟩ := List.mem_map.mp hv
          obtain ⟨ow, e, l, b⟩ := hx.own
          have : (at? (side s i.toNat).own ((side s i.toNat).acked + k)).getD 0 < 16 := by
            rw [e, ownK_at]
            cases e2 : ow[(side s i.toNat).acked + k]? with
            | none => decide
            | some v => exact b v (List.mem_of_getElem? e2)
          exact this
    · show (s.net ++ [_]).length ≤ 30
      rw [List.length_append]
      unfold Cs14.NET at c2
      show s.net.length + 1 ≤ 30
      omega
  | hand k kp =>
    rw [sp_hand]
    by_cases c : Cs14.isSide kp = false
    · rw [if_pos c]; exact h1
    rw [if_neg c]
    cases e : Cs14.letter? s k with
    | none => exact h1
    | some L =>
      obtain ⟨_, hk⟩ := letter_some e
      have hL := h.net L (List.mem_of_getElem? hk)
      have hT : PInv (n + 1) (Cs14.taken s L).1 := h1.set _ (heard_ok (h.side _) hL)
      show PInv (n + 1) (if kp = 1 then _ else _)
      by_cases c2 : kp = 1
      · rw [if_pos c2]; exact hT
      · rw [if_neg c2]
        exact ⟨hT.pn, hT.pb, hT.dl, hT.a, hT.b, fun L' h' => hT.net L' (List.mem_of_mem_eraseIdx h'), Nat.le_trans (List.length_eraseIdx_le _ _) hT.nl, hT.wa, hT.wb, hT.na, hT.nb⟩
  | lose k =>
    rw [sp_lose]
    cases e : Cs14.letter? s k with
    | none => exact h1
    | some L => exact ⟨h1.pn, h1.pb, h1.dl, h1.a, h1.b, fun L' h' => h1.net L' (List.mem_of_mem_eraseIdx h'), Nat.le_trans (List.length_eraseIdx_le _ _) h1.nl, h1.wa, h1.wb, h1.na, h1.nb⟩
  | net => exact h1
  | now i =>
    rw [sp_now]
    split <;> exact h1
  | settled i =>
    rw [sp_settled]
    split <;> exact h1
  | state i t =>
    rw [sp_state]
    split
    · exact h1
    · split <;> exact h1
  | pads i t =>
    rw [sp_pads]
    split
    · exact h1
    · split <;> exact h1
  | fault i p v =>
    rw [sp_fault]
    by_cases c : Cs14.isSide i = false ∨ p < 0 ∨ 127 < p ∨ Cs14.isByte v = false
    · rw [if_pos c]; exact h1
    rw [if_neg c]
    by_cases c2 : 10 ≤ (side s i.toNat).faults.length
    · rw [if_pos c2]; exact h1
    rw [if_neg c2]
    have hx := h1.side i.toNat
    refine h1.set _ ⟨hx.own, hx.had, hx.hl, hx.used, hx.now, hx.ack, fun f hf => ?_, ?_⟩
    · rcases List.mem_append.mp hf with z | z
      · exact hx.fl f z
      · obtain rfl := List.mem_singleton.mp z
        have hv : Cs14.isByte v = true := by
          cases e : Cs14.isByte v with
          | true => rfl
          | false => exact absurd (.inr (.inr (.inr e))) c
        unfold Cs14.isByte at hv
        simp at hv
        show p.toNat < 128 ∧ v.toNat < 256
        omega
    · show ((side s i.toNat).faults ++ [_]).length ≤ 10
      rw [List.length_append]
      show (side s i.toNat).faults.length + 1 ≤ 10
      omega
  | watch k =>
    rw [sp_watch]
    cases e : Cs14.letter? s k with
    | none => exact h1
    | some L =>
      obtain ⟨_, hk⟩ := letter_some e
      have hL := h.net L (List.mem_of_getElem? hk)
      have := hL.pn
      show PInv (n + 1) (Cs14.watched s L)
      unfold Cs14.watched
      by_cases c : L.src = 0
      · rw [if_pos c]
        have ll := learn_len s.wa L.first L.pads
        have := h.na
        exact ⟨h1.pn, h1.pb, h1.dl, h1.a, h1.b, h1.net, h1.nl, learn_low h.wa hL.pv, h1.wb, (by show (Cs14.learn s.wa L.first L.pads).length ≤ _; omega), h1.nb⟩
      · rw [if_neg c]
        have ll := learn_len s.wb L.first L.pads
        have := h.nb
        exact ⟨h1.pn, h1.pb, h1.dl, h1.a, h1.b, h1.net, h1.nl, h1.wa, learn_low h.wb hL.pv, h1.na, (by show (Cs14.learn s.wb L.first L.pads).length ≤ _; omega)⟩
  | film => exact h1
  | differ i =>
    rw [sp_differ]
    split <;> exact h1
  | both => exact h1
  | runs i =>
    rw [sp_runs]
    split <;> exact h1
theorem start_ok : PInv 0 Cs14.start := begun_ok 0 (by omega) (Nat.zero_le _) nofun
end TP
namespace TP
open PySem PySem.Spec PyProof.Rows L2
open CsBase (Mach)
open Cs14 (Known at? Letter)
open Cs14 (Side side setSide upTo should now stateAt seen film watchedAt)
/-! # The game in memory -/
def Ap (F G : Ft) : Prop := (∀ b, F.m b → ¬ G.f b) ∧ ∀ b, G.m b → ¬ F.f b
theorem Ap.symm {F G : Ft} (x : Ap F G) : Ap G F := ⟨x.2, x.1⟩
theorem Ap.off {F G : Ft} (x : Ap F G) : ∀ b, G.f b → ¬ F.m b := fun b g m => x.1 b m g
theorem Ap.step {H H' : Hp} {F F' G : Ft} (x : Ap F G) (st : Stp H F H' F') (tk : ∀ b, G.f b → ∃ o, H b = some o) (mg : ∀ b, G.m b → G.f b) : Ap F' G := by
  refine ⟨fun b h g => ?_, fun b g h => ?_⟩
  · rcases st.m b h with z | z
    · exact x.1 b z g
    · obtain ⟨o, e⟩ := tk b g
      rw [z] at e
      cases e
  · rcases st.f b h with z | z
    · exact x.2 b g z
    · obtain ⟨o, e⟩ := tk b (mg b g)
      rw [z] at e
      cases e
structure GA where
  g : Addr
  sl : Addr
  lt : Addr
  a0 : SideA
  a1 : SideA
  wa : WA
  ls : List (Addr × Letter)
  ahead : Nat
def GA.rt (A : GA) : Ft := ⟨fun b => b = A.g ∨ b = A.lt, fun b => (b = A.g ∨ b = A.lt) ∨ b = A.sl ∨ ∃ r, r ∈ A.ls ∧ r.1 = b⟩
def GA.ft (A : GA) : Ft := ⟨fun b => A.a0.m b ∨ A.a1.m b ∨ A.wa.m b ∨ A.rt.m b, fun b => A.a0.f b ∨ A.a1.f b ∨ A.wa.f b ∨ A.rt.f b⟩
def GA.side (A : GA) (i : Nat) : SideA := if i = 0 then A.a0 else A.a1
def GA.set (A : GA) (i : Nat) (a : SideA) : GA := if i = 0 then { A with a0 := a } else { A with a1 := a }
def fG (v0 v1 v2 v3 : V) : List (Str × V) := [("ahead", v0), ("sides", v1), ("letters", v2), ("watcher", v3)]
section
variable {v0 v1 v2 v3 w : V}
theorem fG_ahead : (fG v0 v1 v2 v3).lookup ("ahead" : Str) = some v0 := getF0
theorem fG_sides : (fG v0 v1 v2 v3).lookup ("sides" : Str) = some v1 := (getF1 (by decide +kernel)).trans (getF0)
theorem fG_letters : (fG v0 v1 v2 v3).lookup ("letters" : Str) = some v2 := (getF1 (by decide +kernel)).trans ((getF1 (by decide +kernel)).trans (getF0))
theorem fG_watcher : (fG v0 v1 v2 v3).lookup ("watcher" : Str) = some v3 := (getF1 (by decide +kernel)).trans ((getF1 (by decide +kernel)).trans ((getF1 (by decide +kernel)).trans (getF0)))
theorem fG_no_begin : (fG v0 v1 v2 v3).lookup ("begin" : Str) = none := (getF1 (by decide +kernel)).trans ((getF1 (by decide +kernel)).trans ((getF1 (by decide +kernel)).trans ((getF1 (by decide +kernel)).trans (rfl))))
theorem fG_no_frame : (fG v0 v1 v2 v3).lookup ("frame" : Str) = none := (getF1 (by decide +kernel)).trans ((getF1 (by decide +kernel)).trans ((getF1 (by decide +kernel)).trans ((getF1 (by decide +kernel)).trans (rfl))))
theorem fG_no_send : (fG v0 v1 v2 v3).lookup ("send" : Str) = none := (getF1 (by decide +kernel)).trans ((getF1 (by decide +kernel)).trans ((getF1 (by decide +kernel)).trans ((getF1 (by decide +kernel)).trans (rfl))))
theorem fG_no_has_letter : (fG v0 v1 v2 v3).lookup ("has_letter" : Str) = none := (getF1 (by decide +kernel)).trans ((getF1 (by decide +kernel)).trans ((getF1 (by decide +kernel)).trans ((getF1 (by decide +kernel)).trans (rfl))))
theorem fG_no_hand : (fG v0 v1 v2 v3).lookup ("hand" : Str) = none := (getF1 (by decide +kernel)).trans ((getF1 (by decide +kernel)).trans ((getF1 (by decide +kernel)).trans ((getF1 (by decide +kernel)).trans (rfl))))
theorem fG_no_lose : (fG v0 v1 v2 v3).lookup ("lose" : Str) = none := (getF1 (by decide +kernel)).trans ((getF1 (by decide +kernel)).trans ((getF1 (by decide +kernel)).trans ((getF1 (by decide +kernel)).trans (rfl))))
theorem fG_no_net : (fG v0 v1 v2 v3).lookup ("net" : Str) = none := (getF1 (by decide +kernel)).trans ((getF1 (by decide +kernel)).trans ((getF1 (by decide +kernel)).trans ((getF1 (by decide +kernel)).trans (rfl))))
theorem fG_no_now : (fG v0 v1 v2 v3).lookup ("now" : Str) = none := (getF1 (by decide +kernel)).trans ((getF1 (by decide +kernel)).trans ((getF1 (by decide +kernel)).trans ((getF1 (by decide +kernel)).trans (rfl))))
theorem fG_no_settled : (fG v0 v1 v2 v3).lookup ("settled" : Str) = none := (getF1 (by decide +kernel)).trans ((getF1 (by decide +kernel)).trans ((getF1 (by decide +kernel)).trans ((getF1 (by decide +kernel)).trans (rfl))))
theorem fG_no_state : (fG v0 v1 v2 v3).lookup ("state" : Str) = none := (getF1 (by decide +kernel)).trans ((getF1 (by decide +kernel)).trans ((getF1 (by decide +kernel)).trans ((getF1 (by decide +kernel)).trans (rfl))))
theorem fG_no_pads : (fG v0 v1 v2 v3).lookup ("pads" : Str) = none := (getF1 (by decide +kernel)).trans ((getF1 (by decide +kernel)).trans ((getF1 (by decide +kernel)).trans ((getF1 (by decide +kernel)).trans (rfl))))
theorem fG_no_fault : (fG v0 v1 v2 v3).lookup ("fault" : Str) = none := (getF1 (by decide +kernel)).trans ((getF1 (by decide +kernel)).trans ((getF1 (by decide +kernel)).trans ((getF1 (by decide +kernel)).trans (rfl))))
theorem fG_no_watch : (fG v0 v1 v2 v3).lookup ("watch" : Str) = none := (getF1 (by decide +kernel)).trans ((getF1 (by decide +kernel)).trans ((getF1 (by decide +kernel)).trans ((getF1 (by decide +kernel)).trans (rfl))))
theorem fG_no_film : (fG v0 v1 v2 v3).lookup ("film" : Str) = none := (getF1 (by decide +kernel)).trans ((getF1 (by decide +kernel)).trans ((getF1 (by decide +kernel)).trans ((getF1 (by decide +kernel)).trans (rfl))))
theorem fG_no_differ : (fG v0 v1 v2 v3).lookup ("differ" : Str) = none := (getF1 (by decide +kernel)).trans ((getF1 (by decide +kernel)).trans ((getF1 (by decide +kernel)).trans ((getF1 (by decide +kernel)).trans (rfl))))
theorem fG_no_both : (fG v0 v1 v2 v3).lookup ("both" : Str) = none := (getF1 (by decide +kernel)).trans ((getF1 (by decide +kernel)).trans ((getF1 (by decide +kernel)).trans ((getF1 (by decide +kernel)).trans (rfl))))
theorem fG_no_runs : (fG v0 v1 v2 v3).lookup ("runs" : Str) = none := (getF1 (by decide +kernel)).trans ((getF1 (by decide +kernel)).trans ((getF1 (by decide +kernel)).trans ((getF1 (by decide +kernel)).trans (rfl))))
theorem fG_put_ahead : putF "ahead" w (fG v0 v1 v2 v3) = fG w v1 v2 v3 := storeF0
theorem fG_put_sides : putF "sides" w (fG v0 v1 v2 v3) = fG v0 w v2 v3 := (storeF1 (by decide +kernel)).trans (congrArg _ (storeF0))
theorem fG_put_letters : putF "letters" w (fG v0 v1 v2 v3) = fG v0 v1 w v3 := (storeF1 (by decide +kernel)).trans (congrArg _ ((storeF1 (by decide +kernel)).trans (congrArg _ (storeF0))))
theorem fG_put_watcher : putF "watcher" w (fG v0 v1 v2 v3) = fG v0 v1 v2 w := (storeF1 (by decide +kernel)).trans (congrArg _ ((storeF1 (by decide +kernel)).trans (congrArg _ ((storeF1 (by decide +kernel)).trans (congrArg _ (storeF0))))))
theorem fG_new1 : putF "sides" v1 ([("ahead", v0)] : List (Str × V)) = ([("ahead", v0), ("sides", v1)] : List (Str × V)) := (storeF1 (by decide +kernel)).trans (congrArg _ (rfl))
theorem fG_new2 : putF "letters" v2 ([("ahead", v0), ("sides", v1)] : List (Str × V)) = ([("ahead", v0), ("sides", v1), ("letters", v2)] : List (Str × V)) := (storeF1 (by decide +kernel)).trans (congrArg _ ((storeF1 (by decide +kernel)).trans (congrArg _ (rfl))))
theorem fG_new3 : putF "watcher" v3 ([("ahead", v0), ("sides", v1), ("letters", v2)] : List (Str × V)) = ([("ahead", v0), ("sides", v1), ("letters", v2), ("watcher", v3)] : List (Str × V)) := (storeF1 (by decide +kernel)).trans (congrArg _ ((storeF1 (by decide +kernel)).trans (congrArg _ ((storeF1 (by decide +kernel)).trans (congrArg _ (rfl))))))
end

def gF (A : GA) : List (Str × V) := fG (nI A.ahead) (.ref A.sl) (.ref A.lt) (.ref A.wa.p)
structure RestAt (C : Addr) (H : Hp) (A : GA) : Prop where
  o : ∃ dx, H A.g = some (.ins C dx (gF A))
  sl : H A.sl = some (.lst [.ref A.a0.p, .ref A.a1.p])
  lt : H A.lt = some (.lst (refsOf A.ls))
  ls : ∀ r, r ∈ A.ls → H r.1 = some (.lst (ltV r.2)) ∧ r.1 ≠ A.lt
  ne : A.sl ≠ A.lt
structure GameAt (CS CW CG : Addr) (H : Hp) (A : GA) : Prop where
  r : RestAt CG H A
  s0 : SideAt CS H A.a0
  s1 : SideAt CS H A.a1
  w : WatAt CW H A.wa
  x01 : Ap A.a0.ft A.a1.ft
  x0w : Ap A.a0.ft A.wa.ft
  x1w : Ap A.a1.ft A.wa.ft
  x0r : Ap A.a0.ft A.rt
  x1r : Ap A.a1.ft A.rt
  xwr : Ap A.wa.ft A.rt
section
variable {CS CW CG : Addr} {H H' : Hp} {A : GA}
theorem RestAt.trk (R : RestAt CG H A) {b : Addr} (h : A.rt.f b) : ∃ o, H b = some o := by
  obtain ⟨dx, h1⟩ := R.o
  rcases h with (h | h) | h | ⟨r, hr, h⟩
  · exact ⟨_, h ▸ h1⟩
  · exact ⟨_, h ▸ R.lt⟩
  · exact ⟨_, h ▸ R.sl⟩
  · exact ⟨_, h ▸ (R.ls r hr).1⟩
theorem RestAt.fr {Z : Addr → Prop} (R : RestAt CG H A) (k : Kp Z H H') (h : ∀ b, A.rt.f b → ¬ Z b) : RestAt CG H' A := by
  obtain ⟨dx, h1⟩ := R.o
  refine ⟨⟨dx, k _ _ h1 (h _ (.inl (.inl rfl)))⟩, k _ _ R.sl (h _ (.inr (.inl rfl))), k _ _ R.lt (h _ (.inl (.inr rfl))), fun r hr => ?_, R.ne⟩
  obtain ⟨x, y⟩ := R.ls r hr
  exact ⟨k _ _ x (h _ (.inr (.inr ⟨r, hr, rfl⟩))), y⟩
theorem GameAt.trk (G : GameAt CS CW CG H A) {b : Addr} (h : A.ft.f b) : ∃ o, H b = some o := by
  rcases h with h | h | h | h
  · exact G.s0.trk h
  · exact G.s1.trk h
  · exact G.w.trk h
  · exact G.r.trk h
theorem GA.mf (A : GA) : ∀ b, A.ft.m b → A.ft.f b := fun b h => by
  rcases h with h | h | h | h
  · exact .inl (.inl h)
  · exact .inr (.inl (.inl h))
  · exact .inr (.inr (.inl (.inl h)))
  · exact .inr (.inr (.inr (.inl h)))
theorem GameAt.fr {Z : Addr → Prop} (G : GameAt CS CW CG H A) (k : Kp Z H H') (h : ∀ b, A.ft.f b → ¬ Z b) : GameAt CS CW CG H' A :=
  ⟨G.r.fr k fun b y => h b (.inr (.inr (.inr y))), G.s0.fr k fun b y => h b (.inl y), G.s1.fr k fun b y => h b (.inr (.inl y)), G.w.fr k fun b y => h b (.inr (.inr (.inl y))), G.x01, G.x0w, G.x1w, G.x0r, G.x1r, G.xwr⟩
theorem GameAt.same (G : GameAt CS CW CG H A) (k : Same H H') : GameAt CS CW CG H' A := G.fr (Z := fun _ => False) (fun b o e _ => k b o e) fun _ _ z => z
theorem GameAt.set0 (G : GameAt CS CW CG H A) {a : SideA} (S : SideAt CS H' a) (hp : a.p = A.a0.p) (st : Stp H A.a0.ft H' a.ft) :
    GameAt CS CW CG H' { A with a0 := a } ∧ Stp H A.ft H' ({ A with a0 := a } : GA).ft := by
  have R := G.r.fr st.k G.x0r.off
  refine ⟨⟨⟨R.o, ?_, R.lt, R.ls, R.ne⟩, S, G.s1.fr st.k G.x01.off, G.w.fr st.k G.x0w.off, G.x01.step st (fun b => G.s1.trk) fun _ h => .inl h, G.x0w.step st (fun b => G.w.trk) fun _ h => .inl h, G.x1w, G.x0r.step st (fun b => G.r.trk) fun _ h => .inl h, G.x1r, G.xwr⟩, ⟨fun b h => ?_, fun b h => ?_, st.k.mono fun b h => .inl h⟩⟩
  · show H' A.sl = some (.lst [.ref a.p, .ref A.a1.p])
    rw [hp]; exact R.sl
  · rcases h with h | h
    · exact (st.m b h).imp .inl id
    · exact .inl (.inr h)
  · rcases h with h | h
    · exact (st.f b h).imp .inl id
    · exact .inl (.inr h)
theorem GameAt.set1 (G : GameAt CS CW CG H A) {a : SideA} (S : SideAt CS H' a) (hp : a.p = A.a1.p) (st : Stp H A.a1.ft H' a.ft) :
    GameAt CS CW CG H' { A with a1 := a } ∧ Stp H A.ft H' ({ A with a1 := a } : GA).ft := by
  have R := G.r.fr st.k G.x1r.off
  refine ⟨⟨⟨R.o, ?_, R.lt, R.ls, R.ne⟩, G.s0.fr st.k G.x01.symm.off, S, G.w.fr st.k G.x1w.off, (G.x01.symm.step st (fun b => G.s0.trk) fun _ h => .inl h).symm, G.x0w, G.x1w.step st (fun b => G.w.trk) fun _ h => .inl h, G.x0r, G.x1r.step st (fun b => G.r.trk) fun _ h => .inl h, G.xwr⟩, ⟨fun b h => ?_, fun b h => ?_, st.k.mono fun b h => .inr (.inl h)⟩⟩
  · show H' A.sl = some (.lst [.ref A.a0.p, .ref a.p])
    rw [hp]; exact R.sl
  · rcases h with h | h | h
    · exact .inl (.inl h)
    · exact (st.m b h).imp (fun y => .inr (.inl y)) id
    · exact .inl (.inr (.inr h))
  · rcases h with h | h | h
    · exact .inl (.inl h)
    · exact (st.f b h).imp (fun y => .inr (.inl y)) id
    · exact .inl (.inr (.inr h))
theorem GameAt.setW (G : GameAt CS CW CG H A) {a : WA} (S : WatAt CW H' a) (hp : a.p = A.wa.p) (st : Stp H A.wa.ft H' a.ft) :
    GameAt CS CW CG H' { A with wa := a } ∧ Stp H A.ft H' ({ A with wa := a } : GA).ft := by
  have R := G.r.fr st.k G.xwr.off
  refine ⟨⟨⟨?_, R.sl, R.lt, R.ls, R.ne⟩, G.s0.fr st.k G.x0w.symm.off, G.s1.fr st.k G.x1w.symm.off, S, G.x01, (G.x0w.symm.step st (fun b => G.s0.trk) fun _ h => .inl h).symm, (G.x1w.symm.step st (fun b => G.s1.trk) fun _ h => .inl h).symm, G.x0r, G.x1r, G.xwr.step st (fun b => G.r.trk) fun _ h => .inl h⟩, ⟨fun b h => ?_, fun b h => ?_, st.k.mono fun b h => .inr (.inr (.inl h))⟩⟩
  · obtain ⟨dx, e⟩ := R.o
    refine ⟨dx, ?_⟩
    show H' A.g = some (.ins CG dx (fG (nI A.ahead) (.ref A.sl) (.ref A.lt) (.ref a.p)))
    rw [hp]; exact e
  · rcases h with h | h | h | h
    · exact .inl (.inl h)
    · exact .inl (.inr (.inl h))
    · exact (st.m b h).imp (fun y => .inr (.inr (.inl y))) id
    · exact .inl (.inr (.inr (.inr h)))
  · rcases h with h | h | h | h
    · exact .inl (.inl h)
    · exact .inl (.inr (.inl h))
    · exact (st.f b h).imp (fun y => .inr (.inr (.inl y))) id
    · exact .inl (.inr (.inr (.inr h)))
/-- the letters' list alone -/
theorem GameAt.setL (G : GameAt CS CW CG H A) {w : List (Addr × Letter)} (hw : ∀ r, r ∈ w → r ∈ A.ls ∨ (H r.1 = some (.lst (ltV r.2)) ∧ ¬ A.ft.f r.1)) :
    GameAt CS CW CG (upd H A.lt (.lst (refsOf w))) { A with ls := w } := by
  obtain ⟨dx, h1⟩ := G.r.o
  have k : Kp (S1 A.lt) H (upd H A.lt (.lst (refsOf w))) := Kp.refl.upd rfl
  have tl : ∀ r, r ∈ w → H r.1 = some (.lst (ltV r.2)) ∧ r.1 ≠ A.lt := fun r hr => by
    rcases hw r hr with z | ⟨z, n⟩
    · exact G.r.ls r z
    · exact ⟨z, fun e => n (.inr (.inr (.inr (.inl (.inr e)))))⟩
  have ap : ∀ {F : Ft}, (∀ b, F.m b → F.f b) → (∀ b, F.f b → A.ft.f b) → Ap F A.rt → Ap F ({ A with ls := w } : GA).rt := fun {F} mf ff x => by
    refine ⟨fun b h g => ?_, x.2⟩
    rcases g with g | g | ⟨r, hr, e⟩
    · exact x.1 b h (.inl g)
    · exact x.1 b h (.inr (.inl g))
    · rcases hw r hr with z | ⟨_, n⟩
      · exact x.1 b h (.inr (.inr ⟨r, z, e⟩))
      · exact n (e ▸ ff b (mf b h))
  refine ⟨⟨⟨dx, ?_⟩, ?_, upd_same, fun r hr => ?_, G.r.ne⟩, G.s0.fr k fun b h z => ?_, G.s1.fr k fun b h z => ?_, G.w.fr k fun b h z => ?_, G.x01, G.x0w, G.x1w, ap (fun _ h => .inl h) (fun _ h => .inl h) G.x0r, ap (fun _ h => .inl h) (fun _ h => .inr (.inl h)) G.x1r, ap (fun _ h => .inl h) (fun _ h => .inr (.inr (.inl h))) G.xwr⟩
  · rw [upd_ne (kind_ne h1 G.r.lt nofun)]; exact h1
  · rw [upd_ne G.r.ne]; exact G.r.sl
  · obtain ⟨x, y⟩ := tl r hr
    exact ⟨by rw [upd_ne y]; exact x, y⟩
  · exact G.x0r.2 b (.inr z) h
  · exact G.x1r.2 b (.inr z) h
  · exact G.xwr.2 b (.inr z) h
theorem GameAt.side (G : GameAt CS CW CG H A) (i : Nat) : SideAt CS H (A.side i) := by
  unfold GA.side
  split
  · exact G.s0
  · exact G.s1
theorem GameAt.set (G : GameAt CS CW CG H A) (i : Nat) {a : SideA} (S : SideAt CS H' a) (hp : a.p = (A.side i).p) (st : Stp H (A.side i).ft H' a.ft) :
    GameAt CS CW CG H' (A.set i a) ∧ Stp H A.ft H' (A.set i a).ft := by
  unfold GA.side at hp st
  unfold GA.set
  by_cases c : i = 0
  · rw [if_pos c] at hp st ⊢
    exact G.set0 S hp st
  · rw [if_neg c] at hp st ⊢
    exact G.set1 S hp st
theorem side_at (A : GA) {i : Int} (h : i = 0 ∨ i = 1) : atI [V.ref A.a0.p, V.ref A.a1.p] i = some (.ref (A.side i.toNat).p) := by
  rcases h with rfl | rfl
  · exact at_of (j := 0) rfl rfl
  · exact at_of (j := 1) rfl rfl
theorem GA.set_g (A : GA) (i : Nat) (a : SideA) : (A.set i a).g = A.g ∧ (A.set i a).ahead = A.ahead ∧ (A.set i a).ls = A.ls ∧ (A.set i a).wa = A.wa ∧ (A.set i a).sl = A.sl ∧ (A.set i a).lt = A.lt := by
  unfold GA.set
  split <;> exact ⟨rfl, rfl, rfl, rfl, rfl, rfl⟩
/-- the sides' parts are off the rest -/
theorem GameAt.offL (G : GameAt CS CW CG H A) (i : Nat) {r : Addr × Letter} (hr : r ∈ A.ls) : ¬ (A.side i).m r.1 := by
  unfold GA.side
  split
  · exact fun h => G.x0r.1 _ h (.inr (.inr ⟨r, hr, rfl⟩))
  · exact fun h => G.x1r.1 _ h (.inr (.inr ⟨r, hr, rfl⟩))
end
/-- it is the state s -/
structure GIs (A : GA) (s : TSt) : Prop where
  sd : ∀ i, i < 2 → Rel s.program i (side s i) (A.side i).sd
  net : A.ls.map (·.2) = s.net
  w : WRel s A.wa.wd
  ah : A.ahead = s.ahead
theorem side_ne {i : Nat} (h : i < 2) : i = 0 ∨ i = 1 := by omega
theorem GIs.set {A : GA} {s : TSt} (I : GIs A s) {i : Nat} (hi : i < 2) {a : SideA} {x : Side} (R : Rel s.program i x a.sd) : GIs (A.set i a) (setSide s i x) := by
  have w : WRel (setSide s i x) A.wa.wd := by
    unfold setSide
    split <;> exact ⟨I.w.l0, I.w.l1, I.w.fm, I.w.can⟩
  obtain ⟨_, g2, g3, g4, _⟩ := A.set_g i a
  refine ⟨fun j hj => ?_, ?_, by rw [g4]; exact w, ?_⟩
  · have o := I.sd j hj
    rcases side_ne hi with rfl | rfl <;> rcases side_ne hj with rfl | rfl
    · exact R
    · exact o
    · exact o
    · exact R
  · rw [g3, I.net]
    unfold setSide
    split <;> rfl
  · rw [g2, I.ah]
    unfold setSide
    split <;> rfl
def GOk (CS CW CG : Addr) (H : Hp) (A : GA) (s : TSt) : Prop := GameAt CS CW CG H A ∧ GIs A s
/-- what a call is to bring -/
def Ans (CS CW CG : Addr) (H : Hp) (A : GA) (s : TSt) (c : Cs14.Call) (Q : VK) : Prop := ∀ (H' : Hp) (A' : GA) (r : Addr), A'.g = A.g → GOk CS CW CG H' A' (Cs14.spec s c).1 → Stp H A.ft H' A'.ft → (A.ft.m r ∨ H r = none) → H' r = some (.lst ((Cs14.spec s c).2.map V.int)) → Q (.ref r) H'
theorem Ans.look {CS CW CG : Addr} {H H' : Hp} {A : GA} {s : TSt} {c : Cs14.Call} {Q : VK} {l : List Int} {r : Addr} (k : Ans CS CW CG H A s c Q) (g : GOk CS CW CG H A s) (e : Cs14.spec s c = (s, l)) (sm : Same H H') (hr : H r = none) (h : H' r = some (.lst (l.map V.int))) : Q (.ref r) H' := by
  refine k H' A r rfl ?_ ⟨fun _ h => .inl h, fun _ h => .inl h, Kp.same sm⟩ (.inr hr) (by rw [e]; exact h)
  rw [e]
  exact ⟨g.1.same sm, g.2⟩
theorem same_new {H : Hp} {r : Addr} {o : HO} (h : H r = none) : Same H (upd H r o) := fun b u e => by
  rw [upd_ne (ne_of_none e h)]
  exact e
theorem Ans.no {CS CW CG : Addr} {H : Hp} {A : GA} {s : TSt} {c : Cs14.Call} {Q : VK} {l : List Int} (k : Ans CS CW CG H A s c Q) (g : GOk CS CW CG H A s) (e : Cs14.spec s c = (s, l)) (r : Addr) (hr : H r = none) : Q (.ref r) (upd H r (.lst (l.map V.int))) :=
  k.look g e (same_new hr) hr upd_same
def wi (n l m : Int) : Bool := decide (l ≤ n) && decide (n ≤ m)
theorem isSide_wi (i : Int) : Cs14.isSide i = wi i 0 1 := by
  unfold Cs14.isSide wi
  by_cases a : i = 0
  · rw [a]; rfl
  · by_cases b : i = 1
    · rw [b]; rfl
    · rw [beq_eq_false_iff_ne.mpr a, beq_eq_false_iff_ne.mpr b]
      by_cases c : 0 ≤ i
      · rw [decide_eq_false (show ¬ i ≤ 1 by omega), Bool.and_false]; rfl
      · rw [decide_eq_false c]; rfl
theorem wi_true {n l m : Int} : wi n l m = true ↔ l ≤ n ∧ n ≤ m := by
  unfold wi
  rw [Bool.and_eq_true, decide_eq_true_iff, decide_eq_true_iff]
theorem wi_false {n l m : Int} : wi n l m = false ↔ n < l ∨ m < n := by
  cases c : wi n l m with
  | true =>
    have := wi_true.mp c
    refine ⟨fun z => (by cases z), fun z => ?_⟩
    omega
  | false =>
    refine ⟨fun _ => ?_, fun _ => rfl⟩
    apply Classical.byContradiction
    intro z
    rw [wi_true.mpr ⟨by omega, by omega⟩] at c
    cases c
end TP
namespace TP
open PySem PySem.Spec PyProof.Rows L2
open CsBase (Mach)
open Cs14 (Known at? Letter)
open Cs14 (Side side setSide upTo should now stateAt seen film watchedAt)
structure TxtF (K : PySem.W.Frag) (mg : Str → Option Value) : Prop where
  g_MOST_DELAY : mg "MOST_DELAY" = some (.int 6 (tokOf (mg "MOST_DELAY")))
  g_MOST_AHEAD : mg "MOST_AHEAD" = some (.int 10 (tokOf (mg "MOST_AHEAD")))
  g_MOST_BYTES : mg "MOST_BYTES" = some (.int 128 (tokOf (mg "MOST_BYTES")))
  g_MOST_BYTE : mg "MOST_BYTE" = some (.int 255 (tokOf (mg "MOST_BYTE")))
  b_len : mg "len" = none
  b_min : mg "min" = none
  b_all : mg "all" = none
  b_range : mg "range" = none
def spWithin : Sp := fun vs H Q _ => ∃ n l m : Int, vs = [.int n, .int l, .int m] ∧ Q (.bl (wi n l m)) H
def spIsSide : Sp := fun vs H Q _ => ∃ n : Int, vs = [.int n] ∧ Q (.bl (wi n 0 1)) H
def okB (d a : Int) (ns : List Int) : Bool := wi d 0 6 && wi a 1 10 && decide (ns.length ≤ 128) && ns.all Cs14.isByte
def spMay : Sp := fun vs H Q _ => ∃ (l : Addr) (d a : Int) (ns : List Int), vs = [.int d, .int a, .ref l] ∧ H l = some (.lst (ns.map V.int)) ∧ ns.length ≤ 1000 ∧ ∀ H', Same H H' → Q (.bl (okB d a ns)) H'
def freshD (i d : Nat) (bs : List Nat) : SD := ⟨i, List.replicate d 0, zer d, d, [], [CsBase.loaded bs], [], 0⟩
def spTwo (C : Addr) : Sp := fun vs H Q _ => ∃ (l : Addr) (d : Nat) (bs : List Nat), vs = [nI d, .ref l] ∧ H l = some (.lst (bs.map nI)) ∧ d ≤ 6 ∧ bs.length ≤ 128 ∧ (∀ b ∈ bs, b < 256) ∧
  ∀ (H' : Hp) (r : Addr) (a0 a1 : SideA), H r = none → H' r = some (.lst [.ref a0.p, .ref a1.p]) → SideAt C H' a0 → SideAt C H' a1 → a0.sd = freshD 0 d bs → a1.sd = freshD 1 d bs → Ap a0.ft a1.ft → (∀ b, a0.f b → H b = none ∧ b ≠ r) → (∀ b, a1.f b → H b = none ∧ b ≠ r) → Same H H' → Q (.ref r) H'
def apartL (xs ys : List (Addr × Mach)) : List Int := match (List.range (min xs.length ys.length)).find? fun t => decide ((xs.map (·.2))[t]? ≠ (ys.map (·.2))[t]?) with
  | some t => [1, (t : Int)]
  | none => [0, ((min xs.length ys.length - 1 : Nat) : Int)]
def StsIn (H : Hp) (xs : List (Addr × Mach)) : Prop := ∀ r, r ∈ xs → H r.1 = some (.lst (numL r.2)) ∧ Good r.2
def spApart : Sp := fun vs H Q _ => ∃ (l0 l1 : Addr) (xs ys : List (Addr × Mach)), vs = [.ref l0, .ref l1] ∧ H l0 = some (.lst (refsOf xs)) ∧ H l1 = some (.lst (refsOf ys)) ∧ StsIn H xs ∧ StsIn H ys ∧ 1 ≤ xs.length ∧ 1 ≤ ys.length ∧ xs.length ≤ 10000 ∧ ys.length ≤ 10000 ∧
  ∀ r, H r = none → Q (.ref r) (upd H r (.lst ((apartL xs ys).map V.int)))
theorem told_inj {m n : Mach} (h : CsBase.told m = CsBase.told n) : m = n := by
  obtain ⟨mm, ma, mx, mp, mz, mc⟩ := m
  obtain ⟨nm, na, nx, np, nz, nc⟩ := n
  unfold CsBase.told at h
  simp only [List.cons_append, List.nil_append, List.cons.injEq] at h
  obtain ⟨rfl, rfl, rfl, h4, h5, h6⟩ := h
  have e6 : mm = nm := Array.toList_inj.mp h6
  have e4 : mz = nz := by cases mz <;> cases nz <;> first | rfl | cases h4
  have e5 : mc = nc := by cases mc <;> cases nc <;> first | rfl | cases h5
  rw [e6, e4, e5]
abbrev pdI (n : Nat) : PyData := .int (n : Int)
theorem canLay_ints (ns : List Nat) : PyData.canLayAll0 (ns.map pdI) = true := by
  induction ns with
  | nil => simp [PyData.canLayAll0]
  | cons n ns ih => simp [PyData.canLayAll0, PyData.canLay0, ih]
theorem depth_ints (ns : List Nat) : PyData.depthAll (ns.map pdI) ≤ 1 := by
  induction ns with
  | nil => simp [PyData.depthAll]
  | cons n ns ih =>
    simp [PyData.depthAll, PyData.depth]
    omega
theorem shaped_ints (ns : List Nat) : SeqAt.shaped (.list (ns.map pdI)) = true := by
  unfold SeqAt.shaped
  have := depth_ints ns
  rw [Bool.and_eq_true, decide_eq_true_iff]
  refine ⟨by simp [PyData.canLay0, canLay_ints ns], ?_⟩
  simp [PyData.depth]
  omega
theorem eqv_ints (ns ms : List Nat) : PyData.eqvAll (ns.map pdI) (ms.map pdI) = decide (ns = ms) := by
  induction ns generalizing ms with
  | nil => cases ms <;> simp [PyData.eqvAll]
  | cons a r ih =>
    cases ms with
    | nil => simp [PyData.eqvAll]
    | cons b t =>
      rw [List.map_cons, List.map_cons]
      simp only [PyData.eqvAll, PyData.eqv, ih]
      by_cases h : a = b
      · rw [h]; simp
      · have hb : ((a : Int) == (b : Int)) = false := beq_eq_false_iff_ne.mpr fun z => h (by omega)
        rw [hb, Bool.false_and, decide_eq_false]
        intro z
        exact h (List.cons.inj z).1
theorem dp_ints {K : PySem.W.Frag} {H : Hp} : ∀ ns : List Nat, DpAll K H (ns.map nI) (ns.map pdI)
  | [] => .nil
  | _ :: ns => .cons (.int _) (dp_ints ns)
theorem dp_num {K : PySem.W.Frag} {H : Hp} {l : Addr} {m : Mach} (h : H l = some (.lst (numL m))) : Dp K H (.ref l) (.list ((CsBase.told m).map pdI)) := .lst (SqL.of h) (dp_ints _)
theorem find_range {p : Nat → Bool} {t n : Nat} (h : ∀ j, j < t → p j = false) (ht : p t = true) (hn : t < n) : (List.range n).find? p = some t := by
  rw [List.find?_eq_some_iff_getElem]
  refine ⟨ht, t, by simpa using hn, by simp, fun j hj => ?_⟩
  rw [List.getElem_range, h j hj]
  rfl
theorem find_none {p : Nat → Bool} {n : Nat} (h : ∀ j, j < n → p j = false) : (List.range n).find? p = none := by
  rw [List.find?_eq_none]
  intro j hj
  rw [h j (List.mem_range.mp hj)]
  exact Bool.false_ne_true
section
variable {P : Program} {w : World} {K : PySem.W.Frag} {mg : Str → Option Value} {base : Heap}
abbrev s_within : Stmt := top 38
theorem sc_within : FnScope ["number", "least", "most"] ["number", "least", "most"] (defScope s_within) := ⟨rfl, rfl, rfl, by decide +kernel, rfl, by decide +kernel, by decide +kernel⟩
theorem ok_within {f : Addr} {fd : FuncData} (F : Fun K "within" "within" s_within f fd) : FnOk P w K mg base CX0 1 f fd ["number", "least", "most"] spWithin := by
  refine F.ok sc_within (fun vs H Q E h => ?_) (fun cdv A outer s H vs Q E hr h => ?_)
  · obtain ⟨n, l, m, rfl, _⟩ := h
    rfl
  · obtain ⟨n, l, m, rfl, kq⟩ := h
    refine ⟨_, (pss_one (ps_ret (pe_and (pe_cmpR op_le (pv 1) (pv 0) (nomark _)) (pe_one (pe_cmpR op_le (pv 0) (pv 2) (nomark _)))))), ?_⟩
    refine ⟨_, rfl, _, rfl, _, _, rfl, rfl, _, rfl, ?_⟩
    unfold wi at kq
    cases c : decide (l ≤ n) with
    | true =>
      rw [c, Bool.true_and] at kq
      exact iteT ⟨_, rfl, _, rfl, _, _, rfl, rfl, kq⟩
    | false =>
      rw [c, Bool.false_and] at kq
      exact iteF kq
abbrev s_is_side : Stmt := top 39
theorem sc_is_side : FnScope ["side"] ["side"] (defScope s_is_side) := ⟨rfl, rfl, rfl, by decide +kernel, rfl, by decide +kernel, by decide +kernel⟩
theorem ok_is_side {f : Addr} {fd : FuncData} (F : Fun K "is_side" "is_side" s_is_side f fd) (G_within : FunF P w K mg base 1 "within" ["number", "least", "most"] spWithin) : FnOk P w K mg base CX0 2 f fd ["side"] spIsSide := by
  refine F.ok sc_is_side (fun vs H Q E h => ?_) (fun cdv A outer s H vs Q E hr h => ?_)
  · obtain ⟨n, rfl, _⟩ := h
    rfl
  · obtain ⟨n, rfl, kq⟩ := h
    refine ⟨_, (pss_one (ps_ret (pe_callF G_within (hr.mono (by decide)) (pa_cons (pv 0) (pa_cons pe_int (pa_cons pe_int pa_nil)))))), ?_⟩
    exact ⟨_, rfl, n, 0, 1, rfl, kq⟩
abbrev s_may_begin : Stmt := top 40
theorem sc_may_begin : FnScope ["delay", "ahead", "some_bytes", "byte"] ["delay", "ahead", "some_bytes"] (defScope s_may_begin) := ⟨rfl, rfl, rfl, by decide +kernel, rfl, by decide +kernel, by decide +kernel⟩
theorem ok_may_begin {f : Addr} {fd : FuncData} (F : Fun K "may_begin" "may_begin" s_may_begin f fd) (T : TxtF K mg) (G_within : FunF P w K mg base 1 "within" ["number", "least", "most"] spWithin) : FnOk P w K mg base CX0 2 f fd ["delay", "ahead", "some_bytes"] spMay := by
  refine F.ok sc_may_begin (fun vs H Q E h => ?_) (fun cdv A outer s H vs Q E hr h => ?_)
  · obtain ⟨l, d, a, ns, rfl, _⟩ := h
    rfl
  · obtain ⟨l, d, a, ns, rfl, hl, hn, kq⟩ := h
    have k0 := kq H fun _ _ e => e
    unfold okB at kq k0
    refine ⟨_, (pss_cons (ps_if (PW.pt (pw_or (pt_not (pt_val (pe_callF G_within (hr.mono (by decide)) (pa_cons (pv 0) (pa_cons pe_int (pa_cons (pe_glob (v := .int (6)) rfl T.g_MOST_DELAY ⟨_, rfl⟩) pa_nil)))))) (pw_or1 (pt_not (pt_val (pe_callF G_within (hr.mono (by decide)) (pa_cons (pv 1) (pa_cons pe_int (pa_cons (pe_glob (v := .int (10)) rfl T.g_MOST_AHEAD ⟨_, rfl⟩) pa_nil))))))))) (pss_one (ps_ret pe_bl)) pss_nil)
      (pss_cons (ps_if (pt_cmpR op_gt (pe_callB call_len_seq (by rfl) T.b_len PySem.boot_len (pa_cons (pv 2) pa_nil)) (pe_glob (v := .int (128)) rfl T.g_MOST_BYTES ⟨_, rfl⟩) (nomark _)) (pss_one (ps_ret pe_bl)) pss_nil)
      (pss_one (ps_ret (pe_callB (cr_all rfl) (by rfl) T.b_all (by decide +kernel) (pa_cons (pe_lc (own := [("byte", 3)]) (g := gName 3) rfl sc_may_begin.nd (pi_list (pv 2)) (blkOk_by (N := ["delay", "ahead", "some_bytes", "byte"]) (sc := defScope s_may_begin) (by decide +kernel)) (fun _ _ _ _ _ => pg_name (i := 3) sc_may_begin.nd rfl (Or.inl rfl)) (fun _ _ _ _ _ => pts_nil) (fun _ _ _ _ _ => (pe_callF G_within (hr.mono (by decide)) (pa_cons (pv 3) (pa_cons pe_int (pa_cons (pe_glob (v := .int (255)) rfl T.g_MOST_BYTE ⟨_, rfl⟩) pa_nil)))))) pa_nil)))))), ?_⟩
    refine ⟨_, rfl, d, 0, 6, rfl, _, rfl, ?_⟩
    cases c1 : wi d 0 6 with
    | false =>
      rw [c1, Bool.false_and, Bool.false_and, Bool.false_and] at k0
      exact iteT (iteT k0)
    | true =>
      rw [c1, Bool.true_and] at kq k0
      refine iteF ⟨_, rfl, a, 1, 10, rfl, _, rfl, ?_⟩
      cases c2 : wi a 1 10 with
      | false =>
        rw [c2, Bool.false_and, Bool.false_and] at k0
        exact iteT k0
      | true =>
        rw [c2, Bool.true_and] at kq k0
        refine iteF ⟨_, rfl, l, _, rfl, .inl (SqL.of hl), _, _, rfl, rfl, _, rfl, if_dec (fun c => ?_) (fun c => ?_)⟩
        · rw [List.length_map] at c
          rw [decide_eq_false (show ¬ ns.length ≤ 128 by omega), Bool.false_and] at k0
          exact k0
        · rw [List.length_map] at c
          rw [decide_eq_true (show ns.length ≤ 128 by omega), Bool.true_and] at kq
          refine ⟨_, rfl, l, rfl, ⟨_, SqL.of hl⟩, fun D hD => ?_⟩
          have nlD := ne_of_none hl hD
          refine lc_list (K := K) (a := l) (xs := ns.map V.int) (fun i H' => H' D = some (.lst (((ns.take i).map Cs14.isByte).map V.bl)) ∧ Same H H') ⟨upd_same, same_new hD⟩ (fun i H' _ h => SqL.of (h.2 _ _ hl)) ?_ ?_
          · rintro i x H' hx ⟨e1, e2⟩
            rw [List.getElem?_map] at hx
            cases e : ns[i]? with
            | none => rw [e] at hx; cases hx
            | some z =>
              rw [e] at hx
              obtain rfl : V.int z = x := Option.some.inj hx
              refine ⟨rfl, ?_⟩
              unfold tYes
              dsimp only
              rw [if_pos rfl]
              refine ⟨_, rfl, z, 0, 255, rfl, _, e1, ?_, ?_, ?_⟩
              · rw [List.length_map, List.length_map, List.length_take]
                exact lt_line (by omega)
              · rw [upd_same, take_next e, List.map_append, List.map_append]
                rfl
              · intro b o ho
                rw [upd_ne (ne_of_none ho hD)]
                exact e2 b o ho
          · rintro H' ⟨e1, e2⟩
            rw [List.length_map, List.take_length] at e1
            refine ⟨D, ns.map Cs14.isByte, rfl, SqL.of e1, ?_⟩
            have ea : (ns.map Cs14.isByte).all id = ns.all Cs14.isByte := by rw [List.all_map]; rfl
            rw [ea]
            exact kq H' e2
abbrev s_apart : Stmt := top 42
theorem sc_apart : FnScope ["some_states", "other_states", "frames", "t"] ["some_states", "other_states"] (defScope s_apart) := ⟨rfl, rfl, rfl, by decide +kernel, rfl, by decide +kernel, by decide +kernel⟩
theorem ok_apart {f : Addr} {fd : FuncData} (F : Fun K "apart" "apart" s_apart f fd) (T : TxtF K mg) : FnOk P w K mg base CX0 1 f fd ["some_states", "other_states"] spApart := by
  refine F.ok sc_apart (fun vs H Q E h => ?_) (fun cdv A outer s H vs Q E hr h => ?_)
  · obtain ⟨l0, l1, xs, ys, rfl, _⟩ := h
    rfl
  · obtain ⟨l0, l1, xs, ys, rfl, h0, h1, hx, hy, n0, n1, m0, m1, kq⟩ := h
    refine ⟨_, (pss_cons (ps_set (i := 2) sc_apart.nd rfl (Or.inl rfl) (pe_op op_sub (pe_callB (call_min2 rfl) (by rfl) T.b_min (by decide +kernel) (pa_cons (pe_callB call_len_seq (by rfl) T.b_len PySem.boot_len (pa_cons (pv 0) pa_nil)) (pa_cons (pe_callB call_len_seq (by rfl) T.b_len PySem.boot_len (pa_cons (pv 1) pa_nil)) pa_nil))) pe_int))
      (pss_cons (ps_for PassesOwn.never rfl (pi_range1 rfl T.b_range (pa_cons (pe_op op_add (pv 2) pe_int) pa_nil)) (pg_name (i := 3) sc_apart.nd rfl (Or.inl rfl)) (pss_one (ps_if (pt_cmpR (op_neD hr.units) (pe_ix ix_list (pv 0) (pv 3) (fun _ _ => rfl)) (pe_ix ix_list (pv 1) (pv 3) (fun _ _ => rfl)) (nomark _)) (pss_one (ps_ret (pe_lst (pa_cons pe_int (pa_cons (pv 3) pa_nil))))) pss_nil)))
      (pss_one (ps_ret (pe_lst (pa_cons pe_int (pa_cons (pv 2) pa_nil))))))), ?_⟩
    refine ⟨_, rfl, l0, _, rfl, .inl (SqL.of h0), _, rfl, l1, _, rfl, .inl (SqL.of h1), _, _, rfl, _, _, rfl, rfl, ?_⟩
    have ec : (if (((refsOf ys).length : Nat) : Int) < (((refsOf xs).length : Nat) : Int) then (((refsOf ys).length : Nat) : Int) else (((refsOf xs).length : Nat) : Int)) - 1 = ((min xs.length ys.length - 1 : Nat) : Int) := by
      rw [refs_len, refs_len]
      split <;> omega
    have hm : 1 ≤ min xs.length ys.length := by omega
    have en : (((min xs.length ys.length - 1 : Nat) : Int) + 1).toNat = min xs.length ys.length := by omega
    have go : ∀ z : Int, z = ((min xs.length ys.length - 1 : Nat) : Int) → tSeq (tFor (iRng1 (tCons (tOp (rI0 fun i j => V.int (i + j)) (tVar 2) (tC (.int 1))) tNil)) (gName 3) (tIfS (tTest (tOp (rNeD K) (tOp (rIxL K) (tVar 0) (tVar 3)) (tOp (rIxL K) (tVar 1) (tVar 3)))) (tRet (tLst (tCons (tC (.int 1)) (tCons (tVar 3) tNil)))) tNext))
        (tRet (tLst (tCons (tC (.int 0)) (tCons (tVar 2) tNil)))) { nx := fun x H' => Q V.non H', rt := Q } [some (.ref l0), some (.ref l1), some (.int z), none] H := by
      rintro z rfl
      refine ⟨_, rfl, _, _, rfl, rfl, ((min xs.length ys.length - 1 : Nat) : Int) + 1, rfl, by omega, by omega, ?_⟩
      rw [en]
      refine for_range (n := min xs.length ys.length) (fun k σ H' => ∃ v : Option V, σ = [some (.ref l0), some (.ref l1), some (nI (min xs.length ys.length - 1)), v] ∧ H' = H ∧ ∀ j, j < k → decide ((xs.map (·.2))[j]? ≠ (ys.map (·.2))[j]?) = false) ⟨none, rfl, rfl, fun j hj => absurd hj (Nat.not_lt_zero j)⟩ ?_ ?_
      · rintro k σ H' hk ⟨v, rfl, rfl, ok⟩
        obtain ⟨r, er⟩ : ∃ r, xs[k]? = some r := ⟨_, List.getElem?_eq_getElem (by omega)⟩
        obtain ⟨u, eu⟩ : ∃ u, ys[k]? = some u := ⟨_, List.getElem?_eq_getElem (by omega)⟩
        have hr1 := hx r (List.mem_of_getElem? er)
        have hu1 := hy u (List.mem_of_getElem? eu)
        have e1 : (xs.map (·.2))[k]? = some r.2 := by rw [List.getElem?_map, er]; rfl
        have e2 : (ys.map (·.2))[k]? = some u.2 := by rw [List.getElem?_map, eu]; rfl
        refine ⟨_, rfl, _, rfl, l0, _, _, _, rfl, rfl, SqL.of h0, at_of (j := k) (Int.zero_add _) (refs_at er), _, rfl, _, rfl, l1, _, _, _, rfl, rfl, SqL.of h1, at_of (j := k) (Int.zero_add _) (refs_at eu), _, _, dp_num hr1.1, dp_num hu1.1, shaped_ints _, shaped_ints _, _, rfl, ?_⟩
        have ev : PyData.eqv (.list ((CsBase.told r.2).map pdI)) (.list ((CsBase.told u.2).map pdI)) = decide (CsBase.told r.2 = CsBase.told u.2) := by
          rw [← eqv_ints]
          simp only [PyData.eqv]
        rw [ev]
        by_cases c : CsBase.told r.2 = CsBase.told u.2
        · rw [decide_eq_true c]
          refine iteF ⟨_, rfl, rfl, fun j hj => ?_⟩
          by_cases z : j = k
          · rw [z, e1, e2, told_inj c]
            exact decide_eq_false fun n => n rfl
          · exact ok j (by omega)
        · rw [decide_eq_false c]
          refine iteT ⟨_, rfl, (by show 2 ≤ sizeLine; decide), fun q hq => ?_⟩
          have hp : decide ((xs.map (·.2))[k]? ≠ (ys.map (·.2))[k]?) = true := by
            rw [e1, e2]
            exact decide_eq_true fun n => c (by rw [Option.some.inj n])
          have ea : apartL xs ys = [1, (k : Int)] := by
            unfold apartL
            rw [find_range ok hp hk]
          have := kq q hq
          rw [ea] at this
          show Q (.ref q) (upd H' q (.lst [.int 1, .int (0 + (k : Int))]))
          rw [Int.zero_add]
          exact this
      · rintro σ H' ⟨v, rfl, rfl, ok⟩
        refine ⟨_, rfl, (by show 2 ≤ sizeLine; decide), fun q hq => ?_⟩
        have ea : apartL xs ys = [0, ((min xs.length ys.length - 1 : Nat) : Int)] := by
          unfold apartL
          rw [find_none ok]
        have := kq q hq
        rw [ea] at this
        exact this
    exact go _ ec
theorem made {C : Addr} {H : Hp} {x dx : Addr} (nx : H x = none) (ndx : H dx = none) (ne : dx ≠ x) : Same H (upd (upd H dx (.own x)) x (.ins C dx [])) ∧ ∀ b, upd (upd H dx (.own x)) x (.ins C dx []) b = none → H b = none := by
  refine ⟨fun b o e => ?_, fun b e => ?_⟩
  · rw [upd_ne (ne_of_none e nx), upd_ne (ne_of_none e ndx)]
    exact e
  · have n1 : b ≠ x := fun z => by rw [z, upd_same] at e; cases e
    have n2 : b ≠ dx := fun z => by rw [upd_ne n1, z, upd_same] at e; cases e
    rw [upd_ne n1, upd_ne n2] at e
    exact e
abbrev s_two_sides : Stmt := top 41
theorem sc_two_sides : FnScope ["delay", "some_bytes"] ["delay", "some_bytes"] (defScope s_two_sides) := ⟨rfl, rfl, rfl, by decide +kernel, rfl, by decide +kernel, by decide +kernel⟩
theorem ok_two_sides {C : Addr} {f : Addr} {fd : FuncData} (F : Fun K "two_sides" "two_sides" s_two_sides f fd) (G_Side_init : MakeF P w K mg base 2 C "Side" ["self", "number", "delay", "some_bytes"] (spSInit C)) : FnOk P w K mg base CX0 4 f fd ["delay", "some_bytes"] (spTwo C) := by
  refine F.ok sc_two_sides (fun vs H Q E h => ?_) (fun cdv A outer s H vs Q E hr h => ?_)
  · obtain ⟨l, d, bs, rfl, _⟩ := h
    rfl
  · obtain ⟨l, d, bs, rfl, hl, hd, hn, hb, kq⟩ := h
    refine ⟨_, (pss_one (ps_ret (pe_lst (pa_cons (pe_makeF G_Side_init (hr.mono (by decide)) (pa_cons pe_int (pa_cons (pv 0) (pa_cons (pv 1) pa_nil)))) (pa_cons (pe_makeF G_Side_init (hr.mono (by decide)) (pa_cons pe_int (pa_cons (pv 0) (pa_cons (pv 1) pa_nil)))) pa_nil))))), ?_⟩
    refine ⟨_, rfl, _, rfl, fun x dx nx ndx ne => ?_⟩
    obtain ⟨sm, tk⟩ := made (C := C) nx ndx ne
    refine ⟨x, dx, l, 0, d, bs, rfl, upd_same, sm _ _ hl, hd, hn, hb, fun H2 a0 p0 S0 d0 f0 k0 => ⟨rfl, ?_⟩⟩
    have s2 : Same H H2 := fun b o e => k0 b o (sm b o e) (ne_of_none e nx)
    have g0 : ∀ b, a0.f b → H b = none := fun b h => (f0 b h).elim (fun z => z ▸ nx) (tk b)
    refine ⟨_, rfl, _, rfl, fun y dy ny ndy ne2 => ?_⟩
    obtain ⟨sm2, tk2⟩ := made (C := C) ny ndy ne2
    refine ⟨y, dy, l, 1, d, bs, rfl, upd_same, sm2 _ _ (s2 _ _ hl), hd, hn, hb, fun H4 a1 p1 S1' d1 f1 k1 => ⟨rfl, ?_⟩⟩
    have s4 : Same H2 H4 := fun b o e => k1 b o (sm2 b o e) (ne_of_none e ny)
    have g1 : ∀ b, a1.f b → H2 b = none := fun b h => (f1 b h).elim (fun z => z ▸ ny) (tk2 b)
    have S0' := S0.same s4
    have ap : Ap a0.ft a1.ft := by
      have key : ∀ b, a0.f b → ¬ a1.f b := fun b h h' => by
        obtain ⟨o, e⟩ := S0.trk h
        rw [g1 b h'] at e
        cases e
      exact ⟨fun b h => key b (.inl h), fun b h h' => key b h' (.inl h)⟩
    refine ⟨(by show 2 ≤ sizeLine; decide), fun r hr4 => ?_⟩
    rw [← p0, ← p1]
    have s5 := same_new (o := .lst [.ref a0.p, .ref a1.p]) hr4
    have fr := (s2.trans s4).free hr4
    refine kq _ r a0 a1 fr upd_same (S0'.same s5) (S1'.same s5) d0 d1 ap (fun b h => ⟨g0 b h, ?_⟩) (fun b h => ⟨s2.free (g1 b h), ?_⟩) ((s2.trans s4).trans s5)
    · obtain ⟨o, e⟩ := S0'.trk h
      exact ne_of_none e hr4
    · obtain ⟨o, e⟩ := S1'.trk h
      exact ne_of_none e hr4
end
end TP
namespace TP
open PySem PySem.Spec PyProof.Rows L2
open CsBase (Mach)
open Cs14 (Known at? Letter)
open Cs14 (Side side setSide upTo should now stateAt seen film watchedAt)
structure TxtG (K : PySem.W.Frag) (mg : Str → Option Value) (tk : Nat → Tok) (CS CW CG : Addr) : Prop where
  s : TxtS K mg CS
  w : TxtW K mg CW
  cl_Side : Cls K CS
  cl_Watcher : Cls K CW
  cl_Game : Cls K CG
  n_ahead : NoAttr K CG "ahead"
  n_sides : NoAttr K CG "sides"
  n_letters : NoAttr K CG "letters"
  n_watcher : NoAttr K CG "watcher"
  g_NOT_AS_TOLD : mg "NOT_AS_TOLD" = some (.int (-1) (tokOf (mg "NOT_AS_TOLD")))
  g_NO_SUCH_LETTER : mg "NO_SUCH_LETTER" = some (.int (-2) (tokOf (mg "NO_SUCH_LETTER")))
  g_NO_SUCH_FRAME : mg "NO_SUCH_FRAME" = some (.int (-3) (tokOf (mg "NO_SUCH_FRAME")))
  g_NO_ROOM : mg "NO_ROOM" = some (.int (-5) (tokOf (mg "NO_ROOM")))
  g_TOO_FAR_AHEAD : mg "TOO_FAR_AHEAD" = some (.int (-6) (tokOf (mg "TOO_FAR_AHEAD")))
  g_MOST_FRAMES : mg "MOST_FRAMES" = some (.int 100 (tokOf (mg "MOST_FRAMES")))
  g_MOST_PAD : mg "MOST_PAD" = some (.int 15 (tokOf (mg "MOST_PAD")))
  g_MOST_LETTERS : mg "MOST_LETTERS" = some (.int 30 (tokOf (mg "MOST_LETTERS")))
  g_MOST_FAULTS : mg "MOST_FAULTS" = some (.int 10 (tokOf (mg "MOST_FAULTS")))
  g_MOST_BYTE : mg "MOST_BYTE" = some (.int 255 (tokOf (mg "MOST_BYTE")))
  g_PLACES : mg "PLACES" = some (.int 128 (tokOf (mg "PLACES")))
  g_LETTER_SIDE : mg "LETTER_SIDE" = some (.int 0 (tokOf (mg "LETTER_SIDE")))
  b_len : mg "len" = none
  b_list : mg "list" = none
structure Core (CS CW CG : Addr) (H : Hp) (A : GA) (s : TSt) (c : Cs14.Call) (Q : VK) : Prop where
  g : GOk CS CW CG H A s
  p : ∃ n, n ≤ 60 ∧ PInv n s
  k : Ans CS CW CG H A s c Q
section
variable (CS CW CG : Addr)
def spHas : Sp := fun vs H Q _ => ∃ (A : GA) (k : Int), vs = [.ref A.g, .int k] ∧ GameAt CS CW CG H A ∧ Q (.bl (wi k 0 ((A.ls.length : Int) - 1))) H
def spNow : Sp := fun vs H Q _ => ∃ (A : GA) (s : TSt) (i : Int), vs = [.ref A.g, .int i] ∧ Core CS CW CG H A s (.now i) Q
def spStl : Sp := fun vs H Q _ => ∃ (A : GA) (s : TSt) (i : Int), vs = [.ref A.g, .int i] ∧ Core CS CW CG H A s (.settled i) Q
def spState : Sp := fun vs H Q _ => ∃ (A : GA) (s : TSt) (i t : Int), vs = [.ref A.g, .int i, .int t] ∧ Core CS CW CG H A s (.state i t) Q
def spPads : Sp := fun vs H Q _ => ∃ (A : GA) (s : TSt) (i t : Int), vs = [.ref A.g, .int i, .int t] ∧ Core CS CW CG H A s (.pads i t) Q
def spRuns : Sp := fun vs H Q _ => ∃ (A : GA) (s : TSt) (i : Int), vs = [.ref A.g, .int i] ∧ Core CS CW CG H A s (.runs i) Q
def spNet : Sp := fun vs H Q _ => ∃ (A : GA) (s : TSt), vs = [.ref A.g] ∧ Core CS CW CG H A s .net Q
def spFilm : Sp := fun vs H Q _ => ∃ (A : GA) (s : TSt), vs = [.ref A.g] ∧ Core CS CW CG H A s .film Q
def spDiffer : Sp := fun vs H Q _ => ∃ (A : GA) (s : TSt) (i : Int), vs = [.ref A.g, .int i] ∧ Core CS CW CG H A s (.differ i) Q
def spBoth : Sp := fun vs H Q _ => ∃ (A : GA) (s : TSt), vs = [.ref A.g] ∧ Core CS CW CG H A s .both Q
end
theorem GIs.us {A : GA} {s : TSt} (I : GIs A s) {i : Nat} (hi : i < 2) : (A.side i).us.length = now (side s i) := (I.sd i hi).now.symm
theorem GIs.st {A : GA} {s : TSt} (I : GIs A s) {i t : Nat} (hi : i < 2) (h : t ≤ now (side s i)) : ∃ r, (A.side i).rs[t]? = some r ∧ r.2 = stateAt s i t := by
  have R := I.sd i hi
  have e := R.can.at (t := t) (by rw [← R.now]; exact h)
  rw [← R.state] at e
  have e2 : ((A.side i).rs.map (·.2))[t]? = some (stateAt s i t) := e
  rw [List.getElem?_map] at e2
  cases c : (A.side i).rs[t]? with
  | none => rw [c] at e2; cases e2
  | some r =>
    rw [c] at e2
    exact ⟨r, rfl, Option.some.inj e2⟩
theorem GIs.stl {A : GA} {s : TSt} (I : GIs A s) {i : Nat} (hi : i < 2) : stl (A.side i) = Cs14.settled (side s i) := by
  unfold TP.stl Cs14.settled
  rw [I.us hi, Nat.min_comm, show (A.side i).had = (side s i).had from (I.sd i hi).had]
theorem GIs.ms {A : GA} {s : TSt} (I : GIs A s) {i : Nat} (hi : i < 2) : (A.side i).rs.length = now (side s i) + 1 := by
  have := (I.sd i hi).can.len
  rw [← I.us hi]
  exact (List.length_map (fun r : Addr × Mach => r.2)).symm.trans this
theorem GIs.wst {A : GA} {s : TSt} (I : GIs A s) {t : Nat} (h : t ≤ seen s) : (A.wa.rs.map (·.2))[t]? = some (watchedAt s t) := I.w.at h
theorem GIs.wl {A : GA} {s : TSt} (I : GIs A s) : A.wa.fm.length = seen s ∧ A.wa.rs.length = seen s + 1 := by
  obtain ⟨a, b⟩ := I.w.len
  exact ⟨a, (List.length_map (fun r : Addr × Mach => r.2)).symm.trans b⟩
theorem side_of {i : Int} (c : wi i 0 1 = true) : ∃ j : Nat, i = (j : Int) ∧ j < 2 := by
  have := wi_true.mp c
  exact ⟨i.toNat, by omega, by omega⟩
theorem not_side {i : Int} (c : wi i 0 1 = false) : Cs14.isSide i = false := (isSide_wi i).trans c
theorem is_side {i : Int} (c : wi i 0 1 = true) : ¬ Cs14.isSide i = false := fun z => by rw [isSide_wi, c] at z; cases z
theorem find_congr {α : Type} {l : List α} {p q : α → Bool} (h : ∀ x ∈ l, p x = q x) : l.find? p = l.find? q := by
  induction l with
  | nil => rfl
  | cons a l ih => rw [List.find?_cons, List.find?_cons, h a List.mem_cons_self, ih fun x hx => h x (List.mem_cons_of_mem _ hx)]
theorem apart_part {f g : Nat → Mach} {n : Nat} {xs ys : List (Addr × Mach)} (hl : min xs.length ys.length = n + 1) (hf : ∀ t, t ≤ n → (xs.map (·.2))[t]? = some (f t)) (hg : ∀ t, t ≤ n → (ys.map (·.2))[t]? = some (g t)) :
    apartL xs ys = match Cs14.parting f g n with
      | none => [0, Cs14.int n]
      | some t => [1, Cs14.int t] := by
  unfold apartL Cs14.parting
  rw [hl]
  have e : ((List.range (n + 1)).find? fun t => decide ((xs.map (·.2))[t]? ≠ (ys.map (·.2))[t]?)) = (List.range (n + 1)).find? fun t => f t != g t := by
    refine find_congr fun t ht => ?_
    have := List.mem_range.mp ht
    rw [hf t (by omega), hg t (by omega)]
    by_cases c : f t = g t
    · rw [c, bne_self_eq_false]
      exact decide_eq_false fun z => z rfl
    · rw [bne_iff_ne.mpr c]
      exact decide_eq_true fun z => c (Option.some.inj z)
  rw [e]
  cases (List.range (n + 1)).find? fun t => f t != g t <;> rfl
section
variable {P : Program} {w : World} {K : PySem.W.Frag} {mg : Str → Option Value} {base : Heap} {tk : Nat → Tok} {CS CW CG : Addr}
abbrev s_Game_has_letter : Stmt := inClass (top 43) 4
theorem sc_Game_has_letter : FnScope ["self", "k"] ["self", "k"] (defScope s_Game_has_letter) := ⟨rfl, rfl, rfl, by decide +kernel, rfl, by decide +kernel, by decide +kernel⟩
theorem ok_Game_has_letter {f : Addr} {fd : FuncData} (F : Fun K "has_letter" "Game.has_letter" s_Game_has_letter f fd) (T : TxtG K mg tk CS CW CG) (G_within : FunF P w K mg base 1 "within" ["number", "least", "most"] spWithin) :
    FnOk P w K mg base CX0 2 f fd ["self", "k"] (spHas CS CW CG) := by
  refine F.ok sc_Game_has_letter (fun vs H Q E h => ?_) (fun cdv A outer s H vs Q E hr h => ?_)
  · obtain ⟨A, k, rfl, _⟩ := h
    rfl
  · obtain ⟨A, k, rfl, G, kq⟩ := h
    obtain ⟨dx, h1⟩ := G.r.o
    refine ⟨_, (pss_one (ps_ret (pe_callF G_within (hr.mono (by decide)) (pa_cons (pv 1) (pa_cons pe_int (pa_cons (pe_op op_sub (pe_callB call_len_seq (by rfl) T.b_len PySem.boot_len (pa_cons (pe_fld (pv 0) rfl) pa_nil)) pe_int) pa_nil)))))), ?_⟩
    refine ⟨_, rfl, _, rfl, A.g, CG, dx, _, _, rfl, h1, T.cl_Game, T.n_letters, fG_letters, A.lt, _, rfl, .inl (SqL.of G.r.lt), _, _, rfl, rfl, k, 0, _, rfl, ?_⟩
    rw [refs_len]
    exact kq
abbrev s_Game_now : Stmt := inClass (top 43) 8
theorem sc_Game_now : FnScope ["self", "side", "player", "t"] ["self", "side"] (defScope s_Game_now) := ⟨rfl, rfl, rfl, by decide +kernel, rfl, by decide +kernel, by decide +kernel⟩
theorem ok_Game_now {f : Addr} {fd : FuncData} (F : Fun K "now" "Game.now" s_Game_now f fd) (T : TxtG K mg tk CS CW CG) (G_is_side : FunF P w K mg base 2 "is_side" ["side"] spIsSide)
    (G_Side_frames_run : MethF P w K mg base 1 CS "frames_run" ["self"] (spSRun CS)) (G_Side_mark_ahead : MethF P w K mg base 2 CS "mark_ahead" ["self", "t"] (spMarkAt CS)) :
    FnOk P w K mg base CX0 3 f fd ["self", "side"] (spNow CS CW CG) := by
  refine F.ok sc_Game_now (fun vs H Q E h => ?_) (fun cdv A outer s H vs Q E hr h => ?_)
  · obtain ⟨A, s, i, rfl, _⟩ := h
    rfl
  · obtain ⟨A, s, i, rfl, G, -, kq⟩ := h
    obtain ⟨dx, h1⟩ := G.1.r.o
    refine ⟨_, (pss_cons (ps_if (pt_not (pt_val (pe_callF G_is_side (hr.mono (by decide)) (pa_cons (pv 1) pa_nil)))) (pss_one (ps_ret (pe_lst (pa_cons (pe_glob (v := .int (-1)) rfl T.g_NOT_AS_TOLD ⟨_, rfl⟩) pa_nil)))) pss_nil)
      (pss_cons (ps_set (i := 2) sc_Game_now.nd rfl (Or.inl rfl) (pe_ix ix_list (pe_fld (pv 0) rfl) (pv 1) (fun _ _ => rfl)))
      (pss_cons (ps_set (i := 3) sc_Game_now.nd rfl (Or.inl rfl) (pe_methF0 (pv 2) T.cl_Side G_Side_frames_run (hr.mono (by decide))))
      (pss_one (ps_ret (pe_lst (pa_cons (pv 3) (pa_cons (pe_methF (pv 2) T.cl_Side G_Side_mark_ahead (hr.mono (by decide)) (pa_cons (pv 3) pa_nil)) pa_nil)))))))), ?_⟩
    refine ⟨_, rfl, i, rfl, _, rfl, ?_⟩
    cases c : wi i 0 1 with
    | false => exact iteT ⟨(by show 1 ≤ sizeLine; decide), kq.no (l := [-1]) G (by rw [sp_now, if_pos (not_side c)])⟩
    | true =>
      have e := sp_now s i
      rw [if_neg (is_side c)] at e
      obtain ⟨j, rfl, hj⟩ := side_of c
      have S := G.1.side j
      obtain ⟨dxs, hs⟩ := S.o
      obtain ⟨r, hr1, hr2⟩ := G.2.st (t := now (side s j)) hj (Nat.le_refl _)
      rw [← G.2.us hj] at hr1
      refine iteF ⟨_, rfl, A.g, CG, dx, _, _, rfl, h1, T.cl_Game, T.n_sides, fG_sides, _, rfl, A.sl, _, _, _, rfl, rfl, SqL.of G.1.r.sl, side_at A (by omega), ?_⟩
      refine ⟨_, rfl, (A.side j).p, dxs, _, rfl, hs, fS_no_frames_run, A.side j, rfl, S, ?_⟩
      refine ⟨_, rfl, _, rfl, (A.side j).p, dxs, _, rfl, hs, fS_no_mark_ahead, _, rfl, A.side j, _, r, rfl, S, hr1, (by show 2 ≤ sizeLine; decide), fun q hq => ?_⟩
      refine kq.no (l := [((A.side j).us.length : Int), (CsBase.mark r.2 : Int)]) G ?_ q hq
      rw [e, G.2.us hj, hr2]
      rfl
abbrev s_Game_settled : Stmt := inClass (top 43) 9
theorem sc_Game_settled : FnScope ["self", "side", "player", "t"] ["self", "side"] (defScope s_Game_settled) := ⟨rfl, rfl, rfl, by decide +kernel, rfl, by decide +kernel, by decide +kernel⟩
theorem ok_Game_settled {f : Addr} {fd : FuncData} (F : Fun K "settled" "Game.settled" s_Game_settled f fd) (T : TxtG K mg tk CS CW CG) (G_is_side : FunF P w K mg base 2 "is_side" ["side"] spIsSide)
    (G_Side_frames_settled : MethF P w K mg base 3 CS "frames_settled" ["self"] (spSettled CS)) (G_Side_mark_ahead : MethF P w K mg base 2 CS "mark_ahead" ["self", "t"] (spMarkAt CS)) :
    FnOk P w K mg base CX0 4 f fd ["self", "side"] (spStl CS CW CG) := by
  refine F.ok sc_Game_settled (fun vs H Q E h => ?_) (fun cdv A outer s H vs Q E hr h => ?_)
  · obtain ⟨A, s, i, rfl, _⟩ := h
    rfl
  · obtain ⟨A, s, i, rfl, G, -, kq⟩ := h
    obtain ⟨dx, h1⟩ := G.1.r.o
    refine ⟨_, (pss_cons (ps_if (pt_not (pt_val (pe_callF G_is_side (hr.mono (by decide)) (pa_cons (pv 1) pa_nil)))) (pss_one (ps_ret (pe_lst (pa_cons (pe_glob (v := .int (-1)) rfl T.g_NOT_AS_TOLD ⟨_, rfl⟩) pa_nil)))) pss_nil)
      (pss_cons (ps_set (i := 2) sc_Game_settled.nd rfl (Or.inl rfl) (pe_ix ix_list (pe_fld (pv 0) rfl) (pv 1) (fun _ _ => rfl)))
      (pss_cons (ps_set (i := 3) sc_Game_settled.nd rfl (Or.inl rfl) (pe_methF0 (pv 2) T.cl_Side G_Side_frames_settled (hr.mono (by decide))))
      (pss_one (ps_ret (pe_lst (pa_cons (pv 3) (pa_cons (pe_methF (pv 2) T.cl_Side G_Side_mark_ahead (hr.mono (by decide)) (pa_cons (pv 3) pa_nil)) pa_nil)))))))), ?_⟩
    refine ⟨_, rfl, i, rfl, _, rfl, ?_⟩
    cases c : wi i 0 1 with
    | false => exact iteT ⟨(by show 1 ≤ sizeLine; decide), kq.no (l := [-1]) G (by rw [sp_settled, if_pos (not_side c)])⟩
    | true =>
      have e := sp_settled s i
      rw [if_neg (is_side c)] at e
      obtain ⟨j, rfl, hj⟩ := side_of c
      have S := G.1.side j
      obtain ⟨dxs, hs⟩ := S.o
      obtain ⟨r, hr1, hr2⟩ := G.2.st (t := Cs14.settled (side s j)) hj (Nat.min_le_right _ _)
      rw [← G.2.stl hj] at hr1
      refine iteF ⟨_, rfl, A.g, CG, dx, _, _, rfl, h1, T.cl_Game, T.n_sides, fG_sides, _, rfl, A.sl, _, _, _, rfl, rfl, SqL.of G.1.r.sl, side_at A (by omega), ?_⟩
      refine ⟨_, rfl, (A.side j).p, dxs, _, rfl, hs, fS_no_frames_settled, A.side j, rfl, S, ?_⟩
      refine ⟨_, rfl, _, rfl, (A.side j).p, dxs, _, rfl, hs, fS_no_mark_ahead, _, rfl, A.side j, _, r, rfl, S, hr1, (by show 2 ≤ sizeLine; decide), fun q hq => ?_⟩
      refine kq.no (l := [(stl (A.side j) : Int), (CsBase.mark r.2 : Int)]) G ?_ q hq
      rw [e, G.2.stl hj, hr2]
      rfl
abbrev s_Game_runs : Stmt := inClass (top 43) 17
theorem sc_Game_runs : FnScope ["self", "side"] ["self", "side"] (defScope s_Game_runs) := ⟨rfl, rfl, rfl, by decide +kernel, rfl, by decide +kernel, by decide +kernel⟩
theorem ok_Game_runs {f : Addr} {fd : FuncData} (F : Fun K "runs" "Game.runs" s_Game_runs f fd) (T : TxtG K mg tk CS CW CG) (G_is_side : FunF P w K mg base 2 "is_side" ["side"] spIsSide) :
    FnOk P w K mg base CX0 3 f fd ["self", "side"] (spRuns CS CW CG) := by
  refine F.ok sc_Game_runs (fun vs H Q E h => ?_) (fun cdv A outer s H vs Q E hr h => ?_)
  · obtain ⟨A, s, i, rfl, _⟩ := h
    rfl
  · obtain ⟨A, s, i, rfl, G, -, kq⟩ := h
    obtain ⟨dx, h1⟩ := G.1.r.o
    refine ⟨_, (pss_cons (ps_if (pt_not (pt_val (pe_callF G_is_side (hr.mono (by decide)) (pa_cons (pv 1) pa_nil)))) (pss_one (ps_ret (pe_lst (pa_cons (pe_glob (v := .int (-1)) rfl T.g_NOT_AS_TOLD ⟨_, rfl⟩) pa_nil)))) pss_nil)
      (pss_one (ps_ret (pe_lst (pa_cons (pe_fld (pe_ix ix_list (pe_fld (pv 0) rfl) (pv 1) (fun _ _ => rfl)) rfl) pa_nil))))), ?_⟩
    refine ⟨_, rfl, i, rfl, _, rfl, ?_⟩
    cases c : wi i 0 1 with
    | false => exact iteT ⟨(by show 1 ≤ sizeLine; decide), kq.no (l := [-1]) G (by rw [sp_runs, if_pos (not_side c)])⟩
    | true =>
      have e := sp_runs s i
      rw [if_neg (is_side c)] at e
      obtain ⟨j, rfl, hj⟩ := side_of c
      have S := G.1.side j
      obtain ⟨dxs, hs⟩ := S.o
      refine iteF ⟨_, rfl, A.g, CG, dx, _, _, rfl, h1, T.cl_Game, T.n_sides, fG_sides, _, rfl, A.sl, _, _, _, rfl, rfl, SqL.of G.1.r.sl, side_at A (by omega), (A.side j).p, CS, dxs, _, _, rfl, hs, T.cl_Side, T.s.n_run_in_all, fS_run_in_all, (by show 1 ≤ sizeLine; decide), fun q hq => ?_⟩
      refine kq.no (l := [((A.side j).runs : Int)]) G ?_ q hq
      rw [e, show (A.side j).runs = (side s j).runs from (G.2.sd j hj).runs]
      rfl
abbrev s_Game_state : Stmt := inClass (top 43) 10
theorem sc_Game_state : FnScope ["self", "side", "t", "player"] ["self", "side", "t"] (defScope s_Game_state) := ⟨rfl, rfl, rfl, by decide +kernel, rfl, by decide +kernel, by decide +kernel⟩
theorem ok_Game_state {f : Addr} {fd : FuncData} (F : Fun K "state" "Game.state" s_Game_state f fd) (T : TxtG K mg tk CS CW CG) (G_is_side : FunF P w K mg base 2 "is_side" ["side"] spIsSide) (G_within : FunF P w K mg base 1 "within" ["number", "least", "most"] spWithin)
    (G_Side_frames_run : MethF P w K mg base 1 CS "frames_run" ["self"] (spSRun CS)) :
    FnOk P w K mg base CX0 3 f fd ["self", "side", "t"] (spState CS CW CG) := by
  refine F.ok sc_Game_state (fun vs H Q E h => ?_) (fun cdv A outer s H vs Q E hr h => ?_)
  · obtain ⟨A, s, i, t, rfl, _⟩ := h
    rfl
  · obtain ⟨A, s, i, t, rfl, G, -, kq⟩ := h
    obtain ⟨dx, h1⟩ := G.1.r.o
    refine ⟨_, (pss_cons (ps_if (pt_not (pt_val (pe_callF G_is_side (hr.mono (by decide)) (pa_cons (pv 1) pa_nil)))) (pss_one (ps_ret (pe_lst (pa_cons (pe_glob (v := .int (-1)) rfl T.g_NOT_AS_TOLD ⟨_, rfl⟩) pa_nil)))) pss_nil)
      (pss_cons (ps_set (i := 3) sc_Game_state.nd rfl (Or.inl rfl) (pe_ix ix_list (pe_fld (pv 0) rfl) (pv 1) (fun _ _ => rfl)))
      (pss_cons (ps_if (pt_not (pt_val (pe_callF G_within (hr.mono (by decide)) (pa_cons (pv 2) (pa_cons pe_int (pa_cons (pe_methF0 (pv 3) T.cl_Side G_Side_frames_run (hr.mono (by decide))) pa_nil)))))) (pss_one (ps_ret (pe_lst (pa_cons (pe_glob (v := .int (-3)) rfl T.g_NO_SUCH_FRAME ⟨_, rfl⟩) pa_nil)))) pss_nil)
      (pss_one (ps_ret (pe_callTy call_list_of (by rfl) T.b_list (by decide +kernel) (pa_cons (pe_ix ix_list (pe_fld (pv 3) rfl) (pv 2) (fun _ _ => rfl)) pa_nil))))))), ?_⟩
    refine ⟨_, rfl, i, rfl, _, rfl, ?_⟩
    cases c : wi i 0 1 with
    | false => exact iteT ⟨(by show 1 ≤ sizeLine; decide), kq.no (l := [-1]) G (by rw [sp_state, if_pos (not_side c)])⟩
    | true =>
      have e := sp_state s i t
      rw [if_neg (is_side c)] at e
      obtain ⟨j, rfl, hj⟩ := side_of c
      have S := G.1.side j
      obtain ⟨dxs, hs⟩ := S.o
      refine iteF ⟨_, rfl, A.g, CG, dx, _, _, rfl, h1, T.cl_Game, T.n_sides, fG_sides, _, rfl, A.sl, _, _, _, rfl, rfl, SqL.of G.1.r.sl, side_at A (by omega), ?_⟩
      refine ⟨_, rfl, _, rfl, (A.side j).p, dxs, _, rfl, hs, fS_no_frames_run, A.side j, rfl, S, t, 0, _, rfl, _, rfl, ?_⟩
      have us := G.2.us hj
      cases c2 : wi t 0 ((A.side j).us.length : Int) with
      | false =>
        have := wi_false.mp c2
        refine iteT ⟨(by show 1 ≤ sizeLine; decide), kq.no (l := [-3]) G (by rw [e, if_pos]; show t < 0 ∨ (now (side s j) : Int) < t; omega)⟩
      | true =>
        have hb := wi_true.mp c2
        rw [if_neg (show ¬ (t < 0 ∨ Cs14.int (now (side s ((j : Int)).toNat)) < t) from fun z => by have z' : t < 0 ∨ (now (side s j) : Int) < t := z; omega)] at e
        obtain ⟨n, rfl⟩ : ∃ n : Nat, t = (n : Int) := ⟨t.toNat, by omega⟩
        obtain ⟨r, hr1, hr2⟩ := G.2.st (t := n) hj (by omega)
        have hrm := S.rs r (List.mem_of_getElem? hr1)
        refine iteF ⟨_, rfl, (A.side j).p, CS, dxs, _, _, rfl, hs, T.cl_Side, T.s.n_states, fS_states, _, rfl, (A.side j).sts, _, _, _, rfl, rfl, SqL.of S.sts, atI_nat (refs_at hr1), r.1, _, rfl, .inl (SqL.of hrm.1), fun q hq => ?_⟩
        have e3 : numL r.2 = ((CsBase.told r.2).map Cs14.int).map V.int := by
          unfold numL
          rw [List.map_map]
          rfl
        rw [e3]
        refine kq.no (l := (CsBase.told r.2).map Cs14.int) G ?_ q hq
        rw [e, hr2]
        rfl
abbrev s_Game_pads : Stmt := inClass (top 43) 11
theorem sc_Game_pads : FnScope ["self", "side", "t", "player"] ["self", "side", "t"] (defScope s_Game_pads) := ⟨rfl, rfl, rfl, by decide +kernel, rfl, by decide +kernel, by decide +kernel⟩
theorem ok_Game_pads {f : Addr} {fd : FuncData} (F : Fun K "pads" "Game.pads" s_Game_pads f fd) (T : TxtG K mg tk CS CW CG) (G_is_side : FunF P w K mg base 2 "is_side" ["side"] spIsSide) (G_within : FunF P w K mg base 1 "within" ["number", "least", "most"] spWithin)
    (G_Side_frames_run : MethF P w K mg base 1 CS "frames_run" ["self"] (spSRun CS)) (G_Side_is_guess : MethF P w K mg base 1 CS "is_guess" ["self", "t"] (spGuess CS)) :
    FnOk P w K mg base CX0 3 f fd ["self", "side", "t"] (spPads CS CW CG) := by
  refine F.ok sc_Game_pads (fun vs H Q E h => ?_) (fun cdv A outer s H vs Q E hr h => ?_)
  · obtain ⟨A, s, i, t, rfl, _⟩ := h
    rfl
  · obtain ⟨A, s, i, t, rfl, G, ⟨pn, _, PI⟩, kq⟩ := h
    obtain ⟨dx, h1⟩ := G.1.r.o
    refine ⟨_, (pss_cons (ps_if (pt_not (pt_val (pe_callF G_is_side (hr.mono (by decide)) (pa_cons (pv 1) pa_nil)))) (pss_one (ps_ret (pe_lst (pa_cons (pe_glob (v := .int (-1)) rfl T.g_NOT_AS_TOLD ⟨_, rfl⟩) pa_nil)))) pss_nil)
      (pss_cons (ps_set (i := 3) sc_Game_pads.nd rfl (Or.inl rfl) (pe_ix ix_list (pe_fld (pv 0) rfl) (pv 1) (fun _ _ => rfl)))
      (pss_cons (ps_if (pt_not (pt_val (pe_callF G_within (hr.mono (by decide)) (pa_cons (pv 2) (pa_cons pe_int (pa_cons (pe_op op_sub (pe_methF0 (pv 3) T.cl_Side G_Side_frames_run (hr.mono (by decide))) pe_int) pa_nil)))))) (pss_one (ps_ret (pe_lst (pa_cons (pe_glob (v := .int (-3)) rfl T.g_NO_SUCH_FRAME ⟨_, rfl⟩) pa_nil)))) pss_nil)
      (pss_one (ps_ret (pe_lst (pa_cons (pe_ix ix_list (pe_fld (pv 3) rfl) (pv 2) (fun _ _ => rfl)) (pa_cons (pe_ix ix_list (pe_fld (pv 3) rfl) (pv 2) (fun _ _ => rfl)) (pa_cons (pe_ifExp (pt_val (pe_methF (pv 3) T.cl_Side G_Side_is_guess (hr.mono (by decide)) (pa_cons (pv 2) pa_nil))) pe_int pe_int) pa_nil))))))))), ?_⟩
    refine ⟨_, rfl, i, rfl, _, rfl, ?_⟩
    cases c : wi i 0 1 with
    | false => exact iteT ⟨(by show 1 ≤ sizeLine; decide), kq.no (l := [-1]) G (by rw [sp_pads, if_pos (not_side c)])⟩
    | true =>
      have e := sp_pads s i t
      rw [if_neg (is_side c)] at e
      obtain ⟨j, rfl, hj⟩ := side_of c
      have S := G.1.side j
      obtain ⟨dxs, hs⟩ := S.o
      refine iteF ⟨_, rfl, A.g, CG, dx, _, _, rfl, h1, T.cl_Game, T.n_sides, fG_sides, _, rfl, A.sl, _, _, _, rfl, rfl, SqL.of G.1.r.sl, side_at A (by omega), ?_⟩
      refine ⟨_, rfl, _, rfl, (A.side j).p, dxs, _, rfl, hs, fS_no_frames_run, A.side j, rfl, S, _, _, rfl, rfl, t, 0, _, rfl, _, rfl, ?_⟩
      have us := G.2.us hj
      have R := G.2.sd j hj
      cases c2 : wi t 0 (((A.side j).us.length : Int) - 1) with
      | false =>
        have := wi_false.mp c2
        refine iteT ⟨(by show 1 ≤ sizeLine; decide), kq.no (l := [-3]) G (by rw [e, if_pos]; show t < 0 ∨ (now (side s j) : Int) ≤ t; omega)⟩
      | true =>
        have hb := wi_true.mp c2
        rw [if_neg (show ¬ (t < 0 ∨ Cs14.int (now (side s ((j : Int)).toNat)) ≤ t) from fun z => by have z' : t < 0 ∨ (now (side s j) : Int) ≤ t := z; omega)] at e
        obtain ⟨n, rfl⟩ : ∃ n : Nat, t = (n : Int) := ⟨t.toNat, by omega⟩
        have so := (PI.side j).sok PI.dl hj R
        have un : (A.side j).us.length ≤ (A.side j).ow.length := so.un
        refine iteF ⟨_, rfl, (A.side j).p, CS, dxs, _, _, rfl, hs, T.cl_Side, T.s.n_own, fS_own, _, rfl, (A.side j).own, _, _, _, rfl, rfl, SqL.of S.own, atI_nat (map_at (by omega)),
          _, rfl, (A.side j).p, CS, dxs, _, _, rfl, hs, T.cl_Side, T.s.n_used, fS_used, _, rfl, (A.side j).used, _, _, _, rfl, rfl, SqL.of S.used, atI_nat (map_at (by omega)), _, rfl, (A.side j).p, dxs, _, rfl, hs, fS_no_is_guess, _, rfl, A.side j, n, rfl, S, _, rfl, ?_⟩
        refine if_10 ⟨(by show 3 ≤ sizeLine; decide), fun q hq => ?_⟩
        refine kq.no (l := [((A.side j).ow.getD n 0 : Int), ((A.side j).us.getD n 0 : Int), b01 (!(at? (A.side j).had n).isSome)]) G ?_ q hq
        rw [e]
        have eo : (at? (side s j).own n).getD 0 = (A.side j).ow.getD n 0 := by
          rw [R.ow, ownK_at]
          rfl
        show (s, [((((at? (side s j).own n).getD 0 : Nat)) : Int), (((side s j).used.getD n 0 : Nat) : Int), if (at? (side s j).had n).isSome = true then 0 else 1]) = _
        rw [eo, ← R.us, ← R.had]
        show _ = (s, [(((A.side j).ow.getD n 0 : Nat) : Int), (((A.side j).us.getD n 0 : Nat) : Int), b01 (!(at? (A.side j).had n).isSome)])
        congr 4
        show (if (at? (A.side j).had n).isSome = true then (0 : Int) else 1) = _
        cases (at? (A.side j).had n).isSome <;> rfl
abbrev s_Game_film : Stmt := inClass (top 43) 14
theorem sc_Game_film : FnScope ["self"] ["self"] (defScope s_Game_film) := ⟨rfl, rfl, rfl, by decide +kernel, rfl, by decide +kernel, by decide +kernel⟩
theorem ok_Game_film {f : Addr} {fd : FuncData} (F : Fun K "film" "Game.film" s_Game_film f fd) (T : TxtG K mg tk CS CW CG) :
    FnOk P w K mg base CX0 1 f fd ["self"] (spFilm CS CW CG) := by
  refine F.ok sc_Game_film (fun vs H Q E h => ?_) (fun cdv A outer s H vs Q E hr h => ?_)
  · obtain ⟨A, s, rfl, _⟩ := h
    rfl
  · obtain ⟨A, s, rfl, G, ⟨pn, pb, PI⟩, kq⟩ := h
    obtain ⟨dx, h1⟩ := G.1.r.o
    obtain ⟨dxw, hw⟩ := G.1.w.o
    refine ⟨_, (pss_one (ps_ret (pe_op op_cat (pe_lst (pa_cons (pe_callB call_len_seq (by rfl) T.b_len PySem.boot_len (pa_cons (pe_fld (pe_fld (pv 0) rfl) rfl) pa_nil)) pa_nil)) (pe_fld (pe_fld (pv 0) rfl) rfl)))), ?_⟩
    refine ⟨_, rfl, A.g, CG, dx, _, _, rfl, h1, T.cl_Game, T.n_watcher, fG_watcher, A.wa.p, CW, dxw, _, _, rfl, hw, T.cl_Watcher, T.w.n_seen, fW_seen, A.wa.seen, _, rfl, .inl (SqL.of G.1.w.seen), (by show 1 ≤ sizeLine; decide), fun q hq => ?_⟩
    have sm := same_new (o := .lst [.int (A.wa.fm.map nI).length]) hq
    refine ⟨_, rfl, A.g, CG, dx, _, _, rfl, sm _ _ h1, T.cl_Game, T.n_watcher, fG_watcher, A.wa.p, CW, dxw, _, _, rfl, sm _ _ hw, T.cl_Watcher, T.w.n_seen, fW_seen, q, A.wa.seen, _, _, rfl, rfl, upd_same, sm _ _ G.1.w.seen, ?_, fun r hr2 => ?_⟩
    · rw [List.length_map, G.2.wl.1]
      have : seen s ≤ 1000 := Nat.le_trans (Nat.min_le_left _ _) (Nat.le_trans (upTo_le _) (Nat.le_trans PI.na (by omega)))
      exact le_line (by show 1 + _ ≤ _; omega)
    refine kq.look (l := Cs14.int (seen s) :: (film s).map Cs14.int) G (sp_film s) (sm.trans (same_new hr2)) (sm.free hr2) ?_
    rw [upd_same, List.length_map, G.2.wl.1]
    show some (HO.lst (nI (seen s) :: A.wa.fm.map nI)) = some (HO.lst (nI (seen s) :: ((film s).map Cs14.int).map V.int))
    rw [show A.wa.fm = film s from G.2.w.fm, List.map_map]
    rfl
theorem StsIn.same {H H' : Hp} {xs : List (Addr × Mach)} (h : StsIn H xs) (k : Same H H') : StsIn H' xs := fun r hr => ⟨k _ _ (h r hr).1, (h r hr).2⟩
theorem side_sts {H : Hp} {a : SideA} {n : Nat} (S : SideAt CS H a) : StsIn H (a.rs.take n) := fun r hr => ⟨(S.rs r (List.mem_of_mem_take hr)).1, (S.rs r (List.mem_of_mem_take hr)).2.1⟩
theorem set_at {A : GA} {s : TSt} (I : GIs A s) {i t : Nat} (hi : i < 2) (h : t ≤ Cs14.settled (side s i)) : (((A.side i).rs.take (stl (A.side i) + 1)).map (·.2))[t]? = some (stateAt s i t) := by
  obtain ⟨r, hr1, hr2⟩ := I.st (t := t) hi (Nat.le_trans h (Nat.min_le_right _ _))
  rw [List.getElem?_map, List.getElem?_take_of_lt (by rw [I.stl hi]; omega), hr1, ← hr2]
  rfl
theorem set_len {A : GA} {s : TSt} (I : GIs A s) {i : Nat} (hi : i < 2) : ((A.side i).rs.take (stl (A.side i) + 1)).length = Cs14.settled (side s i) + 1 := by
  have : Cs14.settled (side s i) ≤ now (side s i) := Nat.min_le_right _ _
  rw [List.length_take, I.ms hi, I.stl hi]
  omega
abbrev s_Game_differ : Stmt := inClass (top 43) 15
theorem sc_Game_differ : FnScope ["self", "side"] ["self", "side"] (defScope s_Game_differ) := ⟨rfl, rfl, rfl, by decide +kernel, rfl, by decide +kernel, by decide +kernel⟩
theorem ok_Game_differ {f : Addr} {fd : FuncData} (F : Fun K "differ" "Game.differ" s_Game_differ f fd) (T : TxtG K mg tk CS CW CG) (G_is_side : FunF P w K mg base 2 "is_side" ["side"] spIsSide)
    (G_apart : FunF P w K mg base 1 "apart" ["some_states", "other_states"] spApart) (G_Side_states_settled : MethF P w K mg base 4 CS "states_settled" ["self"] (spStates CS)) :
    FnOk P w K mg base CX0 5 f fd ["self", "side"] (spDiffer CS CW CG) := by
  refine F.ok sc_Game_differ (fun vs H Q E h => ?_) (fun cdv A outer s H vs Q E hr h => ?_)
  · obtain ⟨A, s, i, rfl, _⟩ := h
    rfl
  · obtain ⟨A, s, i, rfl, G, ⟨pn, pb, PI⟩, kq⟩ := h
    obtain ⟨dx, h1⟩ := G.1.r.o
    obtain ⟨dxw, hw⟩ := G.1.w.o
    refine ⟨_, (pss_cons (ps_if (pt_not (pt_val (pe_callF G_is_side (hr.mono (by decide)) (pa_cons (pv 1) pa_nil)))) (pss_one (ps_ret (pe_lst (pa_cons (pe_glob (v := .int (-1)) rfl T.g_NOT_AS_TOLD ⟨_, rfl⟩) pa_nil)))) pss_nil)
      (pss_one (ps_ret (pe_callF G_apart (hr.mono (by decide)) (pa_cons (pe_methF0 (pe_ix ix_list (pe_fld (pv 0) rfl) (pv 1) (fun _ _ => rfl)) T.cl_Side G_Side_states_settled (hr.mono (by decide))) (pa_cons (pe_fld (pe_fld (pv 0) rfl) rfl) pa_nil)))))), ?_⟩
    refine ⟨_, rfl, i, rfl, _, rfl, ?_⟩
    cases c : wi i 0 1 with
    | false => exact iteT ⟨(by show 1 ≤ sizeLine; decide), kq.no (l := [-1]) G (by rw [sp_differ, if_pos (not_side c)])⟩
    | true =>
      have e := sp_differ s i
      rw [if_neg (is_side c)] at e
      obtain ⟨j, rfl, hj⟩ := side_of c
      have S := G.1.side j
      obtain ⟨dxs, hs⟩ := S.o
      refine iteF ⟨_, rfl, A.g, CG, dx, _, _, rfl, h1, T.cl_Game, T.n_sides, fG_sides, _, rfl, A.sl, _, _, _, rfl, rfl, SqL.of G.1.r.sl, side_at A (by omega), (A.side j).p, dxs, _, rfl, hs, fS_no_states_settled, A.side j, rfl, S, fun q hq => ?_⟩
      have sm := same_new (o := .lst (refsOf ((A.side j).rs.take (stl (A.side j) + 1)))) hq
      have ln := set_len G.2 hj
      have wl := G.2.wl.2
      have nw := (PI.side j).now
      have sn : seen s ≤ 1000 := Nat.le_trans (Nat.min_le_left _ _) (Nat.le_trans (upTo_le _) (Nat.le_trans PI.na (by omega)))
      have sl : Cs14.settled (side s j) ≤ now (side s j) := Nat.min_le_right _ _
      refine ⟨_, rfl, A.g, CG, dx, _, _, rfl, sm _ _ h1, T.cl_Game, T.n_watcher, fG_watcher, A.wa.p, CW, dxw, _, _, rfl, sm _ _ hw, T.cl_Watcher, T.w.n_states, fW_states,
        q, A.wa.sts, _, A.wa.rs, rfl, upd_same, sm _ _ G.1.w.sts, (side_sts S).same sm, fun r hr2 => ⟨sm _ _ (G.1.w.rs r hr2).1, (G.1.w.rs r hr2).2.1⟩, by omega, by omega, by omega, by omega, fun r hr2 => ?_⟩
      refine kq.look G e (sm.trans (same_new hr2)) (sm.free hr2) ?_
      rw [upd_same, apart_part (n := min (Cs14.settled (side s j)) (seen s)) (f := stateAt s j) (g := watchedAt s) (by omega) (fun t ht => set_at G.2 hj (by omega)) (fun t ht => G.2.wst (by omega))]
      try rfl
abbrev s_Game_both : Stmt := inClass (top 43) 16
theorem sc_Game_both : FnScope ["self"] ["self"] (defScope s_Game_both) := ⟨rfl, rfl, rfl, by decide +kernel, rfl, by decide +kernel, by decide +kernel⟩
theorem ok_Game_both {f : Addr} {fd : FuncData} (F : Fun K "both" "Game.both" s_Game_both f fd) (T : TxtG K mg tk CS CW CG)
    (G_apart : FunF P w K mg base 1 "apart" ["some_states", "other_states"] spApart) (G_Side_states_settled : MethF P w K mg base 4 CS "states_settled" ["self"] (spStates CS)) :
    FnOk P w K mg base CX0 5 f fd ["self"] (spBoth CS CW CG) := by
  refine F.ok sc_Game_both (fun vs H Q E h => ?_) (fun cdv A outer s H vs Q E hr h => ?_)
  · obtain ⟨A, s, rfl, _⟩ := h
    rfl
  · obtain ⟨A, s, rfl, G, ⟨pn, pb, PI⟩, kq⟩ := h
    obtain ⟨dx, h1⟩ := G.1.r.o
    refine ⟨_, (pss_one (ps_ret (pe_callF G_apart (hr.mono (by decide)) (pa_cons (pe_methF0 (pe_ix ix_list (pe_fld (pv 0) rfl) pe_int (fun _ _ => rfl)) T.cl_Side G_Side_states_settled (hr.mono (by decide))) (pa_cons (pe_methF0 (pe_ix ix_list (pe_fld (pv 0) rfl) pe_int (fun _ _ => rfl)) T.cl_Side G_Side_states_settled (hr.mono (by decide))) pa_nil))))), ?_⟩
    have S0 := G.1.s0
    obtain ⟨dx0, hs0⟩ := S0.o
    refine ⟨_, rfl, A.g, CG, dx, _, _, rfl, h1, T.cl_Game, T.n_sides, fG_sides, A.sl, _, _, _, rfl, rfl, SqL.of G.1.r.sl, at_of (j := 0) rfl rfl, A.a0.p, dx0, _, rfl, hs0, fS_no_states_settled, A.a0, rfl, S0, fun q hq => ?_⟩
    have sm := same_new (o := .lst (refsOf (A.a0.rs.take (stl A.a0 + 1)))) hq
    have G2 := G.1.same sm
    have S1 := G2.s1
    obtain ⟨dx1, hs1⟩ := S1.o
    refine ⟨_, rfl, A.g, CG, dx, _, _, rfl, sm _ _ h1, T.cl_Game, T.n_sides, fG_sides, A.sl, _, _, _, rfl, rfl, SqL.of G2.r.sl, at_of (j := 1) rfl rfl, A.a1.p, dx1, _, rfl, hs1, fS_no_states_settled, A.a1, rfl, S1, fun q2 hq2 => ?_⟩
    have sm2 := same_new (o := .lst (refsOf (A.a1.rs.take (stl A.a1 + 1)))) hq2
    have l0 : (A.a0.rs.take (stl A.a0 + 1)).length = Cs14.settled s.a + 1 := set_len G.2 (i := 0) (by omega)
    have l1 : (A.a1.rs.take (stl A.a1 + 1)).length = Cs14.settled s.b + 1 := set_len G.2 (i := 1) (by omega)
    have n0 := PI.a.now
    have n1 := PI.b.now
    have t0 : Cs14.settled s.a ≤ now s.a := Nat.min_le_right _ _
    have t1 : Cs14.settled s.b ≤ now s.b := Nat.min_le_right _ _
    refine ⟨q, q2, _, _, rfl, sm2 _ _ upd_same, upd_same, (side_sts S0).same (sm.trans sm2), (side_sts G.1.s1).same (sm.trans sm2), by omega, by omega, by omega, by omega, fun r hr2 => ?_⟩
    refine kq.look G (sp_both s) ((sm.trans sm2).trans (same_new hr2)) ((sm.trans sm2).free hr2) ?_
    rw [upd_same, apart_part (xs := A.a0.rs.take (stl A.a0 + 1)) (ys := A.a1.rs.take (stl A.a1 + 1)) (n := min (Cs14.settled s.a) (Cs14.settled s.b)) (f := stateAt s 0) (g := stateAt s 1) (by omega) (fun t ht => set_at G.2 (i := 0) (by omega) (by show t ≤ Cs14.settled s.a; omega)) (fun t ht => set_at G.2 (i := 1) (by omega) (by show t ≤ Cs14.settled s.b; omega))]
    try rfl
theorem told1_len {n : Nat} {L : Letter} (h : LOkN n L) : (Cs14.told1 L).length ≤ 10 := by
  unfold Cs14.told1
  rw [List.length_append, List.length_map]
  have := h.pn
  show 4 + L.pads.length ≤ 10
  omega
theorem net_len {n : Nat} : ∀ l : List Letter, (∀ L ∈ l, LOkN n L) → (l.flatMap Cs14.told1).length ≤ 10 * l.length
  | [], _ => Nat.zero_le _
  | L :: l, h => by
    have a := told1_len (h L List.mem_cons_self)
    have b := net_len l fun x hx => h x (List.mem_cons_of_mem _ hx)
    rw [List.flatMap_cons, List.length_append, List.length_cons]
    omega
abbrev s_Game_net : Stmt := inClass (top 43) 7
theorem sc_Game_net : FnScope ["self", "told", "letter"] ["self"] (defScope s_Game_net) := ⟨rfl, rfl, rfl, by decide +kernel, rfl, by decide +kernel, by decide +kernel⟩
theorem ok_Game_net {f : Addr} {fd : FuncData} (F : Fun K "net" "Game.net" s_Game_net f fd) (T : TxtG K mg tk CS CW CG) :
    FnOk P w K mg base CX0 1 f fd ["self"] (spNet CS CW CG) := by
  refine F.ok sc_Game_net (fun vs H Q E h => ?_) (fun cdv A outer s H vs Q E hr h => ?_)
  · obtain ⟨A, s, rfl, _⟩ := h
    rfl
  · obtain ⟨A, s, rfl, G, ⟨pn, pb, PI⟩, kq⟩ := h
    obtain ⟨dx, h1⟩ := G.1.r.o
    refine ⟨_, (pss_cons (ps_set (i := 1) sc_Game_net.nd rfl (Or.inl rfl) (pe_lst (pa_cons (pe_callB call_len_seq (by rfl) T.b_len PySem.boot_len (pa_cons (pe_fld (pv 0) rfl) pa_nil)) pa_nil)))
      (pss_cons (ps_for PassesOwn.never rfl (pi_list (pe_fld (pv 0) rfl)) (pg_name (i := 2) sc_Game_net.nd rfl (Or.inl rfl)) (pss_one (ps_expr (pe_bm PySem.F.plainAttrs_list PySem.F.slot_list_extend PySem.F.type_list_extend mt_extend (pv 1) (pa_cons (pv 2) pa_nil)))))
      (pss_one (ps_ret (pv 1))))), ?_⟩
    refine ⟨_, rfl, A.g, CG, dx, _, _, rfl, h1, T.cl_Game, T.n_letters, fG_letters, A.lt, _, rfl, .inl (SqL.of G.1.r.lt), (by show 1 ≤ sizeLine; decide), fun q hq => ?_⟩
    have sm := same_new (o := .lst [.int (refsOf A.ls).length]) hq
    have nl : (refsOf A.ls).length = s.net.length := by rw [refs_len, ← G.2.net, List.length_map]
    refine ⟨_, rfl, A.g, CG, dx, _, _, rfl, sm _ _ h1, T.cl_Game, T.n_letters, fG_letters, A.lt, rfl, ⟨_, SqL.of (sm _ _ G.1.r.lt)⟩, ?_⟩
    refine for_list (K := K) (a := A.lt) (xs := refsOf A.ls) (fun i σ H' => ∃ v : Option V, σ = [some (.ref A.g), some (.ref q), v] ∧ H' q = some (.lst ((Cs14.int s.net.length :: (s.net.take i).flatMap Cs14.told1).map V.int)) ∧ Same H H')
      ⟨none, rfl, ?_, sm⟩ (fun i σ H' _ ⟨_, _, _, e⟩ => SqL.of (e _ _ G.1.r.lt)) ?_ ?_
    · rw [upd_same, nl]
      rfl
    · rintro i y σ H' hi ⟨v, rfl, e1, e2⟩
      cases c : A.ls[i]? with
      | none =>
        unfold refsOf at hi
        rw [List.getElem?_map, c] at hi
        cases hi
      | some r =>
        rw [refs_at c] at hi
        obtain rfl := Option.some.inj hi
        have hrm := G.1.r.ls r (List.mem_of_getElem? c)
        have cn : s.net[i]? = some r.2 := by rw [← G.2.net, List.getElem?_map, c]; rfl
        have hb := net_len (s.net.take i) fun L hL => PI.net L (List.mem_of_mem_take hL)
        have hb2 := told1_len (PI.net r.2 (List.mem_of_getElem? cn))
        have nn := PI.nl
        rw [List.length_take] at hb
        refine ⟨_, rfl, .inl ⟨rfl, _, SqL.of e1⟩, _, rfl, q, r.1, _, _, rfl, rfl, e1, e2 _ _ hrm.1, ?_, ?_⟩
        · unfold ltV
          rw [List.length_map, List.length_map, List.length_cons]
          exact le_line (by omega)
        · refine ⟨_, rfl, ?_, fun b o e => ?_⟩
          · rw [upd_same, take_next cn, List.flatMap_append]
            refine congrArg (fun z => some (HO.lst z)) ?_
            rw [List.map_cons, List.map_cons, List.map_append, List.flatMap_singleton]
            rfl
          · rw [upd_ne (ne_of_none e hq)]
            exact e2 b o e
    · rintro σ H' ⟨v, rfl, e1, e2⟩
      rw [nl, List.take_length] at e1
      exact ⟨_, rfl, kq.look G (sp_net s) e2 hq e1⟩
end
end TP
namespace TP
open PySem PySem.Spec PyProof.Rows L2
open CsBase (Mach)
open Cs14 (Known at? Letter)
open Cs14 (Side side setSide upTo should now stateAt seen film watchedAt)
section
variable (CS CW CG : Addr)
def spFrame : Sp := fun vs H Q _ => ∃ (A : GA) (s : TSt) (i v : Int), vs = [.ref A.g, .int i, .int v] ∧ Core CS CW CG H A s (.frame i v) Q
def spSend : Sp := fun vs H Q _ => ∃ (A : GA) (s : TSt) (i : Int), vs = [.ref A.g, .int i] ∧ Core CS CW CG H A s (.send i) Q
def spHand : Sp := fun vs H Q _ => ∃ (A : GA) (s : TSt) (k kp : Int), vs = [.ref A.g, .int k, .int kp] ∧ Core CS CW CG H A s (.hand k kp) Q
def spLose : Sp := fun vs H Q _ => ∃ (A : GA) (s : TSt) (k : Int), vs = [.ref A.g, .int k] ∧ Core CS CW CG H A s (.lose k) Q
def spFault : Sp := fun vs H Q _ => ∃ (A : GA) (s : TSt) (i p v : Int), vs = [.ref A.g, .int i, .int p, .int v] ∧ Core CS CW CG H A s (.fault i p v) Q
def spWatch : Sp := fun vs H Q _ => ∃ (A : GA) (s : TSt) (k : Int), vs = [.ref A.g, .int k] ∧ Core CS CW CG H A s (.watch k) Q
def spBegin : Sp := fun vs H Q _ => ∃ (A : GA) (s : TSt) (d a : Int) (l : Addr) (ns : List Int), vs = [.ref A.g, .int d, .int a, .ref l] ∧ H l = some (.lst (ns.map V.int)) ∧ l ≠ A.g ∧ ns.length ≤ 1000 ∧ Core CS CW CG H A s (.begin_ d a ns) Q
def spGInit : Sp := fun vs H Q _ => ∃ (g dx : Addr), vs = [.ref g] ∧ H g = some (.ins CG dx []) ∧ ∀ (H' : Hp) (A : GA), A.g = g → GOk CS CW CG H' A Cs14.start → (∀ b, A.ft.f b → b = g ∨ H b = none) → Kp (S1 g) H H' → Q .non H'
end
theorem Stp.new {H H' : Hp} {F F' : Ft} (s : Stp H F H' F') {r : Addr} {o : HO} (h : H' r = none) : Stp H F (upd H' r o) F' := ⟨s.m, s.f, s.k.new h⟩
/-- an act on one side -/
theorem Ans.act {CS CW CG : Addr} {H H2 : Hp} {A A2 : GA} {s s2 : TSt} {c : Cs14.Call} {Q : VK} {l : List Int} (k : Ans CS CW CG H A s c Q) (e : Cs14.spec s c = (s2, l)) (hg : A2.g = A.g) (G2 : GameAt CS CW CG H2 A2) (I2 : GIs A2 s2) (st : Stp H A.ft H2 A2.ft)
    (r : Addr) (hr : H2 r = none) : Q (.ref r) (upd H2 r (.lst (l.map V.int))) := by
  refine k _ A2 r hg ?_ (st.new hr) (st.free hr) (by rw [e]; exact upd_same)
  rw [e]
  exact ⟨G2.same (same_new hr), I2⟩
section
variable {P : Program} {w : World} {K : PySem.W.Frag} {mg : Str → Option Value} {base : Heap} {tk : Nat → Tok} {CS CW CG : Addr}
abbrev s_Game_frame : Stmt := inClass (top 43) 2
theorem sc_Game_frame : FnScope ["self", "side", "pad", "player", "t"] ["self", "side", "pad"] (defScope s_Game_frame) := ⟨rfl, rfl, rfl, by decide +kernel, rfl, by decide +kernel, by decide +kernel⟩
theorem ok_Game_frame {f : Addr} {fd : FuncData} (F : Fun K "frame" "Game.frame" s_Game_frame f fd) (T : TxtG K mg tk CS CW CG) (G_is_side : FunF P w K mg base 2 "is_side" ["side"] spIsSide) (G_within : FunF P w K mg base 1 "within" ["number", "least", "most"] spWithin)
    (G_Side_frames_run : MethF P w K mg base 1 CS "frames_run" ["self"] (spSRun CS)) (G_Side_frames_known : MethF P w K mg base 2 CS "frames_known" ["self"] (spSKnown CS)) (G_Side_tell_pad : MethF P w K mg base 1 CS "tell_pad" ["self", "pad"] (spTellPad CS))
    (G_Side_run_next : MethF P w K mg base 6 CS "run_next" ["self"] (spNext CS)) (G_Side_is_guess : MethF P w K mg base 1 CS "is_guess" ["self", "t"] (spGuess CS)) :
    FnOk P w K mg base CX0 7 f fd ["self", "side", "pad"] (spFrame CS CW CG) := by
  refine F.ok sc_Game_frame (fun vs H Q E h => ?_) (fun cdv A outer s H vs Q E hr h => ?_)
  · obtain ⟨A, s, i, v, rfl, _⟩ := h
    rfl
  · obtain ⟨A, s, i, v, rfl, G, ⟨pn, pb, PI⟩, kq⟩ := h
    obtain ⟨dx, h1⟩ := G.1.r.o
    refine ⟨_, (pss_cons (ps_if (PW.pt (pw_or (pt_not (pt_val (pe_callF G_is_side (hr.mono (by decide)) (pa_cons (pv 1) pa_nil)))) (pw_or1 (pt_not (pt_val (pe_callF G_within (hr.mono (by decide)) (pa_cons (pv 2) (pa_cons pe_int (pa_cons (pe_glob (v := .int (15)) rfl T.g_MOST_PAD ⟨_, rfl⟩) pa_nil))))))))) (pss_one (ps_ret (pe_lst (pa_cons (pe_glob (v := .int (-1)) rfl T.g_NOT_AS_TOLD ⟨_, rfl⟩) pa_nil)))) pss_nil)
      (pss_cons (ps_set (i := 3) sc_Game_frame.nd rfl (Or.inl rfl) (pe_ix ix_list (pe_fld (pv 0) rfl) (pv 1) (fun _ _ => rfl)))
      (pss_cons (ps_set (i := 4) sc_Game_frame.nd rfl (Or.inl rfl) (pe_methF0 (pv 3) T.cl_Side G_Side_frames_run (hr.mono (by decide))))
      (pss_cons (ps_if (pt_cmpR op_ge (pv 4) (pe_glob (v := .int (100)) rfl T.g_MOST_FRAMES ⟨_, rfl⟩) (nomark _)) (pss_one (ps_ret (pe_lst (pa_cons (pe_glob (v := .int (-5)) rfl T.g_NO_ROOM ⟨_, rfl⟩) pa_nil)))) pss_nil)
      (pss_cons (ps_if (pt_cmpR op_ge (pv 4) (pe_op op_add (pe_methF0 (pv 3) T.cl_Side G_Side_frames_known (hr.mono (by decide))) (pe_fld (pv 0) rfl)) (nomark _)) (pss_one (ps_ret (pe_lst (pa_cons (pe_glob (v := .int (-6)) rfl T.g_TOO_FAR_AHEAD ⟨_, rfl⟩) pa_nil)))) pss_nil)
      (pss_cons (ps_expr (pe_methF (pv 3) T.cl_Side G_Side_tell_pad (hr.mono (by decide)) (pa_cons (pv 2) pa_nil)))
      (pss_cons (ps_expr (pe_methF0 (pv 3) T.cl_Side G_Side_run_next (hr.mono (by decide))))
      (pss_one (ps_ret (pe_lst (pa_cons (pe_op op_add (pv 4) pe_int) (pa_cons (pe_ifExp (pt_val (pe_methF (pv 3) T.cl_Side G_Side_is_guess (hr.mono (by decide)) (pa_cons (pv 4) pa_nil))) pe_int pe_int) pa_nil)))))))))))), ?_⟩
    refine ⟨_, rfl, i, rfl, _, rfl, ?_⟩
    cases c : wi i 0 1 with
    | false => exact iteT (iteT ⟨(by show 1 ≤ sizeLine; decide), kq.no (l := [-1]) G (by rw [sp_frame, if_pos (.inl (not_side c))])⟩)
    | true =>
      refine iteF ⟨_, rfl, v, 0, 15, rfl, _, rfl, ?_⟩
      cases c2 : wi v 0 15 with
      | false =>
        have := wi_false.mp c2
        exact iteT ⟨(by show 1 ≤ sizeLine; decide), kq.no (l := [-1]) G (by rw [sp_frame, if_pos (.inr this)])⟩
      | true =>
        have hb := wi_true.mp c2
        have e := sp_frame s i v
        rw [if_neg (fun z => z.elim (is_side c) (by omega))] at e
        obtain ⟨j, rfl, hj⟩ := side_of c
        obtain ⟨u, rfl⟩ : ∃ u : Nat, v = (u : Int) := ⟨v.toNat, by omega⟩
        simp only [Int.toNat_natCast] at e
        have S := G.1.side j
        obtain ⟨dxs, hs⟩ := S.o
        have us := G.2.us hj
        have R := G.2.sd j hj
        have xo := PI.side j
        have so := xo.sok PI.dl hj R
        refine iteF ⟨_, rfl, A.g, CG, dx, _, _, rfl, h1, T.cl_Game, T.n_sides, fG_sides, _, rfl, A.sl, _, _, _, rfl, rfl, SqL.of G.1.r.sl, side_at A (by omega), ?_⟩
        refine ⟨_, rfl, (A.side j).p, dxs, _, rfl, hs, fS_no_frames_run, A.side j, rfl, S, ?_⟩
        refine ⟨_, rfl, _, _, rfl, rfl, _, rfl, if_dec (fun c3 => ?_) (fun c3 => ?_)⟩
        · refine ⟨(by show 1 ≤ sizeLine; decide), kq.no (l := [-5]) G ?_⟩
          rw [e, if_pos (show Cs14.LONG ≤ now (side s j) from (show 100 ≤ now (side s j) by omega))]
        rw [if_neg (show ¬ Cs14.LONG ≤ now (side s j) from (show ¬ 100 ≤ now (side s j) by omega))] at e
        refine ⟨_, rfl, _, rfl, (A.side j).p, dxs, _, rfl, hs, fS_no_frames_known, A.side j, rfl, S, _, rfl, A.g, CG, dx, _, _, rfl, h1, T.cl_Game, T.n_ahead, fG_ahead, _, _, rfl, rfl, _, _, rfl, rfl, _, rfl, if_dec (fun c4 => ?_) (fun c4 => ?_)⟩
        · refine ⟨(by show 1 ≤ sizeLine; decide), kq.no (l := [-6]) G ?_⟩
          rw [e, if_pos]
          show upTo (side s j).had + s.ahead ≤ now (side s j)
          rw [← G.2.ah, ← R.had, ← us]
          show upTo (A.side j).had + A.ahead ≤ (A.side j).us.length
          omega
        rw [if_neg (show ¬ upTo (side s j).had + s.ahead ≤ now (side s j) by
          rw [← G.2.ah, ← R.had, ← us]
          show ¬ upTo (A.side j).had + A.ahead ≤ (A.side j).us.length
          omega)] at e
        have un : (A.side j).us.length ≤ (A.side j).ow.length := so.un
        have on : (A.side j).ow.length ≤ 1000 := so.on
        refine ⟨_, rfl, (A.side j).p, dxs, _, rfl, hs, fS_no_tell_pad, _, rfl, A.side j, u, rfl, S, on, fun H1 b Sb db pb st1 => ?_⟩
        obtain ⟨dxb, hsb⟩ := Sb.o
        rw [pb] at hsb
        obtain ⟨ow, eow, low, bow⟩ := xo.own
        have eo : (A.side j).sd.ow = ow := R.ow_eq eow
        have nw := xo.now
        have dl := PI.dl
        have bus : b.us = (A.side j).us := congrArg SD.us db
        have bow' : b.ow = (A.side j).ow ++ [u] := congrArg SD.ow db
        have ob : SOk b.sd := by
          rw [db]
          refine ⟨fun z hz => ?_, so.had, so.us, so.fl, so.ms, so.i, so.fn, ?_, ?_⟩
          · rcases List.mem_append.mp hz with y | y
            · exact so.ow z y
            · obtain rfl := List.mem_singleton.mp y
              omega
          · show (A.side j).us.length ≤ ((A.side j).ow ++ [u]).length
            rw [List.length_append]
            omega
          · show ((A.side j).ow ++ [u]).length ≤ 1000
            have : (A.side j).ow.length = now (side s j) + s.delay := by rw [← low, ← eo]; rfl
            rw [List.length_append, this]
            show now (side s j) + s.delay + 1 ≤ 1000
            omega
        have lt : b.us.length < b.ow.length := by rw [bus, bow', List.length_append]; show _ < (A.side j).ow.length + 1; omega
        refine ⟨_, rfl, (A.side j).p, dxb, _, rfl, hsb, fS_no_run_next, b, congrArg (fun z => [V.ref z]) pb.symm, Sb, ob, lt, fun H2 d Sd dd pd st2 => ?_⟩
        obtain ⟨dxd, hsd⟩ := Sd.o
        have pdp : d.p = (A.side j).p := pd.trans pb
        rw [pdp] at hsd
        refine ⟨_, rfl, _, _, rfl, rfl, _, rfl, (A.side j).p, dxd, _, rfl, hsd, fS_no_is_guess, _, rfl, d, (A.side j).us.length, congrArg (fun z => [V.ref z, _]) pdp.symm, Sd, _, rfl, ?_⟩
        have st : Stp H (A.side j).ft H2 d.ft := Stp.trans (fun _ h => .inl h) st1 st2
        obtain ⟨G2, stA⟩ := G.1.set j Sd pdp st
        have Rd : Rel s.program j { side s j with own := (side s j).own ++ [(now (side s j) + s.delay, u)], used := should (side s j).had (now (side s j) + 1), runs := (side s j).runs + 1 } d.sd := by
          rw [dd, db]
          exact R.frame xo.used (by rw [eo, low]) u
        have I2 := G.2.set hj Rd
        have dh : d.had = (side s j).had := by
          have : d.sd.had = _ := congrArg SD.had dd
          rw [db] at this
          exact this.trans R.had
        refine if_10 ⟨(by show 2 ≤ sizeLine; decide), fun q hq => ?_⟩
        refine kq.act (l := [((A.side j).us.length : Int) + 1, b01 (!(at? d.had (A.side j).us.length).isSome)]) ?_ (A.set_g j d).1 G2 I2 stA q hq
        rw [e, dh, us]
        refine congrArg (fun z => (setSide s j _, z)) ?_
        show [Cs14.int (now (side s j) + 1), if (at? (side s j).had (now (side s j))).isSome = true then (0 : Int) else 1] = [((now (side s j) : Nat) : Int) + 1, b01 (!(at? (side s j).had (now (side s j))).isSome)]
        cases (at? (side s j).had (now (side s j))).isSome <;> rfl
abbrev s_Game_fault : Stmt := inClass (top 43) 12
theorem sc_Game_fault : FnScope ["self", "side", "place", "byte", "player"] ["self", "side", "place", "byte"] (defScope s_Game_fault) := ⟨rfl, rfl, rfl, by decide +kernel, rfl, by decide +kernel, by decide +kernel⟩
theorem ok_Game_fault {f : Addr} {fd : FuncData} (F : Fun K "fault" "Game.fault" s_Game_fault f fd) (T : TxtG K mg tk CS CW CG) (G_is_side : FunF P w K mg base 2 "is_side" ["side"] spIsSide) (G_within : FunF P w K mg base 1 "within" ["number", "least", "most"] spWithin)
    (G_Side_frames_run : MethF P w K mg base 1 CS "frames_run" ["self"] (spSRun CS)) (G_Side_tell_fault : MethF P w K mg base 2 CS "tell_fault" ["self", "place", "byte"] (spTellFault CS)) :
    FnOk P w K mg base CX0 3 f fd ["self", "side", "place", "byte"] (spFault CS CW CG) := by
  refine F.ok sc_Game_fault (fun vs H Q E h => ?_) (fun cdv A outer s H vs Q E hr h => ?_)
  · obtain ⟨A, s, i, p, v, rfl, _⟩ := h
    rfl
  · obtain ⟨A, s, i, p, v, rfl, G, ⟨pn, pb, PI⟩, kq⟩ := h
    obtain ⟨dx, h1⟩ := G.1.r.o
    refine ⟨_, (pss_cons (ps_if (PW.pt (pw_or (pt_not (pt_val (pe_callF G_is_side (hr.mono (by decide)) (pa_cons (pv 1) pa_nil)))) (pw_or (pt_not (pt_val (pe_callF G_within (hr.mono (by decide)) (pa_cons (pv 2) (pa_cons pe_int (pa_cons (pe_op op_sub (pe_glob (v := .int (128)) rfl T.g_PLACES ⟨_, rfl⟩) pe_int) pa_nil)))))) (pw_or1 (pt_not (pt_val (pe_callF G_within (hr.mono (by decide)) (pa_cons (pv 3) (pa_cons pe_int (pa_cons (pe_glob (v := .int (255)) rfl T.g_MOST_BYTE ⟨_, rfl⟩) pa_nil)))))))))) (pss_one (ps_ret (pe_lst (pa_cons (pe_glob (v := .int (-1)) rfl T.g_NOT_AS_TOLD ⟨_, rfl⟩) pa_nil)))) pss_nil)
      (pss_cons (ps_set (i := 4) sc_Game_fault.nd rfl (Or.inl rfl) (pe_ix ix_list (pe_fld (pv 0) rfl) (pv 1) (fun _ _ => rfl)))
      (pss_cons (ps_if (pt_cmpR op_ge (pe_callB call_len_seq (by rfl) T.b_len PySem.boot_len (pa_cons (pe_fld (pv 4) rfl) pa_nil)) (pe_glob (v := .int (10)) rfl T.g_MOST_FAULTS ⟨_, rfl⟩) (nomark _)) (pss_one (ps_ret (pe_lst (pa_cons (pe_glob (v := .int (-5)) rfl T.g_NO_ROOM ⟨_, rfl⟩) pa_nil)))) pss_nil)
      (pss_cons (ps_expr (pe_methF (pv 4) T.cl_Side G_Side_tell_fault (hr.mono (by decide)) (pa_cons (pv 2) (pa_cons (pv 3) pa_nil))))
      (pss_one (ps_ret (pe_lst (pa_cons (pe_methF0 (pv 4) T.cl_Side G_Side_frames_run (hr.mono (by decide))) pa_nil)))))))), ?_⟩
    refine ⟨_, rfl, i, rfl, _, rfl, ?_⟩
    cases c : wi i 0 1 with
    | false => exact iteT (iteT ⟨(by show 1 ≤ sizeLine; decide), kq.no (l := [-1]) G (by rw [sp_fault, if_pos (.inl (not_side c))])⟩)
    | true =>
      refine iteF ⟨_, rfl, _, _, rfl, rfl, p, 0, 127, rfl, _, rfl, ?_⟩
      cases c2 : wi p 0 127 with
      | false =>
        have := wi_false.mp c2
        exact iteT (iteT ⟨(by show 1 ≤ sizeLine; decide), kq.no (l := [-1]) G (by rw [sp_fault, if_pos (.inr (this.imp id .inl))])⟩)
      | true =>
        have hb := wi_true.mp c2
        refine iteF ⟨_, rfl, v, 0, 255, rfl, _, rfl, ?_⟩
        cases c3 : wi v 0 255 with
        | false => exact iteT ⟨(by show 1 ≤ sizeLine; decide), kq.no (l := [-1]) G (by rw [sp_fault, if_pos (.inr (.inr (.inr c3)))])⟩
        | true =>
          have hv := wi_true.mp c3
          have e := sp_fault s i p v
          rw [if_neg (fun z => z.elim (is_side c) fun y => y.elim (by omega) fun x => x.elim (by omega) fun u => by
            have u' : wi v 0 255 = false := u
            rw [c3] at u'
            cases u')] at e
          obtain ⟨j, rfl, hj⟩ := side_of c
          obtain ⟨u, rfl⟩ : ∃ u : Nat, v = (u : Int) := ⟨v.toNat, by omega⟩
          obtain ⟨m, rfl⟩ : ∃ m : Nat, p = (m : Int) := ⟨p.toNat, by omega⟩
          simp only [Int.toNat_natCast] at e
          have S := G.1.side j
          obtain ⟨dxs, hs⟩ := S.o
          have us := G.2.us hj
          have R := G.2.sd j hj
          have fe : (A.side j).fs.length = (side s j).faults.length := (List.length_map (fun r : Addr × (Nat × Nat × Nat) => r.2)).symm.trans (congrArg List.length R.fl)
          refine iteF ⟨_, rfl, A.g, CG, dx, _, _, rfl, h1, T.cl_Game, T.n_sides, fG_sides, _, rfl, A.sl, _, _, _, rfl, rfl, SqL.of G.1.r.sl, side_at A (by omega), ?_⟩
          refine ⟨_, rfl, (A.side j).p, CS, dxs, _, _, rfl, hs, T.cl_Side, T.s.n_faults, fS_faults, (A.side j).flt, _, rfl, .inl (SqL.of S.flt), _, _, rfl, rfl, _, rfl, if_dec (fun c4 => ?_) (fun c4 => ?_)⟩
          · rw [refs_len] at c4
            refine ⟨(by show 1 ≤ sizeLine; decide), kq.no (l := [-5]) G ?_⟩
            rw [e, if_pos (show 10 ≤ (side s j).faults.length by omega)]
          rw [refs_len] at c4
          rw [if_neg (show ¬ 10 ≤ (side s j).faults.length by omega)] at e
          refine ⟨_, rfl, (A.side j).p, dxs, _, rfl, hs, fS_no_tell_fault, _, rfl, _, rfl, A.side j, m, u, rfl, S, by omega, fun H1 b Sb db pb st1 => ?_⟩
          obtain ⟨dxb, hsb⟩ := Sb.o
          rw [pb] at hsb
          refine ⟨_, rfl, (A.side j).p, dxb, _, rfl, hsb, fS_no_frames_run, b, congrArg (fun z => [V.ref z]) pb.symm, Sb, (by show 1 ≤ sizeLine; decide), fun q hq => ?_⟩
          obtain ⟨G2, stA⟩ := G.1.set j Sb pb st1
          have Rb : Rel s.program j { side s j with faults := (side s j).faults ++ [(now (side s j), m, u)] } b.sd := by
            rw [db]
            exact R.fault m u
          have bus : b.us = (A.side j).us := congrArg SD.us db
          refine kq.act (l := [(b.us.length : Int)]) ?_ (A.set_g j b).1 G2 (G.2.set hj Rb) stA q hq
          rw [e, bus, us]
          rfl
end
end TP
namespace TP
open PySem PySem.Spec PyProof.Rows L2
open CsBase (Mach)
open Cs14 (Known at? Letter)
open Cs14 (Side side setSide upTo should now stateAt seen film watchedAt)
theorem let_eq {s : TSt} {i : Nat} {d : SD} (R : Rel s.program i (side s i) d) : letD d = Cs14.letterOf s i := by
  unfold letD Cs14.letterOf
  show Letter.mk d.i d.acked ((d.ow.drop d.acked).take 6) (upTo d.had) = Letter.mk i (side s i).acked _ (upTo (side s i).had)
  rw [R.i, R.had, R.acked]
  congr 1
  rw [R.ow, ownK_upTo]
  apply List.ext_getElem?
  intro k
  rw [List.getElem?_map]
  by_cases c : k < min 6 (d.ow.length - (side s i).acked)
  · rw [List.getElem?_range c, List.getElem?_take_of_lt (by omega), List.getElem?_drop]
    show _ = some ((at? (ownK d.ow) ((side s i).acked + k)).getD 0)
    rw [ownK_at, List.getElem?_eq_getElem (show (side s i).acked + k < d.ow.length by omega)]
    rfl
  · rw [List.getElem?_eq_none (by rw [List.length_take, List.length_drop]; omega), List.getElem?_eq_none (by rw [List.length_range]; omega)]
    rfl
theorem GIs.nl {A : GA} {s : TSt} (I : GIs A s) : A.ls.length = s.net.length := by rw [← I.net, List.length_map]
theorem let_none {A : GA} {s : TSt} (I : GIs A s) {k : Int} (c : wi k 0 ((A.ls.length : Int) - 1) = false) : Cs14.letter? s k = none := by
  have := wi_false.mp c
  have nl := I.nl
  unfold Cs14.letter?
  by_cases z : k < 0
  · rw [if_pos z]
  · rw [if_neg z, List.getElem?_eq_none (by omega)]
theorem let_some {A : GA} {s : TSt} (I : GIs A s) {k : Int} (c : wi k 0 ((A.ls.length : Int) - 1) = true) : ∃ (n : Nat) (r : Addr × Letter), k = (n : Int) ∧ A.ls[n]? = some r ∧ Cs14.letter? s k = some r.2 ∧ s.net[n]? = some r.2 := by
  have := wi_true.mp c
  obtain ⟨n, rfl⟩ : ∃ n : Nat, k = (n : Int) := ⟨k.toNat, by omega⟩
  obtain ⟨r, hr⟩ : ∃ r, A.ls[n]? = some r := ⟨_, List.getElem?_eq_getElem (by omega)⟩
  have e : s.net[n]? = some r.2 := by rw [← I.net, List.getElem?_map, hr]; rfl
  refine ⟨n, r, rfl, hr, ?_, e⟩
  unfold Cs14.letter?
  rw [if_neg (by omega)]
  exact e
theorem seq_ix {n m : Nat} (h : n < m) : seqIndex? (n : Int) m = some n := by
  have : ixN m (n : Int) = some n := by
    unfold ixN
    rw [if_pos (by omega), if_pos (by omega)]
    rfl
  exact (ixN_seq this).1
theorem map_erase {α β : Type} (f : α → β) : ∀ (l : List α) (n : Nat), (l.map f).eraseIdx n = (l.eraseIdx n).map f
  | [], _ => rfl
  | _ :: _, 0 => rfl
  | a :: l, n + 1 => by
    show f a :: (l.map f).eraseIdx n = f a :: (l.eraseIdx n).map f
    rw [map_erase f l n]
theorem refs_erase {α : Type} (l : List (Addr × α)) (n : Nat) : (refsOf l).eraseIdx n = refsOf (l.eraseIdx n) := map_erase _ l n
theorem net_w {s : TSt} {w : WD} (W : WRel s w) (l : List Letter) : WRel { s with net := l } w := ⟨W.l0, W.l1, W.fm, W.can⟩
theorem GIs.erase {A : GA} {s : TSt} (I : GIs A s) (n : Nat) : GIs { A with ls := A.ls.eraseIdx n } { s with net := s.net.eraseIdx n } := by
  refine ⟨I.sd, ?_, net_w I.w _, I.ah⟩
  show (A.ls.eraseIdx n).map (·.2) = s.net.eraseIdx n
  rw [← map_erase, I.net]
section
variable {P : Program} {w : World} {K : PySem.W.Frag} {mg : Str → Option Value} {base : Heap} {tk : Nat → Tok} {CS CW CG : Addr}
theorem GameAt.erase {H : Hp} {A : GA} (G : GameAt CS CW CG H A) (n : Nat) : GameAt CS CW CG (upd H A.lt (.lst (refsOf (A.ls.eraseIdx n)))) { A with ls := A.ls.eraseIdx n } ∧ Stp H A.ft (upd H A.lt (.lst (refsOf (A.ls.eraseIdx n)))) ({ A with ls := A.ls.eraseIdx n } : GA).ft := by
  refine ⟨G.setL fun r hr => .inl (List.mem_of_mem_eraseIdx hr), fun b h => .inl h, fun b h => .inl ?_, Kp.refl.upd (.inr (.inr (.inr (.inr rfl))))⟩
  rcases h with h | h | h | h | h | ⟨r, hr, e⟩
  · exact .inl h
  · exact .inr (.inl h)
  · exact .inr (.inr (.inl h))
  · exact .inr (.inr (.inr (.inl h)))
  · exact .inr (.inr (.inr (.inr (.inl h))))
  · exact .inr (.inr (.inr (.inr (.inr ⟨r, List.mem_of_mem_eraseIdx hr, e⟩))))
abbrev s_Game_send : Stmt := inClass (top 43) 3
theorem sc_Game_send : FnScope ["self", "side", "letter"] ["self", "side"] (defScope s_Game_send) := ⟨rfl, rfl, rfl, by decide +kernel, rfl, by decide +kernel, by decide +kernel⟩
theorem ok_Game_send {f : Addr} {fd : FuncData} (F : Fun K "send" "Game.send" s_Game_send f fd) (T : TxtG K mg tk CS CW CG) (G_is_side : FunF P w K mg base 2 "is_side" ["side"] spIsSide)
    (G_Side_letter : MethF P w K mg base 3 CS "letter" ["self"] (spLetter CS)) :
    FnOk P w K mg base CX0 4 f fd ["self", "side"] (spSend CS CW CG) := by
  refine F.ok sc_Game_send (fun vs H Q E h => ?_) (fun cdv A outer s H vs Q E hr h => ?_)
  · obtain ⟨A, s, i, rfl, _⟩ := h
    rfl
  · obtain ⟨A, s, i, rfl, G, ⟨pn, pb, PI⟩, kq⟩ := h
    obtain ⟨dx, h1⟩ := G.1.r.o
    refine ⟨_, (pss_cons (ps_if (pt_not (pt_val (pe_callF G_is_side (hr.mono (by decide)) (pa_cons (pv 1) pa_nil)))) (pss_one (ps_ret (pe_lst (pa_cons (pe_glob (v := .int (-1)) rfl T.g_NOT_AS_TOLD ⟨_, rfl⟩) pa_nil)))) pss_nil)
      (pss_cons (ps_if (pt_cmpR op_ge (pe_callB call_len_seq (by rfl) T.b_len PySem.boot_len (pa_cons (pe_fld (pv 0) rfl) pa_nil)) (pe_glob (v := .int (30)) rfl T.g_MOST_LETTERS ⟨_, rfl⟩) (nomark _)) (pss_one (ps_ret (pe_lst (pa_cons (pe_glob (v := .int (-5)) rfl T.g_NO_ROOM ⟨_, rfl⟩) pa_nil)))) pss_nil)
      (pss_cons (ps_set (i := 2) sc_Game_send.nd rfl (Or.inl rfl) (pe_methF0 (pe_ix ix_list (pe_fld (pv 0) rfl) (pv 1) (fun _ _ => rfl)) T.cl_Side G_Side_letter (hr.mono (by decide))))
      (pss_cons (ps_expr (pe_bm PySem.F.plainAttrs_list PySem.F.slot_list_append PySem.F.type_list_append mt_append (pe_fld (pv 0) rfl) (pa_cons (pv 2) pa_nil)))
      (pss_one (ps_ret (pe_callTy call_list_of (by rfl) T.b_list (by decide +kernel) (pa_cons (pv 2) pa_nil)))))))), ?_⟩
    refine ⟨_, rfl, i, rfl, _, rfl, ?_⟩
    cases c : wi i 0 1 with
    | false => exact iteT ⟨(by show 1 ≤ sizeLine; decide), kq.no (l := [-1]) G (by rw [sp_send, if_pos (not_side c)])⟩
    | true =>
      have e := sp_send s i
      rw [if_neg (is_side c)] at e
      obtain ⟨j, rfl, hj⟩ := side_of c
      simp only [Int.toNat_natCast] at e
      have S := G.1.side j
      obtain ⟨dxs, hs⟩ := S.o
      have nl := G.2.nl
      refine iteF ⟨_, rfl, A.g, CG, dx, _, _, rfl, h1, T.cl_Game, T.n_letters, fG_letters, A.lt, _, rfl, .inl (SqL.of G.1.r.lt), _, _, rfl, rfl, _, rfl, if_dec (fun c4 => ?_) (fun c4 => ?_)⟩
      · rw [refs_len] at c4
        refine ⟨(by show 1 ≤ sizeLine; decide), kq.no (l := [-5]) G ?_⟩
        rw [e, if_pos (show Cs14.NET ≤ s.net.length from (show 30 ≤ s.net.length by omega))]
      rw [refs_len] at c4
      rw [if_neg (show ¬ Cs14.NET ≤ s.net.length from (show ¬ 30 ≤ s.net.length by omega))] at e
      refine ⟨_, rfl, A.g, CG, dx, _, _, rfl, h1, T.cl_Game, T.n_sides, fG_sides, _, rfl, A.sl, _, _, _, rfl, rfl, SqL.of G.1.r.sl, side_at A (by omega), (A.side j).p, dxs, _, rfl, hs, fS_no_letter, A.side j, rfl, S, fun H1 q hq e1 s1 => ?_⟩
      have G1 := G.1.same s1
      refine ⟨_, rfl, A.g, CG, dx, _, _, rfl, s1 _ _ h1, T.cl_Game, T.n_letters, fG_letters, .inl ⟨rfl, _, SqL.of G1.r.lt⟩, _, rfl, A.lt, _, _, rfl, rfl, G1.r.lt, (by rw [refs_len]; exact lt_line (by omega)), ?_⟩
      have nq : ¬ A.ft.f q := fun z => by
        obtain ⟨o, eo⟩ := G.1.trk z
        rw [hq] at eo
        cases eo
      have G2 := G1.setL (w := A.ls ++ [(q, letD (A.side j).sd)]) fun r hr => by
        rcases List.mem_append.mp hr with z | z
        · exact .inl z
        · obtain rfl := List.mem_singleton.mp z
          exact .inr ⟨e1, nq⟩
      have nqt : q ≠ A.lt := fun z => nq (.inr (.inr (.inr (.inl (.inr z)))))
      have q2 : upd H1 A.lt (.lst (refsOf (A.ls ++ [(q, letD (A.side j).sd)]))) q = some (.lst (ltV (letD (A.side j).sd))) := by rw [upd_ne nqt]; exact e1
      have st : Stp H A.ft (upd H1 A.lt (.lst (refsOf (A.ls ++ [(q, letD (A.side j).sd)])))) ({ A with ls := A.ls ++ [(q, letD (A.side j).sd)] } : GA).ft := by
        refine ⟨fun b h => .inl h, fun b h => ?_, (Kp.same s1).upd (.inr (.inr (.inr (.inr rfl))))⟩
        rcases h with h | h | h | h | h | ⟨r, hr, e⟩
        · exact .inl (.inl h)
        · exact .inl (.inr (.inl h))
        · exact .inl (.inr (.inr (.inl h)))
        · exact .inl (.inr (.inr (.inr (.inl h))))
        · exact .inl (.inr (.inr (.inr (.inr (.inl h)))))
        · rcases List.mem_append.mp hr with z | z
          · exact .inl (.inr (.inr (.inr (.inr (.inr ⟨r, z, e⟩)))))
          · obtain rfl := List.mem_singleton.mp z
            exact .inr (e ▸ hq)
      rw [show refsOf A.ls ++ [V.ref q] = refsOf (A.ls ++ [(q, letD (A.side j).sd)]) from (refs_snoc A.ls (q, letD (A.side j).sd)).symm]
      generalize upd H1 A.lt (.lst (refsOf (A.ls ++ [(q, letD (A.side j).sd)]))) = H2 at G2 q2 st ⊢
      refine ⟨_, rfl, q, _, rfl, .inl (SqL.of q2), fun r hr2 => ?_⟩
      have le := let_eq (G.2.sd j hj)
      refine kq.act (s2 := { s with net := s.net ++ [Cs14.letterOf s j] }) (A2 := { A with ls := A.ls ++ [(q, letD (A.side j).sd)] }) (l := Cs14.told1 (letD (A.side j).sd)) (by rw [e, le]) rfl G2 ⟨G.2.sd, ?_, net_w G.2.w _, G.2.ah⟩ st r hr2
      show (A.ls ++ [(q, letD (A.side j).sd)]).map (·.2) = s.net ++ [Cs14.letterOf s j]
      rw [List.map_append, G.2.net, le]
      rfl
abbrev s_Game_lose : Stmt := inClass (top 43) 6
theorem sc_Game_lose : FnScope ["self", "k"] ["self", "k"] (defScope s_Game_lose) := ⟨rfl, rfl, rfl, by decide +kernel, rfl, by decide +kernel, by decide +kernel⟩
theorem ok_Game_lose {f : Addr} {fd : FuncData} (F : Fun K "lose" "Game.lose" s_Game_lose f fd) (T : TxtG K mg tk CS CW CG) (G_Game_has_letter : MethF P w K mg base 2 CG "has_letter" ["self", "k"] (spHas CS CW CG)) :
    FnOk P w K mg base CX0 3 f fd ["self", "k"] (spLose CS CW CG) := by
  refine F.ok sc_Game_lose (fun vs H Q E h => ?_) (fun cdv A outer s H vs Q E hr h => ?_)
  · obtain ⟨A, s, k, rfl, _⟩ := h
    rfl
  · obtain ⟨A, s, k, rfl, G, ⟨pn, pb, PI⟩, kq⟩ := h
    obtain ⟨dx, h1⟩ := G.1.r.o
    refine ⟨_, (pss_cons (ps_if (pt_not (pt_val (pe_methF (pv 0) T.cl_Game G_Game_has_letter (hr.mono (by decide)) (pa_cons (pv 1) pa_nil)))) (pss_one (ps_ret (pe_lst (pa_cons (pe_glob (v := .int (-2)) rfl T.g_NO_SUCH_LETTER ⟨_, rfl⟩) pa_nil)))) pss_nil)
      (pss_cons (ps_expr (pe_bm PySem.F.plainAttrs_list PySem.F.slot_list_pop PySem.F.type_list_pop mt_popAt (pe_fld (pv 0) rfl) (pa_cons (pv 1) pa_nil)))
      (pss_one (ps_ret (pe_lst (pa_cons (pe_callB call_len_seq (by rfl) T.b_len PySem.boot_len (pa_cons (pe_fld (pv 0) rfl) pa_nil)) pa_nil)))))), ?_⟩
    refine ⟨_, rfl, A.g, dx, _, rfl, h1, fG_no_has_letter, _, rfl, A, k, rfl, G.1, _, rfl, ?_⟩
    cases c : wi k 0 ((A.ls.length : Int) - 1) with
    | false => exact iteT ⟨(by show 1 ≤ sizeLine; decide), kq.no (l := [-2]) G (by rw [sp_lose, let_none G.2 c])⟩
    | true =>
      obtain ⟨n, r, rfl, hr0, hl, hn⟩ := let_some G.2 c
      have e := sp_lose s (n : Int)
      rw [hl] at e
      have nl := G.2.nl
      have pl := PI.nl
      have nlt : n < A.ls.length := (List.getElem?_eq_some_iff.mp hr0).1
      refine iteF ⟨_, rfl, A.g, CG, dx, _, _, rfl, h1, T.cl_Game, T.n_letters, fG_letters, .inl ⟨rfl, _, SqL.of G.1.r.lt⟩, _, rfl, A.lt, _, n, n, _, rfl, rfl, G.1.r.lt, by omega, by omega, seq_ix (by rw [refs_len]; exact nlt), refs_at hr0, ?_⟩
      obtain ⟨G2, st⟩ := G.1.erase n
      rw [refs_erase]
      generalize upd H A.lt (.lst (refsOf (A.ls.eraseIdx n))) = H2 at G2 st ⊢
      obtain ⟨dx2, h2⟩ := G2.r.o
      refine ⟨_, rfl, A.g, CG, dx2, _, _, rfl, h2, T.cl_Game, T.n_letters, fG_letters, A.lt, _, rfl, .inl (SqL.of G2.r.lt), (by show 1 ≤ sizeLine; decide), fun q hq => ?_⟩
      refine kq.act (A2 := { A with ls := A.ls.eraseIdx n }) (l := [((refsOf (A.ls.eraseIdx n)).length : Int)]) ?_ rfl G2 (G.2.erase n) st q hq
      rw [e, refs_len, List.length_eraseIdx_of_lt nlt, nl]
      rfl
abbrev s_Game_hand : Stmt := inClass (top 43) 5
theorem sc_Game_hand : FnScope ["self", "k", "stays", "letter", "again"] ["self", "k", "stays"] (defScope s_Game_hand) := ⟨rfl, rfl, rfl, by decide +kernel, rfl, by decide +kernel, by decide +kernel⟩
theorem ok_Game_hand {f : Addr} {fd : FuncData} (F : Fun K "hand" "Game.hand" s_Game_hand f fd) (T : TxtG K mg tk CS CW CG) (G_within : FunF P w K mg base 1 "within" ["number", "least", "most"] spWithin) (G_Game_has_letter : MethF P w K mg base 2 CG "has_letter" ["self", "k"] (spHas CS CW CG))
    (G_Side_take : MethF P w K mg base 8 CS "take" ["self", "letter"] (spTake CS)) :
    FnOk P w K mg base CX0 9 f fd ["self", "k", "stays"] (spHand CS CW CG) := by
  refine F.ok sc_Game_hand (fun vs H Q E h => ?_) (fun cdv A outer s H vs Q E hr h => ?_)
  · obtain ⟨A, s, k, kp, rfl, _⟩ := h
    rfl
  · obtain ⟨A, s, k, kp, rfl, G, ⟨pn, pb, PI⟩, kq⟩ := h
    obtain ⟨dx, h1⟩ := G.1.r.o
    refine ⟨_, (pss_cons (ps_if (pt_not (pt_val (pe_callF G_within (hr.mono (by decide)) (pa_cons (pv 2) (pa_cons pe_int (pa_cons pe_int pa_nil)))))) (pss_one (ps_ret (pe_lst (pa_cons (pe_glob (v := .int (-1)) rfl T.g_NOT_AS_TOLD ⟨_, rfl⟩) pa_nil)))) pss_nil)
      (pss_cons (ps_if (pt_not (pt_val (pe_methF (pv 0) T.cl_Game G_Game_has_letter (hr.mono (by decide)) (pa_cons (pv 1) pa_nil)))) (pss_one (ps_ret (pe_lst (pa_cons (pe_glob (v := .int (-2)) rfl T.g_NO_SUCH_LETTER ⟨_, rfl⟩) pa_nil)))) pss_nil)
      (pss_cons (ps_set (i := 3) sc_Game_hand.nd rfl (Or.inl rfl) (pe_ix ix_list (pe_fld (pv 0) rfl) (pv 1) (fun _ _ => rfl)))
      (pss_cons (ps_set (i := 4) sc_Game_hand.nd rfl (Or.inl rfl) (pe_methF (pe_ix ix_list (pe_fld (pv 0) rfl) (pe_op op_sub pe_int (pe_ix ix_list (pv 3) (pe_glob (v := .int (0)) rfl T.g_LETTER_SIDE ⟨_, rfl⟩) (fun _ _ => rfl))) (fun _ _ => rfl)) T.cl_Side G_Side_take (hr.mono (by decide)) (pa_cons (pv 3) pa_nil)))
      (pss_cons (ps_if (pt_cmpR op_eq (pv 2) pe_int (nomark _)) (pss_one (ps_expr (pe_bm PySem.F.plainAttrs_list PySem.F.slot_list_pop PySem.F.type_list_pop mt_popAt (pe_fld (pv 0) rfl) (pa_cons (pv 1) pa_nil)))) pss_nil)
      (pss_one (ps_ret (pe_lst (pa_cons (pv 4) pa_nil))))))))), ?_⟩
    refine ⟨_, rfl, kp, 0, 1, rfl, _, rfl, ?_⟩
    cases c : wi kp 0 1 with
    | false => exact iteT ⟨(by show 1 ≤ sizeLine; decide), kq.no (l := [-1]) G (by rw [sp_hand, if_pos (not_side c)])⟩
    | true =>
      have e := sp_hand s k kp
      rw [if_neg (is_side c)] at e
      refine iteF ⟨_, rfl, A.g, dx, _, rfl, h1, fG_no_has_letter, _, rfl, A, k, rfl, G.1, _, rfl, ?_⟩
      cases c1 : wi k 0 ((A.ls.length : Int) - 1) with
      | false => exact iteT ⟨(by show 1 ≤ sizeLine; decide), kq.no (l := [-2]) G (by rw [e, let_none G.2 c1])⟩
      | true =>
        obtain ⟨n, r, rfl, hr0, hl, hn⟩ := let_some G.2 c1
        rw [hl] at e
        have hrm := List.mem_of_getElem? hr0
        have hr1 := (G.1.r.ls r hrm).1
        have lo := PI.net r.2 (List.mem_of_getElem? hn)
        have lk := lo.ok pb
        have src := lo.src
        have nl := G.2.nl
        have pl := PI.nl
        have nlt : n < A.ls.length := (List.getElem?_eq_some_iff.mp hr0).1
        have hj : 1 - r.2.src < 2 := by omega
        have S := G.1.side (1 - r.2.src)
        obtain ⟨dxs, hs⟩ := S.o
        have R := G.2.sd _ hj
        have xo := PI.side (1 - r.2.src)
        have so := xo.sok PI.dl hj R
        have hl1 : (A.side (1 - r.2.src)).had.length ≤ 1000 := by
          show (A.side (1 - r.2.src)).sd.had.length ≤ 1000
          rw [R.had]
          exact Nat.le_trans xo.hl (by omega)
        have sa : atI [V.ref A.a0.p, V.ref A.a1.p] (1 - (r.2.src : Int)) = some (.ref (A.side (1 - r.2.src)).p) := by
          rcases side_ne src with z | z <;> rw [z]
          · exact at_of (j := 1) rfl rfl
          · exact at_of (j := 0) rfl rfl
        refine iteF ⟨_, rfl, A.g, CG, dx, _, _, rfl, h1, T.cl_Game, T.n_letters, fG_letters, _, rfl, A.lt, _, _, _, rfl, rfl, SqL.of G.1.r.lt, atI_nat (refs_at hr0), ?_⟩
        refine ⟨_, rfl, A.g, CG, dx, _, _, rfl, h1, T.cl_Game, T.n_sides, fG_sides, _, rfl, r.1, _, _, _, rfl, rfl, SqL.of hr1, at_of (j := 0) rfl (by rw [ltV_eq]; rfl), _, _, rfl, rfl, A.sl, _, _, _, rfl, rfl, SqL.of G.1.r.sl, sa,
          (A.side (1 - r.2.src)).p, dxs, _, rfl, hs, fS_no_take, _, rfl, A.side (1 - r.2.src), r.1, r.2, rfl, S, so, hr1, G.1.offL _ hrm, lk, hl1, fun w W H2 b Sb db pb st1 => ?_⟩
        obtain ⟨hd, hc⟩ := R.heard (knows := r.2.knows) (first := r.2.first) (pads := r.2.pads) W
        obtain ⟨G2, st⟩ := G.1.set _ Sb pb st1
        have Rb : Rel s.program (1 - r.2.src) (Cs14.heard { side s (1 - r.2.src) with acked := max (side s (1 - r.2.src)).acked r.2.knows } r.2.first r.2.pads).1 b.sd := by
          rw [db]
          exact hd
        have I2 : GIs (A.set (1 - r.2.src) b) (Cs14.taken s r.2).1 := G.2.set hj Rb
        have ec : (Cs14.taken s r.2).2 = (A.side (1 - r.2.src)).us.length - w := hc
        obtain ⟨g1, g2, g3, g4, g5, g6⟩ := A.set_g (1 - r.2.src) b
        refine ⟨_, rfl, rfl, _, rfl, if_dec (fun z => ?_) (fun z => ?_)⟩
        · have z' : kp = 0 := V.int.inj z
          obtain ⟨dx2, h2⟩ := G2.r.o
          have lt2 := G2.r.lt
          rw [g1, show gF (A.set (1 - r.2.src) b) = gF A by unfold gF; rw [g2, g5, g6, g4]] at h2
          rw [g6, g3] at lt2
          obtain ⟨G3, st3⟩ := G2.erase n
          refine ⟨_, rfl, A.g, CG, dx2, _, _, rfl, h2, T.cl_Game, T.n_letters, fG_letters, .inl ⟨rfl, _, SqL.of lt2⟩, _, rfl, A.lt, _, n, n, _, rfl, rfl, lt2, by omega, by omega, seq_ix (by rw [refs_len]; exact nlt), refs_at hr0, ?_⟩
          rw [refs_erase, show upd H2 A.lt (.lst (refsOf (A.ls.eraseIdx n))) = upd H2 (A.set (1 - r.2.src) b).lt (.lst (refsOf ((A.set (1 - r.2.src) b).ls.eraseIdx n))) by rw [g6, g3]]
          refine ⟨_, rfl, (by show 1 ≤ sizeLine; decide), fun q hq => ?_⟩
          refine kq.act (s2 := handed s n kp r.2) (A2 := { A.set (1 - r.2.src) b with ls := (A.set (1 - r.2.src) b).ls.eraseIdx n }) (l := [(((A.side (1 - r.2.src)).us.length - w : Nat) : Int)]) (by rw [e, ← ec]; rfl) g1 G3 ?_ (Stp.trans A.mf st st3) q hq
          unfold handed
          rw [if_neg (by omega)]
          exact I2.erase n
        · have z' : kp = 1 := by
            have h0 : kp ≠ 0 := fun y => z (by rw [y])
            have := wi_true.mp c
            omega
          refine ⟨_, rfl, (by show 1 ≤ sizeLine; decide), fun q hq => ?_⟩
          refine kq.act (s2 := handed s n kp r.2) (l := [(((A.side (1 - r.2.src)).us.length - w : Nat) : Int)]) (by rw [e, ← ec]; rfl) g1 G2 ?_ st q hq
          unfold handed
          rw [if_pos z']
          exact I2
abbrev s_Game_watch : Stmt := inClass (top 43) 13
theorem sc_Game_watch : FnScope ["self", "k"] ["self", "k"] (defScope s_Game_watch) := ⟨rfl, rfl, rfl, by decide +kernel, rfl, by decide +kernel, by decide +kernel⟩
theorem ok_Game_watch {f : Addr} {fd : FuncData} (F : Fun K "watch" "Game.watch" s_Game_watch f fd) (T : TxtG K mg tk CS CW CG) (G_Game_has_letter : MethF P w K mg base 2 CG "has_letter" ["self", "k"] (spHas CS CW CG))
    (G_Watcher_read : MethF P w K mg base 7 CW "read" ["self", "letter"] (spRead CW)) (G_Watcher_mark_behind : MethF P w K mg base 2 CW "mark_behind" ["self"] (spMarkB CW)) :
    FnOk P w K mg base CX0 8 f fd ["self", "k"] (spWatch CS CW CG) := by
  refine F.ok sc_Game_watch (fun vs H Q E h => ?_) (fun cdv A outer s H vs Q E hr h => ?_)
  · obtain ⟨A, s, k, rfl, _⟩ := h
    rfl
  · obtain ⟨A, s, k, rfl, G, ⟨pn, pb, PI⟩, kq⟩ := h
    obtain ⟨dx, h1⟩ := G.1.r.o
    refine ⟨_, (pss_cons (ps_if (pt_not (pt_val (pe_methF (pv 0) T.cl_Game G_Game_has_letter (hr.mono (by decide)) (pa_cons (pv 1) pa_nil)))) (pss_one (ps_ret (pe_lst (pa_cons (pe_glob (v := .int (-2)) rfl T.g_NO_SUCH_LETTER ⟨_, rfl⟩) pa_nil)))) pss_nil)
      (pss_cons (ps_expr (pe_methF (pe_fld (pv 0) rfl) T.cl_Watcher G_Watcher_read (hr.mono (by decide)) (pa_cons (pe_ix ix_list (pe_fld (pv 0) rfl) (pv 1) (fun _ _ => rfl)) pa_nil)))
      (pss_one (ps_ret (pe_lst (pa_cons (pe_callB call_len_seq (by rfl) T.b_len PySem.boot_len (pa_cons (pe_fld (pe_fld (pv 0) rfl) rfl) pa_nil)) (pa_cons (pe_methF0 (pe_fld (pv 0) rfl) T.cl_Watcher G_Watcher_mark_behind (hr.mono (by decide))) pa_nil))))))), ?_⟩
    refine ⟨_, rfl, A.g, dx, _, rfl, h1, fG_no_has_letter, _, rfl, A, k, rfl, G.1, _, rfl, ?_⟩
    cases c : wi k 0 ((A.ls.length : Int) - 1) with
    | false => exact iteT ⟨(by show 1 ≤ sizeLine; decide), kq.no (l := [-2]) G (by rw [sp_watch, let_none G.2 c])⟩
    | true =>
      obtain ⟨n, r, rfl, hr0, hl, hn⟩ := let_some G.2 c
      have e := sp_watch s (n : Int)
      rw [hl] at e
      have hrm := List.mem_of_getElem? hr0
      have hr1 := (G.1.r.ls r hrm).1
      have lo := PI.net r.2 (List.mem_of_getElem? hn)
      have PI2 := spec_ok PI (.watch (n : Int))
      rw [e] at PI2
      have W := G.1.w
      obtain ⟨dxw, hw⟩ := W.o
      have wr := watched_l s r.2 G.2.w
      have na := PI.na
      have nb := PI.nb
      have na2 := PI2.na
      have nb2 := PI2.nb
      have wo : WOk (readL A.wa.wd r.2) := by
        obtain ⟨s0, s1⟩ := readL_sub A.wa.wd r.2
        obtain ⟨f1, f2⟩ := readL_fm A.wa.wd r.2
        have u0 := upTo_mono s0
        have u1 := upTo_mono s1
        obtain ⟨m1, m2⟩ := G.2.w.len
        refine ⟨by rw [wr.1]; exact PI2.wa, by rw [wr.2.1]; exact PI2.wb, by rw [f1, f2, m1, m2], ?_, by rw [wr.1]; exact Nat.le_trans na2 (by omega), by rw [wr.2.1]; exact Nat.le_trans nb2 (by omega)⟩
        rw [f1, m1]
        show min (upTo s.wa) (upTo s.wb) ≤ min (upTo (readL A.wa.wd r.2).l0) (upTo (readL A.wa.wd r.2).l1)
        rw [← G.2.w.l0, ← G.2.w.l1]
        omega
      have n0 : A.wa.l0.length ≤ 1000 := by rw [show A.wa.l0 = s.wa from G.2.w.l0]; omega
      have n1 : A.wa.l1.length ≤ 1000 := by rw [show A.wa.l1 = s.wb from G.2.w.l1]; omega
      refine iteF ⟨_, rfl, A.g, CG, dx, _, _, rfl, h1, T.cl_Game, T.n_watcher, fG_watcher, A.wa.p, dxw, _, rfl, hw, fW_no_read, _, rfl, A.g, CG, dx, _, _, rfl, h1, T.cl_Game, T.n_letters, fG_letters, _, rfl, A.lt, _, _, _, rfl, rfl, SqL.of G.1.r.lt, atI_nat (refs_at hr0),
        A.wa, r.1, r.2, rfl, W, hr1, lo.ok pb, wo, n0, n1, fun H2 b Sb db pb2 st1 => ?_⟩
      obtain ⟨G2, st⟩ := G.1.setW Sb pb2 st1
      have W2 : WRel (Cs14.watched s r.2) b.wd := by rw [db]; exact G.2.w.read r.2
      have I2 : GIs { A with wa := b } (Cs14.watched s r.2) := by
        refine ⟨fun i hi => ?_, ?_, W2, ?_⟩
        · have o := G.2.sd i hi
          unfold Cs14.watched
          split <;> exact o
        · show A.ls.map (·.2) = _
          rw [G.2.net]
          unfold Cs14.watched
          split <;> rfl
        · show A.ahead = _
          rw [G.2.ah]
          unfold Cs14.watched
          split <;> rfl
      obtain ⟨dx2, h2⟩ := G2.r.o
      obtain ⟨dxb, hb⟩ := Sb.o
      obtain ⟨w1, w2⟩ := I2.wl
      have wl2 : b.rs.length = seen (Cs14.watched s r.2) + 1 := w2
      have wst := I2.wst (t := seen (Cs14.watched s r.2)) (Nat.le_refl _)
      have wst' : (b.rs.map (·.2))[seen (Cs14.watched s r.2)]? = some (watchedAt (Cs14.watched s r.2) (seen (Cs14.watched s r.2))) := wst
      rw [List.getElem?_map] at wst'
      cases ce : b.rs[seen (Cs14.watched s r.2)]? with
      | none => rw [ce] at wst'; cases wst'
      | some u =>
        rw [ce] at wst'
        have eu : u.2 = watchedAt (Cs14.watched s r.2) (seen (Cs14.watched s r.2)) := Option.some.inj wst'
        refine ⟨_, rfl, A.g, CG, dx2, _, _, rfl, h2, T.cl_Game, T.n_watcher, fG_watcher, b.p, CW, dxb, _, _, rfl, hb, T.cl_Watcher, T.w.n_seen, fW_seen, b.seen, _, rfl, .inl (SqL.of Sb.seen),
          _, rfl, A.g, CG, dx2, _, _, rfl, h2, T.cl_Game, T.n_watcher, fG_watcher, b.p, dxb, _, rfl, hb, fW_no_mark_behind, b, u, rfl, Sb, (by rw [wl2]; exact ce), (by show 2 ≤ sizeLine; decide), fun q hq => ?_⟩
        refine kq.act (A2 := { A with wa := b }) (l := [((b.fm.map nI).length : Int), (CsBase.mark u.2 : Int)]) ?_ rfl G2 I2 st q hq
        rw [e, List.length_map, eu, show b.fm.length = seen (Cs14.watched s r.2) from w1]
        rfl
end
end TP
namespace TP
open PySem PySem.Spec PyProof.Rows L2
open CsBase (Mach)
open Cs14 (Known at? Letter)
open Cs14 (Side side setSide upTo should now stateAt seen film watchedAt)
section
variable {CS CW CG : Addr} {H : Hp}
theorem new_game {g r lt dx : Addr} {a0 a1 : SideA} {wa : WA} {ah : Nat} (ho : H g = some (.ins CG dx (fG (nI ah) (.ref r) (.ref lt) (.ref wa.p)))) (hr : H r = some (.lst [.ref a0.p, .ref a1.p])) (hl : H lt = some (.lst []))
    (S0 : SideAt CS H a0) (S1 : SideAt CS H a1) (W : WatAt CW H wa) (x01 : Ap a0.ft a1.ft) (f0 : ∀ b, a0.f b → b ≠ g ∧ b ≠ lt ∧ b ≠ r ∧ ¬ wa.f b) (f1 : ∀ b, a1.f b → b ≠ g ∧ b ≠ lt ∧ b ≠ r ∧ ¬ wa.f b) (fw : ∀ b, wa.f b → b ≠ g ∧ b ≠ lt ∧ b ≠ r) (nrl : r ≠ lt) :
    GameAt CS CW CG H ⟨g, r, lt, a0, a1, wa, [], ah⟩ := by
  have ap : ∀ {F : Ft}, (∀ b, F.m b → F.f b) → (∀ b, F.f b → b ≠ g ∧ b ≠ lt ∧ b ≠ r) → Ap F (GA.rt ⟨g, r, lt, a0, a1, wa, [], ah⟩) := fun {F} mf h => by
    refine ⟨fun b hm hf => ?_, fun b hm hf => ?_⟩
    · obtain ⟨n1, n2, n3⟩ := h b (mf b hm)
      rcases hf with (z | z) | z | ⟨_, z, _⟩
      · exact n1 z
      · exact n2 z
      · exact n3 z
      · cases z
    · obtain ⟨n1, n2, n3⟩ := h b hf
      rcases hm with z | z
      · exact n1 z
      · exact n2 z
  refine ⟨⟨⟨dx, ho⟩, hr, hl, nofun, nrl⟩, S0, S1, W, x01, ⟨fun b h => (f0 b (.inl h)).2.2.2, fun b h z => (f0 b z).2.2.2 (.inl h)⟩, ⟨fun b h => (f1 b (.inl h)).2.2.2, fun b h z => (f1 b z).2.2.2 (.inl h)⟩,
    ap (fun _ h => .inl h) fun b h => ?_, ap (fun _ h => .inl h) fun b h => ?_, ap (fun _ h => .inl h) fw⟩
  · obtain ⟨n1, n2, n3, _⟩ := f0 b h
    exact ⟨n1, n2, n3⟩
  · obtain ⟨n1, n2, n3, _⟩ := f1 b h
    exact ⟨n1, n2, n3⟩
theorem fresh_rel (i d : Nat) (bs : List Nat) : Rel bs i (Cs14.fresh d) (freshD i d bs) := by
  refine ⟨rfl, zer_ownK d, rfl, rfl, rfl, ?_, rfl, rfl⟩
  show [CsBase.loaded bs] = (List.range (0 + 1)).map (runS bs i (List.replicate d 0) [] [])
  rw [Nat.zero_add, List.range_one, List.map_singleton]
  simp only [runS, List.range_zero, List.foldl_nil]
theorem begun_is {A : GA} {d ah : Nat} {bs : List Nat} (h0 : A.a0.sd = freshD 0 d bs) (h1 : A.a1.sd = freshD 1 d bs) (hw : A.wa.wd = seeD ⟨zer d, zer d, [], [CsBase.loaded bs]⟩) (hl : A.ls = []) (ha : A.ahead = ah) : GIs A (Cs14.begun bs d ah) := by
  refine ⟨fun i hi => ?_, by rw [hl]; rfl, ?_, ha⟩
  · rcases side_ne hi with rfl | rfl
    · show Rel bs 0 (Cs14.fresh d) A.a0.sd
      rw [h0]
      exact fresh_rel 0 d bs
    · show Rel bs 1 (Cs14.fresh d) A.a1.sd
      rw [h1]
      exact fresh_rel 1 d bs
  · rw [hw]
    have c : WCan bs ⟨zer d, zer d, [], [CsBase.loaded bs]⟩ := by
      show [CsBase.loaded bs] = (List.range (0 + 1)).map (wrun bs [])
      rw [Nat.zero_add, List.range_one, List.map_singleton]
      simp only [wrun, CsBase.frames, List.take_nil, List.foldl_nil]
    obtain ⟨g1, g2⟩ := see_rel c (k0 := []) (k1 := []) nofun nofun rfl
    exact ⟨(seeD_l _).1, (seeD_l _).2, g1, g2⟩
end
section
variable {P : Program} {w : World} {K : PySem.W.Frag} {mg : Str → Option Value} {base : Heap} {tk : Nat → Tok} {CS CW CG : Addr}
abbrev s_Game_init : Stmt := inClass (top 43) 0
theorem sc_Game_init : FnScope ["self"] ["self"] (defScope s_Game_init) := ⟨rfl, rfl, rfl, by decide +kernel, rfl, by decide +kernel, by decide +kernel⟩
theorem ok_Game_init {f : Addr} {fd : FuncData} (F : Fun K "__init__" "Game.__init__" s_Game_init f fd) (T : TxtG K mg tk CS CW CG) (G_two_sides : FunF P w K mg base 4 "two_sides" ["delay", "some_bytes"] (spTwo CS))
    (G_Watcher_init : MakeF P w K mg base 7 CW "Watcher" ["self", "delay", "some_bytes"] (spWInit CW)) :
    FnOk P w K mg base CX0 9 f fd ["self"] (spGInit CS CW CG) := by
  refine F.ok sc_Game_init (fun vs H Q E h => ?_) (fun cdv A outer s H vs Q E hr h => ?_)
  · obtain ⟨g, dx, rfl, _⟩ := h
    rfl
  · obtain ⟨g, dx, rfl, hg, kq⟩ := h
    refine ⟨_, (pss_cons (ps_fld (pv 0) pe_int rfl)
      (pss_cons (ps_fld (pv 0) (pe_callF G_two_sides (hr.mono (by decide)) (pa_cons pe_int (pa_cons (pe_lst pa_nil) pa_nil))) rfl)
      (pss_cons (ps_fld (pv 0) (pe_lst pa_nil) rfl)
      (pss_one (ps_fld (pv 0) (pe_makeF G_Watcher_init (hr.mono (by decide)) (pa_cons pe_int (pa_cons (pe_lst pa_nil) pa_nil))) rfl))))), ?_⟩
    have s0 : Sto H H g CG dx [] := ⟨hg, Kp.refl⟩
    refine ⟨_, rfl, g, CG, dx, _, rfl, hg, T.cl_Game, T.n_ahead, (by show 0 < 1000; decide), ?_⟩
    rw [show putF (Str.ofString "ahead") (.int 1) [] = ([("ahead", nI 1)] : List (Str × V)) from rfl]
    have s1 := s0.put (gs := [("ahead", nI 1)])
    generalize upd H g (.ins CG dx [("ahead", nI 1)]) = H1 at s1 ⊢
    refine ⟨(by show 0 ≤ sizeLine; decide), fun e he => ?_⟩
    have s2 := s1.new (o := .lst []) he
    have e2 : upd H1 e (.lst []) e = some (.lst []) := upd_same
    generalize upd H1 e (.lst []) = H2 at s2 e2 ⊢
    refine ⟨e, 0, [], rfl, e2, by decide, Nat.zero_le _, nofun, fun H3 r a0 a1 hr3 e3 S0 S1' d0 d1 x01 f0 f1 m3 => ?_⟩
    have s3 := s2.same m3
    have fr3 := s2.free hr3
    have g0 : ∀ b, a0.f b → H b = none := fun b h => s2.free (f0 b h).1
    have g1 : ∀ b, a1.f b → H b = none := fun b h => s2.free (f1 b h).1
    have ng0 : ∀ b, a0.f b → b ≠ g := fun b h => (ne_of_none hg (g0 b h)).symm
    have ng1 : ∀ b, a1.f b → b ≠ g := fun b h => (ne_of_none hg (g1 b h)).symm
    refine ⟨_, rfl, g, CG, dx, _, rfl, s3.o, T.cl_Game, T.n_sides, (by show 1 < 1000; decide), ?_⟩
    rw [fG_new1]
    have s4 := s3.put (gs := [("ahead", nI 1), ("sides", .ref r)])
    have r4 := s3.keep (gs := [("ahead", nI 1), ("sides", .ref r)]) e3 nofun
    have k4 : Kp (S1 g) H3 (upd H3 g (.ins CG dx [("ahead", nI 1), ("sides", .ref r)])) := Kp.refl.upd rfl
    have T0 := S0.fr k4 ng0
    have T1 := S1'.fr k4 ng1
    generalize upd H3 g (.ins CG dx [("ahead", nI 1), ("sides", .ref r)]) = H4 at s4 r4 T0 T1 ⊢
    refine ⟨(by show 0 ≤ sizeLine; decide), fun lt hlt => ?_⟩
    have flt := s4.free hlt
    have nrl := ne_of_none r4 hlt
    have nl0 : ∀ b, a0.f b → b ≠ lt := fun b h => let ⟨_, q⟩ := T0.trk h; ne_of_none q hlt
    have nl1 : ∀ b, a1.f b → b ≠ lt := fun b h => let ⟨_, q⟩ := T1.trk h; ne_of_none q hlt
    have s5 := s4.new (o := .lst []) hlt
    have r5 := kept_new (u := .lst []) r4 hlt
    have U0 := T0.same (same_new (o := .lst []) hlt)
    have U1 := T1.same (same_new (o := .lst []) hlt)
    have l5 : upd H4 lt (.lst []) lt = some (.lst []) := upd_same
    generalize upd H4 lt (.lst []) = H5 at s5 r5 U0 U1 l5 ⊢
    refine ⟨_, rfl, g, CG, dx, _, rfl, s5.o, T.cl_Game, T.n_letters, (by show 2 < 1000; decide), ?_⟩
    rw [fG_new2]
    have s6 := s5.put (gs := [("ahead", nI 1), ("sides", .ref r), ("letters", .ref lt)])
    have r6 := s5.keep (gs := [("ahead", nI 1), ("sides", .ref r), ("letters", .ref lt)]) r5 nofun
    have l6 := s5.keep (gs := [("ahead", nI 1), ("sides", .ref r), ("letters", .ref lt)]) l5 nofun
    have k6 : Kp (S1 g) H5 (upd H5 g (.ins CG dx [("ahead", nI 1), ("sides", .ref r), ("letters", .ref lt)])) := Kp.refl.upd rfl
    have V0 := U0.fr k6 ng0
    have V1 := U1.fr k6 ng1
    generalize upd H5 g (.ins CG dx [("ahead", nI 1), ("sides", .ref r), ("letters", .ref lt)]) = H6 at s6 r6 l6 V0 V1 ⊢
    refine ⟨(by show 0 ≤ sizeLine; decide), fun e' he' => ?_⟩
    have m7 := same_new (o := .lst []) he'
    have e7 : upd H6 e' (.lst []) e' = some (.lst []) := upd_same
    generalize upd H6 e' (.lst []) = H7 at m7 e7 ⊢
    intro x dx' nx ndx ne
    obtain ⟨sm, tkk⟩ := made (C := CW) nx ndx ne
    refine ⟨x, dx', e', 0, [], rfl, upd_same, sm _ _ e7, by decide, Nat.zero_le _, nofun, fun H8 wa pw W dw fw kw => ⟨rfl, ?_⟩⟩
    have m8 : Same H6 H8 := m7.trans fun b o q => kw b o (sm b o q) (ne_of_none q nx)
    have s8 := s6.same m8
    have hw0 : ∀ b, wa.f b → H6 b = none := fun b h => (fw b h).elim (fun z => z ▸ m7.free nx) fun z => m7.free (tkk b z)
    refine ⟨_, rfl, g, CG, dx, _, rfl, s8.o, T.cl_Game, T.n_watcher, (by show 3 < 1000; decide), ?_⟩
    rw [← pw, fG_new3]
    have s9 := s8.put (gs := fG (nI 1) (.ref r) (.ref lt) (.ref wa.p))
    have r9 := s8.keep (gs := fG (nI 1) (.ref r) (.ref lt) (.ref wa.p)) (m8 _ _ r6) nofun
    have l9 := s8.keep (gs := fG (nI 1) (.ref r) (.ref lt) (.ref wa.p)) (m8 _ _ l6) nofun
    have k9 : Kp (S1 g) H8 (upd H8 g (.ins CG dx (fG (nI 1) (.ref r) (.ref lt) (.ref wa.p)))) := Kp.refl.upd rfl
    have ngw : ∀ b, wa.f b → b ≠ g ∧ b ≠ lt ∧ b ≠ r := fun b h => ⟨(ne_of_none s6.o (hw0 b h)).symm, (ne_of_none l6 (hw0 b h)).symm, (ne_of_none r6 (hw0 b h)).symm⟩
    have nw0 : ∀ b, a0.f b → ¬ wa.f b := fun b h h' => by
      obtain ⟨o, q⟩ := V0.trk h
      rw [hw0 b h'] at q
      cases q
    have nw1 : ∀ b, a1.f b → ¬ wa.f b := fun b h h' => by
      obtain ⟨o, q⟩ := V1.trk h
      rw [hw0 b h'] at q
      cases q
    have GG := new_game s9.o r9 l9 ((V0.same m8).fr k9 ng0) ((V1.same m8).fr k9 ng1) (W.fr k9 fun b h => (ngw b h).1) x01 (fun b h => ⟨ng0 b h, nl0 b h, (f0 b h).2, nw0 b h⟩) (fun b h => ⟨ng1 b h, nl1 b h, (f1 b h).2, nw1 b h⟩) ngw nrl
    refine kq _ ⟨g, r, lt, a0, a1, wa, [], 1⟩ rfl ⟨GG, begun_is d0 d1 dw rfl rfl⟩ (fun b h => ?_) s9.k
    rcases h with h | h | h | (h | h) | h | ⟨_, h, _⟩
    · exact .inr (g0 b h)
    · exact .inr (g1 b h)
    · exact .inr (s6.free (hw0 b h))
    · exact .inl h
    · exact .inr (h ▸ flt)
    · exact .inr (h ▸ fr3)
    · cases h
abbrev s_Game_begin : Stmt := inClass (top 43) 1
theorem sc_Game_begin : FnScope ["self", "delay", "ahead", "some_bytes"] ["self", "delay", "ahead", "some_bytes"] (defScope s_Game_begin) := ⟨rfl, rfl, rfl, by decide +kernel, rfl, by decide +kernel, by decide +kernel⟩
theorem ok_Game_begin {f : Addr} {fd : FuncData} (F : Fun K "begin" "Game.begin" s_Game_begin f fd) (T : TxtG K mg tk CS CW CG) (G_may_begin : FunF P w K mg base 2 "may_begin" ["delay", "ahead", "some_bytes"] spMay) (G_two_sides : FunF P w K mg base 4 "two_sides" ["delay", "some_bytes"] (spTwo CS))
    (G_Watcher_init : MakeF P w K mg base 7 CW "Watcher" ["self", "delay", "some_bytes"] (spWInit CW)) :
    FnOk P w K mg base CX0 9 f fd ["self", "delay", "ahead", "some_bytes"] (spBegin CS CW CG) := by
  refine F.ok sc_Game_begin (fun vs H Q E h => ?_) (fun cdv A outer s H vs Q E hr h => ?_)
  · obtain ⟨A, s, d, a, l, ns, rfl, _⟩ := h
    rfl
  · obtain ⟨A, s, d, a, l, ns, rfl, hl, nlg, hn, G, -, kq⟩ := h
    obtain ⟨dx, h1⟩ := G.1.r.o
    refine ⟨_, (pss_cons (ps_if (pt_not (pt_val (pe_callF G_may_begin (hr.mono (by decide)) (pa_cons (pv 1) (pa_cons (pv 2) (pa_cons (pv 3) pa_nil)))))) (pss_one (ps_ret (pe_lst (pa_cons (pe_glob (v := .int (-1)) rfl T.g_NOT_AS_TOLD ⟨_, rfl⟩) pa_nil)))) pss_nil)
      (pss_cons (ps_fld (pv 0) (pv 2) rfl)
      (pss_cons (ps_fld (pv 0) (pe_callF G_two_sides (hr.mono (by decide)) (pa_cons (pv 1) (pa_cons (pv 3) pa_nil))) rfl)
      (pss_cons (ps_fld (pv 0) (pe_lst pa_nil) rfl)
      (pss_cons (ps_fld (pv 0) (pe_makeF G_Watcher_init (hr.mono (by decide)) (pa_cons (pv 1) (pa_cons (pv 3) pa_nil))) rfl)
      (pss_one (ps_ret (pe_lst (pa_cons pe_int pa_nil))))))))), ?_⟩
    refine ⟨_, rfl, _, rfl, _, rfl, l, d, a, ns, rfl, hl, hn, fun H1 m1 => ⟨_, rfl, ?_⟩⟩
    have e := sp_begin s d a ns
    cases c : okB d a ns with
    | false =>
      have cond : d < 0 ∨ 6 < d ∨ a < 1 ∨ 10 < a ∨ 128 < ns.length ∨ (ns.all Cs14.isByte) = false := by
        unfold okB at c
        cases c1 : wi d 0 6 with
        | false =>
          have := wi_false.mp c1
          omega
        | true =>
          cases c2 : wi a 1 10 with
          | false =>
            have := wi_false.mp c2
            omega
          | true =>
            rw [c1, c2, Bool.true_and, Bool.true_and] at c
            by_cases c3 : ns.length ≤ 128
            · rw [decide_eq_true c3, Bool.true_and] at c
              exact .inr (.inr (.inr (.inr (.inr c))))
            · omega
      exact iteT ⟨(by show 1 ≤ sizeLine; decide), fun q hq => kq.look (l := [-1]) G (by rw [e, if_pos cond]) (m1.trans (same_new hq)) (m1.free hq) upd_same⟩
    | true =>
      unfold okB at c
      rw [Bool.and_eq_true, Bool.and_eq_true, Bool.and_eq_true] at c
      obtain ⟨⟨⟨c1, c2⟩, c3⟩, c4⟩ := c
      have b1 := wi_true.mp c1
      have b2 := wi_true.mp c2
      have b3 := of_decide_eq_true c3
      have b4 : ∀ z, z ∈ ns → 0 ≤ z ∧ z ≤ 255 := fun z hz => wi_true.mp (List.all_eq_true.mp c4 z hz)
      rw [if_neg (fun z => by
        rcases z with z | z | z | z | z | z
        · omega
        · omega
        · omega
        · omega
        · omega
        · rw [c4] at z; cases z)] at e
      obtain ⟨d, rfl⟩ : ∃ j : Nat, d = (j : Int) := ⟨d.toNat, by omega⟩
      obtain ⟨a, rfl⟩ : ∃ j : Nat, a = (j : Int) := ⟨a.toNat, by omega⟩
      simp only [Int.toNat_natCast] at e
      have eb : ns.map V.int = (ns.map Int.toNat).map nI := by
        rw [List.map_map]
        refine List.map_congr_left fun z hz => ?_
        have := b4 z hz
        show V.int z = V.int (z.toNat : Int)
        rw [show (z.toNat : Int) = z by omega]
      have bb : ∀ b ∈ ns.map Int.toNat, b < 256 := fun b hb => by
        obtain ⟨z, hz, rfl⟩ := List.mem_map.mp hb
        have := b4 z hz
        omega
      have bl : (ns.map Int.toNat).length ≤ 128 := by rw [List.length_map]; exact b3
      rw [eb] at hl
      generalize ns.map Int.toNat = bs at e hl bb bl
      have l1 := m1 _ _ hl
      have s0 : Sto H1 H1 A.g CG dx (gF A) := ⟨m1 _ _ h1, Kp.refl⟩
      refine iteF ⟨_, rfl, _, rfl, A.g, CG, dx, _, rfl, s0.o, T.cl_Game, T.n_ahead, (by show 4 < 1000; decide), ?_⟩
      rw [show putF "ahead" (.int (a : Int)) (gF A) = fG (nI a) (.ref A.sl) (.ref A.lt) (.ref A.wa.p) from fG_put_ahead]
      have s1 := s0.put (gs := fG (nI a) (.ref A.sl) (.ref A.lt) (.ref A.wa.p))
      have l2 := s0.keep (gs := fG (nI a) (.ref A.sl) (.ref A.lt) (.ref A.wa.p)) l1 nofun
      generalize upd H1 A.g (.ins CG dx (fG (nI a) (.ref A.sl) (.ref A.lt) (.ref A.wa.p))) = H2 at s1 l2 ⊢
      refine ⟨_, rfl, _, rfl, l, d, bs, rfl, l2, by omega, bl, bb, fun H3 r a0 a1 hr3 e3 S0 S1' d0 d1 x01 f0 f1 m3 => ?_⟩
      have s3 := s1.same m3
      have l3 := m3 _ _ l2
      have fr3 := s1.free hr3
      have g0 : ∀ b, a0.f b → H1 b = none := fun b h => s1.free (f0 b h).1
      have g1 : ∀ b, a1.f b → H1 b = none := fun b h => s1.free (f1 b h).1
      have ng0 : ∀ b, a0.f b → b ≠ A.g := fun b h => (ne_of_none s0.o (g0 b h)).symm
      have ng1 : ∀ b, a1.f b → b ≠ A.g := fun b h => (ne_of_none s0.o (g1 b h)).symm
      refine ⟨_, rfl, A.g, CG, dx, _, rfl, s3.o, T.cl_Game, T.n_sides, (by show 4 < 1000; decide), ?_⟩
      rw [fG_put_sides]
      have s4 := s3.put (gs := fG (nI a) (.ref r) (.ref A.lt) (.ref A.wa.p))
      have r4 := s3.keep (gs := fG (nI a) (.ref r) (.ref A.lt) (.ref A.wa.p)) e3 nofun
      have l4 := s3.keep (gs := fG (nI a) (.ref r) (.ref A.lt) (.ref A.wa.p)) l3 nofun
      have k4 : Kp (S1 A.g) H3 (upd H3 A.g (.ins CG dx (fG (nI a) (.ref r) (.ref A.lt) (.ref A.wa.p)))) := Kp.refl.upd rfl
      have T0 := S0.fr k4 ng0
      have T1 := S1'.fr k4 ng1
      generalize upd H3 A.g (.ins CG dx (fG (nI a) (.ref r) (.ref A.lt) (.ref A.wa.p))) = H4 at s4 r4 l4 T0 T1 ⊢
      refine ⟨(by show 0 ≤ sizeLine; decide), fun lt hlt => ?_⟩
      have flt := s4.free hlt
      have nrl := ne_of_none r4 hlt
      have nl0 : ∀ b, a0.f b → b ≠ lt := fun b h => let ⟨_, q⟩ := T0.trk h; ne_of_none q hlt
      have nl1 : ∀ b, a1.f b → b ≠ lt := fun b h => let ⟨_, q⟩ := T1.trk h; ne_of_none q hlt
      have s5 := s4.new (o := .lst []) hlt
      have r5 := kept_new (u := .lst []) r4 hlt
      have l5 := kept_new (u := .lst []) l4 hlt
      have U0 := T0.same (same_new (o := .lst []) hlt)
      have U1 := T1.same (same_new (o := .lst []) hlt)
      have t5 : upd H4 lt (.lst []) lt = some (.lst []) := upd_same
      generalize upd H4 lt (.lst []) = H5 at s5 r5 l5 U0 U1 t5 ⊢
      refine ⟨_, rfl, A.g, CG, dx, _, rfl, s5.o, T.cl_Game, T.n_letters, (by show 4 < 1000; decide), ?_⟩
      rw [fG_put_letters]
      have s6 := s5.put (gs := fG (nI a) (.ref r) (.ref lt) (.ref A.wa.p))
      have r6 := s5.keep (gs := fG (nI a) (.ref r) (.ref lt) (.ref A.wa.p)) r5 nofun
      have l6 := s5.keep (gs := fG (nI a) (.ref r) (.ref lt) (.ref A.wa.p)) l5 nofun
      have t6 := s5.keep (gs := fG (nI a) (.ref r) (.ref lt) (.ref A.wa.p)) t5 nofun
      have k6 : Kp (S1 A.g) H5 (upd H5 A.g (.ins CG dx (fG (nI a) (.ref r) (.ref lt) (.ref A.wa.p)))) := Kp.refl.upd rfl
      have V0 := U0.fr k6 ng0
      have V1 := U1.fr k6 ng1
      generalize upd H5 A.g (.ins CG dx (fG (nI a) (.ref r) (.ref lt) (.ref A.wa.p))) = H6 at s6 r6 l6 t6 V0 V1 ⊢
      refine ⟨_, rfl, _, rfl, fun x dx' nx ndx ne => ?_⟩
      obtain ⟨sm, tkk⟩ := made (C := CW) nx ndx ne
      refine ⟨x, dx', l, d, bs, rfl, upd_same, sm _ _ l6, by omega, bl, bb, fun H8 wa pw W dw fw kw => ⟨rfl, ?_⟩⟩
      have m8 : Same H6 H8 := fun b o q => kw b o (sm b o q) (ne_of_none q nx)
      have s8 := s6.same m8
      have hw0 : ∀ b, wa.f b → H6 b = none := fun b h => (fw b h).elim (fun z => z ▸ nx) (tkk b)
      refine ⟨_, rfl, A.g, CG, dx, _, rfl, s8.o, T.cl_Game, T.n_watcher, (by show 4 < 1000; decide), ?_⟩
      rw [← pw, fG_put_watcher]
      have s9 := s8.put (gs := fG (nI a) (.ref r) (.ref lt) (.ref wa.p))
      have r9 := s8.keep (gs := fG (nI a) (.ref r) (.ref lt) (.ref wa.p)) (m8 _ _ r6) nofun
      have t9 := s8.keep (gs := fG (nI a) (.ref r) (.ref lt) (.ref wa.p)) (m8 _ _ t6) nofun
      have k9 : Kp (S1 A.g) H8 (upd H8 A.g (.ins CG dx (fG (nI a) (.ref r) (.ref lt) (.ref wa.p)))) := Kp.refl.upd rfl
      have ngw : ∀ b, wa.f b → b ≠ A.g ∧ b ≠ lt ∧ b ≠ r := fun b h => ⟨(ne_of_none s6.o (hw0 b h)).symm, (ne_of_none t6 (hw0 b h)).symm, (ne_of_none r6 (hw0 b h)).symm⟩
      have nw0 : ∀ b, a0.f b → ¬ wa.f b := fun b h h' => by
        obtain ⟨o, q⟩ := V0.trk h
        rw [hw0 b h'] at q
        cases q
      have nw1 : ∀ b, a1.f b → ¬ wa.f b := fun b h h' => by
        obtain ⟨o, q⟩ := V1.trk h
        rw [hw0 b h'] at q
        cases q
      have GG := new_game s9.o r9 t9 ((V0.same m8).fr k9 ng0) ((V1.same m8).fr k9 ng1) (W.fr k9 fun b h => (ngw b h).1) x01 (fun b h => ⟨ng0 b h, nl0 b h, (f0 b h).2, nw0 b h⟩) (fun b h => ⟨ng1 b h, nl1 b h, (f1 b h).2, nw1 b h⟩) ngw nrl
      have kk : Kp A.ft.m H (upd H8 A.g (.ins CG dx (fG (nI a) (.ref r) (.ref lt) (.ref wa.p)))) := (Kp.same m1).trans (s9.k.mono fun b h => .inr (.inr (.inr (.inl h))))
      have st : Stp H A.ft (upd H8 A.g (.ins CG dx (fG (nI a) (.ref r) (.ref lt) (.ref wa.p)))) (⟨A.g, r, lt, a0, a1, wa, [], a⟩ : GA).ft := by
        have all : ∀ b, (⟨A.g, r, lt, a0, a1, wa, [], a⟩ : GA).ft.f b → A.ft.m b ∨ H b = none := fun b h => by
          rcases h with h | h | h | (h | h) | h | ⟨_, h, _⟩
          · exact .inr (m1.free (g0 b h))
          · exact .inr (m1.free (g1 b h))
          · exact .inr (m1.free (s6.free (hw0 b h)))
          · exact .inl (.inr (.inr (.inr (.inl h))))
          · exact .inr (m1.free (h ▸ flt))
          · exact .inr (m1.free (h ▸ fr3))
          · cases h
        exact ⟨fun b h => all b (GA.mf _ b h), fun b h => (all b h).imp (A.mf b) id, kk⟩
      generalize upd H8 A.g (.ins CG dx (fG (nI a) (.ref r) (.ref lt) (.ref wa.p))) = H9 at GG st ⊢
      refine ⟨(by show 1 ≤ sizeLine; decide), fun q hq => ?_⟩
      exact kq.act (A2 := ⟨A.g, r, lt, a0, a1, wa, [], a⟩) (l := [0]) e rfl GG (begun_is d0 d1 dw rfl rfl) st q hq
end
end TP
namespace TP
open PySem PySem.Spec PyProof.Rows L2
open CsBase (Mach)
open Cs14 (Known at? Letter)
open Cs14 (Side side setSide upTo should now stateAt seen film watchedAt)
open Cs14 (Call)
/-! # The list of calls -/
def encP : Call → Nat
  | .begin_ _ _ _ => 0
  | .frame _ _ => 1
  | .send _ => 2
  | .hand _ _ => 3
  | .lose _ => 4
  | .net => 5
  | .now _ => 6
  | .settled _ => 7
  | .state _ _ => 8
  | .pads _ _ => 9
  | .fault _ _ _ => 10
  | .watch _ => 11
  | .film => 12
  | .differ _ => 13
  | .both => 14
  | .runs _ => 15
def encA : Call → List Int
  | .begin_ d a l => d :: a :: (l.length : Int) :: l
  | .frame i v => [i, v]
  | .send i => [i]
  | .hand k s => [k, s]
  | .lose k => [k]
  | .net => []
  | .now i => [i]
  | .settled i => [i]
  | .state i t => [i, t]
  | .pads i t => [i, t]
  | .fault i p v => [i, p, v]
  | .watch k => [k]
  | .film => []
  | .differ i => [i]
  | .both => []
  | .runs i => [i]
def fl1 (q : Call) : List Int := (encP q : Int) :: encA q
def flat : List Call → List Int
  | [] => []
  | q :: qs => fl1 q ++ flat qs
def short1 : Call → Prop
  | .begin_ _ _ l => l.length ≤ 200
  | _ => True
theorem whole_id (c : List (List Int)) : PyCs14.whole c = c := by
  unfold PyCs14.whole
  split <;> rfl
theorem asked_call {c : List (List Int)} (h : Cs14Neutral.asked1 c = true) : ∃ q, Cs14Neutral.callOf c = some q ∧ PyFlat.put1 c = fl1 q ∧ short1 q := by
  unfold Cs14Neutral.asked1 at h
  split at h
  · rename_i a b l
    refine ⟨.begin_ a b l, rfl, ?_, ?_⟩
    · show [0, a, b] ++ ((l.length : Int) :: l ++ []) = _
      rw [List.append_nil]
      rfl
    · rw [Bool.and_eq_true, Bool.and_eq_true] at h
      have h3 := h.2.2
      unfold Cs14Neutral.row at h3
      rw [Bool.and_eq_true] at h3
      exact (of_decide_eq_true h3.2 : l.length ≤ 200)
  all_goals first
    | exact ⟨_, rfl, rfl, trivial⟩
    | cases h
def stOf : Cs14.St → List Call → Cs14.St
  | s, [] => s
  | s, q :: qs => stOf (Cs14.spec s q).1 qs
def ansOf : Cs14.St → List Call → List (List Int)
  | _, [] => []
  | s, q :: qs => (Cs14.spec s q).2 :: ansOf (Cs14.spec s q).1 qs
theorem raw_calls : ∀ raw : List (List (List Int)), (∀ c ∈ raw, Cs14Neutral.asked1 c = true) → ∃ qs : List Call, PyFlat.put raw = flat qs ∧ qs.length = raw.length ∧ (∀ q ∈ qs, short1 q) ∧ ∀ s, PyFlat.played Cs14Neutral.step s raw = ansOf s qs
  | [], _ => ⟨[], rfl, rfl, nofun, fun _ => rfl⟩
  | c :: raw, h => by
    obtain ⟨q, e1, e2, e3⟩ := asked_call (h c List.mem_cons_self)
    obtain ⟨qs, f1, f2, f3, f4⟩ := raw_calls raw fun d hd => h d (List.mem_cons_of_mem _ hd)
    refine ⟨q :: qs, ?_, by rw [List.length_cons, List.length_cons, f2], fun d hd => ?_, fun s => ?_⟩
    · show PyFlat.put1 c ++ PyFlat.put raw = fl1 q ++ flat qs
      rw [e2, f1]
    · rcases List.mem_cons.mp hd with z | z
      · rw [z]; exact e3
      · exact f3 d z
    · have es : Cs14Neutral.step s c = Cs14.spec s q := by
        unfold Cs14Neutral.step
        rw [e1]
      show (Cs14Neutral.step s c).2 :: PyFlat.played Cs14Neutral.step (Cs14Neutral.step s c).1 raw = (Cs14.spec s q).2 :: ansOf (Cs14.spec s q).1 qs
      rw [es, f4]
theorem asked_calls {ns : List Int} (h : PyCs14.answers_asked ns = true) : ∃ qs : List Call, ns = flat qs ∧ qs.length ≤ 60 ∧ (∀ q ∈ qs, short1 q) ∧ PyCs14.answers ns = PyFlat.told (ansOf Cs14.start qs) ∧ (PyCs14.answers ns).length ≤ 10000000 := by
  unfold PyCs14.answers_asked at h
  cases e : PyFlat.calls PyCs14.shape ns.length ns with
  | none => rw [e] at h; cases h
  | some raw =>
    rw [e] at h
    simp only [Bool.and_eq_true] at h
    obtain ⟨⟨⟨⟨_, h60⟩, _⟩, ha⟩, hs⟩ := h
    have hput := PyFlat.put_calls _ _ _ e
    have wm : raw.map PyCs14.whole = raw := by
      conv => rhs; rw [← List.map_id raw]
      exact List.map_congr_left fun c _ => whole_id c
    rw [wm] at ha
    unfold Cs14Neutral.asked at ha
    rw [Bool.and_eq_true] at ha
    obtain ⟨qs, f1, f2, f3, f4⟩ := raw_calls raw (List.all_eq_true.mp ha.1)
    refine ⟨qs, by rw [← f1]; exact hput.1, ?_, f3, ?_, of_decide_eq_true hs⟩
    · rw [f2]
      exact of_decide_eq_true h60
    · unfold PyCs14.answers PyCs14.calls
      rw [e]
      show PyFlat.told (PyFlat.played Cs14Neutral.step Cs14Neutral.start (raw.map PyCs14.whole)) = _
      rw [wm, f4]
      rfl
theorem flat_append : ∀ a b : List Call, flat (a ++ b) = flat a ++ flat b
  | [], _ => rfl
  | q :: a, b => by
    show fl1 q ++ flat (a ++ b) = fl1 q ++ flat a ++ flat b
    rw [flat_append a b, List.append_assoc]
theorem stOf_append : ∀ (a b : List Call) (s : Cs14.St), stOf s (a ++ b) = stOf (stOf s a) b
  | [], _, _ => rfl
  | _ :: a, b, s => stOf_append a b _
theorem ansOf_append : ∀ (a b : List Call) (s : Cs14.St), ansOf s (a ++ b) = ansOf s a ++ ansOf (stOf s a) b
  | [], _, _ => rfl
  | q :: a, b, s => congrArg (List.cons (Cs14.spec s q).2) (ansOf_append a b _)
theorem told_append (a b : List (List Int)) : PyFlat.told (a ++ b) = PyFlat.told a ++ PyFlat.told b := by
  unfold PyFlat.told
  rw [List.flatMap_append]
theorem stOf_ok : ∀ (a : List Call) (s : Cs14.St) (n : Nat), PInv n s → PInv (n + a.length) (stOf s a)
  | [], _, _, h => h
  | q :: a, s, n, h => by
    have := stOf_ok a _ (n + 1) (spec_ok h q)
    rw [List.length_cons, show n + (a.length + 1) = n + 1 + a.length by omega]
    exact this
def tabN : List Nat := [3, 2, 1, 2, 1, 0, 1, 1, 2, 2, 3, 1, 0, 1, 0, 1]
def cntN (q : Call) : Nat := match q with
  | .begin_ _ _ _ => 3
  | q => (encA q).length
theorem tab_at (q : Call) : (tabN.map nI)[encP q]? = some (nI (cntN q)) := by cases q <;> rfl
theorem cnt_len (q : Call) : (encP q = 0 ∧ ∃ d a l, q = .begin_ d a l) ∨ (encP q ≠ 0 ∧ cntN q = (encA q).length) := by
  cases q with
  | begin_ d a l => exact .inl ⟨rfl, d, a, l, rfl⟩
  | _ => exact .inr ⟨Nat.succ_ne_zero _, rfl⟩
end TP
namespace TP
open PySem PySem.Spec PyProof.Rows L2
open CsBase (Mach)
open Cs14 (Known at? Letter)
open Cs14 (Side side setSide upTo should now stateAt seen film watchedAt)
open Cs14 (Call)
structure TxtA (K : PySem.W.Frag) (mg : Str → Option Value) (tc CG : Addr) : Prop where
  cl_Game : Cls K CG
  g_BEGIN : mg "BEGIN" = some (.int 0 (tokOf (mg "BEGIN")))
  g_FRAME : mg "FRAME" = some (.int 1 (tokOf (mg "FRAME")))
  g_SEND : mg "SEND" = some (.int 2 (tokOf (mg "SEND")))
  g_HAND : mg "HAND" = some (.int 3 (tokOf (mg "HAND")))
  g_LOSE : mg "LOSE" = some (.int 4 (tokOf (mg "LOSE")))
  g_NET : mg "NET" = some (.int 5 (tokOf (mg "NET")))
  g_NOW : mg "NOW" = some (.int 6 (tokOf (mg "NOW")))
  g_SETTLED : mg "SETTLED" = some (.int 7 (tokOf (mg "SETTLED")))
  g_STATE : mg "STATE" = some (.int 8 (tokOf (mg "STATE")))
  g_PADS : mg "PADS" = some (.int 9 (tokOf (mg "PADS")))
  g_FAULT : mg "FAULT" = some (.int 10 (tokOf (mg "FAULT")))
  g_WATCH : mg "WATCH" = some (.int 11 (tokOf (mg "WATCH")))
  g_FILM : mg "FILM" = some (.int 12 (tokOf (mg "FILM")))
  g_DIFFER : mg "DIFFER" = some (.int 13 (tokOf (mg "DIFFER")))
  g_BOTH : mg "BOTH" = some (.int 14 (tokOf (mg "BOTH")))
  g_NUMBERS_OF_CALL : mg "NUMBERS_OF_CALL" = some (.ref tc)
  tab : ∀ H : Hp, SqT K H tc (tabN.map nI)
  b_len : mg "len" = none
theorem SqL.same' {K : PySem.W.Frag} {H H' : Hp} {a : Addr} {xs : List V} (h : SqL K H a xs) (e : Same H H') : SqL K H' a xs := by
  rcases h with (y | ⟨o, y⟩) | y
  · exact .inl (.inl (e _ _ y))
  · exact .inl (.inr ⟨o, e _ _ y⟩)
  · exact .inr y
theorem Ans.same {CS CW CG : Addr} {H H1 : Hp} {A : GA} {s : TSt} {c : Call} {Q : VK} (k : Ans CS CW CG H A s c Q) (m : Same H H1) : Ans CS CW CG H1 A s c Q := fun H' A' r hg ok st fr h =>
  k H' A' r hg ok ⟨fun b h => (st.m b h).imp id m.free, fun b h => (st.f b h).imp id m.free, (Kp.same m).trans st.k⟩ (fr.imp id m.free) h
theorem Core.same {CS CW CG : Addr} {H H1 : Hp} {A : GA} {s : TSt} {c : Call} {Q : VK} (k : Core CS CW CG H A s c Q) (m : Same H H1) : Core CS CW CG H1 A s c Q := ⟨⟨k.g.1.same m, k.g.2⟩, k.p, k.k.same m⟩
def spEnd (K : PySem.W.Frag) : Sp := fun vs H Q _ => ∃ (a : Addr) (ns pre post : List Int) (q : Call), vs = [.ref a, nI pre.length] ∧ SqL K H a (ns.map V.int) ∧ ns = pre ++ (fl1 q ++ post) ∧ Q (nI (pre.length + (fl1 q).length)) H
def spAnswer (CS CW CG : Addr) (lo hi : Nat) : Sp := fun vs H Q _ => ∃ (A : GA) (s : TSt) (q : Call) (l : Addr), vs = [.ref A.g, nI (encP q), .ref l] ∧ lo ≤ encP q ∧ encP q ≤ hi ∧ short1 q ∧ H l = some (.lst ((encA q).map V.int)) ∧ Core CS CW CG H A s q Q
def spAns (K : PySem.W.Frag) : Sp := fun vs H Q _ => ∃ (a : Addr) (ns : List Int), vs = [.ref a] ∧ SqL K H a (ns.map V.int) ∧ ns.length ≤ 12240 ∧ PyCs14.answers_asked ns = true ∧
  ∀ (H' : Hp) (p : Addr), H p = none → H' p = some (.lst ((PyCs14.answers ns).map V.int)) → Same H H' → Q (.ref p) H'
theorem at_mid {pre post : List Int} {j : Nat} {z : Int} {x : List Int} (h : x[j]? = some z) : ((pre ++ (x ++ post)).map V.int)[pre.length + j]? = some (V.int z) := by
  rw [List.getElem?_map, List.getElem?_append_right (by omega), Nat.add_sub_cancel_left, List.getElem?_append_left (List.getElem?_eq_some_iff.mp h).1, h]
  rfl
section
variable {P : Program} {w : World} {K : PySem.W.Frag} {mg : Str → Option Value} {base : Heap} {tc CS CW CG : Addr}
abbrev s_call_end : Stmt := top 61
theorem sc_call_end : FnScope ["calls", "place", "which", "end"] ["calls", "place"] (defScope s_call_end) := ⟨rfl, rfl, rfl, by decide +kernel, rfl, by decide +kernel, by decide +kernel⟩
theorem ok_call_end {f : Addr} {fd : FuncData} (F : Fun K "call_end" "call_end" s_call_end f fd) (T : TxtA K mg tc CG) : FnOk P w K mg base CX0 1 f fd ["calls", "place"] (spEnd K) := by
  refine F.ok sc_call_end (fun vs H Q E h => ?_) (fun cdv A outer s H vs Q E hr h => ?_)
  · obtain ⟨a, ns, pre, post, q, rfl, _⟩ := h
    rfl
  · obtain ⟨a, ns, pre, post, q, rfl, hs, rfl, kq⟩ := h
    refine ⟨_, (pss_cons (ps_set (i := 2) sc_call_end.nd rfl (Or.inl rfl) (pe_ix ix_list (pv 0) (pv 1) (fun _ _ => rfl)))
      (pss_cons (ps_set (i := 3) sc_call_end.nd rfl (Or.inl rfl) (pe_op op_add (pe_op op_add (pv 1) pe_int) (pe_ix ix_tup (pe_glob (v := .ref _) rfl T.g_NUMBERS_OF_CALL rfl) (pv 2) (fun _ _ => rfl))))
      (pss_cons (ps_if (pt_cmpR op_eq (pv 2) (pe_glob (v := .int (0)) rfl T.g_BEGIN ⟨_, rfl⟩) (nomark _)) (pss_one (ps_aug (i := 3) sc_call_end.nd rfl (.inl rfl) (pe_ix ix_list (pv 0) (pe_op op_sub (pv 3) pe_int) (fun _ _ => rfl)) ip_add)) pss_nil)
      (pss_one (ps_ret (pv 3)))))), ?_⟩
    have e0 : ((pre ++ (fl1 q ++ post)).map V.int)[pre.length + 0]? = some (nI (encP q)) := at_mid rfl
    refine ⟨_, rfl, _, rfl, a, _, _, _, rfl, rfl, hs, atI_nat e0, ?_⟩
    refine ⟨_, rfl, _, _, rfl, rfl, _, rfl, tc, _, _, _, rfl, rfl, T.tab H, atI_nat (tab_at q), _, _, rfl, rfl, ?_⟩
    refine ⟨_, rfl, rfl, _, rfl, ?_⟩
    rcases cnt_len q with ⟨z, d, b, l, rfl⟩ | ⟨z, c⟩
    · refine ifY rfl ?_
      have e3 : ((pre ++ (fl1 (.begin_ d b l) ++ post)).map V.int)[pre.length + 3]? = some (nI l.length) := at_mid rfl
      refine ⟨_, rfl, _, rfl, _, rfl, _, _, rfl, rfl, a, _, _, _, rfl, rfl, hs, at_of (j := pre.length + 3) (by show (pre.length : Int) + 1 + 3 - 1 = _; omega) e3, _, _, rfl, rfl, ?_⟩
      refine ⟨_, rfl, ?_⟩
      have el : (pre.length : Int) + 1 + ((3 : Nat) : Int) + ((l.length : Nat) : Int) = ((pre.length + (fl1 (.begin_ d b l)).length : Nat) : Int) := by
        show _ = ((pre.length + (l.length + 1 + 1 + 1 + 1) : Nat) : Int)
        omega
      have := kq
      unfold nI at this
      rw [← el] at this
      exact this
    · refine ifN (decide_eq_false fun y => z (by have := i_inj y; omega)) ?_
      refine ⟨_, rfl, ?_⟩
      have el : (pre.length : Int) + 1 + ((cntN q : Nat) : Int) = ((pre.length + (fl1 q).length : Nat) : Int) := by
        rw [c]
        show _ = ((pre.length + ((encA q).length + 1) : Nat) : Int)
        omega
      have := kq
      unfold nI at this
      rw [← el] at this
      exact this
abbrev s_answer_of_play : Stmt := top 63
theorem sc_answer_of_play : FnScope ["game", "which", "numbers"] ["game", "which", "numbers"] (defScope s_answer_of_play) := ⟨rfl, rfl, rfl, by decide +kernel, rfl, by decide +kernel, by decide +kernel⟩
theorem ok_answer_of_play {f : Addr} {fd : FuncData} (F : Fun K "answer_of_play" "answer_of_play" s_answer_of_play f fd) (T : TxtA K mg tc CG)
    (G_Game_begin : MethF P w K mg base 9 CG "begin" ["self", "delay", "ahead", "some_bytes"] (spBegin CS CW CG)) (G_Game_frame : MethF P w K mg base 7 CG "frame" ["self", "side", "pad"] (spFrame CS CW CG)) (G_Game_send : MethF P w K mg base 4 CG "send" ["self", "side"] (spSend CS CW CG))
    (G_Game_hand : MethF P w K mg base 9 CG "hand" ["self", "k", "stays"] (spHand CS CW CG)) (G_Game_lose : MethF P w K mg base 3 CG "lose" ["self", "k"] (spLose CS CW CG)) (G_Game_net : MethF P w K mg base 1 CG "net" ["self"] (spNet CS CW CG))
    (G_Game_now : MethF P w K mg base 3 CG "now" ["self", "side"] (spNow CS CW CG)) (G_Game_settled : MethF P w K mg base 4 CG "settled" ["self", "side"] (spStl CS CW CG)) :
    FnOk P w K mg base CX0 10 f fd ["game", "which", "numbers"] (spAnswer CS CW CG 0 7) := by
  refine F.ok sc_answer_of_play (fun vs H Q E h => ?_) (fun cdv A outer s H vs Q E hr h => ?_)
  · obtain ⟨A, s, q, l, rfl, _⟩ := h
    rfl
  · obtain ⟨A, s, q, l, rfl, h0, h7, sh, hl, C⟩ := h
    obtain ⟨dx, h1⟩ := C.g.1.r.o
    refine ⟨_, (pss_cons (ps_if (pt_cmpR op_eq (pv 1) (pe_glob (v := .int (0)) rfl T.g_BEGIN ⟨_, rfl⟩) (nomark _)) (pss_one (ps_ret (pe_methF (pv 0) T.cl_Game G_Game_begin (hr.mono (by decide)) (pa_cons (pe_ix ix_list (pv 2) pe_int (fun _ _ => rfl)) (pa_cons (pe_ix ix_list (pv 2) pe_int (fun _ _ => rfl)) (pa_cons (pe_slice sl_list (pv 2) (po_some pe_int) po_none) pa_nil)))))) pss_nil)
      (pss_cons (ps_if (pt_cmpR op_eq (pv 1) (pe_glob (v := .int (1)) rfl T.g_FRAME ⟨_, rfl⟩) (nomark _)) (pss_one (ps_ret (pe_methF (pv 0) T.cl_Game G_Game_frame (hr.mono (by decide)) (pa_cons (pe_ix ix_list (pv 2) pe_int (fun _ _ => rfl)) (pa_cons (pe_ix ix_list (pv 2) pe_int (fun _ _ => rfl)) pa_nil))))) pss_nil)
      (pss_cons (ps_if (pt_cmpR op_eq (pv 1) (pe_glob (v := .int (2)) rfl T.g_SEND ⟨_, rfl⟩) (nomark _)) (pss_one (ps_ret (pe_methF (pv 0) T.cl_Game G_Game_send (hr.mono (by decide)) (pa_cons (pe_ix ix_list (pv 2) pe_int (fun _ _ => rfl)) pa_nil)))) pss_nil)
      (pss_cons (ps_if (pt_cmpR op_eq (pv 1) (pe_glob (v := .int (3)) rfl T.g_HAND ⟨_, rfl⟩) (nomark _)) (pss_one (ps_ret (pe_methF (pv 0) T.cl_Game G_Game_hand (hr.mono (by decide)) (pa_cons (pe_ix ix_list (pv 2) pe_int (fun _ _ => rfl)) (pa_cons (pe_ix ix_list (pv 2) pe_int (fun _ _ => rfl)) pa_nil))))) pss_nil)
      (pss_cons (ps_if (pt_cmpR op_eq (pv 1) (pe_glob (v := .int (4)) rfl T.g_LOSE ⟨_, rfl⟩) (nomark _)) (pss_one (ps_ret (pe_methF (pv 0) T.cl_Game G_Game_lose (hr.mono (by decide)) (pa_cons (pe_ix ix_list (pv 2) pe_int (fun _ _ => rfl)) pa_nil)))) pss_nil)
      (pss_cons (ps_if (pt_cmpR op_eq (pv 1) (pe_glob (v := .int (5)) rfl T.g_NET ⟨_, rfl⟩) (nomark _)) (pss_one (ps_ret (pe_methF0 (pv 0) T.cl_Game G_Game_net (hr.mono (by decide))))) pss_nil)
      (pss_cons (ps_if (pt_cmpR op_eq (pv 1) (pe_glob (v := .int (6)) rfl T.g_NOW ⟨_, rfl⟩) (nomark _)) (pss_one (ps_ret (pe_methF (pv 0) T.cl_Game G_Game_now (hr.mono (by decide)) (pa_cons (pe_ix ix_list (pv 2) pe_int (fun _ _ => rfl)) pa_nil)))) pss_nil)
      (pss_one (ps_ret (pe_methF (pv 0) T.cl_Game G_Game_settled (hr.mono (by decide)) (pa_cons (pe_ix ix_list (pv 2) pe_int (fun _ _ => rfl)) pa_nil))))))))))), ?_⟩
    refine ⟨_, rfl, rfl, _, rfl, ?_⟩
    cases q with
    | begin_ d a ns =>
      refine ifY rfl ?_
      refine ⟨_, rfl, A.g, dx, _, rfl, h1, fG_no_begin, _, rfl, l, _, _, _, rfl, rfl, SqL.of hl, at_of (j := 0) rfl rfl, _, rfl, l, _, _, _, rfl, rfl, SqL.of hl, at_of (j := 1) rfl rfl, _, rfl, _, rfl, l, _, rfl, SqL.of hl, fun r hr1 => ?_⟩
      have e : cutV ((encA (.begin_ d a ns)).map V.int) (some 3) none = ns.map V.int := (cut_from _ 3).trans rfl
      rw [e]
      have m := same_new (o := .lst (ns.map V.int)) hr1
      refine ⟨A, s, d, a, r, ns, rfl, upd_same, (ne_of_none h1 hr1).symm, ?_, C.same m⟩
      have : ns.length ≤ 200 := sh
      omega
    | frame i v =>
      refine ifN rfl ⟨_, rfl, rfl, _, rfl, ifY rfl ?_⟩
      exact ⟨_, rfl, A.g, dx, _, rfl, h1, fG_no_frame, _, rfl, l, _, _, _, rfl, rfl, SqL.of hl, at_of (j := 0) rfl rfl, _, rfl, l, _, _, _, rfl, rfl, SqL.of hl, at_of (j := 1) rfl rfl, A, s, i, v, rfl, C⟩
    | send i =>
      refine ifN rfl ⟨_, rfl, rfl, _, rfl, ifN rfl ⟨_, rfl, rfl, _, rfl, ifY rfl ?_⟩⟩
      exact ⟨_, rfl, A.g, dx, _, rfl, h1, fG_no_send, _, rfl, l, _, _, _, rfl, rfl, SqL.of hl, at_of (j := 0) rfl rfl, A, s, i, rfl, C⟩
    | hand k kp =>
      refine ifN rfl ⟨_, rfl, rfl, _, rfl, ifN rfl ⟨_, rfl, rfl, _, rfl, ifN rfl ⟨_, rfl, rfl, _, rfl, ifY rfl ?_⟩⟩⟩
      exact ⟨_, rfl, A.g, dx, _, rfl, h1, fG_no_hand, _, rfl, l, _, _, _, rfl, rfl, SqL.of hl, at_of (j := 0) rfl rfl, _, rfl, l, _, _, _, rfl, rfl, SqL.of hl, at_of (j := 1) rfl rfl, A, s, k, kp, rfl, C⟩
    | lose k =>
      refine ifN rfl ⟨_, rfl, rfl, _, rfl, ifN rfl ⟨_, rfl, rfl, _, rfl, ifN rfl ⟨_, rfl, rfl, _, rfl, ifN rfl ⟨_, rfl, rfl, _, rfl, ifY rfl ?_⟩⟩⟩⟩
      exact ⟨_, rfl, A.g, dx, _, rfl, h1, fG_no_lose, _, rfl, l, _, _, _, rfl, rfl, SqL.of hl, at_of (j := 0) rfl rfl, A, s, k, rfl, C⟩
    | net =>
      refine ifN rfl ⟨_, rfl, rfl, _, rfl, ifN rfl ⟨_, rfl, rfl, _, rfl, ifN rfl ⟨_, rfl, rfl, _, rfl, ifN rfl ⟨_, rfl, rfl, _, rfl, ifN rfl ⟨_, rfl, rfl, _, rfl, ifY rfl ?_⟩⟩⟩⟩⟩
      exact ⟨_, rfl, A.g, dx, _, rfl, h1, fG_no_net, A, s, rfl, C⟩
    | now i =>
      refine ifN rfl ⟨_, rfl, rfl, _, rfl, ifN rfl ⟨_, rfl, rfl, _, rfl, ifN rfl ⟨_, rfl, rfl, _, rfl, ifN rfl ⟨_, rfl, rfl, _, rfl, ifN rfl ⟨_, rfl, rfl, _, rfl, ifN rfl ⟨_, rfl, rfl, _, rfl, ifY rfl ?_⟩⟩⟩⟩⟩⟩
      exact ⟨_, rfl, A.g, dx, _, rfl, h1, fG_no_now, _, rfl, l, _, _, _, rfl, rfl, SqL.of hl, at_of (j := 0) rfl rfl, A, s, i, rfl, C⟩
    | settled i =>
      refine ifN rfl ⟨_, rfl, rfl, _, rfl, ifN rfl ⟨_, rfl, rfl, _, rfl, ifN rfl ⟨_, rfl, rfl, _, rfl, ifN rfl ⟨_, rfl, rfl, _, rfl, ifN rfl ⟨_, rfl, rfl, _, rfl, ifN rfl ⟨_, rfl, rfl, _, rfl, ifN rfl ?_⟩⟩⟩⟩⟩⟩
      exact ⟨_, rfl, A.g, dx, _, rfl, h1, fG_no_settled, _, rfl, l, _, _, _, rfl, rfl, SqL.of hl, at_of (j := 0) rfl rfl, A, s, i, rfl, C⟩
    | state i t => exact absurd h7 (by show ¬ 8 ≤ 7; decide)
    | pads i t => exact absurd h7 (by show ¬ 9 ≤ 7; decide)
    | fault i p v => exact absurd h7 (by show ¬ 10 ≤ 7; decide)
    | watch k => exact absurd h7 (by show ¬ 11 ≤ 7; decide)
    | film => exact absurd h7 (by show ¬ 12 ≤ 7; decide)
    | differ i => exact absurd h7 (by show ¬ 13 ≤ 7; decide)
    | both => exact absurd h7 (by show ¬ 14 ≤ 7; decide)
    | runs i => exact absurd h7 (by show ¬ 15 ≤ 7; decide)
abbrev s_answer_of_look : Stmt := top 64
theorem sc_answer_of_look : FnScope ["game", "which", "numbers"] ["game", "which", "numbers"] (defScope s_answer_of_look) := ⟨rfl, rfl, rfl, by decide +kernel, rfl, by decide +kernel, by decide +kernel⟩
theorem ok_answer_of_look {f : Addr} {fd : FuncData} (F : Fun K "answer_of_look" "answer_of_look" s_answer_of_look f fd) (T : TxtA K mg tc CG)
    (G_Game_state : MethF P w K mg base 3 CG "state" ["self", "side", "t"] (spState CS CW CG)) (G_Game_pads : MethF P w K mg base 3 CG "pads" ["self", "side", "t"] (spPads CS CW CG)) (G_Game_fault : MethF P w K mg base 3 CG "fault" ["self", "side", "place", "byte"] (spFault CS CW CG))
    (G_Game_watch : MethF P w K mg base 8 CG "watch" ["self", "k"] (spWatch CS CW CG)) (G_Game_film : MethF P w K mg base 1 CG "film" ["self"] (spFilm CS CW CG)) (G_Game_differ : MethF P w K mg base 5 CG "differ" ["self", "side"] (spDiffer CS CW CG))
    (G_Game_both : MethF P w K mg base 5 CG "both" ["self"] (spBoth CS CW CG)) (G_Game_runs : MethF P w K mg base 3 CG "runs" ["self", "side"] (spRuns CS CW CG)) :
    FnOk P w K mg base CX0 9 f fd ["game", "which", "numbers"] (spAnswer CS CW CG 8 15) := by
  refine F.ok sc_answer_of_look (fun vs H Q E h => ?_) (fun cdv A outer s H vs Q E hr h => ?_)
  · obtain ⟨A, s, q, l, rfl, _⟩ := h
    rfl
  · obtain ⟨A, s, q, l, rfl, h0, h7, sh, hl, C⟩ := h
    obtain ⟨dx, h1⟩ := C.g.1.r.o
    refine ⟨_, (pss_cons (ps_if (pt_cmpR op_eq (pv 1) (pe_glob (v := .int (8)) rfl T.g_STATE ⟨_, rfl⟩) (nomark _)) (pss_one (ps_ret (pe_methF (pv 0) T.cl_Game G_Game_state (hr.mono (by decide)) (pa_cons (pe_ix ix_list (pv 2) pe_int (fun _ _ => rfl)) (pa_cons (pe_ix ix_list (pv 2) pe_int (fun _ _ => rfl)) pa_nil))))) pss_nil)
      (pss_cons (ps_if (pt_cmpR op_eq (pv 1) (pe_glob (v := .int (9)) rfl T.g_PADS ⟨_, rfl⟩) (nomark _)) (pss_one (ps_ret (pe_methF (pv 0) T.cl_Game G_Game_pads (hr.mono (by decide)) (pa_cons (pe_ix ix_list (pv 2) pe_int (fun _ _ => rfl)) (pa_cons (pe_ix ix_list (pv 2) pe_int (fun _ _ => rfl)) pa_nil))))) pss_nil)
      (pss_cons (ps_if (pt_cmpR op_eq (pv 1) (pe_glob (v := .int (10)) rfl T.g_FAULT ⟨_, rfl⟩) (nomark _)) (pss_one (ps_ret (pe_methF (pv 0) T.cl_Game G_Game_fault (hr.mono (by decide)) (pa_cons (pe_ix ix_list (pv 2) pe_int (fun _ _ => rfl)) (pa_cons (pe_ix ix_list (pv 2) pe_int (fun _ _ => rfl)) (pa_cons (pe_ix ix_list (pv 2) pe_int (fun _ _ => rfl)) pa_nil)))))) pss_nil)
      (pss_cons (ps_if (pt_cmpR op_eq (pv 1) (pe_glob (v := .int (11)) rfl T.g_WATCH ⟨_, rfl⟩) (nomark _)) (pss_one (ps_ret (pe_methF (pv 0) T.cl_Game G_Game_watch (hr.mono (by decide)) (pa_cons (pe_ix ix_list (pv 2) pe_int (fun _ _ => rfl)) pa_nil)))) pss_nil)
      (pss_cons (ps_if (pt_cmpR op_eq (pv 1) (pe_glob (v := .int (12)) rfl T.g_FILM ⟨_, rfl⟩) (nomark _)) (pss_one (ps_ret (pe_methF0 (pv 0) T.cl_Game G_Game_film (hr.mono (by decide))))) pss_nil)
      (pss_cons (ps_if (pt_cmpR op_eq (pv 1) (pe_glob (v := .int (13)) rfl T.g_DIFFER ⟨_, rfl⟩) (nomark _)) (pss_one (ps_ret (pe_methF (pv 0) T.cl_Game G_Game_differ (hr.mono (by decide)) (pa_cons (pe_ix ix_list (pv 2) pe_int (fun _ _ => rfl)) pa_nil)))) pss_nil)
      (pss_cons (ps_if (pt_cmpR op_eq (pv 1) (pe_glob (v := .int (14)) rfl T.g_BOTH ⟨_, rfl⟩) (nomark _)) (pss_one (ps_ret (pe_methF0 (pv 0) T.cl_Game G_Game_both (hr.mono (by decide))))) pss_nil)
      (pss_one (ps_ret (pe_methF (pv 0) T.cl_Game G_Game_runs (hr.mono (by decide)) (pa_cons (pe_ix ix_list (pv 2) pe_int (fun _ _ => rfl)) pa_nil))))))))))), ?_⟩
    refine ⟨_, rfl, rfl, _, rfl, ?_⟩
    cases q with
    | state i t =>
      refine ifY rfl ?_
      exact ⟨_, rfl, A.g, dx, _, rfl, h1, fG_no_state, _, rfl, l, _, _, _, rfl, rfl, SqL.of hl, at_of (j := 0) rfl rfl, _, rfl, l, _, _, _, rfl, rfl, SqL.of hl, at_of (j := 1) rfl rfl, A, s, i, t, rfl, C⟩
    | pads i t =>
      refine ifN rfl ⟨_, rfl, rfl, _, rfl, ifY rfl ?_⟩
      exact ⟨_, rfl, A.g, dx, _, rfl, h1, fG_no_pads, _, rfl, l, _, _, _, rfl, rfl, SqL.of hl, at_of (j := 0) rfl rfl, _, rfl, l, _, _, _, rfl, rfl, SqL.of hl, at_of (j := 1) rfl rfl, A, s, i, t, rfl, C⟩
    | fault i p v =>
      refine ifN rfl ⟨_, rfl, rfl, _, rfl, ifN rfl ⟨_, rfl, rfl, _, rfl, ifY rfl ?_⟩⟩
      exact ⟨_, rfl, A.g, dx, _, rfl, h1, fG_no_fault, _, rfl, l, _, _, _, rfl, rfl, SqL.of hl, at_of (j := 0) rfl rfl, _, rfl, l, _, _, _, rfl, rfl, SqL.of hl, at_of (j := 1) rfl rfl, _, rfl, l, _, _, _, rfl, rfl, SqL.of hl, at_of (j := 2) rfl rfl, A, s, i, p, v, rfl, C⟩
    | watch k =>
      refine ifN rfl ⟨_, rfl, rfl, _, rfl, ifN rfl ⟨_, rfl, rfl, _, rfl, ifN rfl ⟨_, rfl, rfl, _, rfl, ifY rfl ?_⟩⟩⟩
      exact ⟨_, rfl, A.g, dx, _, rfl, h1, fG_no_watch, _, rfl, l, _, _, _, rfl, rfl, SqL.of hl, at_of (j := 0) rfl rfl, A, s, k, rfl, C⟩
    | film =>
      refine ifN rfl ⟨_, rfl, rfl, _, rfl, ifN rfl ⟨_, rfl, rfl, _, rfl, ifN rfl ⟨_, rfl, rfl, _, rfl, ifN rfl ⟨_, rfl, rfl, _, rfl, ifY rfl ?_⟩⟩⟩⟩
      exact ⟨_, rfl, A.g, dx, _, rfl, h1, fG_no_film, A, s, rfl, C⟩
    | differ i =>
      refine ifN rfl ⟨_, rfl, rfl, _, rfl, ifN rfl ⟨_, rfl, rfl, _, rfl, ifN rfl ⟨_, rfl, rfl, _, rfl, ifN rfl ⟨_, rfl, rfl, _, rfl, ifN rfl ⟨_, rfl, rfl, _, rfl, ifY rfl ?_⟩⟩⟩⟩⟩
      exact ⟨_, rfl, A.g, dx, _, rfl, h1, fG_no_differ, _, rfl, l, _, _, _, rfl, rfl, SqL.of hl, at_of (j := 0) rfl rfl, A, s, i, rfl, C⟩
    | both =>
      refine ifN rfl ⟨_, rfl, rfl, _, rfl, ifN rfl ⟨_, rfl, rfl, _, rfl, ifN rfl ⟨_, rfl, rfl, _, rfl, ifN rfl ⟨_, rfl, rfl, _, rfl, ifN rfl ⟨_, rfl, rfl, _, rfl, ifN rfl ⟨_, rfl, rfl, _, rfl, ifY rfl ?_⟩⟩⟩⟩⟩⟩
      exact ⟨_, rfl, A.g, dx, _, rfl, h1, fG_no_both, A, s, rfl, C⟩
    | runs i =>
      refine ifN rfl ⟨_, rfl, rfl, _, rfl, ifN rfl ⟨_, rfl, rfl, _, rfl, ifN rfl ⟨_, rfl, rfl, _, rfl, ifN rfl ⟨_, rfl, rfl, _, rfl, ifN rfl ⟨_, rfl, rfl, _, rfl, ifN rfl ⟨_, rfl, rfl, _, rfl, ifN rfl ?_⟩⟩⟩⟩⟩⟩
      exact ⟨_, rfl, A.g, dx, _, rfl, h1, fG_no_runs, _, rfl, l, _, _, _, rfl, rfl, SqL.of hl, at_of (j := 0) rfl rfl, A, s, i, rfl, C⟩
    | begin_ d a l => exact absurd h0 (by show ¬ 8 ≤ 0; decide)
    | frame i v => exact absurd h0 (by show ¬ 8 ≤ 1; decide)
    | send i => exact absurd h0 (by show ¬ 8 ≤ 2; decide)
    | hand k kp => exact absurd h0 (by show ¬ 8 ≤ 3; decide)
    | lose k => exact absurd h0 (by show ¬ 8 ≤ 4; decide)
    | net => exact absurd h0 (by show ¬ 8 ≤ 5; decide)
    | now i => exact absurd h0 (by show ¬ 8 ≤ 6; decide)
    | settled i => exact absurd h0 (by show ¬ 8 ≤ 7; decide)
theorem encP_le (q : Call) : encP q ≤ 15 := by cases q <;> show _ ≤ _ <;> simp [encP]
abbrev s_answer : Stmt := top 62
theorem sc_answer : FnScope ["game", "which", "numbers"] ["game", "which", "numbers"] (defScope s_answer) := ⟨rfl, rfl, rfl, by decide +kernel, rfl, by decide +kernel, by decide +kernel⟩
theorem ok_answer {f : Addr} {fd : FuncData} (F : Fun K "answer" "answer" s_answer f fd) (T : TxtA K mg tc CG)
    (G_answer_of_play : FunF P w K mg base 10 "answer_of_play" ["game", "which", "numbers"] (spAnswer CS CW CG 0 7)) (G_answer_of_look : FunF P w K mg base 9 "answer_of_look" ["game", "which", "numbers"] (spAnswer CS CW CG 8 15)) :
    FnOk P w K mg base CX0 11 f fd ["game", "which", "numbers"] (spAnswer CS CW CG 0 15) := by
  refine F.ok sc_answer (fun vs H Q E h => ?_) (fun cdv A outer s H vs Q E hr h => ?_)
  · obtain ⟨A, s, q, l, rfl, _⟩ := h
    rfl
  · obtain ⟨A, s, q, l, rfl, _, _, sh, hl, C⟩ := h
    refine ⟨_, (pss_cons (ps_if (pt_cmpR op_le (pv 1) (pe_glob (v := .int (7)) rfl T.g_SETTLED ⟨_, rfl⟩) (nomark _)) (pss_one (ps_ret (pe_callF G_answer_of_play (hr.mono (by decide)) (pa_cons (pv 0) (pa_cons (pv 1) (pa_cons (pv 2) pa_nil)))))) pss_nil)
      (pss_one (ps_ret (pe_callF G_answer_of_look (hr.mono (by decide)) (pa_cons (pv 0) (pa_cons (pv 1) (pa_cons (pv 2) pa_nil))))))), ?_⟩
    refine ⟨_, rfl, _, _, rfl, rfl, _, rfl, if_dec (fun c => ?_) (fun c => ?_)⟩
    · exact ⟨_, rfl, _, rfl, _, rfl, A, s, q, l, rfl, Nat.zero_le _, by omega, sh, hl, C⟩
    · exact ⟨_, rfl, _, rfl, _, rfl, A, s, q, l, rfl, by omega, encP_le q, sh, hl, C⟩
end
end TP
namespace TP
open PySem PySem.Spec PyProof.Rows L2
open CsBase (Mach)
open Cs14 (Known at? Letter)
open Cs14 (Side side setSide upTo should now stateAt seen film watchedAt)
open Cs14 (Call)
theorem cut_args (pre post : List Int) (q : Call) : cutV ((pre ++ (fl1 q ++ post)).map V.int) (some ((pre.length : Int) + 1)) (some ((pre.length + (fl1 q).length : Nat) : Int)) = (encA q).map V.int := by
  have := cut_mid ((pre ++ (fl1 q ++ post)).map V.int) (pre.length + 1) (pre.length + (fl1 q).length)
  have e : pre ++ (fl1 q ++ post) = (pre ++ [(encP q : Int)]) ++ (encA q ++ post) := by
    unfold fl1
    rw [List.append_assoc]
    rfl
  have l1 : (pre ++ [(encP q : Int)]).length = pre.length + 1 := by rw [List.length_append]; rfl
  have l2 : (fl1 q).length = (encA q).length + 1 := rfl
  refine this.trans ?_
  rw [← List.map_drop, e, ← l1, List.drop_left, ← List.map_take, l1, l2, show pre.length + ((encA q).length + 1) - (pre.length + 1) = (encA q).length by omega, List.take_left]
section
variable {P : Program} {w : World} {K : PySem.W.Frag} {mg : Str → Option Value} {base : Heap} {tc CS CW CG : Addr}
abbrev s_answers : Stmt := top 65
theorem sc_answers : FnScope ["calls", "game", "given", "place", "end", "numbers"] ["calls"] (defScope s_answers) := ⟨rfl, rfl, rfl, by decide +kernel, rfl, by decide +kernel, by decide +kernel⟩
theorem ok_answers {f : Addr} {fd : FuncData} (F : Fun K "answers" "answers" s_answers f fd) (T : TxtA K mg tc CG) (G_Game_init : MakeF P w K mg base 9 CG "Game" ["self"] (spGInit CS CW CG))
    (G_call_end : FunF P w K mg base 1 "call_end" ["calls", "place"] (spEnd K)) (G_answer : FunF P w K mg base 11 "answer" ["game", "which", "numbers"] (spAnswer CS CW CG 0 15)) :
    FnOk P w K mg base CX0 12 f fd ["calls"] (spAns K) := by
  refine F.ok sc_answers (fun vs H Q E h => ?_) (fun cdv A outer s H vs Q E hr h => ?_)
  · obtain ⟨a, ns, rfl, _⟩ := h
    rfl
  · obtain ⟨a, ns, rfl, hs, hn, hask, kq⟩ := h
    obtain ⟨qs, rfl, q60, qsh, qans, qlen⟩ := asked_calls hask
    refine ⟨_, (pss_cons (ps_set (i := 1) sc_answers.nd rfl (Or.inl rfl) (pe_makeF0 G_Game_init (hr.mono (by decide))))
      (pss_cons (ps_set (i := 2) sc_answers.nd rfl (Or.inl rfl) (pe_lst pa_nil))
      (pss_cons (ps_set (i := 3) sc_answers.nd rfl (Or.inl rfl) pe_int)
      (pss_cons (ps_while PassesOwn.never (pt_cmpR op_lt (pv 3) (pe_callB call_len_seq (by rfl) T.b_len PySem.boot_len (pa_cons (pv 0) pa_nil)) (nomark _)) (pss_cons (ps_set (i := 4) sc_answers.nd rfl (Or.inl rfl) (pe_callF G_call_end (hr.mono (by decide)) (pa_cons (pv 0) (pa_cons (pv 3) pa_nil))))
      (pss_cons (ps_set (i := 5) sc_answers.nd rfl (Or.inl rfl) (pe_callF G_answer (hr.mono (by decide)) (pa_cons (pv 1) (pa_cons (pe_ix ix_list (pv 0) (pv 3) (fun _ _ => rfl)) (pa_cons (pe_slice sl_list (pv 0) (po_some (pe_op op_add (pv 3) pe_int)) (po_some (pv 4))) pa_nil)))))
      (pss_cons (ps_expr (pe_bm PySem.F.plainAttrs_list PySem.F.slot_list_append PySem.F.type_list_append mt_append (pv 2) (pa_cons (pe_callB call_len_seq (by rfl) T.b_len PySem.boot_len (pa_cons (pv 5) pa_nil)) pa_nil)))
      (pss_cons (ps_expr (pe_bm PySem.F.plainAttrs_list PySem.F.slot_list_extend PySem.F.type_list_extend mt_extend (pv 2) (pa_cons (pv 5) pa_nil)))
      (pss_one (ps_set (i := 3) sc_answers.nd rfl (Or.inl rfl) (pv 4))))))))
      (pss_one (ps_ret (pv 2))))))), ?_⟩
    intro g dx ng ndx ne
    obtain ⟨sm, tkk⟩ := made (C := CG) ng ndx ne
    refine ⟨g, dx, rfl, upd_same, fun H1 A hAg ok hf kp => ⟨rfl, ?_⟩⟩
    have m1 : Same H H1 := fun b o e => kp b o (sm b o e) (ne_of_none e ng)
    have hf1 : ∀ b, A.ft.f b → H b = none := fun b h => (hf b h).elim (fun z => z ▸ ng) (tkk b)
    refine ⟨(by show 0 ≤ sizeLine; decide), fun gl hgl => ?_⟩
    have fgl := m1.free hgl
    have m2 := same_new (o := .lst []) hgl
    have gl2 : upd H1 gl (.lst []) gl = some (.lst []) := upd_same
    have ok2 : GOk CS CW CG (upd H1 gl (.lst [])) A Cs14.start := ⟨ok.1.same m2, ok.2⟩
    have ngl : ∀ b, A.ft.f b → b ≠ gl := fun b h => by
      obtain ⟨o, e⟩ := ok.1.trk h
      exact ne_of_none e hgl
    generalize upd H1 gl (.lst []) = H2 at m2 gl2 ok2 ⊢
    have m12 := m1.trans m2
    refine ⟨fun k σ H' => ∃ (pre post : List Call) (B : GA) (v4 v5 : Option V), qs = pre ++ post ∧ k = post.length ∧ σ = [some (.ref a), some (.ref g), some (.ref gl), some (nI (flat pre).length), v4, v5] ∧ B.g = g ∧ GOk CS CW CG H' B (stOf Cs14.start pre)
        ∧ H' gl = some (.lst ((PyFlat.told (ansOf Cs14.start pre)).map V.int)) ∧ Same H H' ∧ ∀ b, B.ft.f b → H b = none ∧ b ≠ gl, ⟨qs.length, [], qs, A, none, none, rfl, rfl, rfl, hAg, ok2, gl2, m12, fun b h => ⟨hf1 b h, ngl b h⟩⟩, ?_⟩
    rintro k σ H' ⟨pre, post, B, v4, v5, eq, rfl, rfl, hB, okB, glB, mB, fB⟩
    have hs' := SqL.same' hs mB
    refine ⟨_, rfl, _, rfl, a, _, rfl, .inl hs', _, _, rfl, rfl, _, rfl, ?_⟩
    rw [List.length_map]
    cases post with
    | nil =>
      rw [List.append_nil] at eq
      subst eq
      refine ifN (decide_eq_false (by omega)) ⟨_, rfl, ?_⟩
      rw [qans] at kq
      exact kq H' gl fgl glB mB
    | cons q post =>
      have ef : flat qs = flat pre ++ (fl1 q ++ flat post) := by rw [eq, flat_append]; rfl
      have l1 : (fl1 q).length = (encA q).length + 1 := rfl
      refine ifY (decide_eq_true ?_) ⟨_, fun σ' H'' n => n, ?_⟩
      · rw [ef, List.length_append, List.length_append]
        omega
      refine ⟨_, rfl, _, rfl, a, flat qs, flat pre, flat post, q, rfl, hs', ef, ?_⟩
      have e0 : ((flat qs).map V.int)[(flat pre).length + 0]? = some (nI (encP q)) := by rw [ef]; exact at_mid rfl
      refine ⟨_, rfl, _, rfl, _, rfl, a, _, _, _, rfl, rfl, hs', atI_nat e0, _, rfl, _, rfl, _, _, rfl, rfl, _, rfl, _, rfl, _, rfl, a, _, rfl, hs', fun l hl => ?_⟩
      have ec : cutV ((flat qs).map V.int) (some (((flat pre).length : Int) + 1)) (some (((flat pre).length + (fl1 q).length : Nat) : Int)) = (encA q).map V.int := by rw [ef]; exact cut_args _ _ _
      rw [ec]
      have ml := same_new (o := .lst ((encA q).map V.int)) hl
      have glL := ml _ _ glB
      have okL : GOk CS CW CG (upd H' l (.lst ((encA q).map V.int))) B (stOf Cs14.start pre) := ⟨okB.1.same ml, okB.2⟩
      have hlL : upd H' l (.lst ((encA q).map V.int)) l = some (.lst ((encA q).map V.int)) := upd_same
      have mL := mB.trans ml
      have fL : ∀ b, upd H' l (.lst ((encA q).map V.int)) b = none → H b = none := fun b e => mL.free e
      generalize upd H' l (.lst ((encA q).map V.int)) = H3 at glL okL hlL mL fL ⊢
      have qmem : q ∈ qs := by rw [eq]; exact List.mem_append_right _ List.mem_cons_self
      have pl : pre.length ≤ 60 := by
        rw [eq, List.length_append] at q60
        omega
      have pinv : PInv pre.length (stOf Cs14.start pre) := by
        have := stOf_ok pre Cs14.start 0 start_ok
        rw [Nat.zero_add] at this
        exact this
      refine ⟨B, _, q, l, congrArg (fun z => [V.ref z, _, _]) hB.symm, Nat.zero_le _, encP_le q, qsh q qmem, hlL, ⟨okL, ⟨pre.length, pl, pinv⟩, fun H4 B4 r hg4 ok4 st4 fr4 e4 => ?_⟩⟩
      have nm : ¬ B.ft.m gl := fun z => (fB gl (B.mf gl z)).2 rfl
      have nr : r ≠ gl := fun z => by
        rcases fr4 with y | y
        · exact nm (z ▸ y)
        · rw [z, glL] at y
          cases y
      have gl4 := st4.k _ _ glL nm
      have m4 : Same H H4 := fun b o e => st4.k b o (mL b o e) fun z => by
        rw [(fB b (B.mf b z)).1] at e
        cases e
      have f4 : ∀ b, B4.ft.f b → H b = none ∧ b ≠ gl := fun b h => by
        rcases st4.f b h with y | y
        · exact fB b y
        · exact ⟨fL b y, fun z => by rw [z, glL] at y; cases y⟩
      have et : PyFlat.told (ansOf Cs14.start (pre ++ [q])) = PyFlat.told (ansOf Cs14.start pre) ++ ((((Cs14.spec (stOf Cs14.start pre) q).2.length : Nat) : Int) :: (Cs14.spec (stOf Cs14.start pre) q).2) := by
        rw [ansOf_append, told_append]
        refine congrArg (fun z => _ ++ z) ?_
        show (((Cs14.spec (stOf Cs14.start pre) q).2.length : Int) :: (Cs14.spec (stOf Cs14.start pre) q).2) ++ [] = _
        rw [List.append_nil]
      have elen : (PyFlat.told (ansOf Cs14.start (pre ++ [q]))).length ≤ 10000000 := by
        rw [qans, eq, show pre ++ q :: post = (pre ++ [q]) ++ post by rw [List.append_assoc]; rfl, ansOf_append, told_append, List.length_append] at qlen
        omega
      rw [et, List.length_append, List.length_cons] at elen
      have big : ∀ n, n ≤ 10000000 → n < sizeLine := fun n h => Nat.lt_of_le_of_lt h (by decide)
      refine ⟨_, rfl, .inl ⟨rfl, _, SqL.of gl4⟩, _, rfl, r, _, rfl, .inl (SqL.of e4), gl, _, _, rfl, rfl, gl4, (by rw [List.length_map]; exact big _ (by omega)), ?_⟩
      refine ⟨_, rfl, .inl ⟨rfl, _, SqL.of upd_same⟩, _, rfl, gl, r, _, _, rfl, rfl, upd_same, (by rw [upd_ne nr]; exact e4), (by rw [List.length_append, List.length_map, List.length_map]; exact Nat.le_of_lt (big _ (by show _ + 1 + _ ≤ _; omega))), ?_⟩
      refine ⟨_, rfl, ?_⟩
      have k5 : Kp (S1 gl) H4 (upd (upd H4 gl (.lst ((PyFlat.told (ansOf Cs14.start pre)).map V.int ++ [.int (((Cs14.spec (stOf Cs14.start pre) q).2.map V.int).length)]))) gl (.lst ((PyFlat.told (ansOf Cs14.start pre)).map V.int ++ [.int (((Cs14.spec (stOf Cs14.start pre) q).2.map V.int).length)] ++ (Cs14.spec (stOf Cs14.start pre) q).2.map V.int)))          := Kp.upd (S := S1 gl) (Kp.upd (S := S1 gl) Kp.refl rfl) rfl
      refine ⟨post.length, Nat.lt_succ_self _, pre ++ [q], post, B4, some (nI ((flat pre).length + (fl1 q).length)), some (.ref r), ?_, rfl, ?_, hg4.trans hB, ⟨ok4.1.fr k5 fun b h => (f4 b h).2, ?_⟩, ?_, fun b o e => k5 b o (m4 b o e) fun z => ?_, f4⟩
      · rw [eq, List.append_assoc]
        rfl
      · rw [flat_append]
        show _ = [_, _, _, some (nI (flat pre ++ (fl1 q ++ [])).length), _, _]
        rw [List.append_nil, List.length_append]
        rfl
      · rw [stOf_append]
        exact ok4.2
      · rw [upd_same, et, List.map_append, List.map_cons, List.length_map, List.append_assoc]
        rfl
      · rw [show b = gl from z, fgl] at e
        cases e
end
end TP
namespace TP
open PySem PySem.Spec PyProof.Rows L2
/-! # The end -/
theorem all_mk {P : Program} {w : World} {K : PySem.W.Frag} {h : Heap} {mg : Str → Option Value} {fa CM CS CW CG tc f0 f1 f2 f3 f4 f5 f6 f7 f8 f9 f10 f11 f12 f13 f14 f15 f16 f17 f18 f19 f20 f21 f22 f23 f24 f25 f26 f27 f28 f29 f30 f31 f32 f33 f34 f35 f36 f37 f38 f39 f40 f41 f42 f43 f44 f45 f46 f47 f48 f49 f50 f51 f52 f53 f54 f55 f56 f57 f58 f59 f60 f61 f62 f63 f64 f65 f66 f67 : Addr} (X : K.In h) (G : h.Ns mainGlobals mg) (hfa : mg "answers" = some (.ref fa))
    {odT od0 an0 od1 an1 od2 an2 od3 an3 od4 an4 od5 an5 od6 an6 od7 an7 od8 an8 od9 an9 od10 an10 od11 an11 od12 an12 od13 an13 od14 an14 od15 an15 od16 an16 od17 an17 od18 an18 od19 an19 od20 an20 od21 an21 od22 an22 od23 an23 od24 an24 od25 an25 od26 an26 od27 an27 od28 an28 od29 an29 od30 an30 od31 an31 od32 an32 od33 an33 od34 an34 od35 an35 od36 an36 od37 an37 od38 an38 od39 an39 od40 an40 od41 an41 od42 an42 od43 an43 od44 an44 od45 an45 od46 an46 od47 an47 od48 an48 od49 an49 od50 an50 od51 an51 od52 an52 od53 an53 od54 an54 od55 an55 od56 an56 od57 an57 od58 an58 od59 an59 od60 an60 od61 an61 od62 an62 od63 an63 od64 an64 od65 an65 od66 an66 od67 an67 : Option Addr} {slT sl0 sl1 sl2 sl3 sl4 sl5 sl6 sl7 sl8 sl9 sl10 sl11 sl12 sl13 sl14 sl15 sl16 sl17 sl18 sl19 sl20 sl21 sl22 sl23 sl24 sl25 sl26 sl27 sl28 sl29 sl30 sl31 sl32 sl33 sl34 sl35 sl36 sl37 sl38 sl39 sl40 sl41 sl42 sl43 sl44 sl45 sl46 sl47 sl48 sl49 sl50 sl51 sl52 sl53 sl54 sl55 sl56 sl57 sl58 sl59 sl60 sl61 sl62 sl63 sl64 sl65 sl66 sl67 : Array (Option Value)} {nT : Nat} {u0 u1 u2 u3 u4 u5 u6 u7 u8 u9 u10 u11 u12 u13 u14 u15 t_PLACES t_PAD_PLACE t_MOST_INSTRUCTIONS t_REST t_FIRST_BYTE t_LETTER_SIDE t_LETTER_FIRST t_LETTER_KNOWN t_LETTER_PADS t_MOST_PADS_TOLD t_MOST_DELAY t_MOST_AHEAD t_MOST_BYTES t_MOST_BYTE t_NOT_AS_TOLD t_NO_SUCH_LETTER t_NO_SUCH_FRAME t_NO_ROOM t_TOO_FAR_AHEAD t_MOST_FRAMES t_MOST_PAD t_MOST_LETTERS t_MOST_FAULTS t_BEGIN t_FRAME t_SEND t_HAND t_LOSE t_NET t_NOW t_SETTLED t_STATE t_PADS t_FAULT t_WATCH t_FILM t_DIFFER t_BOTH : Tok} {oc0 kV0 dc0 pm0 cd0 ct0 oc1 kV1 dc1 pm1 cd1 ct1 oc2 kV2 dc2 pm2 cd2 ct2 oc3 kV3 dc3 pm3 cd3 ct3 oc4 kV4 dc4 pm4 cd4 ct4 oc5 kV5 dc5 pm5 cd5 ct5 oc6 kV6 dc6 pm6 cd6 ct6 oc7 kV7 dc7 pm7 cd7 ct7 oc8 kV8 dc8 pm8 cd8 ct8 oc9 kV9 dc9 pm9 cd9 ct9 oc10 kV10 dc10 pm10 cd10 ct10 oc11 kV11 dc11 pm11 cd11 ct11 oc12 kV12 dc12 pm12 cd12 ct12 oc13 kV13 dc13 pm13 cd13 ct13 oc14 kV14 dc14 pm14 cd14 ct14 oc15 kV15 dc15 pm15 cd15 ct15 oc16 kV16 dc16 pm16 cd16 ct16 oc17 kV17 dc17 pm17 cd17 ct17 oc18 kV18 dc18 pm18 cd18 ct18 oc19 kV19 dc19 pm19 cd19 ct19 oc20 kV20 dc20 pm20 cd20 ct20 oc21 kV21 dc21 pm21 cd21 ct21 oc22 kV22 dc22 pm22 cd22 ct22 oc23 kV23 dc23 pm23 cd23 ct23 oc24 kV24 dc24 pm24 cd24 ct24 oc25 kV25 dc25 pm25 cd25 ct25 oc26 kV26 dc26 pm26 cd26 ct26 oc27 kV27 dc27 pm27 cd27 ct27 oc28 kV28 dc28 pm28 cd28 ct28 oc29 kV29 dc29 pm29 cd29 ct29 oc30 kV30 dc30 pm30 cd30 ct30 oc31 kV31 dc31 pm31 cd31 ct31 oc32 kV32 dc32 pm32 cd32 ct32 oc33 kV33 dc33 pm33 cd33 ct33 oc34 kV34 dc34 pm34 cd34 ct34 oc35 kV35 dc35 pm35 cd35 ct35 oc36 kV36 dc36 pm36 cd36 ct36 oc37 kV37 dc37 pm37 cd37 ct37 oc38 kV38 dc38 pm38 cd38 ct38 oc39 kV39 dc39 pm39 cd39 ct39 oc40 kV40 dc40 pm40 cd40 ct40 oc41 kV41 dc41 pm41 cd41 ct41 oc42 kV42 dc42 pm42 cd42 ct42 oc43 kV43 dc43 pm43 cd43 ct43 oc44 kV44 dc44 pm44 cd44 ct44 oc45 kV45 dc45 pm45 cd45 ct45 oc46 kV46 dc46 pm46 cd46 ct46 oc47 kV47 dc47 pm47 cd47 ct47 oc48 kV48 dc48 pm48 cd48 ct48 oc49 kV49 dc49 pm49 cd49 ct49 oc50 kV50 dc50 pm50 cd50 ct50 oc51 kV51 dc51 pm51 cd51 ct51 oc52 kV52 dc52 pm52 cd52 ct52 oc53 kV53 dc53 pm53 cd53 ct53 oc54 kV54 dc54 pm54 cd54 ct54 oc55 kV55 dc55 pm55 cd55 ct55 oc56 kV56 dc56 pm56 cd56 ct56 oc57 kV57 dc57 pm57 cd57 ct57 oc58 kV58 dc58 pm58 cd58 ct58 oc59 kV59 dc59 pm59 cd59 ct59 oc60 kV60 dc60 pm60 cd60 ct60 oc61 kV61 dc61 pm61 cd61 ct61 oc62 kV62 dc62 pm62 cd62 ct62 oc63 kV63 dc63 pm63 cd63 ct63 oc64 kV64 dc64 pm64 cd64 ct64 oc65 kV65 dc65 pm65 cd65 ct65 oc66 kV66 dc66 pm66 cd66 ct66 oc67 kV67 dc67 pm67 cd67 ct67 : Value}
    (aCCM : PySem.W.nsIn K mainGlobals "Machine" = some (some (.ref CM)))
    (pgCM : PySem.W.plainGet K CM Str.empty = true)
    (hdCM : PySem.W.hasDictIn K CM = true)
    (poCM : PySem.W.plainOver K CM = true)
    (saCM : PySem.W.findIn K (.ref CM) "__setattr__" = some (some (.builtin "object.__setattr__")))
    (mkCM : PySem.W.makesIn K CM = true)
    (kcCM : PySem.W.keepIn K (.ref CM) = true)
    (aCCS : PySem.W.nsIn K mainGlobals "Side" = some (some (.ref CS)))
    (pgCS : PySem.W.plainGet K CS Str.empty = true)
    (hdCS : PySem.W.hasDictIn K CS = true)
    (poCS : PySem.W.plainOver K CS = true)
    (saCS : PySem.W.findIn K (.ref CS) "__setattr__" = some (some (.builtin "object.__setattr__")))
    (mkCS : PySem.W.makesIn K CS = true)
    (kcCS : PySem.W.keepIn K (.ref CS) = true)
    (aCCW : PySem.W.nsIn K mainGlobals "Watcher" = some (some (.ref CW)))
    (pgCW : PySem.W.plainGet K CW Str.empty = true)
    (hdCW : PySem.W.hasDictIn K CW = true)
    (poCW : PySem.W.plainOver K CW = true)
    (saCW : PySem.W.findIn K (.ref CW) "__setattr__" = some (some (.builtin "object.__setattr__")))
    (mkCW : PySem.W.makesIn K CW = true)
    (kcCW : PySem.W.keepIn K (.ref CW) = true)
    (aCCG : PySem.W.nsIn K mainGlobals "Game" = some (some (.ref CG)))
    (pgCG : PySem.W.plainGet K CG Str.empty = true)
    (hdCG : PySem.W.hasDictIn K CG = true)
    (poCG : PySem.W.plainOver K CG = true)
    (saCG : PySem.W.findIn K (.ref CG) "__setattr__" = some (some (.builtin "object.__setattr__")))
    (mkCG : PySem.W.makesIn K CG = true)
    (kcCG : PySem.W.keepIn K (.ref CG) = true)
    (nCM_a : PySem.W.findIn K (.ref CM) "a" = some none)
    (nCM_x : PySem.W.findIn K (.ref CM) "x" = some none)
    (nCM_place : PySem.W.findIn K (.ref CM) "place" = some none)
    (nCM_z : PySem.W.findIn K (.ref CM) "z" = some none)
    (nCM_c : PySem.W.findIn K (.ref CM) "c" = some none)
    (nCM_memory : PySem.W.findIn K (.ref CM) "memory" = some none)
    (g_PLACES : PySem.W.nsIn K mainGlobals "PLACES" = some (some (.int 128 t_PLACES)))
    (g_PAD_PLACE : PySem.W.nsIn K mainGlobals "PAD_PLACE" = some (some (.int 127 t_PAD_PLACE)))
    (g_MOST_INSTRUCTIONS : PySem.W.nsIn K mainGlobals "MOST_INSTRUCTIONS" = some (some (.int 300 t_MOST_INSTRUCTIONS)))
    (g_REST : PySem.W.nsIn K mainGlobals "REST" = some (some (.int 0 t_REST)))
    (g_FIRST_BYTE : PySem.W.nsIn K mainGlobals "FIRST_BYTE" = some (some (.int 5 t_FIRST_BYTE)))
    (b_len : PySem.W.nsIn K mainGlobals "len" = some none)
    (g_LETTER_SIDE : PySem.W.nsIn K mainGlobals "LETTER_SIDE" = some (some (.int 0 t_LETTER_SIDE)))
    (g_LETTER_FIRST : PySem.W.nsIn K mainGlobals "LETTER_FIRST" = some (some (.int 1 t_LETTER_FIRST)))
    (g_LETTER_KNOWN : PySem.W.nsIn K mainGlobals "LETTER_KNOWN" = some (some (.int 2 t_LETTER_KNOWN)))
    (g_LETTER_PADS : PySem.W.nsIn K mainGlobals "LETTER_PADS" = some (some (.int 4 t_LETTER_PADS)))
    (b_range : PySem.W.nsIn K mainGlobals "range" = some none)
    (b_enumerate : PySem.W.nsIn K mainGlobals "enumerate" = some none)
    (nCS_number : PySem.W.findIn K (.ref CS) "number" = some none)
    (nCS_own : PySem.W.findIn K (.ref CS) "own" = some none)
    (nCS_known : PySem.W.findIn K (.ref CS) "known" = some none)
    (nCS_reached : PySem.W.findIn K (.ref CS) "reached" = some none)
    (nCS_used : PySem.W.findIn K (.ref CS) "used" = some none)
    (nCS_states : PySem.W.findIn K (.ref CS) "states" = some none)
    (nCS_faults : PySem.W.findIn K (.ref CS) "faults" = some none)
    (nCS_run_in_all : PySem.W.findIn K (.ref CS) "run_in_all" = some none)
    (g_MOST_PADS_TOLD : PySem.W.nsIn K mainGlobals "MOST_PADS_TOLD" = some (some (.int 6 t_MOST_PADS_TOLD)))
    (b_min : PySem.W.nsIn K mainGlobals "min" = some none)
    (b_max : PySem.W.nsIn K mainGlobals "max" = some none)
    (b_list : PySem.W.nsIn K mainGlobals "list" = some none)
    (nCW_told : PySem.W.findIn K (.ref CW) "told" = some none)
    (nCW_seen : PySem.W.findIn K (.ref CW) "seen" = some none)
    (nCW_states : PySem.W.findIn K (.ref CW) "states" = some none)
    (g_MOST_DELAY : PySem.W.nsIn K mainGlobals "MOST_DELAY" = some (some (.int 6 t_MOST_DELAY)))
    (g_MOST_AHEAD : PySem.W.nsIn K mainGlobals "MOST_AHEAD" = some (some (.int 10 t_MOST_AHEAD)))
    (g_MOST_BYTES : PySem.W.nsIn K mainGlobals "MOST_BYTES" = some (some (.int 128 t_MOST_BYTES)))
    (g_MOST_BYTE : PySem.W.nsIn K mainGlobals "MOST_BYTE" = some (some (.int 255 t_MOST_BYTE)))
    (b_all : PySem.W.nsIn K mainGlobals "all" = some none)
    (nCG_ahead : PySem.W.findIn K (.ref CG) "ahead" = some none)
    (nCG_sides : PySem.W.findIn K (.ref CG) "sides" = some none)
    (nCG_letters : PySem.W.findIn K (.ref CG) "letters" = some none)
    (nCG_watcher : PySem.W.findIn K (.ref CG) "watcher" = some none)
    (g_NOT_AS_TOLD : PySem.W.nsIn K mainGlobals "NOT_AS_TOLD" = some (some (.int (-1) t_NOT_AS_TOLD)))
    (g_NO_SUCH_LETTER : PySem.W.nsIn K mainGlobals "NO_SUCH_LETTER" = some (some (.int (-2) t_NO_SUCH_LETTER)))
    (g_NO_SUCH_FRAME : PySem.W.nsIn K mainGlobals "NO_SUCH_FRAME" = some (some (.int (-3) t_NO_SUCH_FRAME)))
    (g_NO_ROOM : PySem.W.nsIn K mainGlobals "NO_ROOM" = some (some (.int (-5) t_NO_ROOM)))
    (g_TOO_FAR_AHEAD : PySem.W.nsIn K mainGlobals "TOO_FAR_AHEAD" = some (some (.int (-6) t_TOO_FAR_AHEAD)))
    (g_MOST_FRAMES : PySem.W.nsIn K mainGlobals "MOST_FRAMES" = some (some (.int 100 t_MOST_FRAMES)))
    (g_MOST_PAD : PySem.W.nsIn K mainGlobals "MOST_PAD" = some (some (.int 15 t_MOST_PAD)))
    (g_MOST_LETTERS : PySem.W.nsIn K mainGlobals "MOST_LETTERS" = some (some (.int 30 t_MOST_LETTERS)))
    (g_MOST_FAULTS : PySem.W.nsIn K mainGlobals "MOST_FAULTS" = some (some (.int 10 t_MOST_FAULTS)))
    (g_BEGIN : PySem.W.nsIn K mainGlobals "BEGIN" = some (some (.int 0 t_BEGIN)))
    (g_FRAME : PySem.W.nsIn K mainGlobals "FRAME" = some (some (.int 1 t_FRAME)))
    (g_SEND : PySem.W.nsIn K mainGlobals "SEND" = some (some (.int 2 t_SEND)))
    (g_HAND : PySem.W.nsIn K mainGlobals "HAND" = some (some (.int 3 t_HAND)))
    (g_LOSE : PySem.W.nsIn K mainGlobals "LOSE" = some (some (.int 4 t_LOSE)))
    (g_NET : PySem.W.nsIn K mainGlobals "NET" = some (some (.int 5 t_NET)))
    (g_NOW : PySem.W.nsIn K mainGlobals "NOW" = some (some (.int 6 t_NOW)))
    (g_SETTLED : PySem.W.nsIn K mainGlobals "SETTLED" = some (some (.int 7 t_SETTLED)))
    (g_STATE : PySem.W.nsIn K mainGlobals "STATE" = some (some (.int 8 t_STATE)))
    (g_PADS : PySem.W.nsIn K mainGlobals "PADS" = some (some (.int 9 t_PADS)))
    (g_FAULT : PySem.W.nsIn K mainGlobals "FAULT" = some (some (.int 10 t_FAULT)))
    (g_WATCH : PySem.W.nsIn K mainGlobals "WATCH" = some (some (.int 11 t_WATCH)))
    (g_FILM : PySem.W.nsIn K mainGlobals "FILM" = some (some (.int 12 t_FILM)))
    (g_DIFFER : PySem.W.nsIn K mainGlobals "DIFFER" = some (some (.int 13 t_DIFFER)))
    (g_BOTH : PySem.W.nsIn K mainGlobals "BOTH" = some (some (.int 14 t_BOTH)))
    (g_NUMBERS_OF_CALL : PySem.W.nsIn K mainGlobals "NUMBERS_OF_CALL" = some (some (.ref tc)))
    (lT : K.lookup tc = some ⟨.type "tuple", odT, .seq #[.int 3 u0, .int 2 u1, .int 1 u2, .int 2 u3, .int 1 u4, .int 0 u5, .int 1 u6, .int 1 u7, .int 2 u8, .int 2 u9, .int 3 u10, .int 1 u11, .int 0 u12, .int 1 u13, .int 0 u14, .int 1 u15] nT, slT⟩)
    (a0 : PySem.W.findIn K (.ref CM) "byte_at" = some (some (.ref f0)))
    (i0 : PySem.W.isFn K (.ref f0) = true)
    (l0 : K.lookup f0 = some ⟨oc0, od0, .func (PySem.W.fnOf "byte_at" "Machine.byte_at" (defArgs s_Machine_byte_at) (defBody s_Machine_byte_at) (defScope s_Machine_byte_at) .none kV0 dc0 pm0 an0 cd0 ct0), sl0⟩)
    (c0 : PySem.W.codeIn K cd0 "Machine.byte_at" = true)
    (k0 : PySem.W.keepIn K (.ref f0) = true)
    (a1 : PySem.W.findIn K (.ref CM) "put_byte" = some (some (.ref f1)))
    (i1 : PySem.W.isFn K (.ref f1) = true)
    (l1 : K.lookup f1 = some ⟨oc1, od1, .func (PySem.W.fnOf "put_byte" "Machine.put_byte" (defArgs s_Machine_put_byte) (defBody s_Machine_put_byte) (defScope s_Machine_put_byte) .none kV1 dc1 pm1 an1 cd1 ct1), sl1⟩)
    (c1 : PySem.W.codeIn K cd1 "Machine.put_byte" = true)
    (k1 : PySem.W.keepIn K (.ref f1) = true)
    (a2 : PySem.W.findIn K (.ref CM) "put_a" = some (some (.ref f2)))
    (i2 : PySem.W.isFn K (.ref f2) = true)
    (l2 : K.lookup f2 = some ⟨oc2, od2, .func (PySem.W.fnOf "put_a" "Machine.put_a" (defArgs s_Machine_put_a) (defBody s_Machine_put_a) (defScope s_Machine_put_a) .none kV2 dc2 pm2 an2 cd2 ct2), sl2⟩)
    (c2 : PySem.W.codeIn K cd2 "Machine.put_a" = true)
    (k2 : PySem.W.keepIn K (.ref f2) = true)
    (a3 : PySem.W.findIn K (.ref CM) "put_x" = some (some (.ref f3)))
    (i3 : PySem.W.isFn K (.ref f3) = true)
    (l3 : K.lookup f3 = some ⟨oc3, od3, .func (PySem.W.fnOf "put_x" "Machine.put_x" (defArgs s_Machine_put_x) (defBody s_Machine_put_x) (defScope s_Machine_put_x) .none kV3 dc3 pm3 an3 cd3 ct3), sl3⟩)
    (c3 : PySem.W.codeIn K cd3 "Machine.put_x" = true)
    (k3 : PySem.W.keepIn K (.ref f3) = true)
    (a4 : PySem.W.findIn K (.ref CM) "jump" = some (some (.ref f4)))
    (i4 : PySem.W.isFn K (.ref f4) = true)
    (l4 : K.lookup f4 = some ⟨oc4, od4, .func (PySem.W.fnOf "jump" "Machine.jump" (defArgs s_Machine_jump) (defBody s_Machine_jump) (defScope s_Machine_jump) .none kV4 dc4 pm4 an4 cd4 ct4), sl4⟩)
    (c4 : PySem.W.codeIn K cd4 "Machine.jump" = true)
    (k4 : PySem.W.keepIn K (.ref f4) = true)
    (a5 : PySem.W.findIn K (.ref CM) "numbers" = some (some (.ref f5)))
    (i5 : PySem.W.isFn K (.ref f5) = true)
    (l5 : K.lookup f5 = some ⟨oc5, od5, .func (PySem.W.fnOf "numbers" "Machine.numbers" (defArgs s_Machine_numbers) (defBody s_Machine_numbers) (defScope s_Machine_numbers) .none kV5 dc5 pm5 an5 cd5 ct5), sl5⟩)
    (c5 : PySem.W.codeIn K cd5 "Machine.numbers" = true)
    (k5 : PySem.W.keepIn K (.ref f5) = true)
    (a6 : PySem.W.findIn K (.ref CM) "__init__" = some (some (.ref f6)))
    (i6 : PySem.W.isFn K (.ref f6) = true)
    (l6 : K.lookup f6 = some ⟨oc6, od6, .func (PySem.W.fnOf "__init__" "Machine.__init__" (defArgs s_Machine_init) (defBody s_Machine_init) (defScope s_Machine_init) .none kV6 dc6 pm6 an6 cd6 ct6), sl6⟩)
    (c6 : PySem.W.codeIn K cd6 "Machine.__init__" = true)
    (k6 : PySem.W.keepIn K (.ref f6) = true)
    (a7 : PySem.W.nsIn K mainGlobals "loaded" = some (some (.ref f7)))
    (l7 : K.lookup f7 = some ⟨oc7, od7, .func (PySem.W.fnOf "loaded" "loaded" (defArgs s_loaded) (defBody s_loaded) (defScope s_loaded) .none kV7 dc7 pm7 an7 cd7 ct7), sl7⟩)
    (c7 : PySem.W.codeIn K cd7 "loaded" = true)
    (k7 : PySem.W.keepIn K (.ref f7) = true)
    (a8 : PySem.W.nsIn K mainGlobals "mark" = some (some (.ref f8)))
    (l8 : K.lookup f8 = some ⟨oc8, od8, .func (PySem.W.fnOf "mark" "mark" (defArgs s_mark) (defBody s_mark) (defScope s_mark) .none kV8 dc8 pm8 an8 cd8 ct8), sl8⟩)
    (c8 : PySem.W.codeIn K cd8 "mark" = true)
    (k8 : PySem.W.keepIn K (.ref f8) = true)
    (a9 : PySem.W.nsIn K mainGlobals "known_at_first" = some (some (.ref f9)))
    (l9 : K.lookup f9 = some ⟨oc9, od9, .func (PySem.W.fnOf "known_at_first" "known_at_first" (defArgs s_known_at_first) (defBody s_known_at_first) (defScope s_known_at_first) .none kV9 dc9 pm9 an9 cd9 ct9), sl9⟩)
    (c9 : PySem.W.codeIn K cd9 "known_at_first" = true)
    (k9 : PySem.W.keepIn K (.ref f9) = true)
    (a10 : PySem.W.nsIn K mainGlobals "together" = some (some (.ref f10)))
    (l10 : K.lookup f10 = some ⟨oc10, od10, .func (PySem.W.fnOf "together" "together" (defArgs s_together) (defBody s_together) (defScope s_together) .none kV10 dc10 pm10 an10 cd10 ct10), sl10⟩)
    (c10 : PySem.W.codeIn K cd10 "together" = true)
    (k10 : PySem.W.keepIn K (.ref f10) = true)
    (a11 : PySem.W.nsIn K mainGlobals "without_gap" = some (some (.ref f11)))
    (l11 : K.lookup f11 = some ⟨oc11, od11, .func (PySem.W.fnOf "without_gap" "without_gap" (defArgs s_without_gap) (defBody s_without_gap) (defScope s_without_gap) .none kV11 dc11 pm11 an11 cd11 ct11), sl11⟩)
    (c11 : PySem.W.codeIn K cd11 "without_gap" = true)
    (k11 : PySem.W.keepIn K (.ref f11) = true)
    (a12 : PySem.W.nsIn K mainGlobals "learn" = some (some (.ref f12)))
    (l12 : K.lookup f12 = some ⟨oc12, od12, .func (PySem.W.fnOf "learn" "learn" (defArgs s_learn) (defBody s_learn) (defScope s_learn) .none kV12 dc12 pm12 an12 cd12 ct12), sl12⟩)
    (c12 : PySem.W.codeIn K cd12 "learn" = true)
    (k12 : PySem.W.keepIn K (.ref f12) = true)
    (a13 : PySem.W.findIn K (.ref CS) "frames_run" = some (some (.ref f13)))
    (i13 : PySem.W.isFn K (.ref f13) = true)
    (l13 : K.lookup f13 = some ⟨oc13, od13, .func (PySem.W.fnOf "frames_run" "Side.frames_run" (defArgs s_Side_frames_run) (defBody s_Side_frames_run) (defScope s_Side_frames_run) .none kV13 dc13 pm13 an13 cd13 ct13), sl13⟩)
    (c13 : PySem.W.codeIn K cd13 "Side.frames_run" = true)
    (k13 : PySem.W.keepIn K (.ref f13) = true)
    (a14 : PySem.W.findIn K (.ref CS) "tell_pad" = some (some (.ref f14)))
    (i14 : PySem.W.isFn K (.ref f14) = true)
    (l14 : K.lookup f14 = some ⟨oc14, od14, .func (PySem.W.fnOf "tell_pad" "Side.tell_pad" (defArgs s_Side_tell_pad) (defBody s_Side_tell_pad) (defScope s_Side_tell_pad) .none kV14 dc14 pm14 an14 cd14 ct14), sl14⟩)
    (c14 : PySem.W.codeIn K cd14 "Side.tell_pad" = true)
    (k14 : PySem.W.keepIn K (.ref f14) = true)
    (a15 : PySem.W.findIn K (.ref CS) "is_guess" = some (some (.ref f15)))
    (i15 : PySem.W.isFn K (.ref f15) = true)
    (l15 : K.lookup f15 = some ⟨oc15, od15, .func (PySem.W.fnOf "is_guess" "Side.is_guess" (defArgs s_Side_is_guess) (defBody s_Side_is_guess) (defScope s_Side_is_guess) .none kV15 dc15 pm15 an15 cd15 ct15), sl15⟩)
    (c15 : PySem.W.codeIn K cd15 "Side.is_guess" = true)
    (k15 : PySem.W.keepIn K (.ref f15) = true)
    (a16 : PySem.W.findIn K (.ref CS) "others_pad" = some (some (.ref f16)))
    (i16 : PySem.W.isFn K (.ref f16) = true)
    (l16 : K.lookup f16 = some ⟨oc16, od16, .func (PySem.W.fnOf "others_pad" "Side.others_pad" (defArgs s_Side_others_pad) (defBody s_Side_others_pad) (defScope s_Side_others_pad) .none kV16 dc16 pm16 an16 cd16 ct16), sl16⟩)
    (c16 : PySem.W.codeIn K cd16 "Side.others_pad" = true)
    (k16 : PySem.W.keepIn K (.ref f16) = true)
    (a17 : PySem.W.findIn K (.ref CS) "state_with_faults" = some (some (.ref f17)))
    (i17 : PySem.W.isFn K (.ref f17) = true)
    (l17 : K.lookup f17 = some ⟨oc17, od17, .func (PySem.W.fnOf "state_with_faults" "Side.state_with_faults" (defArgs s_Side_state_with_faults) (defBody s_Side_state_with_faults) (defScope s_Side_state_with_faults) .none kV17 dc17 pm17 an17 cd17 ct17), sl17⟩)
    (c17 : PySem.W.codeIn K cd17 "Side.state_with_faults" = true)
    (k17 : PySem.W.keepIn K (.ref f17) = true)
    (a18 : PySem.W.nsIn K mainGlobals "within" = some (some (.ref f18)))
    (l18 : K.lookup f18 = some ⟨oc18, od18, .func (PySem.W.fnOf "within" "within" (defArgs s_within) (defBody s_within) (defScope s_within) .none kV18 dc18 pm18 an18 cd18 ct18), sl18⟩)
    (c18 : PySem.W.codeIn K cd18 "within" = true)
    (k18 : PySem.W.keepIn K (.ref f18) = true)
    (a19 : PySem.W.nsIn K mainGlobals "apart" = some (some (.ref f19)))
    (l19 : K.lookup f19 = some ⟨oc19, od19, .func (PySem.W.fnOf "apart" "apart" (defArgs s_apart) (defBody s_apart) (defScope s_apart) .none kV19 dc19 pm19 an19 cd19 ct19), sl19⟩)
    (c19 : PySem.W.codeIn K cd19 "apart" = true)
    (k19 : PySem.W.keepIn K (.ref f19) = true)
    (a20 : PySem.W.findIn K (.ref CG) "film" = some (some (.ref f20)))
    (i20 : PySem.W.isFn K (.ref f20) = true)
    (l20 : K.lookup f20 = some ⟨oc20, od20, .func (PySem.W.fnOf "film" "Game.film" (defArgs s_Game_film) (defBody s_Game_film) (defScope s_Game_film) .none kV20 dc20 pm20 an20 cd20 ct20), sl20⟩)
    (c20 : PySem.W.codeIn K cd20 "Game.film" = true)
    (k20 : PySem.W.keepIn K (.ref f20) = true)
    (a21 : PySem.W.findIn K (.ref CG) "net" = some (some (.ref f21)))
    (i21 : PySem.W.isFn K (.ref f21) = true)
    (l21 : K.lookup f21 = some ⟨oc21, od21, .func (PySem.W.fnOf "net" "Game.net" (defArgs s_Game_net) (defBody s_Game_net) (defScope s_Game_net) .none kV21 dc21 pm21 an21 cd21 ct21), sl21⟩)
    (c21 : PySem.W.codeIn K cd21 "Game.net" = true)
    (k21 : PySem.W.keepIn K (.ref f21) = true)
    (a22 : PySem.W.nsIn K mainGlobals "call_end" = some (some (.ref f22)))
    (l22 : K.lookup f22 = some ⟨oc22, od22, .func (PySem.W.fnOf "call_end" "call_end" (defArgs s_call_end) (defBody s_call_end) (defScope s_call_end) .none kV22 dc22 pm22 an22 cd22 ct22), sl22⟩)
    (c22 : PySem.W.codeIn K cd22 "call_end" = true)
    (k22 : PySem.W.keepIn K (.ref f22) = true)
    (a23 : PySem.W.findIn K (.ref CM) "move" = some (some (.ref f23)))
    (i23 : PySem.W.isFn K (.ref f23) = true)
    (l23 : K.lookup f23 = some ⟨oc23, od23, .func (PySem.W.fnOf "move" "Machine.move" (defArgs s_Machine_move) (defBody s_Machine_move) (defScope s_Machine_move) .none kV23 dc23 pm23 an23 cd23 ct23), sl23⟩)
    (c23 : PySem.W.codeIn K cd23 "Machine.move" = true)
    (k23 : PySem.W.keepIn K (.ref f23) = true)
    (a24 : PySem.W.findIn K (.ref CM) "change_x" = some (some (.ref f24)))
    (i24 : PySem.W.isFn K (.ref f24) = true)
    (l24 : K.lookup f24 = some ⟨oc24, od24, .func (PySem.W.fnOf "change_x" "Machine.change_x" (defArgs s_Machine_change_x) (defBody s_Machine_change_x) (defScope s_Machine_change_x) .none kV24 dc24 pm24 an24 cd24 ct24), sl24⟩)
    (c24 : PySem.W.codeIn K cd24 "Machine.change_x" = true)
    (k24 : PySem.W.keepIn K (.ref f24) = true)
    (a25 : PySem.W.findIn K (.ref CM) "reckon" = some (some (.ref f25)))
    (i25 : PySem.W.isFn K (.ref f25) = true)
    (l25 : K.lookup f25 = some ⟨oc25, od25, .func (PySem.W.fnOf "reckon" "Machine.reckon" (defArgs s_Machine_reckon) (defBody s_Machine_reckon) (defScope s_Machine_reckon) .none kV25 dc25 pm25 an25 cd25 ct25), sl25⟩)
    (c25 : PySem.W.codeIn K cd25 "Machine.reckon" = true)
    (k25 : PySem.W.keepIn K (.ref f25) = true)
    (a26 : PySem.W.findIn K (.ref CS) "frames_known" = some (some (.ref f26)))
    (i26 : PySem.W.isFn K (.ref f26) = true)
    (l26 : K.lookup f26 = some ⟨oc26, od26, .func (PySem.W.fnOf "frames_known" "Side.frames_known" (defArgs s_Side_frames_known) (defBody s_Side_frames_known) (defScope s_Side_frames_known) .none kV26 dc26 pm26 an26 cd26 ct26), sl26⟩)
    (c26 : PySem.W.codeIn K cd26 "Side.frames_known" = true)
    (k26 : PySem.W.keepIn K (.ref f26) = true)
    (a27 : PySem.W.findIn K (.ref CS) "mark_ahead" = some (some (.ref f27)))
    (i27 : PySem.W.isFn K (.ref f27) = true)
    (l27 : K.lookup f27 = some ⟨oc27, od27, .func (PySem.W.fnOf "mark_ahead" "Side.mark_ahead" (defArgs s_Side_mark_ahead) (defBody s_Side_mark_ahead) (defScope s_Side_mark_ahead) .none kV27 dc27 pm27 an27 cd27 ct27), sl27⟩)
    (c27 : PySem.W.codeIn K cd27 "Side.mark_ahead" = true)
    (k27 : PySem.W.keepIn K (.ref f27) = true)
    (a28 : PySem.W.findIn K (.ref CS) "tell_fault" = some (some (.ref f28)))
    (i28 : PySem.W.isFn K (.ref f28) = true)
    (l28 : K.lookup f28 = some ⟨oc28, od28, .func (PySem.W.fnOf "tell_fault" "Side.tell_fault" (defArgs s_Side_tell_fault) (defBody s_Side_tell_fault) (defScope s_Side_tell_fault) .none kV28 dc28 pm28 an28 cd28 ct28), sl28⟩)
    (c28 : PySem.W.codeIn K cd28 "Side.tell_fault" = true)
    (k28 : PySem.W.keepIn K (.ref f28) = true)
    (a29 : PySem.W.findIn K (.ref CS) "pads_together" = some (some (.ref f29)))
    (i29 : PySem.W.isFn K (.ref f29) = true)
    (l29 : K.lookup f29 = some ⟨oc29, od29, .func (PySem.W.fnOf "pads_together" "Side.pads_together" (defArgs s_Side_pads_together) (defBody s_Side_pads_together) (defScope s_Side_pads_together) .none kV29 dc29 pm29 an29 cd29 ct29), sl29⟩)
    (c29 : PySem.W.codeIn K cd29 "Side.pads_together" = true)
    (k29 : PySem.W.keepIn K (.ref f29) = true)
    (a30 : PySem.W.findIn K (.ref CS) "first_wrong" = some (some (.ref f30)))
    (i30 : PySem.W.isFn K (.ref f30) = true)
    (l30 : K.lookup f30 = some ⟨oc30, od30, .func (PySem.W.fnOf "first_wrong" "Side.first_wrong" (defArgs s_Side_first_wrong) (defBody s_Side_first_wrong) (defScope s_Side_first_wrong) .none kV30 dc30 pm30 an30 cd30 ct30), sl30⟩)
    (c30 : PySem.W.codeIn K cd30 "Side.first_wrong" = true)
    (k30 : PySem.W.keepIn K (.ref f30) = true)
    (a31 : PySem.W.findIn K (.ref CS) "__init__" = some (some (.ref f31)))
    (i31 : PySem.W.isFn K (.ref f31) = true)
    (l31 : K.lookup f31 = some ⟨oc31, od31, .func (PySem.W.fnOf "__init__" "Side.__init__" (defArgs s_Side_init) (defBody s_Side_init) (defScope s_Side_init) .none kV31 dc31 pm31 an31 cd31 ct31), sl31⟩)
    (c31 : PySem.W.codeIn K cd31 "Side.__init__" = true)
    (k31 : PySem.W.keepIn K (.ref f31) = true)
    (a32 : PySem.W.findIn K (.ref CW) "mark_behind" = some (some (.ref f32)))
    (i32 : PySem.W.isFn K (.ref f32) = true)
    (l32 : K.lookup f32 = some ⟨oc32, od32, .func (PySem.W.fnOf "mark_behind" "Watcher.mark_behind" (defArgs s_Watcher_mark_behind) (defBody s_Watcher_mark_behind) (defScope s_Watcher_mark_behind) .none kV32 dc32 pm32 an32 cd32 ct32), sl32⟩)
    (c32 : PySem.W.codeIn K cd32 "Watcher.mark_behind" = true)
    (k32 : PySem.W.keepIn K (.ref f32) = true)
    (a33 : PySem.W.nsIn K mainGlobals "is_side" = some (some (.ref f33)))
    (l33 : K.lookup f33 = some ⟨oc33, od33, .func (PySem.W.fnOf "is_side" "is_side" (defArgs s_is_side) (defBody s_is_side) (defScope s_is_side) .none kV33 dc33 pm33 an33 cd33 ct33), sl33⟩)
    (c33 : PySem.W.codeIn K cd33 "is_side" = true)
    (k33 : PySem.W.keepIn K (.ref f33) = true)
    (a34 : PySem.W.nsIn K mainGlobals "may_begin" = some (some (.ref f34)))
    (l34 : K.lookup f34 = some ⟨oc34, od34, .func (PySem.W.fnOf "may_begin" "may_begin" (defArgs s_may_begin) (defBody s_may_begin) (defScope s_may_begin) .none kV34 dc34 pm34 an34 cd34 ct34), sl34⟩)
    (c34 : PySem.W.codeIn K cd34 "may_begin" = true)
    (k34 : PySem.W.keepIn K (.ref f34) = true)
    (a35 : PySem.W.findIn K (.ref CG) "has_letter" = some (some (.ref f35)))
    (i35 : PySem.W.isFn K (.ref f35) = true)
    (l35 : K.lookup f35 = some ⟨oc35, od35, .func (PySem.W.fnOf "has_letter" "Game.has_letter" (defArgs s_Game_has_letter) (defBody s_Game_has_letter) (defScope s_Game_has_letter) .none kV35 dc35 pm35 an35 cd35 ct35), sl35⟩)
    (c35 : PySem.W.codeIn K cd35 "Game.has_letter" = true)
    (k35 : PySem.W.keepIn K (.ref f35) = true)
    (a36 : PySem.W.findIn K (.ref CM) "do_instruction" = some (some (.ref f36)))
    (i36 : PySem.W.isFn K (.ref f36) = true)
    (l36 : K.lookup f36 = some ⟨oc36, od36, .func (PySem.W.fnOf "do_instruction" "Machine.do_instruction" (defArgs s_Machine_do_instruction) (defBody s_Machine_do_instruction) (defScope s_Machine_do_instruction) .none kV36 dc36 pm36 an36 cd36 ct36), sl36⟩)
    (c36 : PySem.W.codeIn K cd36 "Machine.do_instruction" = true)
    (k36 : PySem.W.keepIn K (.ref f36) = true)
    (a37 : PySem.W.findIn K (.ref CS) "frames_settled" = some (some (.ref f37)))
    (i37 : PySem.W.isFn K (.ref f37) = true)
    (l37 : K.lookup f37 = some ⟨oc37, od37, .func (PySem.W.fnOf "frames_settled" "Side.frames_settled" (defArgs s_Side_frames_settled) (defBody s_Side_frames_settled) (defScope s_Side_frames_settled) .none kV37 dc37 pm37 an37 cd37 ct37), sl37⟩)
    (c37 : PySem.W.codeIn K cd37 "Side.frames_settled" = true)
    (k37 : PySem.W.keepIn K (.ref f37) = true)
    (a38 : PySem.W.findIn K (.ref CS) "letter" = some (some (.ref f38)))
    (i38 : PySem.W.isFn K (.ref f38) = true)
    (l38 : K.lookup f38 = some ⟨oc38, od38, .func (PySem.W.fnOf "letter" "Side.letter" (defArgs s_Side_letter) (defBody s_Side_letter) (defScope s_Side_letter) .none kV38 dc38 pm38 an38 cd38 ct38), sl38⟩)
    (c38 : PySem.W.codeIn K cd38 "Side.letter" = true)
    (k38 : PySem.W.keepIn K (.ref f38) = true)
    (a39 : PySem.W.findIn K (.ref CG) "now" = some (some (.ref f39)))
    (i39 : PySem.W.isFn K (.ref f39) = true)
    (l39 : K.lookup f39 = some ⟨oc39, od39, .func (PySem.W.fnOf "now" "Game.now" (defArgs s_Game_now) (defBody s_Game_now) (defScope s_Game_now) .none kV39 dc39 pm39 an39 cd39 ct39), sl39⟩)
    (c39 : PySem.W.codeIn K cd39 "Game.now" = true)
    (k39 : PySem.W.keepIn K (.ref f39) = true)
    (a40 : PySem.W.findIn K (.ref CG) "runs" = some (some (.ref f40)))
    (i40 : PySem.W.isFn K (.ref f40) = true)
    (l40 : K.lookup f40 = some ⟨oc40, od40, .func (PySem.W.fnOf "runs" "Game.runs" (defArgs s_Game_runs) (defBody s_Game_runs) (defScope s_Game_runs) .none kV40 dc40 pm40 an40 cd40 ct40), sl40⟩)
    (c40 : PySem.W.codeIn K cd40 "Game.runs" = true)
    (k40 : PySem.W.keepIn K (.ref f40) = true)
    (a41 : PySem.W.findIn K (.ref CG) "state" = some (some (.ref f41)))
    (i41 : PySem.W.isFn K (.ref f41) = true)
    (l41 : K.lookup f41 = some ⟨oc41, od41, .func (PySem.W.fnOf "state" "Game.state" (defArgs s_Game_state) (defBody s_Game_state) (defScope s_Game_state) .none kV41 dc41 pm41 an41 cd41 ct41), sl41⟩)
    (c41 : PySem.W.codeIn K cd41 "Game.state" = true)
    (k41 : PySem.W.keepIn K (.ref f41) = true)
    (a42 : PySem.W.findIn K (.ref CG) "pads" = some (some (.ref f42)))
    (i42 : PySem.W.isFn K (.ref f42) = true)
    (l42 : K.lookup f42 = some ⟨oc42, od42, .func (PySem.W.fnOf "pads" "Game.pads" (defArgs s_Game_pads) (defBody s_Game_pads) (defScope s_Game_pads) .none kV42 dc42 pm42 an42 cd42 ct42), sl42⟩)
    (c42 : PySem.W.codeIn K cd42 "Game.pads" = true)
    (k42 : PySem.W.keepIn K (.ref f42) = true)
    (a43 : PySem.W.findIn K (.ref CG) "fault" = some (some (.ref f43)))
    (i43 : PySem.W.isFn K (.ref f43) = true)
    (l43 : K.lookup f43 = some ⟨oc43, od43, .func (PySem.W.fnOf "fault" "Game.fault" (defArgs s_Game_fault) (defBody s_Game_fault) (defScope s_Game_fault) .none kV43 dc43 pm43 an43 cd43 ct43), sl43⟩)
    (c43 : PySem.W.codeIn K cd43 "Game.fault" = true)
    (k43 : PySem.W.keepIn K (.ref f43) = true)
    (a44 : PySem.W.findIn K (.ref CG) "lose" = some (some (.ref f44)))
    (i44 : PySem.W.isFn K (.ref f44) = true)
    (l44 : K.lookup f44 = some ⟨oc44, od44, .func (PySem.W.fnOf "lose" "Game.lose" (defArgs s_Game_lose) (defBody s_Game_lose) (defScope s_Game_lose) .none kV44 dc44 pm44 an44 cd44 ct44), sl44⟩)
    (c44 : PySem.W.codeIn K cd44 "Game.lose" = true)
    (k44 : PySem.W.keepIn K (.ref f44) = true)
    (a45 : PySem.W.findIn K (.ref CM) "run_frame" = some (some (.ref f45)))
    (i45 : PySem.W.isFn K (.ref f45) = true)
    (l45 : K.lookup f45 = some ⟨oc45, od45, .func (PySem.W.fnOf "run_frame" "Machine.run_frame" (defArgs s_Machine_run_frame) (defBody s_Machine_run_frame) (defScope s_Machine_run_frame) .none kV45 dc45 pm45 an45 cd45 ct45), sl45⟩)
    (c45 : PySem.W.codeIn K cd45 "Machine.run_frame" = true)
    (k45 : PySem.W.keepIn K (.ref f45) = true)
    (a46 : PySem.W.findIn K (.ref CS) "states_settled" = some (some (.ref f46)))
    (i46 : PySem.W.isFn K (.ref f46) = true)
    (l46 : K.lookup f46 = some ⟨oc46, od46, .func (PySem.W.fnOf "states_settled" "Side.states_settled" (defArgs s_Side_states_settled) (defBody s_Side_states_settled) (defScope s_Side_states_settled) .none kV46 dc46 pm46 an46 cd46 ct46), sl46⟩)
    (c46 : PySem.W.codeIn K cd46 "Side.states_settled" = true)
    (k46 : PySem.W.keepIn K (.ref f46) = true)
    (a47 : PySem.W.nsIn K mainGlobals "two_sides" = some (some (.ref f47)))
    (l47 : K.lookup f47 = some ⟨oc47, od47, .func (PySem.W.fnOf "two_sides" "two_sides" (defArgs s_two_sides) (defBody s_two_sides) (defScope s_two_sides) .none kV47 dc47 pm47 an47 cd47 ct47), sl47⟩)
    (c47 : PySem.W.codeIn K cd47 "two_sides" = true)
    (k47 : PySem.W.keepIn K (.ref f47) = true)
    (a48 : PySem.W.findIn K (.ref CG) "settled" = some (some (.ref f48)))
    (i48 : PySem.W.isFn K (.ref f48) = true)
    (l48 : K.lookup f48 = some ⟨oc48, od48, .func (PySem.W.fnOf "settled" "Game.settled" (defArgs s_Game_settled) (defBody s_Game_settled) (defScope s_Game_settled) .none kV48 dc48 pm48 an48 cd48 ct48), sl48⟩)
    (c48 : PySem.W.codeIn K cd48 "Game.settled" = true)
    (k48 : PySem.W.keepIn K (.ref f48) = true)
    (a49 : PySem.W.findIn K (.ref CG) "send" = some (some (.ref f49)))
    (i49 : PySem.W.isFn K (.ref f49) = true)
    (l49 : K.lookup f49 = some ⟨oc49, od49, .func (PySem.W.fnOf "send" "Game.send" (defArgs s_Game_send) (defBody s_Game_send) (defScope s_Game_send) .none kV49 dc49 pm49 an49 cd49 ct49), sl49⟩)
    (c49 : PySem.W.codeIn K cd49 "Game.send" = true)
    (k49 : PySem.W.keepIn K (.ref f49) = true)
    (a50 : PySem.W.nsIn K mainGlobals "behind_frame" = some (some (.ref f50)))
    (l50 : K.lookup f50 = some ⟨oc50, od50, .func (PySem.W.fnOf "behind_frame" "behind_frame" (defArgs s_behind_frame) (defBody s_behind_frame) (defScope s_behind_frame) .none kV50 dc50 pm50 an50 cd50 ct50), sl50⟩)
    (c50 : PySem.W.codeIn K cd50 "behind_frame" = true)
    (k50 : PySem.W.keepIn K (.ref f50) = true)
    (a51 : PySem.W.findIn K (.ref CG) "differ" = some (some (.ref f51)))
    (i51 : PySem.W.isFn K (.ref f51) = true)
    (l51 : K.lookup f51 = some ⟨oc51, od51, .func (PySem.W.fnOf "differ" "Game.differ" (defArgs s_Game_differ) (defBody s_Game_differ) (defScope s_Game_differ) .none kV51 dc51 pm51 an51 cd51 ct51), sl51⟩)
    (c51 : PySem.W.codeIn K cd51 "Game.differ" = true)
    (k51 : PySem.W.keepIn K (.ref f51) = true)
    (a52 : PySem.W.findIn K (.ref CG) "both" = some (some (.ref f52)))
    (i52 : PySem.W.isFn K (.ref f52) = true)
    (l52 : K.lookup f52 = some ⟨oc52, od52, .func (PySem.W.fnOf "both" "Game.both" (defArgs s_Game_both) (defBody s_Game_both) (defScope s_Game_both) .none kV52 dc52 pm52 an52 cd52 ct52), sl52⟩)
    (c52 : PySem.W.codeIn K cd52 "Game.both" = true)
    (k52 : PySem.W.keepIn K (.ref f52) = true)
    (a53 : PySem.W.findIn K (.ref CS) "run_next" = some (some (.ref f53)))
    (i53 : PySem.W.isFn K (.ref f53) = true)
    (l53 : K.lookup f53 = some ⟨oc53, od53, .func (PySem.W.fnOf "run_next" "Side.run_next" (defArgs s_Side_run_next) (defBody s_Side_run_next) (defScope s_Side_run_next) .none kV53 dc53 pm53 an53 cd53 ct53), sl53⟩)
    (c53 : PySem.W.codeIn K cd53 "Side.run_next" = true)
    (k53 : PySem.W.keepIn K (.ref f53) = true)
    (a54 : PySem.W.findIn K (.ref CW) "see_on" = some (some (.ref f54)))
    (i54 : PySem.W.isFn K (.ref f54) = true)
    (l54 : K.lookup f54 = some ⟨oc54, od54, .func (PySem.W.fnOf "see_on" "Watcher.see_on" (defArgs s_Watcher_see_on) (defBody s_Watcher_see_on) (defScope s_Watcher_see_on) .none kV54 dc54 pm54 an54 cd54 ct54), sl54⟩)
    (c54 : PySem.W.codeIn K cd54 "Watcher.see_on" = true)
    (k54 : PySem.W.keepIn K (.ref f54) = true)
    (a55 : PySem.W.findIn K (.ref CS) "run_again" = some (some (.ref f55)))
    (i55 : PySem.W.isFn K (.ref f55) = true)
    (l55 : K.lookup f55 = some ⟨oc55, od55, .func (PySem.W.fnOf "run_again" "Side.run_again" (defArgs s_Side_run_again) (defBody s_Side_run_again) (defScope s_Side_run_again) .none kV55 dc55 pm55 an55 cd55 ct55), sl55⟩)
    (c55 : PySem.W.codeIn K cd55 "Side.run_again" = true)
    (k55 : PySem.W.keepIn K (.ref f55) = true)
    (a56 : PySem.W.findIn K (.ref CW) "read" = some (some (.ref f56)))
    (i56 : PySem.W.isFn K (.ref f56) = true)
    (l56 : K.lookup f56 = some ⟨oc56, od56, .func (PySem.W.fnOf "read" "Watcher.read" (defArgs s_Watcher_read) (defBody s_Watcher_read) (defScope s_Watcher_read) .none kV56 dc56 pm56 an56 cd56 ct56), sl56⟩)
    (c56 : PySem.W.codeIn K cd56 "Watcher.read" = true)
    (k56 : PySem.W.keepIn K (.ref f56) = true)
    (a57 : PySem.W.findIn K (.ref CW) "__init__" = some (some (.ref f57)))
    (i57 : PySem.W.isFn K (.ref f57) = true)
    (l57 : K.lookup f57 = some ⟨oc57, od57, .func (PySem.W.fnOf "__init__" "Watcher.__init__" (defArgs s_Watcher_init) (defBody s_Watcher_init) (defScope s_Watcher_init) .none kV57 dc57 pm57 an57 cd57 ct57), sl57⟩)
    (c57 : PySem.W.codeIn K cd57 "Watcher.__init__" = true)
    (k57 : PySem.W.keepIn K (.ref f57) = true)
    (a58 : PySem.W.findIn K (.ref CG) "frame" = some (some (.ref f58)))
    (i58 : PySem.W.isFn K (.ref f58) = true)
    (l58 : K.lookup f58 = some ⟨oc58, od58, .func (PySem.W.fnOf "frame" "Game.frame" (defArgs s_Game_frame) (defBody s_Game_frame) (defScope s_Game_frame) .none kV58 dc58 pm58 an58 cd58 ct58), sl58⟩)
    (c58 : PySem.W.codeIn K cd58 "Game.frame" = true)
    (k58 : PySem.W.keepIn K (.ref f58) = true)
    (a59 : PySem.W.findIn K (.ref CS) "take" = some (some (.ref f59)))
    (i59 : PySem.W.isFn K (.ref f59) = true)
    (l59 : K.lookup f59 = some ⟨oc59, od59, .func (PySem.W.fnOf "take" "Side.take" (defArgs s_Side_take) (defBody s_Side_take) (defScope s_Side_take) .none kV59 dc59 pm59 an59 cd59 ct59), sl59⟩)
    (c59 : PySem.W.codeIn K cd59 "Side.take" = true)
    (k59 : PySem.W.keepIn K (.ref f59) = true)
    (a60 : PySem.W.findIn K (.ref CG) "watch" = some (some (.ref f60)))
    (i60 : PySem.W.isFn K (.ref f60) = true)
    (l60 : K.lookup f60 = some ⟨oc60, od60, .func (PySem.W.fnOf "watch" "Game.watch" (defArgs s_Game_watch) (defBody s_Game_watch) (defScope s_Game_watch) .none kV60 dc60 pm60 an60 cd60 ct60), sl60⟩)
    (c60 : PySem.W.codeIn K cd60 "Game.watch" = true)
    (k60 : PySem.W.keepIn K (.ref f60) = true)
    (a61 : PySem.W.findIn K (.ref CG) "hand" = some (some (.ref f61)))
    (i61 : PySem.W.isFn K (.ref f61) = true)
    (l61 : K.lookup f61 = some ⟨oc61, od61, .func (PySem.W.fnOf "hand" "Game.hand" (defArgs s_Game_hand) (defBody s_Game_hand) (defScope s_Game_hand) .none kV61 dc61 pm61 an61 cd61 ct61), sl61⟩)
    (c61 : PySem.W.codeIn K cd61 "Game.hand" = true)
    (k61 : PySem.W.keepIn K (.ref f61) = true)
    (a62 : PySem.W.findIn K (.ref CG) "__init__" = some (some (.ref f62)))
    (i62 : PySem.W.isFn K (.ref f62) = true)
    (l62 : K.lookup f62 = some ⟨oc62, od62, .func (PySem.W.fnOf "__init__" "Game.__init__" (defArgs s_Game_init) (defBody s_Game_init) (defScope s_Game_init) .none kV62 dc62 pm62 an62 cd62 ct62), sl62⟩)
    (c62 : PySem.W.codeIn K cd62 "Game.__init__" = true)
    (k62 : PySem.W.keepIn K (.ref f62) = true)
    (a63 : PySem.W.findIn K (.ref CG) "begin" = some (some (.ref f63)))
    (i63 : PySem.W.isFn K (.ref f63) = true)
    (l63 : K.lookup f63 = some ⟨oc63, od63, .func (PySem.W.fnOf "begin" "Game.begin" (defArgs s_Game_begin) (defBody s_Game_begin) (defScope s_Game_begin) .none kV63 dc63 pm63 an63 cd63 ct63), sl63⟩)
    (c63 : PySem.W.codeIn K cd63 "Game.begin" = true)
    (k63 : PySem.W.keepIn K (.ref f63) = true)
    (a64 : PySem.W.nsIn K mainGlobals "answer_of_look" = some (some (.ref f64)))
    (l64 : K.lookup f64 = some ⟨oc64, od64, .func (PySem.W.fnOf "answer_of_look" "answer_of_look" (defArgs s_answer_of_look) (defBody s_answer_of_look) (defScope s_answer_of_look) .none kV64 dc64 pm64 an64 cd64 ct64), sl64⟩)
    (c64 : PySem.W.codeIn K cd64 "answer_of_look" = true)
    (k64 : PySem.W.keepIn K (.ref f64) = true)
    (a65 : PySem.W.nsIn K mainGlobals "answer_of_play" = some (some (.ref f65)))
    (l65 : K.lookup f65 = some ⟨oc65, od65, .func (PySem.W.fnOf "answer_of_play" "answer_of_play" (defArgs s_answer_of_play) (defBody s_answer_of_play) (defScope s_answer_of_play) .none kV65 dc65 pm65 an65 cd65 ct65), sl65⟩)
    (c65 : PySem.W.codeIn K cd65 "answer_of_play" = true)
    (k65 : PySem.W.keepIn K (.ref f65) = true)
    (a66 : PySem.W.nsIn K mainGlobals "answer" = some (some (.ref f66)))
    (l66 : K.lookup f66 = some ⟨oc66, od66, .func (PySem.W.fnOf "answer" "answer" (defArgs s_answer) (defBody s_answer) (defScope s_answer) .none kV66 dc66 pm66 an66 cd66 ct66), sl66⟩)
    (c66 : PySem.W.codeIn K cd66 "answer" = true)
    (k66 : PySem.W.keepIn K (.ref f66) = true)
    (a67 : PySem.W.nsIn K mainGlobals "answers" = some (some (.ref f67)))
    (l67 : K.lookup f67 = some ⟨oc67, od67, .func (PySem.W.fnOf "answers" "answers" (defArgs s_answers) (defBody s_answers) (defScope s_answers) .none kV67 dc67 pm67 an67 cd67 ct67), sl67⟩)
    (c67 : PySem.W.codeIn K cd67 "answers" = true)
    (k67 : PySem.W.keepIn K (.ref f67) = true) :
    ∃ fd : FuncData, (∀ (s : Shared) (us : List Value), us.length = (["calls"] : List Str).length → BindsTo s fd ⟨us, []⟩ ((["calls"] : List Str).zip us)) ∧ ∀ base : Heap, K.In base → base.Ns mainGlobals mg → FnOk P w K mg base CX0 12 fa fd ["calls"] (spAns K) := by
  have e := hfa.symm.trans (PySem.W.mg_of X G a67)
  cases e
  have TxtM_t : TxtM K mg CM := ⟨⟨pgCM, hdCM, poCM, saCM⟩, nCM_a, nCM_x, nCM_place, nCM_z, nCM_c, nCM_memory, tok_mk (PySem.W.mg_of X G g_PLACES), tok_mk (PySem.W.mg_of X G g_PAD_PLACE), tok_mk (PySem.W.mg_of X G g_MOST_INSTRUCTIONS), tok_mk (PySem.W.mg_of X G g_REST), tok_mk (PySem.W.mg_of X G g_FIRST_BYTE), PySem.W.mg_none_of X G b_len⟩
  have TxtP_t : TxtP K mg := ⟨tok_mk (PySem.W.mg_of X G g_LETTER_SIDE), tok_mk (PySem.W.mg_of X G g_LETTER_FIRST), tok_mk (PySem.W.mg_of X G g_LETTER_KNOWN), tok_mk (PySem.W.mg_of X G g_LETTER_PADS), PySem.W.mg_none_of X G b_range, PySem.W.mg_none_of X G b_enumerate⟩
  have TxtS_t : TxtS K mg CS := ⟨⟨pgCS, hdCS, poCS, saCS⟩, nCS_number, nCS_own, nCS_known, nCS_reached, nCS_used, nCS_states, nCS_faults, nCS_run_in_all, tok_mk (PySem.W.mg_of X G g_FIRST_BYTE), tok_mk (PySem.W.mg_of X G g_MOST_PADS_TOLD), tok_mk (PySem.W.mg_of X G g_LETTER_KNOWN), PySem.W.mg_none_of X G b_len, PySem.W.mg_none_of X G b_min, PySem.W.mg_none_of X G b_max, PySem.W.mg_none_of X G b_list, PySem.W.mg_none_of X G b_range⟩
  have TxtW_t : TxtW K mg CW := ⟨⟨pgCW, hdCW, poCW, saCW⟩, nCW_told, nCW_seen, nCW_states, tok_mk (PySem.W.mg_of X G g_LETTER_SIDE), PySem.W.mg_none_of X G b_len, PySem.W.mg_none_of X G b_min, PySem.W.mg_none_of X G b_range⟩
  have TxtF_t : TxtF K mg := ⟨tok_mk (PySem.W.mg_of X G g_MOST_DELAY), tok_mk (PySem.W.mg_of X G g_MOST_AHEAD), tok_mk (PySem.W.mg_of X G g_MOST_BYTES), tok_mk (PySem.W.mg_of X G g_MOST_BYTE), PySem.W.mg_none_of X G b_len, PySem.W.mg_none_of X G b_min, PySem.W.mg_none_of X G b_all, PySem.W.mg_none_of X G b_range⟩
  have TxtG_t : TxtG K mg (fun _ => 0) CS CW CG := ⟨TxtS_t, TxtW_t, ⟨pgCS, hdCS, poCS, saCS⟩, ⟨pgCW, hdCW, poCW, saCW⟩, ⟨pgCG, hdCG, poCG, saCG⟩, nCG_ahead, nCG_sides, nCG_letters, nCG_watcher, tok_mk (PySem.W.mg_of X G g_NOT_AS_TOLD), tok_mk (PySem.W.mg_of X G g_NO_SUCH_LETTER), tok_mk (PySem.W.mg_of X G g_NO_SUCH_FRAME), tok_mk (PySem.W.mg_of X G g_NO_ROOM), tok_mk (PySem.W.mg_of X G g_TOO_FAR_AHEAD), tok_mk (PySem.W.mg_of X G g_MOST_FRAMES), tok_mk (PySem.W.mg_of X G g_MOST_PAD), tok_mk (PySem.W.mg_of X G g_MOST_LETTERS), tok_mk (PySem.W.mg_of X G g_MOST_FAULTS), tok_mk (PySem.W.mg_of X G g_MOST_BYTE), tok_mk (PySem.W.mg_of X G g_PLACES), tok_mk (PySem.W.mg_of X G g_LETTER_SIDE), PySem.W.mg_none_of X G b_len, PySem.W.mg_none_of X G b_list⟩
  have TxtA_t : TxtA K mg tc CG := ⟨⟨pgCG, hdCG, poCG, saCG⟩, tok_mk (PySem.W.mg_of X G g_BEGIN), tok_mk (PySem.W.mg_of X G g_FRAME), tok_mk (PySem.W.mg_of X G g_SEND), tok_mk (PySem.W.mg_of X G g_HAND), tok_mk (PySem.W.mg_of X G g_LOSE), tok_mk (PySem.W.mg_of X G g_NET), tok_mk (PySem.W.mg_of X G g_NOW), tok_mk (PySem.W.mg_of X G g_SETTLED), tok_mk (PySem.W.mg_of X G g_STATE), tok_mk (PySem.W.mg_of X G g_PADS), tok_mk (PySem.W.mg_of X G g_FAULT), tok_mk (PySem.W.mg_of X G g_WATCH), tok_mk (PySem.W.mg_of X G g_FILM), tok_mk (PySem.W.mg_of X G g_DIFFER), tok_mk (PySem.W.mg_of X G g_BOTH), PySem.W.mg_of X G g_NUMBERS_OF_CALL, fun H => .inr ⟨_, _, _, lT, rfl, rfl, (show 16 ≤ sizeLine by decide), .cons ⟨_, rfl⟩ (.cons ⟨_, rfl⟩ (.cons ⟨_, rfl⟩ (.cons ⟨_, rfl⟩ (.cons ⟨_, rfl⟩ (.cons ⟨_, rfl⟩ (.cons ⟨_, rfl⟩ (.cons ⟨_, rfl⟩ (.cons ⟨_, rfl⟩ (.cons ⟨_, rfl⟩ (.cons ⟨_, rfl⟩ (.cons ⟨_, rfl⟩ (.cons ⟨_, rfl⟩ (.cons ⟨_, rfl⟩ (.cons ⟨_, rfl⟩ (.cons ⟨_, rfl⟩ (.nil))))))))))))))))⟩, PySem.W.mg_none_of X G b_len⟩
  have F0 := fun_mk (st := s_Machine_byte_at) l0 c0 k0
  have b0 := F0.binds (ps := ["self", "place"]) fun _ _ _ _ _ _ us hl => match us, hl with | [_, _], _ => rfl
  have F1 := fun_mk (st := s_Machine_put_byte) l1 c1 k1
  have b1 := F1.binds (ps := ["self", "place", "byte"]) fun _ _ _ _ _ _ us hl => match us, hl with | [_, _, _], _ => rfl
  have F2 := fun_mk (st := s_Machine_put_a) l2 c2 k2
  have b2 := F2.binds (ps := ["self", "number"]) fun _ _ _ _ _ _ us hl => match us, hl with | [_, _], _ => rfl
  have F3 := fun_mk (st := s_Machine_put_x) l3 c3 k3
  have b3 := F3.binds (ps := ["self", "number"]) fun _ _ _ _ _ _ us hl => match us, hl with | [_, _], _ => rfl
  have F4 := fun_mk (st := s_Machine_jump) l4 c4 k4
  have b4 := F4.binds (ps := ["self", "which", "n"]) fun _ _ _ _ _ _ us hl => match us, hl with | [_, _, _], _ => rfl
  have F5 := fun_mk (st := s_Machine_numbers) l5 c5 k5
  have b5 := F5.binds (ps := ["self"]) fun _ _ _ _ _ _ us hl => match us, hl with | [_], _ => rfl
  have F6 := fun_mk (st := s_Machine_init) l6 c6 k6
  have b6 := F6.binds (ps := ["self", "numbers"]) fun _ _ _ _ _ _ us hl => match us, hl with | [_, _], _ => rfl
  have F7 := fun_mk (st := s_loaded) l7 c7 k7
  have b7 := F7.binds (ps := ["some_bytes"]) fun _ _ _ _ _ _ us hl => match us, hl with | [_], _ => rfl
  have F8 := fun_mk (st := s_mark) l8 c8 k8
  have b8 := F8.binds (ps := ["numbers"]) fun _ _ _ _ _ _ us hl => match us, hl with | [_], _ => rfl
  have F9 := fun_mk (st := s_known_at_first) l9 c9 k9
  have b9 := F9.binds (ps := ["delay"]) fun _ _ _ _ _ _ us hl => match us, hl with | [_], _ => rfl
  have F10 := fun_mk (st := s_together) l10 c10 k10
  have b10 := F10.binds (ps := ["pad_0", "pad_1"]) fun _ _ _ _ _ _ us hl => match us, hl with | [_, _], _ => rfl
  have F11 := fun_mk (st := s_without_gap) l11 c11 k11
  have b11 := F11.binds (ps := ["known"]) fun _ _ _ _ _ _ us hl => match us, hl with | [_], _ => rfl
  have F12 := fun_mk (st := s_learn) l12 c12 k12
  have b12 := F12.binds (ps := ["known", "letter"]) fun _ _ _ _ _ _ us hl => match us, hl with | [_, _], _ => rfl
  have F13 := fun_mk (st := s_Side_frames_run) l13 c13 k13
  have b13 := F13.binds (ps := ["self"]) fun _ _ _ _ _ _ us hl => match us, hl with | [_], _ => rfl
  have F14 := fun_mk (st := s_Side_tell_pad) l14 c14 k14
  have b14 := F14.binds (ps := ["self", "pad"]) fun _ _ _ _ _ _ us hl => match us, hl with | [_, _], _ => rfl
  have F15 := fun_mk (st := s_Side_is_guess) l15 c15 k15
  have b15 := F15.binds (ps := ["self", "t"]) fun _ _ _ _ _ _ us hl => match us, hl with | [_, _], _ => rfl
  have F16 := fun_mk (st := s_Side_others_pad) l16 c16 k16
  have b16 := F16.binds (ps := ["self", "t"]) fun _ _ _ _ _ _ us hl => match us, hl with | [_, _], _ => rfl
  have F17 := fun_mk (st := s_Side_state_with_faults) l17 c17 k17
  have b17 := F17.binds (ps := ["self", "t"]) fun _ _ _ _ _ _ us hl => match us, hl with | [_, _], _ => rfl
  have F18 := fun_mk (st := s_within) l18 c18 k18
  have b18 := F18.binds (ps := ["number", "least", "most"]) fun _ _ _ _ _ _ us hl => match us, hl with | [_, _, _], _ => rfl
  have F19 := fun_mk (st := s_apart) l19 c19 k19
  have b19 := F19.binds (ps := ["some_states", "other_states"]) fun _ _ _ _ _ _ us hl => match us, hl with | [_, _], _ => rfl
  have F20 := fun_mk (st := s_Game_film) l20 c20 k20
  have b20 := F20.binds (ps := ["self"]) fun _ _ _ _ _ _ us hl => match us, hl with | [_], _ => rfl
  have F21 := fun_mk (st := s_Game_net) l21 c21 k21
  have b21 := F21.binds (ps := ["self"]) fun _ _ _ _ _ _ us hl => match us, hl with | [_], _ => rfl
  have F22 := fun_mk (st := s_call_end) l22 c22 k22
  have b22 := F22.binds (ps := ["calls", "place"]) fun _ _ _ _ _ _ us hl => match us, hl with | [_, _], _ => rfl
  have F23 := fun_mk (st := s_Machine_move) l23 c23 k23
  have b23 := F23.binds (ps := ["self", "which", "n"]) fun _ _ _ _ _ _ us hl => match us, hl with | [_, _, _], _ => rfl
  have F24 := fun_mk (st := s_Machine_change_x) l24 c24 k24
  have b24 := F24.binds (ps := ["self", "which", "n"]) fun _ _ _ _ _ _ us hl => match us, hl with | [_, _, _], _ => rfl
  have F25 := fun_mk (st := s_Machine_reckon) l25 c25 k25
  have b25 := F25.binds (ps := ["self", "which", "n"]) fun _ _ _ _ _ _ us hl => match us, hl with | [_, _, _], _ => rfl
  have F26 := fun_mk (st := s_Side_frames_known) l26 c26 k26
  have b26 := F26.binds (ps := ["self"]) fun _ _ _ _ _ _ us hl => match us, hl with | [_], _ => rfl
  have F27 := fun_mk (st := s_Side_mark_ahead) l27 c27 k27
  have b27 := F27.binds (ps := ["self", "t"]) fun _ _ _ _ _ _ us hl => match us, hl with | [_, _], _ => rfl
  have F28 := fun_mk (st := s_Side_tell_fault) l28 c28 k28
  have b28 := F28.binds (ps := ["self", "place", "byte"]) fun _ _ _ _ _ _ us hl => match us, hl with | [_, _, _], _ => rfl
  have F29 := fun_mk (st := s_Side_pads_together) l29 c29 k29
  have b29 := F29.binds (ps := ["self", "t", "others"]) fun _ _ _ _ _ _ us hl => match us, hl with | [_, _, _], _ => rfl
  have F30 := fun_mk (st := s_Side_first_wrong) l30 c30 k30
  have b30 := F30.binds (ps := ["self"]) fun _ _ _ _ _ _ us hl => match us, hl with | [_], _ => rfl
  have F31 := fun_mk (st := s_Side_init) l31 c31 k31
  have b31 := F31.binds (ps := ["self", "number", "delay", "some_bytes"]) fun _ _ _ _ _ _ us hl => match us, hl with | [_, _, _, _], _ => rfl
  have F32 := fun_mk (st := s_Watcher_mark_behind) l32 c32 k32
  have b32 := F32.binds (ps := ["self"]) fun _ _ _ _ _ _ us hl => match us, hl with | [_], _ => rfl
  have F33 := fun_mk (st := s_is_side) l33 c33 k33
  have b33 := F33.binds (ps := ["side"]) fun _ _ _ _ _ _ us hl => match us, hl with | [_], _ => rfl
  have F34 := fun_mk (st := s_may_begin) l34 c34 k34
  have b34 := F34.binds (ps := ["delay", "ahead", "some_bytes"]) fun _ _ _ _ _ _ us hl => match us, hl with | [_, _, _], _ => rfl
  have F35 := fun_mk (st := s_Game_has_letter) l35 c35 k35
  have b35 := F35.binds (ps := ["self", "k"]) fun _ _ _ _ _ _ us hl => match us, hl with | [_, _], _ => rfl
  have F36 := fun_mk (st := s_Machine_do_instruction) l36 c36 k36
  have b36 := F36.binds (ps := ["self"]) fun _ _ _ _ _ _ us hl => match us, hl with | [_], _ => rfl
  have F37 := fun_mk (st := s_Side_frames_settled) l37 c37 k37
  have b37 := F37.binds (ps := ["self"]) fun _ _ _ _ _ _ us hl => match us, hl with | [_], _ => rfl
  have F38 := fun_mk (st := s_Side_letter) l38 c38 k38
  have b38 := F38.binds (ps := ["self"]) fun _ _ _ _ _ _ us hl => match us, hl with | [_], _ => rfl
  have F39 := fun_mk (st := s_Game_now) l39 c39 k39
  have b39 := F39.binds (ps := ["self", "side"]) fun _ _ _ _ _ _ us hl => match us, hl with | [_, _], _ => rfl
  have F40 := fun_mk (st := s_Game_runs) l40 c40 k40
  have b40 := F40.binds (ps := ["self", "side"]) fun _ _ _ _ _ _ us hl => match us, hl with | [_, _], _ => rfl
  have F41 := fun_mk (st := s_Game_state) l41 c41 k41
  have b41 := F41.binds (ps := ["self", "side", "t"]) fun _ _ _ _ _ _ us hl => match us, hl with | [_, _, _], _ => rfl
  have F42 := fun_mk (st := s_Game_pads) l42 c42 k42
  have b42 := F42.binds (ps := ["self", "side", "t"]) fun _ _ _ _ _ _ us hl => match us, hl with | [_, _, _], _ => rfl
  have F43 := fun_mk (st := s_Game_fault) l43 c43 k43
  have b43 := F43.binds (ps := ["self", "side", "place", "byte"]) fun _ _ _ _ _ _ us hl => match us, hl with | [_, _, _, _], _ => rfl
  have F44 := fun_mk (st := s_Game_lose) l44 c44 k44
  have b44 := F44.binds (ps := ["self", "k"]) fun _ _ _ _ _ _ us hl => match us, hl with | [_, _], _ => rfl
  have F45 := fun_mk (st := s_Machine_run_frame) l45 c45 k45
  have b45 := F45.binds (ps := ["self", "pad"]) fun _ _ _ _ _ _ us hl => match us, hl with | [_, _], _ => rfl
  have F46 := fun_mk (st := s_Side_states_settled) l46 c46 k46
  have b46 := F46.binds (ps := ["self"]) fun _ _ _ _ _ _ us hl => match us, hl with | [_], _ => rfl
  have F47 := fun_mk (st := s_two_sides) l47 c47 k47
  have b47 := F47.binds (ps := ["delay", "some_bytes"]) fun _ _ _ _ _ _ us hl => match us, hl with | [_, _], _ => rfl
  have F48 := fun_mk (st := s_Game_settled) l48 c48 k48
  have b48 := F48.binds (ps := ["self", "side"]) fun _ _ _ _ _ _ us hl => match us, hl with | [_, _], _ => rfl
  have F49 := fun_mk (st := s_Game_send) l49 c49 k49
  have b49 := F49.binds (ps := ["self", "side"]) fun _ _ _ _ _ _ us hl => match us, hl with | [_, _], _ => rfl
  have F50 := fun_mk (st := s_behind_frame) l50 c50 k50
  have b50 := F50.binds (ps := ["numbers", "pad"]) fun _ _ _ _ _ _ us hl => match us, hl with | [_, _], _ => rfl
  have F51 := fun_mk (st := s_Game_differ) l51 c51 k51
  have b51 := F51.binds (ps := ["self", "side"]) fun _ _ _ _ _ _ us hl => match us, hl with | [_, _], _ => rfl
  have F52 := fun_mk (st := s_Game_both) l52 c52 k52
  have b52 := F52.binds (ps := ["self"]) fun _ _ _ _ _ _ us hl => match us, hl with | [_], _ => rfl
  have F53 := fun_mk (st := s_Side_run_next) l53 c53 k53
  have b53 := F53.binds (ps := ["self"]) fun _ _ _ _ _ _ us hl => match us, hl with | [_], _ => rfl
  have F54 := fun_mk (st := s_Watcher_see_on) l54 c54 k54
  have b54 := F54.binds (ps := ["self"]) fun _ _ _ _ _ _ us hl => match us, hl with | [_], _ => rfl
  have F55 := fun_mk (st := s_Side_run_again) l55 c55 k55
  have b55 := F55.binds (ps := ["self", "first"]) fun _ _ _ _ _ _ us hl => match us, hl with | [_, _], _ => rfl
  have F56 := fun_mk (st := s_Watcher_read) l56 c56 k56
  have b56 := F56.binds (ps := ["self", "letter"]) fun _ _ _ _ _ _ us hl => match us, hl with | [_, _], _ => rfl
  have F57 := fun_mk (st := s_Watcher_init) l57 c57 k57
  have b57 := F57.binds (ps := ["self", "delay", "some_bytes"]) fun _ _ _ _ _ _ us hl => match us, hl with | [_, _, _], _ => rfl
  have F58 := fun_mk (st := s_Game_frame) l58 c58 k58
  have b58 := F58.binds (ps := ["self", "side", "pad"]) fun _ _ _ _ _ _ us hl => match us, hl with | [_, _, _], _ => rfl
  have F59 := fun_mk (st := s_Side_take) l59 c59 k59
  have b59 := F59.binds (ps := ["self", "letter"]) fun _ _ _ _ _ _ us hl => match us, hl with | [_, _], _ => rfl
  have F60 := fun_mk (st := s_Game_watch) l60 c60 k60
  have b60 := F60.binds (ps := ["self", "k"]) fun _ _ _ _ _ _ us hl => match us, hl with | [_, _], _ => rfl
  have F61 := fun_mk (st := s_Game_hand) l61 c61 k61
  have b61 := F61.binds (ps := ["self", "k", "stays"]) fun _ _ _ _ _ _ us hl => match us, hl with | [_, _, _], _ => rfl
  have F62 := fun_mk (st := s_Game_init) l62 c62 k62
  have b62 := F62.binds (ps := ["self"]) fun _ _ _ _ _ _ us hl => match us, hl with | [_], _ => rfl
  have F63 := fun_mk (st := s_Game_begin) l63 c63 k63
  have b63 := F63.binds (ps := ["self", "delay", "ahead", "some_bytes"]) fun _ _ _ _ _ _ us hl => match us, hl with | [_, _, _, _], _ => rfl
  have F64 := fun_mk (st := s_answer_of_look) l64 c64 k64
  have b64 := F64.binds (ps := ["game", "which", "numbers"]) fun _ _ _ _ _ _ us hl => match us, hl with | [_, _, _], _ => rfl
  have F65 := fun_mk (st := s_answer_of_play) l65 c65 k65
  have b65 := F65.binds (ps := ["game", "which", "numbers"]) fun _ _ _ _ _ _ us hl => match us, hl with | [_, _, _], _ => rfl
  have F66 := fun_mk (st := s_answer) l66 c66 k66
  have b66 := F66.binds (ps := ["game", "which", "numbers"]) fun _ _ _ _ _ _ us hl => match us, hl with | [_, _, _], _ => rfl
  have F67 := fun_mk (st := s_answers) l67 c67 k67
  refine ⟨PySem.W.fnOf "answers" "answers" (defArgs s_answers) (defBody s_answers) (defScope s_answers) .none kV67 dc67 pm67 an67 cd67 ct67, fun s us hu => match us, hu with | [_], _ => .of_eq rfl, fun base _ _ => ?_⟩
  have G_Machine_byte_at : MethF P w K mg base 1 CM "byte_at" ["self", "place"] (spByteAt CM) := ⟨⟨f0, _, ⟨a0, i0, k0⟩, b0, ok_Machine_byte_at F0 TxtM_t⟩⟩
  have G_Machine_put_byte : MethF P w K mg base 1 CM "put_byte" ["self", "place", "byte"] (spPutByte CM) := ⟨⟨f1, _, ⟨a1, i1, k1⟩, b1, ok_Machine_put_byte F1 TxtM_t⟩⟩
  have G_Machine_put_a : MethF P w K mg base 1 CM "put_a" ["self", "number"] (spPutA CM) := ⟨⟨f2, _, ⟨a2, i2, k2⟩, b2, ok_Machine_put_a F2 TxtM_t⟩⟩
  have G_Machine_put_x : MethF P w K mg base 1 CM "put_x" ["self", "number"] (spPutX CM) := ⟨⟨f3, _, ⟨a3, i3, k3⟩, b3, ok_Machine_put_x F3 TxtM_t⟩⟩
  have G_Machine_jump : MethF P w K mg base 1 CM "jump" ["self", "which", "n"] (spJump CM) := ⟨⟨f4, _, ⟨a4, i4, k4⟩, b4, ok_Machine_jump F4 TxtM_t⟩⟩
  have G_Machine_numbers : MethF P w K mg base 1 CM "numbers" ["self"] (spNumbers CM) := ⟨⟨f5, _, ⟨a5, i5, k5⟩, b5, ok_Machine_numbers F5 TxtM_t⟩⟩
  have G_Machine_init : MakeF P w K mg base 1 CM "Machine" ["self", "numbers"] (spMInit K CM) := ⟨⟨f6, _, ⟨mkCM, a6, i6, kcCM⟩, PySem.W.mg_of X G aCCM, b6, ok_Machine_init F6 TxtM_t⟩⟩
  have G_loaded : FunF P w K mg base 1 "loaded" ["some_bytes"] spLoaded := ⟨⟨f7, _, PySem.W.mg_of X G a7, k7, b7, ok_loaded F7 TxtM_t⟩⟩
  have G_mark : FunF P w K mg base 1 "mark" ["numbers"] (spMark K) := ⟨⟨f8, _, PySem.W.mg_of X G a8, k8, b8, ok_mark F8⟩⟩
  have G_known_at_first : FunF P w K mg base 1 "known_at_first" ["delay"] spKnown := ⟨⟨f9, _, PySem.W.mg_of X G a9, k9, b9, ok_known_at_first F9 TxtP_t⟩⟩
  have G_together : FunF P w K mg base 1 "together" ["pad_0", "pad_1"] spTogether := ⟨⟨f10, _, PySem.W.mg_of X G a10, k10, b10, ok_together F10⟩⟩
  have G_without_gap : FunF P w K mg base 1 "without_gap" ["known"] spGap := ⟨⟨f11, _, PySem.W.mg_of X G a11, k11, b11, ok_without_gap F11⟩⟩
  have G_learn : FunF P w K mg base 1 "learn" ["known", "letter"] spLearn := ⟨⟨f12, _, PySem.W.mg_of X G a12, k12, b12, ok_learn F12 TxtP_t⟩⟩
  have G_Side_frames_run : MethF P w K mg base 1 CS "frames_run" ["self"] (spSRun CS) := ⟨⟨f13, _, ⟨a13, i13, k13⟩, b13, ok_Side_frames_run F13 TxtS_t⟩⟩
  have G_Side_tell_pad : MethF P w K mg base 1 CS "tell_pad" ["self", "pad"] (spTellPad CS) := ⟨⟨f14, _, ⟨a14, i14, k14⟩, b14, ok_Side_tell_pad F14 TxtS_t⟩⟩
  have G_Side_is_guess : MethF P w K mg base 1 CS "is_guess" ["self", "t"] (spGuess CS) := ⟨⟨f15, _, ⟨a15, i15, k15⟩, b15, ok_Side_is_guess F15 TxtS_t⟩⟩
  have G_Side_others_pad : MethF P w K mg base 1 CS "others_pad" ["self", "t"] (spOthers CS) := ⟨⟨f16, _, ⟨a16, i16, k16⟩, b16, ok_Side_others_pad F16 TxtS_t⟩⟩
  have G_Side_state_with_faults : MethF P w K mg base 1 CS "state_with_faults" ["self", "t"] (spFaulted CS) := ⟨⟨f17, _, ⟨a17, i17, k17⟩, b17, ok_Side_state_with_faults F17 TxtS_t⟩⟩
  have G_within : FunF P w K mg base 1 "within" ["number", "least", "most"] spWithin := ⟨⟨f18, _, PySem.W.mg_of X G a18, k18, b18, ok_within F18⟩⟩
  have G_apart : FunF P w K mg base 1 "apart" ["some_states", "other_states"] spApart := ⟨⟨f19, _, PySem.W.mg_of X G a19, k19, b19, ok_apart F19 TxtF_t⟩⟩
  have G_Game_film : MethF P w K mg base 1 CG "film" ["self"] (spFilm CS CW CG) := ⟨⟨f20, _, ⟨a20, i20, k20⟩, b20, ok_Game_film F20 TxtG_t⟩⟩
  have G_Game_net : MethF P w K mg base 1 CG "net" ["self"] (spNet CS CW CG) := ⟨⟨f21, _, ⟨a21, i21, k21⟩, b21, ok_Game_net F21 TxtG_t⟩⟩
  have G_call_end : FunF P w K mg base 1 "call_end" ["calls", "place"] (spEnd K) := ⟨⟨f22, _, PySem.W.mg_of X G a22, k22, b22, ok_call_end F22 TxtA_t⟩⟩
  have G_Machine_move : MethF P w K mg base 2 CM "move" ["self", "which", "n"] (spMove CM) := ⟨⟨f23, _, ⟨a23, i23, k23⟩, b23, ok_Machine_move F23 TxtM_t G_Machine_byte_at G_Machine_put_byte G_Machine_put_a⟩⟩
  have G_Machine_change_x : MethF P w K mg base 2 CM "change_x" ["self", "which", "n"] (spChange CM) := ⟨⟨f24, _, ⟨a24, i24, k24⟩, b24, ok_Machine_change_x F24 TxtM_t G_Machine_put_x⟩⟩
  have G_Machine_reckon : MethF P w K mg base 2 CM "reckon" ["self", "which", "n"] (spReckon CM) := ⟨⟨f25, _, ⟨a25, i25, k25⟩, b25, ok_Machine_reckon F25 TxtM_t G_Machine_byte_at G_Machine_put_a⟩⟩
  have G_Side_frames_known : MethF P w K mg base 2 CS "frames_known" ["self"] (spSKnown CS) := ⟨⟨f26, _, ⟨a26, i26, k26⟩, b26, ok_Side_frames_known F26 TxtS_t G_without_gap⟩⟩
  have G_Side_mark_ahead : MethF P w K mg base 2 CS "mark_ahead" ["self", "t"] (spMarkAt CS) := ⟨⟨f27, _, ⟨a27, i27, k27⟩, b27, ok_Side_mark_ahead F27 TxtS_t G_mark⟩⟩
  have G_Side_tell_fault : MethF P w K mg base 2 CS "tell_fault" ["self", "place", "byte"] (spTellFault CS) := ⟨⟨f28, _, ⟨a28, i28, k28⟩, b28, ok_Side_tell_fault F28 TxtS_t G_Side_frames_run⟩⟩
  have G_Side_pads_together : MethF P w K mg base 2 CS "pads_together" ["self", "t", "others"] (spPadsT CS) := ⟨⟨f29, _, ⟨a29, i29, k29⟩, b29, ok_Side_pads_together F29 TxtS_t G_together⟩⟩
  have G_Side_first_wrong : MethF P w K mg base 2 CS "first_wrong" ["self"] (spWrong CS) := ⟨⟨f30, _, ⟨a30, i30, k30⟩, b30, ok_Side_first_wrong F30 TxtS_t G_Side_frames_run G_Side_others_pad⟩⟩
  have G_Side_init : MakeF P w K mg base 2 CS "Side" ["self", "number", "delay", "some_bytes"] (spSInit CS) := ⟨⟨f31, _, ⟨mkCS, a31, i31, kcCS⟩, PySem.W.mg_of X G aCCS, b31, ok_Side_init F31 TxtS_t G_known_at_first G_loaded⟩⟩
  have G_Watcher_mark_behind : MethF P w K mg base 2 CW "mark_behind" ["self"] (spMarkB CW) := ⟨⟨f32, _, ⟨a32, i32, k32⟩, b32, ok_Watcher_mark_behind F32 TxtW_t G_mark⟩⟩
  have G_is_side : FunF P w K mg base 2 "is_side" ["side"] spIsSide := ⟨⟨f33, _, PySem.W.mg_of X G a33, k33, b33, ok_is_side F33 G_within⟩⟩
  have G_may_begin : FunF P w K mg base 2 "may_begin" ["delay", "ahead", "some_bytes"] spMay := ⟨⟨f34, _, PySem.W.mg_of X G a34, k34, b34, ok_may_begin F34 TxtF_t G_within⟩⟩
  have G_Game_has_letter : MethF P w K mg base 2 CG "has_letter" ["self", "k"] (spHas CS CW CG) := ⟨⟨f35, _, ⟨a35, i35, k35⟩, b35, ok_Game_has_letter F35 TxtG_t G_within⟩⟩
  have G_Machine_do_instruction : MethF P w K mg base 3 CM "do_instruction" ["self"] (spDo CM) := ⟨⟨f36, _, ⟨a36, i36, k36⟩, b36, ok_Machine_do_instruction F36 TxtM_t G_Machine_byte_at G_Machine_move G_Machine_change_x G_Machine_reckon G_Machine_jump⟩⟩
  have G_Side_frames_settled : MethF P w K mg base 3 CS "frames_settled" ["self"] (spSettled CS) := ⟨⟨f37, _, ⟨a37, i37, k37⟩, b37, ok_Side_frames_settled F37 TxtS_t G_Side_frames_run G_Side_frames_known⟩⟩
  have G_Side_letter : MethF P w K mg base 3 CS "letter" ["self"] (spLetter CS) := ⟨⟨f38, _, ⟨a38, i38, k38⟩, b38, ok_Side_letter F38 TxtS_t G_Side_frames_known⟩⟩
  have G_Game_now : MethF P w K mg base 3 CG "now" ["self", "side"] (spNow CS CW CG) := ⟨⟨f39, _, ⟨a39, i39, k39⟩, b39, ok_Game_now F39 TxtG_t G_is_side G_Side_frames_run G_Side_mark_ahead⟩⟩
  have G_Game_runs : MethF P w K mg base 3 CG "runs" ["self", "side"] (spRuns CS CW CG) := ⟨⟨f40, _, ⟨a40, i40, k40⟩, b40, ok_Game_runs F40 TxtG_t G_is_side⟩⟩
  have G_Game_state : MethF P w K mg base 3 CG "state" ["self", "side", "t"] (spState CS CW CG) := ⟨⟨f41, _, ⟨a41, i41, k41⟩, b41, ok_Game_state F41 TxtG_t G_is_side G_within G_Side_frames_run⟩⟩
  have G_Game_pads : MethF P w K mg base 3 CG "pads" ["self", "side", "t"] (spPads CS CW CG) := ⟨⟨f42, _, ⟨a42, i42, k42⟩, b42, ok_Game_pads F42 TxtG_t G_is_side G_within G_Side_frames_run G_Side_is_guess⟩⟩
  have G_Game_fault : MethF P w K mg base 3 CG "fault" ["self", "side", "place", "byte"] (spFault CS CW CG) := ⟨⟨f43, _, ⟨a43, i43, k43⟩, b43, ok_Game_fault F43 TxtG_t G_is_side G_within G_Side_frames_run G_Side_tell_fault⟩⟩
  have G_Game_lose : MethF P w K mg base 3 CG "lose" ["self", "k"] (spLose CS CW CG) := ⟨⟨f44, _, ⟨a44, i44, k44⟩, b44, ok_Game_lose F44 TxtG_t G_Game_has_letter⟩⟩
  have G_Machine_run_frame : MethF P w K mg base 4 CM "run_frame" ["self", "pad"] (spRun CM) := ⟨⟨f45, _, ⟨a45, i45, k45⟩, b45, ok_Machine_run_frame F45 TxtM_t G_Machine_put_byte G_Machine_do_instruction⟩⟩
  have G_Side_states_settled : MethF P w K mg base 4 CS "states_settled" ["self"] (spStates CS) := ⟨⟨f46, _, ⟨a46, i46, k46⟩, b46, ok_Side_states_settled F46 TxtS_t G_Side_frames_settled⟩⟩
  have G_two_sides : FunF P w K mg base 4 "two_sides" ["delay", "some_bytes"] (spTwo CS) := ⟨⟨f47, _, PySem.W.mg_of X G a47, k47, b47, ok_two_sides F47 G_Side_init⟩⟩
  have G_Game_settled : MethF P w K mg base 4 CG "settled" ["self", "side"] (spStl CS CW CG) := ⟨⟨f48, _, ⟨a48, i48, k48⟩, b48, ok_Game_settled F48 TxtG_t G_is_side G_Side_frames_settled G_Side_mark_ahead⟩⟩
  have G_Game_send : MethF P w K mg base 4 CG "send" ["self", "side"] (spSend CS CW CG) := ⟨⟨f49, _, ⟨a49, i49, k49⟩, b49, ok_Game_send F49 TxtG_t G_is_side G_Side_letter⟩⟩
  have G_behind_frame : FunF P w K mg base 5 "behind_frame" ["numbers", "pad"] (spBehind K) := ⟨⟨f50, _, PySem.W.mg_of X G a50, k50, b50, ok_behind_frame F50 TxtM_t G_Machine_init G_Machine_run_frame G_Machine_numbers⟩⟩
  have G_Game_differ : MethF P w K mg base 5 CG "differ" ["self", "side"] (spDiffer CS CW CG) := ⟨⟨f51, _, ⟨a51, i51, k51⟩, b51, ok_Game_differ F51 TxtG_t G_is_side G_apart G_Side_states_settled⟩⟩
  have G_Game_both : MethF P w K mg base 5 CG "both" ["self"] (spBoth CS CW CG) := ⟨⟨f52, _, ⟨a52, i52, k52⟩, b52, ok_Game_both F52 TxtG_t G_apart G_Side_states_settled⟩⟩
  have G_Side_run_next : MethF P w K mg base 6 CS "run_next" ["self"] (spNext CS) := ⟨⟨f53, _, ⟨a53, i53, k53⟩, b53, ok_Side_run_next F53 TxtS_t G_Side_frames_run G_Side_others_pad G_Side_pads_together G_Side_state_with_faults G_behind_frame⟩⟩
  have G_Watcher_see_on : MethF P w K mg base 6 CW "see_on" ["self"] (spSee CW) := ⟨⟨f54, _, ⟨a54, i54, k54⟩, b54, ok_Watcher_see_on F54 TxtW_t G_without_gap G_together G_behind_frame⟩⟩
  have G_Side_run_again : MethF P w K mg base 7 CS "run_again" ["self", "first"] (spAgain CS) := ⟨⟨f55, _, ⟨a55, i55, k55⟩, b55, ok_Side_run_again F55 TxtS_t G_Side_frames_run G_Side_run_next⟩⟩
  have G_Watcher_read : MethF P w K mg base 7 CW "read" ["self", "letter"] (spRead CW) := ⟨⟨f56, _, ⟨a56, i56, k56⟩, b56, ok_Watcher_read F56 TxtW_t G_learn G_Watcher_see_on⟩⟩
  have G_Watcher_init : MakeF P w K mg base 7 CW "Watcher" ["self", "delay", "some_bytes"] (spWInit CW) := ⟨⟨f57, _, ⟨mkCW, a57, i57, kcCW⟩, PySem.W.mg_of X G aCCW, b57, ok_Watcher_init F57 TxtW_t G_known_at_first G_loaded G_Watcher_see_on⟩⟩
  have G_Game_frame : MethF P w K mg base 7 CG "frame" ["self", "side", "pad"] (spFrame CS CW CG) := ⟨⟨f58, _, ⟨a58, i58, k58⟩, b58, ok_Game_frame F58 TxtG_t G_is_side G_within G_Side_frames_run G_Side_frames_known G_Side_tell_pad G_Side_run_next G_Side_is_guess⟩⟩
  have G_Side_take : MethF P w K mg base 8 CS "take" ["self", "letter"] (spTake CS) := ⟨⟨f59, _, ⟨a59, i59, k59⟩, b59, ok_Side_take F59 TxtS_t G_learn G_Side_first_wrong G_Side_run_again⟩⟩
  have G_Game_watch : MethF P w K mg base 8 CG "watch" ["self", "k"] (spWatch CS CW CG) := ⟨⟨f60, _, ⟨a60, i60, k60⟩, b60, ok_Game_watch F60 TxtG_t G_Game_has_letter G_Watcher_read G_Watcher_mark_behind⟩⟩
  have G_Game_hand : MethF P w K mg base 9 CG "hand" ["self", "k", "stays"] (spHand CS CW CG) := ⟨⟨f61, _, ⟨a61, i61, k61⟩, b61, ok_Game_hand F61 TxtG_t G_within G_Game_has_letter G_Side_take⟩⟩
  have G_Game_init : MakeF P w K mg base 9 CG "Game" ["self"] (spGInit CS CW CG) := ⟨⟨f62, _, ⟨mkCG, a62, i62, kcCG⟩, PySem.W.mg_of X G aCCG, b62, ok_Game_init F62 TxtG_t G_two_sides G_Watcher_init⟩⟩
  have G_Game_begin : MethF P w K mg base 9 CG "begin" ["self", "delay", "ahead", "some_bytes"] (spBegin CS CW CG) := ⟨⟨f63, _, ⟨a63, i63, k63⟩, b63, ok_Game_begin F63 TxtG_t G_may_begin G_two_sides G_Watcher_init⟩⟩
  have G_answer_of_look : FunF P w K mg base 9 "answer_of_look" ["game", "which", "numbers"] (spAnswer CS CW CG 8 15) := ⟨⟨f64, _, PySem.W.mg_of X G a64, k64, b64, ok_answer_of_look F64 TxtA_t G_Game_state G_Game_pads G_Game_fault G_Game_watch G_Game_film G_Game_differ G_Game_both G_Game_runs⟩⟩
  have G_answer_of_play : FunF P w K mg base 10 "answer_of_play" ["game", "which", "numbers"] (spAnswer CS CW CG 0 7) := ⟨⟨f65, _, PySem.W.mg_of X G a65, k65, b65, ok_answer_of_play F65 TxtA_t G_Game_begin G_Game_frame G_Game_send G_Game_hand G_Game_lose G_Game_net G_Game_now G_Game_settled⟩⟩
  have G_answer : FunF P w K mg base 11 "answer" ["game", "which", "numbers"] (spAnswer CS CW CG 0 15) := ⟨⟨f66, _, PySem.W.mg_of X G a66, k66, b66, ok_answer F66 TxtA_t G_answer_of_play G_answer_of_look⟩⟩
  exact ok_answers F67 TxtA_t G_Game_init G_call_end G_answer
end TP
open PySem PySem.W PyProof.Rows
set_option maxRecDepth 100000 in
set_option maxHeartbeats 16000000 in
theorem PySem.Challenge.cw_twopads_s01_answers_holds : PySem.Challenge.rw_twopads_s01_answers.Holds := by
  w_on; k_headS; (case hw => exact ⟨[.list [.int 12]], by decide +kernel, by decide +kernel⟩)
  k_fillS
  refine L2.walk_specK (r := PySem.Challenge.rw_twopads_s01_answers) (k := 12) (CX := L2.CX0) (ps := ["calls"]) (sp := TP.spAns) (by decide +kernel) rfl rfl ⟨rfl, by decide, by decide⟩ (fun w h Y => PySem.W.kIn_of Y) ?F ?S (fun _ _ _ _ z => z)
  case F =>
    intro w mg fa h Y KX G hmg
    refine' TP.all_mk KX G hmg ?aCCM ?pgCM ?hdCM ?poCM ?saCM ?mkCM ?kcCM ?aCCS ?pgCS ?hdCS ?poCS ?saCS ?mkCS ?kcCS ?aCCW ?pgCW ?hdCW ?poCW ?saCW ?mkCW ?kcCW ?aCCG ?pgCG ?hdCG ?poCG ?saCG ?mkCG ?kcCG ?nCM_a ?nCM_x ?nCM_place ?nCM_z ?nCM_c ?nCM_memory ?g_PLACES ?g_PAD_PLACE ?g_MOST_INSTRUCTIONS ?g_REST ?g_FIRST_BYTE ?b_len ?g_LETTER_SIDE ?g_LETTER_FIRST ?g_LETTER_KNOWN ?g_LETTER_PADS ?b_range ?b_enumerate ?nCS_number ?nCS_own ?nCS_known ?nCS_reached ?nCS_used ?nCS_states ?nCS_faults ?nCS_run_in_all ?g_MOST_PADS_TOLD ?b_min ?b_max ?b_list ?nCW_told ?nCW_seen ?nCW_states ?g_MOST_DELAY ?g_MOST_AHEAD ?g_MOST_BYTES ?g_MOST_BYTE ?b_all ?nCG_ahead ?nCG_sides ?nCG_letters ?nCG_watcher ?g_NOT_AS_TOLD ?g_NO_SUCH_LETTER ?g_NO_SUCH_FRAME ?g_NO_ROOM ?g_TOO_FAR_AHEAD ?g_MOST_FRAMES ?g_MOST_PAD ?g_MOST_LETTERS ?g_MOST_FAULTS ?g_BEGIN ?g_FRAME ?g_SEND ?g_HAND ?g_LOSE ?g_NET ?g_NOW ?g_SETTLED ?g_STATE ?g_PADS ?g_FAULT ?g_WATCH ?g_FILM ?g_DIFFER ?g_BOTH ?g_NUMBERS_OF_CALL ?lT ?a0 ?i0 ?l0 ?c0 ?k0 ?a1 ?i1 ?l1 ?c1 ?k1 ?a2 ?i2 ?l2 ?c2 ?k2 ?a3 ?i3 ?l3 ?c3 ?k3 ?a4 ?i4 ?l4 ?c4 ?k4 ?a5 ?i5 ?l5 ?c5 ?k5 ?a6 ?i6 ?l6 ?c6 ?k6 ?a7 ?l7 ?c7 ?k7 ?a8 ?l8 ?c8 ?k8 ?a9 ?l9 ?c9 ?k9 ?a10 ?l10 ?c10 ?k10 ?a11 ?l11 ?c11 ?k11 ?a12 ?l12 ?c12 ?k12 ?a13 ?i13 ?l13 ?c13 ?k13 ?a14 ?i14 ?l14 ?c14 ?k14 ?a15 ?i15 ?l15 ?c15 ?k15 ?a16 ?i16 ?l16 ?c16 ?k16 ?a17 ?i17 ?l17 ?c17 ?k17 ?a18 ?l18 ?c18 ?k18 ?a19 ?l19 ?c19 ?k19 ?a20 ?i20 ?l20 ?c20 ?k20 ?a21 ?i21 ?l21 ?c21 ?k21 ?a22 ?l22 ?c22 ?k22 ?a23 ?i23 ?l23 ?c23 ?k23 ?a24 ?i24 ?l24 ?c24 ?k24 ?a25 ?i25 ?l25 ?c25 ?k25 ?a26 ?i26 ?l26 ?c26 ?k26 ?a27 ?i27 ?l27 ?c27 ?k27 ?a28 ?i28 ?l28 ?c28 ?k28 ?a29 ?i29 ?l29 ?c29 ?k29 ?a30 ?i30 ?l30 ?c30 ?k30 ?a31 ?i31 ?l31 ?c31 ?k31 ?a32 ?i32 ?l32 ?c32 ?k32 ?a33 ?l33 ?c33 ?k33 ?a34 ?l34 ?c34 ?k34 ?a35 ?i35 ?l35 ?c35 ?k35 ?a36 ?i36 ?l36 ?c36 ?k36 ?a37 ?i37 ?l37 ?c37 ?k37 ?a38 ?i38 ?l38 ?c38 ?k38 ?a39 ?i39 ?l39 ?c39 ?k39 ?a40 ?i40 ?l40 ?c40 ?k40 ?a41 ?i41 ?l41 ?c41 ?k41 ?a42 ?i42 ?l42 ?c42 ?k42 ?a43 ?i43 ?l43 ?c43 ?k43 ?a44 ?i44 ?l44 ?c44 ?k44 ?a45 ?i45 ?l45 ?c45 ?k45 ?a46 ?i46 ?l46 ?c46 ?k46 ?a47 ?l47 ?c47 ?k47 ?a48 ?i48 ?l48 ?c48 ?k48 ?a49 ?i49 ?l49 ?c49 ?k49 ?a50 ?l50 ?c50 ?k50 ?a51 ?i51 ?l51 ?c51 ?k51 ?a52 ?i52 ?l52 ?c52 ?k52 ?a53 ?i53 ?l53 ?c53 ?k53 ?a54 ?i54 ?l54 ?c54 ?k54 ?a55 ?i55 ?l55 ?c55 ?k55 ?a56 ?i56 ?l56 ?c56 ?k56 ?a57 ?i57 ?l57 ?c57 ?k57 ?a58 ?i58 ?l58 ?c58 ?k58 ?a59 ?i59 ?l59 ?c59 ?k59 ?a60 ?i60 ?l60 ?c60 ?k60 ?a61 ?i61 ?l61 ?c61 ?k61 ?a62 ?i62 ?l62 ?c62 ?k62 ?a63 ?i63 ?l63 ?c63 ?k63 ?a64 ?l64 ?c64 ?k64 ?a65 ?l65 ?c65 ?k65 ?a66 ?l66 ?c66 ?k66 ?a67 ?l67 ?c67 ?k67
    (case aCCM => k_is); (case pgCM => k_is); (case hdCM => k_is); (case poCM => k_is); (case saCM => k_is); (case mkCM => k_is); (case kcCM => k_is); (case aCCS => k_is)
    (case pgCS => k_is); (case hdCS => k_is); (case poCS => k_is); (case saCS => k_is); (case mkCS => k_is); (case kcCS => k_is); (case aCCW => k_is); (case pgCW => k_is)
    (case hdCW => k_is); (case poCW => k_is); (case saCW => k_is); (case mkCW => k_is); (case kcCW => k_is); (case aCCG => k_is); (case pgCG => k_is); (case hdCG => k_is)
    (case poCG => k_is); (case saCG => k_is); (case mkCG => k_is); (case kcCG => k_is); (case nCM_a => k_is); (case nCM_x => k_is); (case nCM_place => k_is); (case nCM_z => k_is)
    (case nCM_c => k_is); (case nCM_memory => k_is); (case g_PLACES => k_is); (case g_PAD_PLACE => k_is); (case g_MOST_INSTRUCTIONS => k_is); (case g_REST => k_is); (case g_FIRST_BYTE => k_is); (case b_len => k_is)
    (case g_LETTER_SIDE => k_is); (case g_LETTER_FIRST => k_is); (case g_LETTER_KNOWN => k_is); (case g_LETTER_PADS => k_is); (case b_range => k_is); (case b_enumerate => k_is); (case nCS_number => k_is); (case nCS_own => k_is)
    (case nCS_known => k_is); (case nCS_reached => k_is); (case nCS_used => k_is); (case nCS_states => k_is); (case nCS_faults => k_is); (case nCS_run_in_all => k_is); (case g_MOST_PADS_TOLD => k_is); (case b_min => k_is)
    (case b_max => k_is); (case b_list => k_is); (case nCW_told => k_is); (case nCW_seen => k_is); (case nCW_states => k_is); (case g_MOST_DELAY => k_is); (case g_MOST_AHEAD => k_is); (case g_MOST_BYTES => k_is)
    (case g_MOST_BYTE => k_is); (case b_all => k_is); (case nCG_ahead => k_is); (case nCG_sides => k_is); (case nCG_letters => k_is); (case nCG_watcher => k_is); (case g_NOT_AS_TOLD => k_is); (case g_NO_SUCH_LETTER => k_is)
    (case g_NO_SUCH_FRAME => k_is); (case g_NO_ROOM => k_is); (case g_TOO_FAR_AHEAD => k_is); (case g_MOST_FRAMES => k_is); (case g_MOST_PAD => k_is); (case g_MOST_LETTERS => k_is); (case g_MOST_FAULTS => k_is); (case g_BEGIN => k_is)
    (case g_FRAME => k_is); (case g_SEND => k_is); (case g_HAND => k_is); (case g_LOSE => k_is); (case g_NET => k_is); (case g_NOW => k_is); (case g_SETTLED => k_is); (case g_STATE => k_is)
    (case g_PADS => k_is); (case g_FAULT => k_is); (case g_WATCH => k_is); (case g_FILM => k_is); (case g_DIFFER => k_is); (case g_BOTH => k_is); (case g_NUMBERS_OF_CALL => k_is); (case lT => k_is)
    (case a0 => k_is); (case i0 => k_is); (case l0 => k_is); (case c0 => k_is); (case k0 => k_is); (case a1 => k_is); (case i1 => k_is); (case l1 => k_is)
    (case c1 => k_is); (case k1 => k_is); (case a2 => k_is); (case i2 => k_is); (case l2 => k_is); (case c2 => k_is); (case k2 => k_is); (case a3 => k_is)
    (case i3 => k_is); (case l3 => k_is); (case c3 => k_is); (case k3 => k_is); (case a4 => k_is); (case i4 => k_is); (case l4 => k_is); (case c4 => k_is)
    (case k4 => k_is); (case a5 => k_is); (case i5 => k_is); (case l5 => k_is); (case c5 => k_is); (case k5 => k_is); (case a6 => k_is); (case i6 => k_is)
    (case l6 => k_is); (case c6 => k_is); (case k6 => k_is); (case a7 => k_is); (case l7 => k_is); (case c7 => k_is); (case k7 => k_is); (case a8 => k_is)
    (case l8 => k_is); (case c8 => k_is); (case k8 => k_is); (case a9 => k_is); (case l9 => k_is); (case c9 => k_is); (case k9 => k_is); (case a10 => k_is)
    (case l10 => k_is); (case c10 => k_is); (case k10 => k_is); (case a11 => k_is); (case l11 => k_is); (case c11 => k_is); (case k11 => k_is); (case a12 => k_is)
    (case l12 => k_is); (case c12 => k_is); (case k12 => k_is); (case a13 => k_is); (case i13 => k_is); (case l13 => k_is); (case c13 => k_is); (case k13 => k_is)
    (case a14 => k_is); (case i14 => k_is); (case l14 => k_is); (case c14 => k_is); (case k14 => k_is); (case a15 => k_is); (case i15 => k_is); (case l15 => k_is)
    (case c15 => k_is); (case k15 => k_is); (case a16 => k_is); (case i16 => k_is); (case l16 => k_is); (case c16 => k_is); (case k16 => k_is); (case a17 => k_is)
    (case i17 => k_is); (case l17 => k_is); (case c17 => k_is); (case k17 => k_is); (case a18 => k_is); (case l18 => k_is); (case c18 => k_is); (case k18 => k_is)
    (case a19 => k_is); (case l19 => k_is); (case c19 => k_is); (case k19 => k_is); (case a20 => k_is); (case i20 => k_is); (case l20 => k_is); (case c20 => k_is)
    (case k20 => k_is); (case a21 => k_is); (case i21 => k_is); (case l21 => k_is); (case c21 => k_is); (case k21 => k_is); (case a22 => k_is); (case l22 => k_is)
    (case c22 => k_is); (case k22 => k_is); (case a23 => k_is); (case i23 => k_is); (case l23 => k_is); (case c23 => k_is); (case k23 => k_is); (case a24 => k_is)
    (case i24 => k_is); (case l24 => k_is); (case c24 => k_is); (case k24 => k_is); (case a25 => k_is); (case i25 => k_is); (case l25 => k_is); (case c25 => k_is)
    (case k25 => k_is); (case a26 => k_is); (case i26 => k_is); (case l26 => k_is); (case c26 => k_is); (case k26 => k_is); (case a27 => k_is); (case i27 => k_is)
    (case l27 => k_is); (case c27 => k_is); (case k27 => k_is); (case a28 => k_is); (case i28 => k_is); (case l28 => k_is); (case c28 => k_is); (case k28 => k_is)
    (case a29 => k_is); (case i29 => k_is); (case l29 => k_is); (case c29 => k_is); (case k29 => k_is); (case a30 => k_is); (case i30 => k_is); (case l30 => k_is)
    (case c30 => k_is); (case k30 => k_is); (case a31 => k_is); (case i31 => k_is); (case l31 => k_is); (case c31 => k_is); (case k31 => k_is); (case a32 => k_is)
    (case i32 => k_is); (case l32 => k_is); (case c32 => k_is); (case k32 => k_is); (case a33 => k_is); (case l33 => k_is); (case c33 => k_is); (case k33 => k_is)
    (case a34 => k_is); (case l34 => k_is); (case c34 => k_is); (case k34 => k_is); (case a35 => k_is); (case i35 => k_is); (case l35 => k_is); (case c35 => k_is)
    (case k35 => k_is); (case a36 => k_is); (case i36 => k_is); (case l36 => k_is); (case c36 => k_is); (case k36 => k_is); (case a37 => k_is); (case i37 => k_is)
    (case l37 => k_is); (case c37 => k_is); (case k37 => k_is); (case a38 => k_is); (case i38 => k_is); (case l38 => k_is); (case c38 => k_is); (case k38 => k_is)
    (case a39 => k_is); (case i39 => k_is); (case l39 => k_is); (case c39 => k_is); (case k39 => k_is); (case a40 => k_is); (case i40 => k_is); (case l40 => k_is)
    (case c40 => k_is); (case k40 => k_is); (case a41 => k_is); (case i41 => k_is); (case l41 => k_is); (case c41 => k_is); (case k41 => k_is); (case a42 => k_is)
    (case i42 => k_is); (case l42 => k_is); (case c42 => k_is); (case k42 => k_is); (case a43 => k_is); (case i43 => k_is); (case l43 => k_is); (case c43 => k_is)
    (case k43 => k_is); (case a44 => k_is); (case i44 => k_is); (case l44 => k_is); (case c44 => k_is); (case k44 => k_is); (case a45 => k_is); (case i45 => k_is)
    (case l45 => k_is); (case c45 => k_is); (case k45 => k_is); (case a46 => k_is); (case i46 => k_is); (case l46 => k_is); (case c46 => k_is); (case k46 => k_is)
    (case a47 => k_is); (case l47 => k_is); (case c47 => k_is); (case k47 => k_is); (case a48 => k_is); (case i48 => k_is); (case l48 => k_is); (case c48 => k_is)
    (case k48 => k_is); (case a49 => k_is); (case i49 => k_is); (case l49 => k_is); (case c49 => k_is); (case k49 => k_is); (case a50 => k_is); (case l50 => k_is)
    (case c50 => k_is); (case k50 => k_is); (case a51 => k_is); (case i51 => k_is); (case l51 => k_is); (case c51 => k_is); (case k51 => k_is); (case a52 => k_is)
    (case i52 => k_is); (case l52 => k_is); (case c52 => k_is); (case k52 => k_is); (case a53 => k_is); (case i53 => k_is); (case l53 => k_is); (case c53 => k_is)
    (case k53 => k_is); (case a54 => k_is); (case i54 => k_is); (case l54 => k_is); (case c54 => k_is); (case k54 => k_is); (case a55 => k_is); (case i55 => k_is)
    (case l55 => k_is); (case c55 => k_is); (case k55 => k_is); (case a56 => k_is); (case i56 => k_is); (case l56 => k_is); (case c56 => k_is); (case k56 => k_is)
    (case a57 => k_is); (case i57 => k_is); (case l57 => k_is); (case c57 => k_is); (case k57 => k_is); (case a58 => k_is); (case i58 => k_is); (case l58 => k_is)
    (case c58 => k_is); (case k58 => k_is); (case a59 => k_is); (case i59 => k_is); (case l59 => k_is); (case c59 => k_is); (case k59 => k_is); (case a60 => k_is)
    (case i60 => k_is); (case l60 => k_is); (case c60 => k_is); (case k60 => k_is); (case a61 => k_is); (case i61 => k_is); (case l61 => k_is); (case c61 => k_is)
    (case k61 => k_is); (case a62 => k_is); (case i62 => k_is); (case l62 => k_is); (case c62 => k_is); (case k62 => k_is); (case a63 => k_is); (case i63 => k_is)
    (case l63 => k_is); (case c63 => k_is); (case k63 => k_is); (case a64 => k_is); (case l64 => k_is); (case c64 => k_is); (case k64 => k_is); (case a65 => k_is)
    (case l65 => k_is); (case c65 => k_is); (case k65 => k_is); (case a66 => k_is); (case l66 => k_is); (case c66 => k_is); (case k66 => k_is); (case a67 => k_is)
    (case l67 => k_is); (case c67 => k_is); (case k67 => k_is)
  case S =>
    intro K H xs a hO hwi hask hx
    cases hx with
    | cons h1 h2 =>
      cases h2
      cases h1 with
      | lst hs ha =>
        have e := L2.ints_dw a.1 _ ha
        subst e
        have q : ((Codec.inLen 0 12240 a.1 && a.1.all (Codec.inInt (-1000000) 1000000)) && true) = true := hwi
        rw [Bool.and_eq_true, Bool.and_eq_true] at q
        exact ⟨_, a.1, rfl, hs, (Codec.inNat_iff.mp q.1.1).2, hask, fun H' p _ hp _ => .lst (L2.SqL.of hp) (L2.dw_ints _)⟩
