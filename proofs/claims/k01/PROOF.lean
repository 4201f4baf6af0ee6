import PyProof.Rows.All
import Wide.All
import OpenK.AllK
import Wide.FinOn
import HandS.ForMost
import HandS.Evl
import HandS.ExcInit
import HandS.ExcValue
import HandS.ExcIs
import HandS.ExcField
import HandS.IsInst
import PyProof.ReprRoads
import HandS.Head0
import HandS.Head1
import HandS.Head2
import HandS.HeadEnd
import HandS.HeadHook1
import HandS.HeadHook2
import HandS.Lambda
import HandS.Walk
import HandS.Codes
import HandS.ForExc
import HandS.TryOnly
import HandS.TupLe
import HandS.EndTab
import HandS.HeadHook4
import PySem.Challenge.RW_stopanywhere_k01_words_of_texts
set_option linter.all false
namespace K1
abbrev L := List Nat
def inn (c : Nat) : Bool := decide (97 ≤ c ∧ c ≤ 122) || decide (65 ≤ c ∧ c ≤ 90) || decide (48 ≤ c ∧ c ≤ 57) || decide (c = 95)
def digit (c : Nat) : Bool := decide (48 ≤ c ∧ c ≤ 57)
def okc (c : Nat) : Bool := decide (c = 10) || (decide (32 ≤ c ∧ c ≤ 126) && decide (c ≠ 37))
def blank (c : Nat) : Bool := decide (c = 32) || decide (c = 10)
/-- how long the first word is -/
def wl : L → Nat
  | [] => 1
  | c :: r => if inn c then 1 + (r.takeWhile inn).length else match r with
    | [] => 1
    | d :: q => if c = 45 ∧ digit d = true then 2 + (q.takeWhile inn).length else if d = 61 ∧ (c = 60 ∨ c = 61) then 2 else 1
theorem wl_inn {c : Nat} {r : L} (h : inn c = true) : wl (c :: r) = 1 + (r.takeWhile inn).length := by
  show (if inn c = true then _ else _) = _
  rw [if_pos h]
theorem wl_one {c : Nat} (h : ¬ inn c = true) : wl [c] = 1 := by
  show (if inn c = true then _ else 1) = _
  rw [if_neg h]
theorem wl_two {c d : Nat} {q : L} (h : ¬ inn c = true) : wl (c :: d :: q) = if c = 45 ∧ digit d = true then 2 + (q.takeWhile inn).length else if d = 61 ∧ (c = 60 ∨ c = 61) then 2 else 1 := by
  show (if inn c = true then _ else _) = _
  rw [if_neg h]
theorem wl_pos : ∀ t : L, 1 ≤ wl t
  | [] => Nat.le_refl 1
  | c :: r => by
    by_cases h : inn c = true
    · rw [wl_inn h]
      omega
    · cases r with
      | nil => rw [wl_one h]; omega
      | cons d q =>
        rw [wl_two h]
        split
        · omega
        · split <;> omega
theorem tw_le (p : Nat → Bool) : ∀ l : L, (l.takeWhile p).length ≤ l.length
  | [] => Nat.le_refl 0
  | c :: r => by
    rw [List.takeWhile_cons]
    split
    · have := tw_le p r
      simp only [List.length_cons]
      omega
    · simp
theorem wl_le : ∀ (c : Nat) (r : L), wl (c :: r) ≤ r.length + 1 := by
  intro c r
  by_cases h : inn c = true
  · rw [wl_inn h]
    have := tw_le inn r
    omega
  · cases r with
    | nil =>
      rw [wl_one h]
      simp
    | cons d q =>
      rw [wl_two h]
      have := tw_le inn q
      simp only [List.length_cons]
      split
      · omega
      · split <;> omega
/-- the words of a text with lines and columns -/
def cut : L → Int → Int → List (L × Int × Int)
  | [], _, _ => []
  | c :: r, l, k => if c = 10 then cut r (l + 1) 1 else if c = 32 then cut r l (k + 1) else ((c :: r).take (wl (c :: r)), l, k) :: cut ((c :: r).drop (wl (c :: r))) l (k + wl (c :: r))
termination_by t => t.length
decreasing_by
  · simp
  · simp
  · have h := wl_pos (c :: r)
    simp only [List.length_drop, List.length_cons]
    omega
theorem cut_nl {r : L} {l k : Int} : cut (10 :: r) l k = cut r (l + 1) 1 := by
  rw [cut]
  simp
theorem cut_sp {r : L} {l k : Int} : cut (32 :: r) l k = cut r l (k + 1) := by
  rw [cut]
  simp
theorem cut_w {c : Nat} {r : L} {l k : Int} (h : blank c = false) : cut (c :: r) l k = ((c :: r).take (wl (c :: r)), l, k) :: cut ((c :: r).drop (wl (c :: r))) l (k + wl (c :: r)) := by
  unfold blank at h
  simp only [Bool.or_eq_false_iff, decide_eq_false_iff_not] at h
  rw [cut, if_neg h.2, if_neg h.1]
theorem cut_nil {l k : Int} : cut [] l k = [] := by rw [cut]
/-- a word is no longer than the text -/
theorem cut_len : ∀ (t : L) (l k : Int), ∀ x ∈ cut t l k, x.1.length ≤ t.length := by
  intro t l k
  fun_induction cut t l k with
  | case1 l k => simp
  | case2 r l k ih =>
    intro x hx
    have := ih x hx
    simp only [List.length_cons]
    omega
  | case3 r l k h ih =>
    intro x hx
    have := ih x hx
    simp only [List.length_cons]
    omega
  | case4 c r l k h1 h2 ih =>
    intro x hx
    rcases List.mem_cons.mp hx with rfl | hx
    · simp only [List.length_take]
      omega
    · have := ih x hx
      simp only [List.length_drop] at this
      omega
/-- the whole text is one word -/
theorem cut_one (t : L) (w : L) : cut t 1 1 = [(t, 1, 1)] ↔ ∃ c r, t = c :: r ∧ blank c = false ∧ wl (c :: r) = (c :: r).length := by
  cases t with
  | nil =>
    rw [cut_nil]
    simp
  | cons c r =>
    by_cases hb : blank c = true
    · have h0 : ∀ l k, cut r l k = [(c :: r, 1, 1)] → False := fun l k e => by
        have := cut_len r l k (c :: r, 1, 1) (by rw [e]; simp)
        simp at this
        omega
      unfold blank at hb
      simp only [Bool.or_eq_true, decide_eq_true_eq] at hb
      constructor
      · intro e
        rcases hb with rfl | rfl
        · rw [cut_sp] at e
          exact (h0 _ _ e).elim
        · rw [cut_nl] at e
          exact (h0 _ _ e).elim
      · rintro ⟨c', r', e, h1, _⟩
        cases e
        rcases hb with rfl | rfl
        · exact absurd h1 (by decide)
        · exact absurd h1 (by decide)
    · have hb : blank c = false := by simpa using hb
      rw [cut_w hb]
      have h1 := wl_le c r
      constructor
      · intro e
        refine ⟨c, r, rfl, hb, ?_⟩
        have e1 := (List.cons.inj e).1
        have e2 : (c :: r).take (wl (c :: r)) = c :: r := (Prod.mk.inj e1).1
        have := congrArg List.length e2
        rw [List.length_take] at this
        simp only [List.length_cons] at this ⊢
        omega
      · rintro ⟨c', r', e, _, h2⟩
        cases e
        rw [h2, List.take_of_length_le (Nat.le_refl _), List.drop_of_length_le (Nat.le_refl _), cut_nil]
/-- wl of a word is its length -/
theorem tw_all {p : Nat → Bool} : ∀ {l : L}, (∀ c ∈ l, p c = true) → l.takeWhile p = l
  | [], _ => rfl
  | c :: r, h => by
    rw [List.takeWhile_cons, if_pos (h c (by simp)), tw_all fun d hd => h d (by simp [hd])]
theorem tw_mem {p : Nat → Bool} : ∀ {l : L}, ∀ c ∈ l.takeWhile p, p c = true
  | [], c, h => by simp at h
  | d :: r, c, h => by
    rw [List.takeWhile_cons] at h
    split at h
    · rename_i hd
      rcases List.mem_cons.mp h with rfl | h
      · exact hd
      · exact tw_mem c h
    · simp at h
theorem tw_take {p : Nat → Bool} : ∀ (l : L), l.take (l.takeWhile p).length = l.takeWhile p
  | [] => rfl
  | c :: r => by
    rw [List.takeWhile_cons]
    split
    · simp only [List.length_cons, List.take_succ_cons, tw_take r]
    · rfl
theorem wl_word (c : Nat) (r : L) : wl ((c :: r).take (wl (c :: r))) = ((c :: r).take (wl (c :: r))).length := by
  by_cases h1 : inn c = true
  · have e : wl (c :: r) = (r.takeWhile inn).length + 1 := by
      rw [wl_inn h1]
      omega
    rw [e, List.take_succ_cons, tw_take, wl_inn h1, tw_all tw_mem, List.length_cons]
    omega
  · cases r with
    | nil =>
      rw [wl_one h1]
      exact wl_one h1
    | cons d q =>
      by_cases h2 : c = 45 ∧ digit d = true
      · have e : wl (c :: d :: q) = (q.takeWhile inn).length + 1 + 1 := by
          rw [wl_two h1, if_pos h2]
          omega
        rw [e, List.take_succ_cons, List.take_succ_cons, tw_take, wl_two h1, if_pos h2, tw_all tw_mem, List.length_cons, List.length_cons]
        omega
      · by_cases h3 : d = 61 ∧ (c = 60 ∨ c = 61)
        · have e : ∀ q, wl (c :: d :: q) = 2 := fun q => by rw [wl_two h1, if_neg h2, if_pos h3]
          rw [e]
          exact e []
        · have e : wl (c :: d :: q) = 1 := by rw [wl_two h1, if_neg h2, if_neg h3]
          rw [e]
          exact wl_one h1
/-- each word of a text: not empty, its signs are the text's, no blank ahead, one word -/
theorem cut_word : ∀ (t : L) (l k : Int), ∀ x ∈ cut t l k, (∀ c ∈ x.1, c ∈ t) ∧ ∃ c r, x.1 = c :: r ∧ blank c = false ∧ wl (c :: r) = (c :: r).length := by
  intro t l k
  fun_induction cut t l k with
  | case1 l k => simp
  | case2 r l k ih =>
    intro x hx
    exact ⟨fun c hc => List.mem_cons_of_mem _ ((ih x hx).1 c hc), (ih x hx).2⟩
  | case3 r l k h ih =>
    intro x hx
    exact ⟨fun c hc => List.mem_cons_of_mem _ ((ih x hx).1 c hc), (ih x hx).2⟩
  | case4 c r l k h1 h2 ih =>
    intro x hx
    rcases List.mem_cons.mp hx with rfl | hx
    · have h3 := wl_pos (c :: r)
      refine ⟨fun d hd => List.mem_of_mem_take hd, c, r.take (wl (c :: r) - 1), ?_, by unfold blank; simp [h1, h2], ?_⟩
      · obtain ⟨n, e⟩ : ∃ n, wl (c :: r) = n + 1 := ⟨wl (c :: r) - 1, by omega⟩
        show (c :: r).take (wl (c :: r)) = _
        rw [e, List.take_succ_cons]
        rfl
      · have e : c :: r.take (wl (c :: r) - 1) = (c :: r).take (wl (c :: r)) := by
          obtain ⟨n, e⟩ : ∃ n, wl (c :: r) = n + 1 := ⟨wl (c :: r) - 1, by omega⟩
          rw [e, List.take_succ_cons]
          rfl
        rw [e]
        exact wl_word c r
    · exact ⟨fun d hd => List.mem_of_mem_drop ((ih x hx).1 d hd), (ih x hx).2⟩
end K1
set_option Elab.async false
set_option linter.all false
set_option maxRecDepth 100000
set_option maxHeartbeats 4000000
/-! ### exceptions held as values: isinstance, fields, made with their own __init__; repr of data -/
namespace SA
section
open PySem PySem.Spec PySem.Calls PyProof.Rows PySem.W
variable {prog : Program} {w : World} {A : Around} {E : Value → Shared → Prop} {s : Shared} {K : Frag} {x D : Addr} {ox : Obj} {od : Option Obj}
/-- a data descriptor of the class is found first, whatever the object's own dict holds -/
theorem find_data {name : Str} {a g : Value} (hc : (clsIn K D).isSome = true) (ha : findIn K (.ref D) name = some (some a)) (hg : specialIn K a "__get__" = some (some g))
    (ht : takesIn K a = some true) : findObj K D od name = some (.bind g a) := by
  obtain ⟨cd, e⟩ := Option.isSome_iff_exists.mp hc
  unfold findObj
  rw [e, Option.bind_some, ha, Option.bind_some]
  simp [hg, ht]
/-- e.__class__ of an exception object of the class at D -/
theorem exc_class {Q : Option Value → Shared → Prop} (C : L2.ExcC K D) (X : K.In s.heap) (I : InstAt s.heap x ox D od) (h : Q (some (.ref D)) { s with toks := s.toks + 1 }) :
    wpAny (model prog w) A (getAttr? (.ref x) "__class__") Q E s := by
  have hcd : (clsIn K D).isSome = true := by
    obtain ⟨cd, hc, _⟩ := any_some C.hd
    rw [hc] <;> rfl
  have hf : findObj K D od "__class__" = some (.bind (.builtin "getset_descriptor.__get__") (.builtin "object.__class__")) := find_data hcd C.ha C.hn C.ht
  obtain ⟨hp, g, d, t, os⟩ := s
  have t0 := I.type (M := model prog w)
  have t1 := looks_findIn (M := model prog w) X C.hg
  have t2 := looks_findIn (M := model prog w) X C.hk
  have t3 := looks_find (M := model prog w) X I hf
  have sub : Looks (model prog w) hp (isInstance (.ref x) (.type "BaseException")) true := t0.andThen (looks_subIn X C.hs)
  have n0 : (false && onTheHeap (Value.builtin "BaseException.__getattribute__")) = false := rfl
  have n2 : (Value.builtin "BaseException.__getattribute__" == Value.builtin "object.__getattribute__") = false := by decide +kernel
  have n1 : (onTheHeap (Value.ref D) && Value.builtin "BaseException.__getattribute__" == Value.builtin "object.__getattribute__") = false := by rw [n2] <;> rfl
  unfold getAttr? getAttrBy? getAttrBy
  refine wpAny_bind (wpAny_mkText (wpAny_bind (wpAny_attempt (wpAny_holding (wpAny_bind (t0.at (wpAny_bind (t1.at ?_))))))))
  show wpAny _ _ (if (onTheHeap (Value.ref D) && Value.builtin "BaseException.__getattribute__" == Value.builtin "object.__getattribute__") = true then _ else _) _ _ _
  rw [n1, if_neg Bool.false_ne_true]
  unfold getAttrByItsOwn hookBefore
  refine wpAny_bind ?_
  rw [if_pos (show onTheHeap (Value.ref D) = true from rfl)]
  refine t2.at ?_
  refine wpAny_bind (wpAny_attempt (wpAny_holding ?_))
  unfold callGetattribute
  rw [n0, if_neg Bool.false_ne_true]
  unfold boundAndCalled
  rw [PySem.F.excAttr_ValueError.ga.bind (.ref x)]
  refine wpAny_bind (wpAny_pure ?_)
  show wpAny _ _ (call (.builtin "BaseException.__getattribute__") [.ref x, .str "__class__" t]) _ _ _
  refine wpAny_call (codeAny_call_builtin PySem.F.excAttr_ValueError.ga.plain PySem.F.entry_bexc_ga ?_)
  refine @check_slot (model prog w) _ _ ⟨hp, g, d, t + 1, os⟩ "BaseException.__getattribute__" "BaseException" "__getattribute__" (.ref x) [.str "__class__" t] [] _ (by decide +kernel) (by decide +kernel) sub (PySem.F.args_bexc_ga (.ref x) (.str "__class__" t)) ?_
  unfold Builtin.«object.__getattribute__»
  refine wpAny_bind (wpAny_of_eq (a := ((Value.ref x : Value), [Value.str "__class__" t])) (by first | rfl | (simp only [slotArgs]; rfl)) ?_)
  refine wpAny_bind (wpAny_pure (wpAny_bind (t0.at (wpAny_bind (t3.at ?_)))))
  show wpAny _ _ (holding [Value.builtin "object.__class__"] (call (.builtin "getset_descriptor.__get__") [.builtin "object.__class__", .ref x, .ref D]) >>= ret) _ _ _
  refine wpAny_bind (wpAny_holding (wpAny_call (class_get (s := ⟨hp, g, d, t + 1, os⟩) (ox := ox) (od := od) X I C.hm ?_)))
  refine wpAny_pure ?_
  show wpAny _ _ (handedOut (.ref D)) _ _ _
  rw [handedOut_of (v := .ref D) rfl]
  first
    | exact wpAny_pure (wpAny_pure h)
    | exact wpAny_pure h
    | exact wpAny_pure (wpAny_bind (wpAny_pure (wpAny_pure h)))
theorem is_class {c : Addr} (h : hasDictIn K c = true) : ∃ oc od cd sl, K.lookup c = some ⟨oc, od, .cls cd, sl⟩ := by
  obtain ⟨cd, hc, _⟩ := any_some h
  unfold clsIn at hc
  split at hc
  · rename_i c' d' cd' sl' ho
    exact ⟨_, _, _, _, ho⟩
  · cases hc
theorem kit_exc (C : L2.ExcC K D) : KitX K (.ref x) (.ref D) (fun h => InstAt h x ox D od) where
  ty := fun _ _ _ I => I.type
  it := fun _ _ X _ => by
    obtain ⟨oc, dd, cd, sl, ho⟩ := is_class C.hd
    intro A' Q' E' s' k q
    unfold isType loadHead
    exact wpAny_bind (wpAny_loadPart (k _ _ (X _ _ ho)) (wpAny_pure q))
  ne := fun h tp dd its n sl X htp => Bool.eq_false_iff.mpr fun q => by
    obtain ⟨oc, d2, cd, sl2, ho⟩ := is_class C.hd
    have e : D = tp := Value.ref.inj (beq_iff_eq.mp q)
    subst e
    have z := (X _ _ ho).symm.trans htp
    cases z
  ca := fun X I k => exc_class C X I k
end
section
open PySem PySem.Spec PyProof.Rows L2
/-- at a stands an exception of the class at C, not raised: without a dict | with its dict at d -/
def XAt (H : Hp) (a C : Addr) : Prop := H a = some (ExO (.ref C) a) ∨ ∃ (d : Addr) (fs : List (Str × V)), H a = some (exo a C (some d)) ∧ H d = some (exd d fs)
variable {X : Cx}
theorem XAt.inst {pins : List (Addr × Obj)} {σ : L2.St} {H : Hp} {s : Shared} {a C : Addr} (I : Inv X pins σ H s) (h : XAt H a C) : ∃ ox od, PySem.W.InstAt s.heap a ox C od := by
  rcases h with h | ⟨d, fs, h1, h2⟩
  · obtain ⟨⟨oe, vs, e, z, dt, _⟩, _⟩ := I.hok a _ h
    refine ⟨oe, none, e, z.1, ?_, ?_⟩
    · unfold PySem.W.notCls
      rw [dt] <;> rfl
    · rw [z.2]
      trivial
  · obtain ⟨t1, e⟩ := exo_at I.hok h1
    obtain ⟨mA, hn, _⟩ := exd_at I.hok h2
    obtain ⟨od, ho, _⟩ := lookIn_ns hn
    exact ⟨_, some od, e, rfl, rfl, ho⟩
/-- isinstance(e, c), e an exception held as a value -/
def rIsX (K : PySem.W.Frag) : List V → Hp → VK → Prop := fun xs H Q => ∃ (a D : Addr) (c : V) (cv : Value) (b : Bool), xs = [.ref a, c] ∧ ClsV c cv ∧ XAt H a D ∧ ExcC K D ∧ PySem.W.kitOne K (.ref D) cv = some b ∧ Q (.bl b) H
theorem call_isX : CallR X (.builtin "isinstance") (rIsX X.K) := by
  intro pins s σ H xs us Q I r h
  obtain ⟨a, D, c, cv, b, rfl, k, hx, hC, e, q⟩ := h
  obtain ⟨u1, u2, rfl, r1, r2⟩ := vals2 r
  have e2 := k.eq r2
  subst e2
  obtain rfl : u1 = Value.ref a := r1
  obtain ⟨ox, od, J⟩ := hx.inst I
  exact PySem.W.kia_one (kit_exc hC) I.kIn J e (fun z => nomatch z) fun tk => ⟨.bl b, H, I.kept (t' := tk) fun _ _ z => z, rfl, q⟩
/-- e.f, e an exception held as a value -/
def tXfld (K : PySem.W.Frag) (te : TE) (f : Str) : TE := fun σ H Q => te σ H fun x H1 => ∃ (a C d : Addr) (fs : List (Str × V)) (v : V), x = .ref a ∧ H1 a = some (exo a C (some d)) ∧ H1 d = some (exd d fs) ∧ XfC K C ∧
  PySem.W.findIn K (.ref C) f = some none ∧ fs.lookup f = some v ∧ Q v H1
theorem pe_xfld {e : Expr} {te : TE} {f : Str} {pos : Pos} (he : PE X e te) (hb : attributeBase e f X.env (eval e X.env) = eval e X.env := by rfl) : PE X (.Attribute e f pos) (tXfld X.K te f) := by
  refine ⟨fun pins s σ H Q I h => ?_⟩
  refine attr_of hb (thn (he.run pins s σ H _ I h) fun u s1 hh => ?_)
  obtain ⟨x, H1, I1, rx, a, C, d, fs, v, ex, h1, h2, T, hno, hl, q⟩ := hh
  subst ex
  obtain rfl : u = Value.ref a := rx
  obtain ⟨t1, ha⟩ := exo_at I1.hok h1
  obtain ⟨mA, hns, hr⟩ := exd_at I1.hok h2
  obtain ⟨od, ho, hlk⟩ := lookIn_ns hns
  obtain ⟨u, hu, ru⟩ := RelO.some_of (v := v) (o := mA f) (by rw [← hl]; exact hr f)
  have J : PySem.W.InstAt s1.heap a _ C (some od) := ⟨ha, rfl, rfl, ho⟩
  exact HandSPX.exc_get I1.kIn J T.ga T.gg T.exC (PySem.W.findObj_own T.hdC hno rfl (by rw [hlk, hu])) (handed_of ru) ⟨v, H1, I1.tok _, ru, q⟩
end
end SA
set_option Elab.async false
set_option linter.all false
set_option maxRecDepth 100000
set_option maxHeartbeats 4000000
namespace SA
open PySem PySem.Spec PyProof.Rows L2
/-! ### data of any depth, dicts too, and its repr -/
def keyD : Key → PyData
  | .inl i => .int i
  | .inr x => .str x
mutual
inductive Dx (K : PySem.W.Frag) (H : Hp) : V → PyData → Prop
  | non : Dx K H .non .none
  | bl (b : Bool) : Dx K H (.bl b) (.bool b)
  | int (i : Int) : Dx K H (.int i) (.int i)
  | str (x : Str) : Dx K H (.str x) (.str x)
  | lst {a : Addr} {xs : List V} {ds : List PyData} : SqL K H a xs → DxAll K H xs ds → Dx K H (.ref a) (.list ds)
  | tup {a : Addr} {xs : List V} {ds : List PyData} : SqT K H a xs → DxAll K H xs ds → Dx K H (.ref a) (.tuple ds)
  | dct {a : Addr} {kvs : List (Key × V)} {ds : List (PyData × PyData)} : H a = some (.dK kvs) → kvs.map (fun p => keyD p.1) = ds.map (·.1) → DxAll K H (kvs.map (·.2)) (ds.map (·.2)) → Dx K H (.ref a) (.dict ds)
inductive DxAll (K : PySem.W.Frag) (H : Hp) : List V → List PyData → Prop
  | nil : DxAll K H [] []
  | cons {v : V} {vs : List V} {d : PyData} {ds : List PyData} : Dx K H v d → DxAll K H vs ds → DxAll K H (v :: vs) (d :: ds)
end
/-- the written part knows sys.modules, a dict -/
def SysK (K : PySem.W.Frag) : Prop := ∃ o, K.lookup sysModules = some o ∧ o.cls = .type "dict"
section
variable {X : Cx} {pins : List (Addr × Obj)} {σ : L2.St} {H : Hp} {s : Shared}
theorem SysK.trk (S : SysK X.K) (I : Inv X pins σ H s) {a : Addr} {o : HO} (h : H a = some o) : sysModules ≠ a := fun e => by
  obtain ⟨ob, h1, _⟩ := S
  obtain ⟨_, z⟩ := I.bs sysModules ob (I.mod.kin _ _ h1)
  rw [e, h] at z
  cases z
theorem SysK.seqL (S : SysK X.K) (I : Inv X pins σ H s) {a : Addr} {xs : List V} (h : SqL X.K H a xs) : sysModules ≠ a := by
  rcases h with (h | ⟨o, h⟩) | ⟨o, its, n, h, hc, _⟩
  · exact S.trk I h
  · exact S.trk I h
  · intro e
    obtain ⟨ob, h1, h2⟩ := S
    rw [e, h] at h1
    cases h1
    rw [hc] at h2
    exact absurd (Value.type.inj h2) (by decide)
theorem pairs_keys {P : Program} {w : World} : ∀ {es : List DictEntry} {vs : List (Key × Value)}, Pairs (mixKind P w) es vs → ∃ as, ReadsAll s.heap (es.map (·.key)) (vs.map fun p => keyD p.1) as ∧ as = []
  | _, _, .nil => ⟨[], .nil, rfl⟩
  | _, _, .cons (e := e) (kv := kv) h1 h2 t => by
    obtain ⟨as, r, rfl⟩ := pairs_keys t
    have hk : Reads s.heap e.key (keyD kv.1) [] := by
      rcases keyIs_shape (k := kv.1) (v := e.key) h1 with ⟨i, t, e1, e2⟩ | ⟨x, t, e1, e2⟩
      · rw [e1, e2]
        exact .int i t
      · rw [e1, e2]
        exact .str x t
    exact ⟨[] ++ [], .cons hk r, rfl⟩
theorem pairs_vals {P : Program} {w : World} : ∀ {es : List DictEntry} {vs : List (Key × Value)}, Pairs (mixKind P w) es vs → es.map (·.val) = vs.map (·.2)
  | _, _, .nil => rfl
  | _, _, .cons h1 h2 t => by
    rw [List.map_cons, List.map_cons, pairs_vals t, h2]
theorem kv_keys : ∀ {kvs : List (Key × V)} {vs : List (Key × Value)}, KV kvs vs → kvs.map (fun p => keyD p.1) = vs.map (fun p => keyD p.1) ∧ Vals (kvs.map (·.2)) (vs.map (·.2))
  | _, _, .nil => ⟨rfl, .nil⟩
  | _, _, .cons r t => by
    obtain ⟨h1, h2⟩ := kv_keys t
    obtain ⟨q1, q2⟩ := r
    exact ⟨by rw [List.map_cons, List.map_cons, h1, q1], .cons q2 h2⟩
mutual
theorem Dx.reads (S : SysK X.K) (I : Inv X pins σ H s) : ∀ {d : PyData} {v : V} {u : Value}, Dx X.K H v d → RelV v u → ∃ as, Reads s.heap u d as ∧ sysModules ∉ as
  | _, _, u, .non, r => ⟨[], by obtain rfl : u = Value.none := r; exact .none, by simp⟩
  | _, _, u, .bl b, r => ⟨[], by obtain rfl : u = Value.bool b := r; exact .bool b, by simp⟩
  | _, _, u, .int i, r => by
    obtain ⟨t, rfl⟩ := r
    exact ⟨[], .int i t, by simp⟩
  | _, _, u, .str x, r => by
    obtain ⟨t, rfl⟩ := r
    exact ⟨[], .str x t, by simp⟩
  | _, _, u, .lst (a := a) hs ha, r => by
    obtain rfl : u = Value.ref a := r
    obtain ⟨its, rv, ⟨o, n, ho, hc, _, hd⟩, _⟩ := I.list hs
    obtain ⟨as, hr, hn⟩ := DxAll.reads S I ha rv
    exact ⟨_, .list ho hc hd hr, fun m => (List.mem_cons.mp m).elim (S.seqL I hs) hn⟩
  | _, _, u, .tup (a := a) hs ha, r => by
    obtain rfl : u = Value.ref a := r
    obtain ⟨its, rv, ⟨o, ho, hc, n, hd⟩, _⟩ := I.tuple hs
    obtain ⟨as, hr, hn⟩ := DxAll.reads S I ha rv
    exact ⟨_, .tuple ho hc hd hr, hn⟩
  | _, _, u, .dct (a := a) (kvs := kvs) (ds := ds) h1 hk ha, r => by
    obtain rfl : u = Value.ref a := r
    obtain ⟨_, hsm, vs, kv, o, es, ep, ho, hx, hd, _, hp, _⟩ := (show ObjOk X.prog X.w H s.heap a (.dK kvs) from I.hok a _ h1)
    obtain ⟨e1, e2⟩ := kv_keys kv
    obtain ⟨bs, hr, hn⟩ := DxAll.reads S I ha e2
    obtain ⟨as, hr2, rfl⟩ := pairs_keys (s := s) hp
    refine ⟨a :: [] ++ bs, .dict ho hx.1 hd (by rw [← hk, e1]; exact hr2) (by rw [pairs_vals hp]; exact hr), fun m => ?_⟩
    have m2 : sysModules ∈ a :: bs := m
    exact (List.mem_cons.mp m2).elim (S.trk I h1) hn
theorem DxAll.reads (S : SysK X.K) (I : Inv X pins σ H s) : ∀ {ds : List PyData} {vs : List V} {us : List Value}, DxAll X.K H vs ds → Vals vs us → ∃ as, ReadsAll s.heap us ds as ∧ sysModules ∉ as
  | _, _, _, .nil, .nil => ⟨[], .nil, by simp⟩
  | _, _, _, .cons h1 h2, .cons r1 r2 => by
    obtain ⟨as, q1, n1⟩ := Dx.reads S I h1 r1
    obtain ⟨bs, q2, n2⟩ := DxAll.reads S I h2 r2
    exact ⟨_, .cons q1 q2, fun m => (List.mem_append.mp m).elim n1 n2⟩
end
end
/-- repr of a list, a tuple, a dict -/
def rRepr (K : PySem.W.Frag) : List V → Hp → VK → Prop := fun xs H Q => ∃ (a : Addr) (d : PyData), xs = [.ref a] ∧ Dx K H (.ref a) d ∧ d.showable = true ∧ d.shown.length ≤ sizeLine ∧ d.depth ≤ 60 ∧ Q (.str d.shown) H
theorem call_repr {X : Cx} (S : SysK X.K) (hg : X.A.guards = some []) (hu : X.A.units + 64 < cLine) : CallR X (.builtin "repr") (rRepr X.K) := by
  intro pins s σ H xs us Q I r h
  obtain ⟨a, d, rfl, hd, hs, hz, hp, q⟩ := h
  obtain ⟨u, rfl, ru⟩ := vals1 r
  obtain rfl : u = Value.ref a := ru
  obtain ⟨as, hr, hn⟩ := Dx.reads S I hd (u := .ref a) rfl
  exact repr_of_reads' hr hs (fun _ => hn) hg (by omega) (fun _ _ e => e) (fun h' u tk hk => ⟨.str d.shown, H, I.kept (t' := tk) hk, ⟨u, rfl⟩, q⟩) hz
/-! ### X(e, ..) by its own __init__, as a value -/
def tOex (C : Addr) (sp : Sp) (dvs : List V) (ta : TA) : TE := fun σ H Q => ta σ H fun vs H1 => vs.length ≤ 1000 ∧ ∀ a, H1 a = none → sp (.ref a :: (vs ++ dvs)) (upd H1 a (exo a C none)) (fun v H2 => v = .non ∧ Q (.ref a) H2) (fun _ _ _ => False)
theorem pe_oex {X : Cx} {CX : CXT} {x : Str} {C fI : Addr} {k : Nat} {fd : FuncData} {ps : List Str} {sp : Sp} {ds : List Value} {dvs : List V} {e : Expr} {es : List Expr} {ta : TA} {p pos : Pos}
    (T : OexC X.K C) (iC : PySem.W.findIn X.K (.ref C) "__init__" = some (some (.ref fI))) (tI : PySem.W.typeIn X.K (.ref fI) = some (.type "function"))
    (F1 : FnOk X.prog X.w X.K X.mg X.base CX k fI fd ps sp) (hr : Room (k + 1) X.A) (hb : L2.Binds X.K fd ps ds) (hd : Vals dvs ds) (hx : Passes CX X (fun _ _ _ => False)) (hg : Gl X x) (hm : X.mg x = some (.ref C)) (ha : PA X (e :: es) ta)
    (hdb : (x == ("__debug__" : Str)) = false := by decide) (he : starEach (e :: es) X.env = (false, eval e X.env) :: starEach es X.env := by rfl) (hpl : (backTo pos (starEach es X.env)).any (·.1) = false := by rfl) :
    PE X (.Call (.Name x p) (e :: es) [] pos) (tOex C sp dvs ta) := by
  refine ⟨fun pins s σ H Q I h => ?_⟩
  obtain ⟨nm, q, N, bs, bm, sn, sub, ab, col, dd, k0, k1, k2, k3, k5, hC, hbm⟩ := T.cls
  refine wpAny_Call_Name_kw (ld_glob I hg hm ?_ hdb)
  refine PySem.W.callWith_K (h₀ := X.base) I.ok.mod.kin T.kC (thn (ha.run pos pins s σ H _ I h) fun us s1 ⟨vs, H1, I1, r1, hz, q1⟩ => ⟨I1.kIn, ?_⟩) he hpl
  show wpAny _ _ (call (.ref C) us) _ _ _
  obtain ⟨hp, g, dr, tk, os⟩ := s1
  have hsz : hp.objs.size ≤ hp.objs.size + 1 := Nat.le_succ _
  have hn : H1 (hp.objs.size + 1) = none := I1.hok.fresh hsz
  have hq := q1 (hp.objs.size + 1) hn
  have hget : ((hp.push (PySem.W.kdv_tup us)).push (PySem.HandSPX.excO C hp.objs.size)).get? (hp.objs.size + 1) = some (PySem.HandSPX.excO C hp.objs.size) := by heap_get
  have I2 : Inv X pins σ (upd H1 (hp.objs.size + 1) (exo (hp.objs.size + 1) C none)) ⟨(hp.push (PySem.W.kdv_tup us)).push (PySem.HandSPX.excO C hp.objs.size), g, dr, tk, os⟩ :=
    I1.laid (t' := tk) (fun b o z => Heap.get?_push_of_some _ (Heap.get?_push_of_some _ z)) hsz (exo_ok hget)
  have r2 : Vals (V.ref (hp.objs.size + 1) :: (vs ++ dvs)) (Value.ref (hp.objs.size + 1) :: (us ++ ds)) := .cons rfl (r1.append hd)
  have hl : (Value.ref (hp.objs.size + 1) :: us ++ ds).length = ps.length := r2.length.symm.trans (F1.len _ _ _ _ hq)
  have hus : us.length ≤ sizeLine := by
    have z := Paired.length r1
    rw [sizeLine_eq]
    omega
  refine wpAny_call (PySem.HandSPX.call_own F.excBase_ValueError (fun Y => PySem.HandSPX.refsVE_contains Y bm hbm) (I1.kIn _ _ hC) (PySem.W.looks_findIn I1.kIn iC) (fun self => PySem.W.bind_fn I1.kIn self tI) hus
    (codeAny_mono (F1.run _ X.stack _ _ ⟨Value.ref (hp.objs.size + 1) :: us, []⟩ (Value.ref (hp.objs.size + 1) :: (us ++ ds)) _ _ (fun _ _ _ => False) (hr.make C us []) (I2.env0.make C us []) (hb _ (Value.ref (hp.objs.size + 1) :: us) I2.kIn hl) r2 hq) fun r s' hq' => ?_))
  cases r with
  | error er => exact hx pins σ _ _ er s' I2 hq'
  | ok fl =>
    cases fl with
    | ret u =>
      obtain ⟨v, H2, J, rv, ev, q2⟩ := I2.after hq'
      subst ev
      exact ⟨rv, .ref (hp.objs.size + 1), H2, J, rfl, q2⟩
    | next => exact False.elim hq'
    | brk => exact False.elim hq'
    | cont => exact False.elim hq'
end SA
set_option Elab.async false
set_option linter.all false
set_option maxRecDepth 100000
set_option maxHeartbeats 4000000
namespace SA
open PySem PySem.Spec PyProof.Rows L2
/-! ### the law's def, entered where no repr is under way -/
/-- what the law's def does when the claim's caller calls it -/
def LawRun (P : Program) (w : World) (K : PySem.W.Frag) (mg : Str → Option Value) (base : Heap) (fa : Addr) (n : Nat) : Prop :=
  ∀ (s : Shared) (H : Hp) (a : Addr) (ns : List Int), Env0 P w K mg base callerA [] s H → SqL K H a (ns.map V.int) → ns.length ≤ n →
    codeAny (model P w) callerA (.call (.ref fa) ⟨[.ref a], []⟩) (CR CX0 [] P w H s (fun v _ => v = .bl true) E0) s
section
variable {P : Program} {w : World} {K : PySem.W.Frag} {mg mb : Str → Option Value} {fa a : Addr} {s : Shared} {vs : List Value} {ns : List Int} {n : Nat}
abbrev Done (s : Shared) : Result → Shared → Prop := fun r s' => r = .ok (.ret (.bool true)) ∧ OldK s.heap s'.heap ∧ s'.os = s.os ∧ AllBare s'.gens
/-- from an abstract heap in which at most the script is tracked -/
theorem law_from (KX : K.In s.heap) (hns : s.heap.Ns mainGlobals mg) (hb : s.heap.Ns builtinsNs mb) (hbb : ∀ x : Str, x ≠ "__name__" → mb x = bootBuiltins x) (hlim : s.heap.NoLimit) (hg : s.gens = #[])
    (ha : s.heap.get? a = some { cls := .type "list", data := .seq vs.toArray }) (hn : ns.length ≤ n) (F : ∀ base : Heap, K.In base → base.Ns mainGlobals mg → LawRun P w K mg base fa n)
    (H : Hp) (hO : Only H) (hS : SqL K H a (ns.map V.int)) (hok : HOk P w H s.heap) (hA : ∀ b, H b ≠ none → b = a) (hK : H a ≠ none → K.lookup a = none) : codeAny (model P w) callerA (.call (.ref fa) ⟨[.ref a], []⟩) (Done s) s := by
  have only : ∀ {b : Addr}, b ≠ a → H b = none := fun {b} nb => by
    cases q : H b with
    | none => rfl
    | some u => exact absurd (hA b (by rw [q]; simp)) nb
  have nsd : ∀ {b : Addr} {m : Str → Option Value}, s.heap.Ns b m → (hidT s.heap H).Ns b m := fun {b m} z => by
    obtain ⟨o, es, ep, e, d, r⟩ := z
    refine ⟨o, es, ep, hidT_get e (only fun eb => ?_), d, r⟩
    rw [eb, ha] at e
    cases e
    cases d
  have kin : K.In (hidT s.heap H) := fun b o e => hidT_get (KX b o e) (by
    by_cases eb : b = a
    · cases q : H b with
      | none => rfl
      | some u =>
        have z := hK (by rw [← eb, q]; simp)
        rw [← eb, e] at z
        cases z
    · exact only eb)
  have env : Env0 P w K mg (hidT s.heap H) callerA [] s H :=
    ⟨rfl, ⟨kin, nsd hns, ⟨mb, nsd hb, hbb⟩, let ⟨mc, h1, h2⟩ := hlim; ⟨mc, nsd h1, h2⟩⟩, fun b o e => of_hidT e, Nat.le_of_eq (hidT_size _ _), trivial, fun b z => absurd (show b ∈ ([] : List Addr) from z) (by simp), hok, .of_eq hg⟩
  refine codeAny_mono (F _ kin (nsd hns) s H a ns env hS hn) fun r s' h => ?_
  match r, h with
  | .error _, h => exact False.elim h
  | .ok .next, h => exact False.elim h
  | .ok .brk, h => exact False.elim h
  | .ok .cont, h => exact False.elim h
  | .ok (.ret u), ⟨v, H', os, bare, un, hok', rv, q⟩ =>
    have ev : v = .bl true := q
    subst ev
    obtain rfl : u = Value.bool true := rv
    refine ⟨rfl, OldK.of_keep fun b o e => ?_, os, bare⟩
    rcases hO b with z | ⟨ob, xs, z⟩
    · exact un.keep b o e z (fun y => absurd (show b ∈ ([] : List Addr) from y) (by simp)) (by simp)
    · obtain ⟨e1, _⟩ := hok b _ z
      obtain ⟨e2, _⟩ := hok' b _ (un.frzs b ob _ z)
      rw [e] at e1
      cases e1
      exact e2
theorem law_callG (KX : K.In s.heap) (hns : s.heap.Ns mainGlobals mg) (hb : s.heap.Ns builtinsNs mb) (hbb : ∀ x : Str, x ≠ "__name__" → mb x = bootBuiltins x) (hlim : s.heap.NoLimit) (hg : s.gens = #[])
    (ha : s.heap.get? a = some { cls := .type "list", data := .seq vs.toArray }) (hi : IntsAre vs ns) (hl : ns.length ≤ sizeLine) (hn : ns.length ≤ n) (F : ∀ base : Heap, K.In base → base.Ns mainGlobals mg → LawRun P w K mg base fa n) :
    codeAny (model P w) callerA (.call (.ref fa) ⟨[.ref a], []⟩) (Done s) s := by
  have rv := vals_ints hi
  cases hk : K.lookup a with
  | some o =>
    have e := KX a o hk
    rw [ha] at e
    cases e
    exact law_from KX hns hb hbb hlim hg ha hn F (fun _ => none) (fun _ => .inl rfl) (.inr ⟨_, vs.toArray, _, hk, rfl, rfl, rfl, by rw [List.size_toArray, hi.length]; exact hl, by simpa using rv⟩)
      (fun b u z => absurd (show (none : Option HO) = some u from z) (by simp)) (fun b z => absurd rfl z) fun z => absurd rfl z
  | none =>
    have at_ : ∀ b, (fun b => if b = a then some (HO.frz { cls := .type "list", data := .seq vs.toArray } (.lst (ns.map V.int))) else none : Hp) b ≠ none → b = a := fun b z => by
      by_cases hb : b = a
      · exact hb
      · exact absurd (if_neg hb) z
    refine law_from KX hns hb hbb hlim hg ha hn F (fun b => if b = a then some (.frz { cls := .type "list", data := .seq vs.toArray } (.lst (ns.map V.int))) else none) (fun b => ?_) (.inl (.inr ⟨_, if_pos rfl⟩)) (fun b u z => ?_) at_ fun _ => hk
    · by_cases hb : b = a
      · exact .inr ⟨_, _, if_pos hb⟩
      · exact .inl (if_neg hb)
    · have eb := at_ b (by rw [z]; simp)
      subst eb
      have z2 := (if_pos rfl).symm.trans z
      cases z2
      exact ⟨ha, by rw [List.length_map]; exact hl, vs, _, rv, ha⟩
end
/-- the goal that the head leaves, from what the law's def does -/
theorem walk_G {l : PySem.W.OpenLaw} {n : Nat} {q : Program} {loose : List Str} {XP : (Str → Option Value) → Heap → Prop} {YP : World → Heap → Prop} {d : DefRec} (hn : l.most = some n) (hn2 : n ≤ sizeLine) (hdf : d.params.defaults = [])
    (F : ∀ (w : World) (mg : Str → Option Value) (fa : Addr) (h : Heap), YP w h → h.Ns mainGlobals mg → mg d.name = some (.ref fa) →
      ∃ K : PySem.W.Frag, K.In h ∧ ∀ base : Heap, K.In base → base.Ns mainGlobals mg → LawRun l.prog w K mg base fa n) :
    PySem.W.WalkO q loose XP YP l.row.toRowW d [] (fun f vs => PySem.call f vs) := by
  refine Att.attach_call hn hdf fun w s₀ s₁ mg mb fa o pm cd doc a vs ns G Y ho hd hcd hmg hobj hints hlen hg => ?_
  obtain ⟨K, KX, hF⟩ := F w mg fa _ Y G.T.g hmg
  exact law_callG KX G.T.g G.T.b G.T.builtins G.T.nolimit hg hobj hints (Nat.le_trans hlen hn2) hlen hF
/-- LawRun from the body of the law's def -/
theorem law_run {P : Program} {w : World} {K : PySem.W.Frag} {mg : Str → Option Value} {base : Heap} {fa : Addr} {fd : FuncData} {st : Stmt} {N : List Str} {x : Str} {n k : Nat} (F : Fun K "law" "law" st fa fd) (S : FnScope N [x] (defScope st))
    (hb : ∀ (s : Shared) (u : Value), BindsTo s fd ⟨[u], []⟩ [(x, u)]) (hr : Room (k + 1) callerA)
    (body : ∀ (cdv : Value) (s : Shared) (H : Hp) (a : Addr) (ns : List Int), Room k (callerA.deeper (envOfC "law" (defScope st) s.heap.objs.size fa cdv)) → SqL K H a (ns.map V.int) → ns.length ≤ n →
      ∃ t, PSs (cxOf CX0 P w K mg base N "law" (defScope st) fa cdv callerA [] s H E0).nox (defBody st) t ∧ t { nx := fun _ _ => V.non = V.bl true, rt := fun v _ => v = .bl true } (start N [.ref a]) H) :
    LawRun P w K mg base fa n := by
  intro s H a ns env hS hn
  obtain ⟨oc, od, kV, doc, pm, an, cdv, ct, osl, rfl, lk, hcd⟩ := F.ex
  refine LamX.run_ofS (k := k) (N := N) (ps := [x]) (us := [.ref a]) (vs := [.ref a]) (Q := fun v _ => v = .bl true) (E := E0) lk hcd S hr env (hb s (.ref a)) (.cons rfl .nil) rfl fun hr' => ?_
  obtain ⟨t, h1, h2⟩ := body cdv s H a ns hr' hS hn
  exact ⟨t, h1.nox, h2⟩
theorem FunD.toFun {K : PySem.W.Frag} {x qual : Str} {st : Stmt} {f : Addr} {fd : FuncData} (F : FunD K x qual (defArgs st) (defBody st) (defScope st) [] [] f fd) : Fun K x qual st f fd := by
  obtain ⟨⟨oc, od, dV, kV, doc, pm, an, cdv, ct, osl, e, l, c, hD, hK⟩, kp⟩ := F
  rcases hD with ⟨_, rfl⟩ | ⟨z, _⟩
  · exact ⟨⟨oc, od, kV, doc, pm, an, cdv, ct, osl, e, l, c⟩, kp⟩
  · exact absurd rfl z
end SA
set_option Elab.async false
set_option linter.all false
set_option maxRecDepth 100000
set_option maxHeartbeats 4000000
namespace SA
open PySem PySem.Spec PyProof.Rows L2
def topS (i : Nat) : Stmt := PySem.Challenge.pw_stopanywhere_k01_words_of_texts.main.body.getD i (.Pass ⟨0, 0, 0, 0⟩)
abbrev sBegun : Stmt := topS 22
abbrev sMixed : Stmt := topS 23
abbrev sTake : Stmt := topS 24
abbrev sPick : Stmt := topS 25
/-! ### the draw -/
abbrev kW : Key := Sum.inr "wide"
abbrev kC : Key := Sum.inr "cells"
abbrev kR : Key := Sum.inr "rest"
abbrev kT : Key := Sum.inr "turn"
theorem kWC : ¬ kW = kC := by decide +kernel
theorem kWR : ¬ kW = kR := by decide +kernel
theorem kWT : ¬ kW = kT := by decide +kernel
theorem kCR : ¬ kC = kR := by decide +kernel
theorem kCT : ¬ kC = kT := by decide +kernel
theorem kRT : ¬ kR = kT := by decide +kernel
def dkv (w c : Addr) (r t : Int) : List (Key × V) := [(kW, .ref w), (kC, .ref c), (kR, .int r), (kT, .int t)]
theorem dkv_w (w c : Addr) (r t : Int) : valV (dkv w c r t) kW = some (.ref w) := valV_pos rfl
theorem dkv_c (w c : Addr) (r t : Int) : valV (dkv w c r t) kC = some (.ref c) := (valV_neg kWC).trans (valV_pos rfl)
theorem dkv_r (w c : Addr) (r t : Int) : valV (dkv w c r t) kR = some (.int r) := (valV_neg kWR).trans ((valV_neg kCR).trans (valV_pos rfl))
theorem dkv_t (w c : Addr) (r t : Int) : valV (dkv w c r t) kT = some (.int t) := (valV_neg kWT).trans ((valV_neg kCT).trans ((valV_neg kRT).trans (valV_pos rfl)))
theorem get_w {H : Hp} {d w c : Addr} {r t : Int} (e : H d = some (.dK (dkv w c r t))) : DGet H d (.str "wide") (some (.ref w)) := dkv_w w c r t ▸ DGet.k (k := kW) e
theorem get_c {H : Hp} {d w c : Addr} {r t : Int} (e : H d = some (.dK (dkv w c r t))) : DGet H d (.str "cells") (some (.ref c)) := dkv_c w c r t ▸ DGet.k (k := kC) e
theorem get_r {H : Hp} {d w c : Addr} {r t : Int} (e : H d = some (.dK (dkv w c r t))) : DGet H d (.str "rest") (some (.int r)) := dkv_r w c r t ▸ DGet.k (k := kR) e
theorem get_t {H : Hp} {d w c : Addr} {r t : Int} (e : H d = some (.dK (dkv w c r t))) : DGet H d (.str "turn") (some (.int t)) := dkv_t w c r t ▸ DGet.k (k := kT) e
theorem put3 {a b c d : Key} {va vb vc vd x : V} (h1 : ¬ a = c) (h2 : ¬ b = c) (h3 : ¬ c = d) : putK [(a, va), (b, vb), (c, vc), (d, vd)] c x = [(a, va), (b, vb), (c, x), (d, vd)] := by
  have h4 : ¬ d = c := fun e => h3 e.symm
  simp [putK, h1, h2, h4]
theorem put4 {a b c d : Key} {va vb vc vd x : V} (h1 : ¬ a = d) (h2 : ¬ b = d) (h3 : ¬ c = d) : putK [(a, va), (b, vb), (c, vc), (d, vd)] d x = [(a, va), (b, vb), (c, vc), (d, x)] := by
  simp [putK, h1, h2, h3]
theorem dkv_putR (w c : Addr) (r t x : Int) : putK (dkv w c r t) kR (.int x) = dkv w c x t := put3 kWR kCR kRT
theorem dkv_putT (w c : Addr) (r t x : Int) : putK (dkv w c r t) kT (.int x) = dkv w c r x := put4 kWT kCT kRT
theorem merge4 (a b c d : V) : mergeK [] [(kW, a), (kC, b), (kR, c), (kT, d)] = [(kW, a), (kC, b), (kR, c), (kT, d)] := by
  have h1 := kWC
  have h2 := kWR
  have h3 := kWT
  have h4 := kCR
  have h5 := kCT
  have h6 := kRT
  generalize kW = k1 at *
  generalize kC = k2 at *
  generalize kR = k3 at *
  generalize kT = k4 at *
  simp [mergeK, putK, h1, h2, h3, h4, h5, h6]
/-- the draw's dict at d, its lists at w and c; at most n turns so far -/
structure DrawAt (H : Hp) (d w c : Addr) (n : Nat) : Prop where
  dict : ∃ r t : Int, 0 ≤ t ∧ t ≤ n ∧ H d = some (.dK (dkv w c r t))
  wide : ∃ ws : List Int, H w = some (.lst (ws.map V.int))
  cells : ∃ cs : List Int, H c = some (.lst (cs.map V.int))
  ne : w ≠ c
theorem Same.new {H : Hp} {p : Addr} {o : HO} (h : H p = none) : Same H (upd H p o) := fun b x e => by
  rw [upd_ne (ne_of_none e h)]
  exact e
/-- a comprehension without an if -/
theorem yes {σ : L2.St} {H : Hp} {A B : Hp → Prop} (h : A H) : tYes σ H fun b H' => if b = true then A H' else B H' := by
  show (if true = true then A H else B H)
  rw [if_pos rfl]
  exact h
/-- all but d and w stand as they stood -/
def But2 (d w : Addr) (H H' : Hp) : Prop := ∀ b o, H b = some o → b ≠ d → b ≠ w → H' b = some o
theorem But2.refl (d w : Addr) (H : Hp) : But2 d w H H := fun _ _ e _ _ => e
theorem But2.trans {d w : Addr} {H H1 H2 : Hp} (a : But2 d w H H1) (b : But2 d w H1 H2) : But2 d w H H2 := fun x o e h1 h2 => b x o (a x o e h1 h2) h1 h2
theorem But2.d {d w : Addr} {H H' : Hp} {o : HO} (a : But2 d w H H') : But2 d w H (upd H' d o) := fun x u e h1 h2 => by rw [upd_ne h1]; exact a x u e h1 h2
theorem But2.w {d w : Addr} {H H' : Hp} {o : HO} (a : But2 d w H H') : But2 d w H (upd H' w o) := fun x u e h1 h2 => by rw [upd_ne h2]; exact a x u e h1 h2
theorem But2.new {d w p : Addr} {H H' : Hp} {o : HO} (a : But2 d w H H') (h : H' p = none) : But2 d w H (upd H' p o) := fun x u e h1 h2 => by
  have q := a x u e h1 h2
  rw [upd_ne (ne_of_none q h)]; exact q
theorem DrawAt.dw {H : Hp} {d w c : Addr} {n : Nat} (h : DrawAt H d w c n) : d ≠ w := by
  obtain ⟨⟨r, t, _, _, e⟩, ⟨ws, e2⟩, _, _⟩ := h
  exact ne_of e e2 (by intro z; cases z)
theorem DrawAt.dc {H : Hp} {d w c : Addr} {n : Nat} (h : DrawAt H d w c n) : d ≠ c := by
  obtain ⟨⟨r, t, _, _, e⟩, _, ⟨cs, e2⟩, _⟩ := h
  exact ne_of e e2 (by intro z; cases z)
/-- what is new is none of the three -/
theorem DrawAt.new {H : Hp} {d w c p : Addr} {n : Nat} {o : HO} (h : DrawAt H d w c n) (hp : H p = none) : DrawAt (upd H p o) d w c n := by
  obtain ⟨⟨r, t, a1, a2, e⟩, ⟨ws, e2⟩, ⟨cs, e3⟩, ne⟩ := h
  exact ⟨⟨r, t, a1, a2, by rw [upd_ne (ne_of_none e hp)]; exact e⟩, ⟨ws, by rw [upd_ne (ne_of_none e2 hp)]; exact e2⟩, ⟨cs, by rw [upd_ne (ne_of_none e3 hp)]; exact e3⟩, ne⟩
theorem DrawAt.mono {H : Hp} {d w c : Addr} {n m : Nat} (h : DrawAt H d w c n) (hn : n ≤ m) : DrawAt H d w c m := by
  obtain ⟨⟨r, t, a1, a2, e⟩, h2, h3, ne⟩ := h
  exact ⟨⟨r, t, a1, by omega, e⟩, h2, h3, ne⟩
theorem dp_ints {K : PySem.W.Frag} {H : Hp} : ∀ ns : List Int, DpAll K H (ns.map V.int) (ns.map PyData.int)
  | [] => .nil
  | n :: ns => .cons (.int n) (dp_ints ns)
theorem canLay_ints : ∀ ns : List Int, PyData.canLayAll0 (ns.map PyData.int) = true
  | [] => rfl
  | n :: ns => by
    rw [List.map_cons]
    simp only [PyData.canLayAll0, PyData.canLay0, canLay_ints ns, Bool.and_self]
theorem depth_ints : ∀ ns : List Int, (PyData.list (ns.map PyData.int)).depth ≤ 2 := by
  intro ns
  have h : ∀ l : List Int, PyData.depthAll (l.map PyData.int) = 0 := by
    intro l
    induction l with
    | nil => rfl
    | cons n l ih => rw [List.map_cons]; simp only [PyData.depthAll, PyData.depth, ih]; rfl
  simp only [PyData.depth, h]
  decide
theorem shaped_ints (ns : List Int) : SeqAt.shaped (.list (ns.map PyData.int)) = true := by
  show (PyData.canLay0 _ && decide _) = true
  rw [Bool.and_eq_true]
  refine ⟨?_, decide_eq_true (Nat.le_trans (depth_ints ns) (by decide))⟩
  simp only [PyData.canLay0, canLay_ints]
theorem seq0 {α : Type} (x : α) (xs : List α) : seqIndex? 0 (x :: xs).length = some 0 := by
  unfold seqIndex?
  simp
theorem DrawAt.setR {H : Hp} {d w c : Addr} {n : Nat} {r t x : Int} (h : DrawAt H d w c n) (e : H d = some (.dK (dkv w c r t))) : DrawAt (upd H d (.dK (dkv w c x t))) d w c n := by
  have h1 := h.dw
  have h2 := h.dc
  obtain ⟨⟨r', t', a1, a2, e'⟩, ⟨ws, e2⟩, ⟨cs, e3⟩, ne⟩ := h
  have et : t = t' := by
    rw [e] at e'
    injection e' with e'
    injection e' with e'
    have := congrArg (fun l => valV l kT) e'
    simp only [dkv_t] at this
    injection this with this
    injection this
  exact ⟨⟨x, t, by omega, by omega, upd_same⟩, ⟨ws, by rw [upd_ne h1.symm]; exact e2⟩, ⟨cs, by rw [upd_ne h2.symm]; exact e3⟩, ne⟩
/-- one more long number -/
def spMixed : Sp := fun vs H Q _ => ∃ (d w c : Addr) (n : Nat), vs = [.ref d] ∧ DrawAt H d w c n ∧ n < 2 ^ 40 ∧ ∀ (i : Int) (H' : Hp), DrawAt H' d w c (n + 1) → But2 d w H H' → Q (.int i) H'
/-- a number from 0 to many - 1 -/
def spTake : Sp := fun vs H Q _ => ∃ (d w c : Addr) (n : Nat) (m : Int), vs = [.ref d, .int m] ∧ DrawAt H d w c n ∧ n < 2 ^ 40 ∧ 0 < m ∧ m < 2 ^ 29 ∧ ∀ (i : Int) (H' : Hp), 0 ≤ i → i < m → DrawAt H' d w c (n + 1) → But2 d w H H' → Q (.int i) H'
section
variable {P : Program} {w0 : World} {K : PySem.W.Frag} {mg : Str → Option Value} {base : Heap}
theorem scTake : FnScope ["draw", "many", "found"] ["draw", "many"] (defScope sTake) := ⟨rfl, rfl, rfl, by decide +kernel, rfl, by decide +kernel, by decide +kernel⟩
theorem ok_take {f fM : Addr} {fd fdM : FuncData} (F : Fun K "_law_take" "_law_take" sTake f fd) (FM : Fun K "_law_mixed" "_law_mixed" sMixed fM fdM) (bM : Binds K fdM ["draw"] []) (gM : mg "_law_mixed" = some (.ref fM)) (gi : mg "int" = none)
    (GM : FnOk P w0 K mg base CX0 1 fM fdM ["draw"] spMixed) : FnOk P w0 K mg base CX0 2 f fd ["draw", "many"] spTake := by
  refine F.ok scTake (fun vs H Q E h => ?_) (fun cdv A outer s H vs Q E hr h => ?_)
  · obtain ⟨d, w, c, n, m, rfl, _⟩ := h
    rfl
  · obtain ⟨d, w, c, n, m, rfl, hD, hn, hm0, hm, k⟩ := h
    have hu := hu_of hr
    refine ⟨_, Evl.pss_cut (ps_if (pt_cmpR op_eq (pe_dget hu (pv 0) pe_str (fun _ _ => rfl)) pe_int (nomark _))
        (pss_one (ps_dput hu (pv 0) pe_str (pe_ifExp (pt_cmpR (op_neD hr.units) (pe_dget hu (pv 0) pe_str (fun _ _ => rfl)) (pe_lst pa_nil) (nomark _))
          (pe_bm PySem.F.plainAttrs_list PySem.F.slot_list_pop PySem.F.type_list_pop mt_popAt (pe_dget hu (pv 0) pe_str (fun _ _ => rfl)) (pa_cons pe_int pa_nil))
          (pe_call GM hr (by rfl) gM FM.kp bM .nil pass0 (pa_cons (pv 0) pa_nil))) rfl)) pss_nil)
      (pss_cons (ps_set (i := 2) scTake.nd rfl (.inl rfl) (pe_op op_mod (pe_callTy call_int1 (by rfl) gi PySem.Pv.boot_int (pa_cons (pe_dget hu (pv 0) pe_str (fun _ _ => rfl)) pa_nil)) (pv 1)))
      (pss_cons (ps_dput hu (pv 0) pe_str (pe_op op_fdiv (pe_dget hu (pv 0) pe_str (fun _ _ => rfl)) (pv 1)) rfl)
      (pss_one (ps_ret (pv 2))))), ?_⟩
    obtain ⟨⟨r, t, ht0, htn, hd⟩, ⟨ws, hw⟩, ⟨cs, hc⟩, ne⟩ := id hD
    have hdw : d ≠ w := hD.dw
    refine ⟨fun σ H1 => σ = [some (.ref d), some (.int m), none] ∧ DrawAt H1 d w c (n + 1) ∧ But2 d w H H1, ?_, ?_⟩
    · refine ⟨_, rfl, d, _, rfl, get_r hd, rfl, _, rfl, ?_⟩
      refine ite2 (fun _ => ?_) (fun _ => ?_)
      · -- draw['wide'] != []
        refine ⟨_, rfl, d, _, rfl, get_w hd, Nat.zero_le _, fun p hp => ?_⟩
        have hd1 : (upd H p (.lst [])) d = some (.dK (dkv w c r t)) := by rw [upd_ne (ne_of_none hd hp)]; exact hd
        have hw1 : (upd H p (.lst [])) w = some (.lst (ws.map V.int)) := by rw [upd_ne (ne_of_none hw hp)]; exact hw
        have hD1 : DrawAt (upd H p (.lst [])) d w c n := hD.new hp
        refine ⟨_, _, .lst (SqL.of hw1) (dp_ints ws), .lst (SqL.of upd_same) .nil, shaped_ints ws, rfl, _, rfl, ?_⟩
        cases ws with
        | nil =>
          refine iteF ?_
          refine ⟨_, rfl, d, w, c, n, rfl, hD1, hn, fun i H2 hD2 b2 => ?_⟩
          obtain ⟨⟨r2, t2, a1, a2, e2⟩, q2, q3, q4⟩ := id hD2
          refine ⟨_, rfl, d, _, rfl, DPut.k (k := kR) e2 (by show 4 < sizeLine; decide), ?_⟩
          rw [dkv_putR]
          exact ⟨rfl, hD2.setR e2, ((But2.refl d w H).new hp |>.trans b2).d⟩
        | cons x ws =>
          refine iteT ?_
          refine ⟨_, rfl, d, _, rfl, get_w hd1, Or.inl ⟨rfl, _, SqL.of hw1⟩, w, _, 0, 0, _, rfl, rfl, hw1, by decide, by decide, seq0 _ _, rfl, ?_⟩
          have hd2 : ∀ o, (upd (upd H p (.lst [])) w o) d = some (.dK (dkv w c r t)) := fun o => by rw [upd_ne hdw]; exact hd1
          refine ⟨_, rfl, d, _, rfl, DPut.k (k := kR) (hd2 _) (by show 4 < sizeLine; decide), ?_⟩
          rw [dkv_putR]
          refine ⟨rfl, ⟨⟨x, t, ht0, by omega, upd_same⟩, ⟨ws, ?_⟩, ⟨cs, ?_⟩, ne⟩, (((But2.refl d w H).new hp).w).d⟩
          · rw [upd_ne hdw.symm, upd_same]
            rfl
          · rw [upd_ne hD.dc.symm, upd_ne ne.symm, upd_ne (ne_of_none hc hp)]
            exact hc
      · exact ⟨rfl, hD.mono (Nat.le_succ n), But2.refl d w H⟩
    · rintro σ H1 ⟨rfl, hD1, b1⟩
      obtain ⟨⟨r1, t1, a1, a2, e1⟩, q2, q3, q4⟩ := id hD1
      refine ⟨_, rfl, d, _, rfl, get_r e1, .inl ⟨r1, rfl, _, rfl, r1, m, rfl, rfl, hm0, ?_⟩⟩
      refine ⟨_, rfl, d, _, rfl, get_r e1, _, rfl, r1, m, rfl, rfl, ⟨hm0, by omega⟩, _, rfl, d, _, rfl, DPut.k (k := kR) e1 (by show 4 < sizeLine; decide), ?_⟩
      rw [dkv_putR]
      exact ⟨_, rfl, k _ _ (Int.emod_nonneg _ (by omega)) (Int.emod_lt_of_pos _ hm0) (hD1.setR e1) b1.d⟩
abbrev nMixed : List Str := ["draw", "turn", "found", "prime", "blend", "cell"]
theorem scMixed : FnScope nMixed ["draw"] (defScope sMixed) := ⟨rfl, rfl, rfl, by decide +kernel, rfl, by decide +kernel, by decide +kernel⟩
def primes : List Int := [2147483629, 2147483587, 2147483579, 2147483563]
theorem prime_bd {i : Nat} {x : V} (h : (primes.map V.int)[i]? = some x) : ∃ p : Int, x = .int p ∧ 2147483563 ≤ p ∧ p ≤ 2147483629 := by
  have hx : x ∈ primes.map V.int := List.mem_of_getElem? h
  obtain ⟨p, hp, rfl⟩ := List.mem_map.mp hx
  refine ⟨p, rfl, ?_⟩
  simp [primes] at hp
  omega
theorem ok_mixed {f : Addr} {fd : FuncData} (F : Fun K "_law_mixed" "_law_mixed" sMixed f fd) (gi : mg "int" = none) : FnOk P w0 K mg base CX0 1 f fd ["draw"] spMixed := by
  refine F.ok scMixed (fun vs H Q E h => ?_) (fun cdv A outer s H vs Q E hr h => ?_)
  · obtain ⟨d, w, c, n, rfl, _⟩ := h
    rfl
  · obtain ⟨d, w, c, n, rfl, hD, hn, k⟩ := h
    have hu := hu_of hr
    refine ⟨_, pss_cons (ps_par (i := 1) (j := 2) rfl scMixed.nd rfl rfl (by decide) rfl rfl (pa_cons (pe_op op_add (pe_dget hu (pv 0) pe_str (fun _ _ => rfl)) pe_int) (pa_cons pe_int pa_nil)) rfl)
      (pss_cons (ps_dput hu (pv 0) pe_str (pv 1) rfl)
      (pss_cons (ps_for PassesOwn.never rfl (pi_list (pe_lst (pa_cons pe_int (pa_cons pe_int (pa_cons pe_int (pa_cons pe_int pa_nil)))))) (pg_name (i := 3) scMixed.nd rfl (.inl rfl))
        (pss_cons (ps_set (i := 4) scMixed.nd rfl (.inl rfl) (pe_op op_add (pe_op op_mul pe_int (pv 1)) (pe_op op_fdiv (pv 3) pe_int)))
        (pss_cons (ps_for PassesOwn.never rfl (pi_list (pe_dget hu (pv 0) pe_str (fun _ _ => rfl))) (pg_name (i := 5) scMixed.nd rfl (.inl rfl))
          (pss_one (ps_set (i := 4) scMixed.nd rfl (.inl rfl) (pe_op op_mod (pe_callTy call_int1 (by rfl) gi PySem.Pv.boot_int (pa_cons (pe_op op_add (pe_op op_add (pe_op op_mul (pv 4) pe_int) (pv 5)) (pv 1)) pa_nil)) (pv 3)))))
        (pss_one (ps_set (i := 2) scMixed.nd rfl (.inl rfl) (pe_op op_add (pe_op op_mul (pv 2) pe_int) (pe_op op_mod (pe_callTy call_int1 (by rfl) gi PySem.Pv.boot_int (pa_cons (pe_op op_pow (pv 4) pe_int) pa_nil)) (pv 3))))))))
      (pss_one (ps_ret (pv 2))))), ?_⟩
    obtain ⟨⟨r, t, ht0, htn, hd⟩, ⟨ws, hw⟩, ⟨cs, hc⟩, ne⟩ := id hD
    refine ⟨_, rfl, d, _, rfl, get_t hd, _, _, rfl, rfl, _, _, rfl, ?_⟩
    refine ⟨_, rfl, _, rfl, d, _, rfl, DPut.k (k := kT) hd (by show 4 < sizeLine; decide), ?_⟩
    rw [dkv_putT]
    have hD1 : DrawAt (upd H d (.dK (dkv w c r (t + 1)))) d w c (n + 1) := ⟨⟨r, t + 1, by omega, by omega, upd_same⟩, ⟨ws, by rw [upd_ne hD.dw.symm]; exact hw⟩, ⟨cs, by rw [upd_ne hD.dc.symm]; exact hc⟩, ne⟩
    have b1 : But2 d w H (upd H d (.dK (dkv w c r (t + 1)))) := (But2.refl d w H).d
    refine ⟨by show 4 ≤ sizeLine; decide, fun p hp => ?_⟩
    have hD2 := hD1.new (o := HO.lst (primes.map V.int)) hp
    have b2 := b1.new (o := HO.lst (primes.map V.int)) hp
    have hd2 : (upd (upd H d (.dK (dkv w c r (t + 1)))) p (.lst (primes.map V.int))) d = some (.dK (dkv w c r (t + 1))) := by
      rw [upd_ne (ne_of_none (upd_same (o := HO.dK (dkv w c r (t + 1)))) hp), upd_same]
    have hc2 : (upd (upd H d (.dK (dkv w c r (t + 1)))) p (.lst (primes.map V.int))) c = some (.lst (cs.map V.int)) := by
      have hc1 : (upd H d (.dK (dkv w c r (t + 1)))) c = some (.lst (cs.map V.int)) := by rw [upd_ne hD.dc.symm]; exact hc
      rw [upd_ne (ne_of_none hc1 hp)]
      exact hc1
    have hp2 : (upd (upd H d (.dK (dkv w c r (t + 1)))) p (.lst (primes.map V.int))) p = some (.lst (primes.map V.int)) := upd_same
    refine ⟨p, rfl, ⟨_, SqL.of hp2⟩, for_list (K := K) (a := p) (xs := primes.map V.int) (fun i σ H' => H' = upd (upd H d (.dK (dkv w c r (t + 1)))) p (.lst (primes.map V.int)) ∧ ∃ (f : Int) (x y z : Option V), σ = [some (.ref d), some (.int (t + 1)), some (.int f), x, y, z])
      ⟨rfl, 0, none, none, none, rfl⟩ (fun i σ H' _ ⟨e, _⟩ => e ▸ SqL.of hp2) ?_ ?_⟩
    · rintro i x σ H' hx ⟨rfl, f, y3, y4, y5, rfl⟩
      obtain ⟨q, rfl, q1, q2⟩ := prime_bd hx
      refine ⟨_, rfl, _, _, rfl, rfl, .inl ⟨by decide, by decide⟩, _, rfl, _, _, rfl, rfl, ⟨by decide, by decide⟩, _, _, rfl, rfl, ?_⟩
      -- the inner loop: blend is never far
      refine ⟨_, rfl, d, _, rfl, get_c hd2, c, rfl, ⟨_, SqL.of hc2⟩, for_list (K := K) (a := c) (xs := cs.map V.int) (fun i σ H' => H' = upd (upd H d (.dK (dkv w c r (t + 1)))) p (.lst (primes.map V.int)) ∧ ∃ (b : Int) (z : Option V), 0 ≤ b ∧ b < 2 ^ 62 ∧ σ = [some (.ref d), some (.int (t + 1)), some (.int f), some (.int q), some (.int b), z])
        ⟨rfl, _, y5, ?_, ?_, rfl⟩ (fun i σ H' _ ⟨e, _⟩ => e ▸ SqL.of hc2) ?_ ?_⟩
      · omega
      · omega
      · rintro i x σ H' hx ⟨rfl, b, z, hb0, hb, rfl⟩
        obtain ⟨v, hv⟩ : ∃ v : Int, x = .int v := by
          have hm : x ∈ cs.map V.int := List.mem_of_getElem? hx
          obtain ⟨v, _, e⟩ := List.mem_map.mp hm
          exact ⟨v, e.symm⟩
        subst hv
        refine ⟨_, rfl, _, _, rfl, rfl, .inr ⟨by decide, by decide⟩, _, rfl, _, _, rfl, rfl, _, rfl, _, _, rfl, rfl, .inl ⟨_, rfl, _, rfl, _, _, rfl, rfl, (show (0 : Int) < q by omega), ?_⟩⟩
        exact ⟨rfl, _, _, Int.emod_nonneg _ (by omega), Int.lt_of_lt_of_le (Int.emod_lt_of_pos _ (by omega)) (by omega), rfl⟩
      · rintro σ H' ⟨rfl, b, z, hb0, hb, rfl⟩
        refine ⟨_, rfl, _, _, rfl, rfl, .inr ⟨by decide, by decide⟩, _, rfl, _, _, rfl, rfl, ⟨by decide, by decide, by omega⟩, .inl ⟨_, rfl, _, rfl, _, _, rfl, rfl, (show (0 : Int) < q by omega), _, _, rfl, rfl, ?_⟩⟩
        exact ⟨rfl, _, _, _, _, rfl⟩
    · rintro σ H' ⟨rfl, f, x, y, z, rfl⟩
      exact ⟨_, rfl, k _ _ hD2 b2⟩
/-- one of a list's items -/
def spPick (K : PySem.W.Frag) : Sp := fun vs H Q _ => ∃ (d w c a : Addr) (n : Nat) (xs : List V), vs = [.ref d, .ref a] ∧ DrawAt H d w c n ∧ n < 2 ^ 40 ∧ a ≠ d ∧ a ≠ w ∧ SqL K H a xs ∧ xs ≠ [] ∧ xs.length < 2 ^ 29 ∧
  ∀ (x : V) (H' : Hp), x ∈ xs → DrawAt H' d w c (n + 1) → But2 d w H H' → Q x H'
theorem But2.seq {d w a : Addr} {H H' : Hp} {xs : List V} (b : But2 d w H H') (h1 : a ≠ d) (h2 : a ≠ w) (h : SqL K H a xs) : SqL K H' a xs := by
  rcases h with (h | ⟨o, h⟩) | h
  · exact .inl (.inl (b _ _ h h1 h2))
  · exact .inl (.inr ⟨o, b _ _ h h1 h2⟩)
  · exact .inr h
theorem scPick : FnScope ["draw", "some"] ["draw", "some"] (defScope sPick) := ⟨rfl, rfl, rfl, by decide +kernel, rfl, by decide +kernel, by decide +kernel⟩
theorem ok_pick {f fT : Addr} {fd fdT : FuncData} (F : Fun K "_law_pick" "_law_pick" sPick f fd) (FT : Fun K "_law_take" "_law_take" sTake fT fdT) (bT : Binds K fdT ["draw", "many"] []) (gT : mg "_law_take" = some (.ref fT)) (gl : mg "len" = none)
    (GT : FnOk P w0 K mg base CX0 2 fT fdT ["draw", "many"] spTake) : FnOk P w0 K mg base CX0 3 f fd ["draw", "some"] (spPick K) := by
  refine F.ok scPick (fun vs H Q E h => ?_) (fun cdv A outer s H vs Q E hr h => ?_)
  · obtain ⟨d, w, c, a, n, xs, rfl, _⟩ := h
    rfl
  · obtain ⟨d, w, c, a, n, xs, rfl, hD, hn, ad, aw, hS, hx, hl, k⟩ := h
    refine ⟨_, pss_one (ps_ret (pe_ix ix_list (pv 1) (pe_call GT hr (by rfl) gT FT.kp bT .nil pass0 (pa_cons (pv 0) (pa_cons (pe_callB call_len_seq (by rfl) gl PySem.boot_len (pa_cons (pv 1) pa_nil)) pa_nil))) (fun _ _ => rfl))), ?_⟩
    have h0 : 0 < xs.length := List.length_pos_iff.mpr hx
    refine ⟨_, rfl, _, rfl, _, rfl, a, xs, rfl, .inl hS, d, w, c, n, xs.length, rfl, hD, hn, by omega, by omega, fun i H1 i0 i1 hD1 b1 => ?_⟩
    have hi : i.toNat < xs.length := by omega
    refine ⟨a, xs, i, xs[i.toNat], rfl, rfl, b1.seq ad aw hS, ?_, k _ _ (List.getElem_mem hi) hD1 b1⟩
    obtain ⟨j, rfl⟩ := Int.eq_ofNat_of_zero_le i0
    exact atI_nat (List.getElem?_eq_getElem (by omega))
/-- the state of all draws -/
def spBegun (K : PySem.W.Frag) : Sp := fun vs H Q _ => ∃ (a : Addr) (ns : List Int), vs = [.ref a] ∧ SqL K H a (ns.map V.int) ∧ ns.length ≤ 63 ∧ ∀ (d w c : Addr) (H' : Hp), H d = none → H w = none → H c = none → DrawAt H' d w c 0 → Same H H' → Q (.ref d) H'
abbrev nBegun : List Str := ["script", "wide", "cell"]
theorem scBegun : FnScope nBegun ["script"] (defScope sBegun) := ⟨rfl, rfl, rfl, by decide +kernel, rfl, by decide +kernel, by decide +kernel⟩
theorem ok_begun {f : Addr} {fd : FuncData} (F : Fun K "_law_begun" "_law_begun" sBegun f fd) (gi : mg "int" = none) (ga : mg "abs" = none) : FnOk P w0 K mg base CX0 1 f fd ["script"] (spBegun K) := by
  refine F.ok scBegun (fun vs H Q E h => ?_) (fun cdv A outer s H vs Q E hr h => ?_)
  · obtain ⟨a, ns, rfl, _⟩ := h
    rfl
  · obtain ⟨a, ns, rfl, hS, hl, k⟩ := h
    have hu := hu_of hr
    refine ⟨_, pss_cons (ps_setLc (i := 1) (own := [("cell", 2)]) (g := gName 2) (tt := _) (by rfl) scBegun.nd rfl rfl (sw_true rfl rfl rfl (by decide +kernel)) (pi_list (pv 0)) (blkOk_by (N := nBegun) (sc := defScope sBegun) (by decide +kernel))
        (fun _ _ _ _ _ => pg_name (i := 2) scBegun.nd rfl (Or.inl rfl))
        (fun _ _ _ _ _ => pts_one (pt_cmpR op_ge (pe_callB call_abs (by rfl) ga (by decide +kernel) (pa_cons (pv 2) pa_nil)) (pe_op op_pow pe_int pe_int) (nomark _)))
        (fun _ _ _ _ _ => pe_op op_sub (pe_callB call_abs (by rfl) ga (by decide +kernel) (pa_cons (pv 2) pa_nil)) (pe_op op_pow pe_int pe_int)))
      (pss_one (ps_ret (pe_disp (pps_cons pe_str (pv 1) (pps_cons pe_str (pe_lc (own := [("cell", 2)]) (g := gName 2) (tt := tYes) (by rfl) scBegun.nd (pi_list (pv 0)) (blkOk_by (N := nBegun) (sc := defScope sBegun) (by decide +kernel))
          (fun _ _ _ _ _ => pg_name (i := 2) scBegun.nd rfl (Or.inl rfl)) (fun _ _ _ _ _ => pts_nil)
          (fun _ _ _ _ _ => pe_op op_mod (pe_callTy call_int1 (by rfl) gi PySem.Pv.boot_int (pa_cons (pe_callB call_abs (by rfl) ga (by decide +kernel) (pa_cons (pv 2) pa_nil)) pa_nil)) pe_int))
        (pps_cons pe_str pe_int (pps_cons pe_str pe_int pps_nil)))) (by rfl) (by rfl) (fun z => by cases z) (by decide)))), ?_⟩
    have h18 : CPow 10 18 := ⟨by decide, by decide, by decide⟩
    have hint : ∀ (i : Nat) (x : V), (ns.map V.int)[i]? = some x → ∃ v : Int, x = .int v := fun i x hx => by
      obtain ⟨v, _, e⟩ := List.mem_map.mp (List.mem_of_getElem? hx)
      exact ⟨v, e.symm⟩
    refine ⟨_, rfl, a, rfl, ⟨_, hS⟩, fun w hw => lc_list (K := K) (a := a) (xs := ns.map V.int) (fun i H' => Same H H' ∧ ∃ ws : List Int, H' w = some (.lst (ws.map V.int)) ∧ ws.length ≤ i)
      ⟨Same.new hw, [], upd_same, Nat.le_refl _⟩ (fun i H' _ ⟨e, _⟩ => e.seq hS) ?_ ?_⟩
    · rintro i x H' hx ⟨s1, ws, hw1, hwl⟩
      obtain ⟨v, rfl⟩ := hint i x hx
      have hi : i < ns.length := by
        have := (List.getElem?_eq_some_iff.mp hx).1
        rw [List.length_map] at this
        exact this
      refine ⟨rfl, _, rfl, _, rfl, _, _, rfl, rfl, h18, _, _, rfl, rfl, _, rfl, ite2 (fun _ => ?_) (fun _ => ?_)⟩
      · refine ⟨_, rfl, _, rfl, _, _, rfl, rfl, h18, _, _, rfl, rfl, _, hw1, small1000 (by rw [List.length_map]; omega), fun b o e => ?_, ws ++ [(if v < 0 then -v else v) - 10 ^ 18], ?_, ?_⟩
        · rw [upd_ne (ne_of_none e hw)]
          exact s1 b o e
        · rw [upd_same, List.map_append]
          rfl
        · rw [List.length_append, List.length_singleton]
          omega
      · exact ⟨s1, ws, hw1, by omega⟩
    · rintro H1 ⟨s1, ws, hw1, hwl⟩
      intro d hd
      have nd : d ≠ w := fun z => by rw [z, hw1] at hd; cases hd
      have s2 : Same H (upd H1 d (.dK [])) := s1.trans (Same.new hd)
      have hw2 : (upd H1 d (.dK [])) w = some (.lst (ws.map V.int)) := by rw [upd_ne nd.symm]; exact hw1
      refine ⟨_, rfl, _, rfl, a, rfl, ⟨_, s2.seq hS⟩, fun c hc => lc_list (K := K) (a := a) (xs := ns.map V.int) (fun i H' => Same (upd H1 d (.dK [])) H' ∧ ∃ cs : List Int, H' c = some (.lst (cs.map V.int)) ∧ cs.length ≤ i)
        ⟨Same.new hc, [], upd_same, Nat.le_refl _⟩ (fun i H' _ ⟨e, _⟩ => e.seq (s2.seq hS)) ?_ ?_⟩
      · rintro i x H' hx ⟨s3, cs, hc1, hcl⟩
        obtain ⟨v, rfl⟩ := hint i x hx
        have hi : i < ns.length := by
          have := (List.getElem?_eq_some_iff.mp hx).1
          rw [List.length_map] at this
          exact this
        refine ⟨rfl, yes ?_⟩
        refine ⟨_, rfl, _, rfl, .inl ⟨_, rfl, _, _, rfl, rfl, (by show (0 : Int) < 2147483629; decide), _, hc1, small1000 (by rw [List.length_map]; omega), fun b o e => ?_, cs ++ [(if v < 0 then -v else v) % 2147483629], ?_, ?_⟩⟩
        · rw [upd_ne (ne_of_none e hc)]
          exact s3 b o e
        · rw [upd_same, List.map_append]
          rfl
        · rw [List.length_append, List.length_singleton]
          omega
      · rintro H3 ⟨s3, cs, hc3, hcl⟩
        have hd3 : H3 d = some (.dK []) := s3 _ _ upd_same
        have hw3 : H3 w = some (.lst (ws.map V.int)) := s3 _ _ hw2
        have ndc : c ≠ d := fun z => by rw [z, upd_same] at hc; cases hc
        have nwc : w ≠ c := fun z => by rw [← z, hw2] at hc; cases hc
        refine ⟨hd3, [(kW, .ref w), (kC, .ref c), (kR, .int 0), (kT, .int 0)], rfl, (by show 4 ≤ 15; decide), ?_⟩
        rw [merge4]
        refine k d w c _ (s1.free hd) hw ?_ ⟨⟨0, 0, by decide, by decide, upd_same⟩, ⟨ws, ?_⟩, ⟨cs, ?_⟩, nwc⟩ fun b o e => ?_
        · exact s2.free hc
        · rw [upd_ne nd.symm]
          exact hw3
        · rw [upd_ne ndc]
          exact hc3
        · rw [upd_ne (ne_of_none e (s1.free hd))]
          exact s3 _ _ (s2 _ _ e)
end
end SA
set_option Elab.async false
set_option linter.all false
set_option maxRecDepth 100000
set_option maxHeartbeats 4000000
namespace K1
open PySem L2
abbrev tl (z : Str) : L := z.cps.toList
def mk (l : L) : Str := ⟨l.toArray⟩
theorem tl_mk (l : L) : tl (mk l) = l := by simp [mk]
theorem mk_tl (z : Str) : mk (tl z) = z := by simp [mk]
theorem tl_inj {a b : Str} (h : tl a = tl b) : a = b := by rw [← mk_tl a, ← mk_tl b, h]
theorem len_tl (z : Str) : z.length = (tl z).length := rfl
theorem len_mk (l : L) : (mk l).length = l.length := by simp [mk, Str.length]
theorem cut_nn (z : Str) (a b : Nat) : cutS z (some (a : Int)) (some (b : Int)) = mk (((tl z).drop a).take (b - a)) := by
  unfold cutS mk tl
  rw [HT.sIx_nat, HT.sIx_nat, show z.length = z.cps.toList.length from rfl]
  generalize z.cps.toList = l
  congr 1
  by_cases h : a ≤ l.length
  · rw [Nat.min_eq_left h]
    by_cases hb : b ≤ l.length
    · rw [Nat.min_eq_left hb]
    · rw [Nat.min_eq_right (by omega), List.take_of_length_le (by rw [List.length_drop]; omega), List.take_of_length_le (by rw [List.length_drop]; omega)]
  · have e : l.drop (min a l.length) = [] := List.drop_of_length_le (by omega)
    have e2 : l.drop a = [] := List.drop_of_length_le (by omega)
    rw [e, e2]
    simp
theorem cut_n (z : Str) (a : Nat) : cutS z (some (a : Int)) none = mk ((tl z).drop a) := by
  unfold cutS mk tl
  rw [HT.sIx_nat, HT.sIx_none, show z.length = z.cps.toList.length from rfl]
  generalize z.cps.toList = l
  congr 1
  by_cases h : a ≤ l.length
  · rw [Nat.min_eq_left h, List.take_of_length_le (by rw [List.length_drop]; omega)]
  · rw [Nat.min_eq_right (by omega), List.drop_of_length_le (Nat.le_refl _), List.drop_of_length_le (by omega)]
    simp
theorem cut_0n (z : Str) (b : Nat) : cutS z none (some (b : Int)) = mk ((tl z).take b) := by
  unfold cutS mk tl
  rw [HT.sIx_nat, HT.sIx_none, show z.length = z.cps.toList.length from rfl]
  generalize z.cps.toList = l
  congr 1
  rw [List.drop_zero, Nat.sub_zero]
  by_cases h : b ≤ l.length
  · rw [Nat.min_eq_left h]
  · rw [Nat.min_eq_right (by omega), List.take_of_length_le (Nat.le_refl _), List.take_of_length_le (by omega)]
theorem lt1 (a b : Nat) : decide ([a] < [b]) = decide (a < b) := by
  rw [decide_eq_decide]
  constructor
  · intro h
    cases h with
    | rel h => exact h
    | cons h => cases h
  · intro h
    exact List.Lex.rel h
theorem lt_nil (a : L) : decide (a < ([] : L)) = false := by
  rw [decide_eq_false_iff_not]
  intro h
  cases h
theorem nil_lt (a : Nat) : decide (([] : L) < [a]) = true := by
  rw [decide_eq_true_eq]
  exact List.Lex.nil
theorem dig : ∀ c < 128, Unicode.isDigit c = digit c := by decide +kernel
theorem isdigit_mk (l : L) (h : ∀ c ∈ l, c < 128) : Txt.isdigit (mk l) = (!l.isEmpty && l.all digit) := by
  unfold Txt.isdigit
  rw [len_mk]
  have e : (mk l).cps.all Unicode.isDigit = l.all digit := by
    show l.toArray.all Unicode.isDigit = _
    rw [List.all_toArray]
    rw [Bool.eq_iff_iff, List.all_eq_true, List.all_eq_true]
    exact ⟨fun z c hc => by rw [← dig c (h c hc)]; exact z c hc, fun z c hc => by rw [dig c (h c hc)]; exact z c hc⟩
  rw [e]
  cases l <;> simp
theorem inV_str (w : Str) : ∀ l : List Str, inV (.str w) (l.map V.str) = decide (w ∈ l)
  | [] => rfl
  | a :: l => by
    have ih := inV_str w l
    have e : inV (.str w) ((a :: l).map V.str) = ((a == w) || inV (.str w) (l.map V.str)) := rfl
    rw [e, ih, Bool.eq_iff_iff, Bool.or_eq_true, beq_iff_eq, decide_eq_true_eq, decide_eq_true_eq, List.mem_cons]
    exact or_congr ⟨Eq.symm, Eq.symm⟩ Iff.rfl
theorem flat_strs : ∀ l : List Str, (l.map V.str).all flatV = true
  | [] => rfl
  | a :: l => by
    rw [List.map_cons, List.all_cons, flat_strs l]
    rfl
/-! ### the sorts -/
def keptS : List Str := ["and", "at", "choice", "else", "fail", "false", "function", "if", "let", "long", "make", "match", "new", "not", "number", "of", "or", "over", "put", "rest", "return", "row", "set", "show", "true", "truth", "try", "unit", "uses", "while"]
def signsS : List Str := ["(", ")", "{", "}", ",", ":", "=", "|", "+", "-", "*", "<", "<=", "=="]
def small (c : Nat) : Bool := decide (97 ≤ c ∧ c ≤ 122)
def isName (w : Str) : Bool := decide (1 ≤ w.length) && (decide (w.length ≤ 8) && (!decide (w ∈ keptS) && (tl w).all small))
def figs (w : Str) : L := if (tl w).head? = some 45 then (tl w).drop 1 else tl w
def isFig (w : Str) : Bool := decide (w = "0") || (!(figs w).isEmpty && ((figs w).all digit && !decide ((figs w).head? = some 48)))
def sortW (w : Str) : Str := if w ∈ keptS ∨ w ∈ signsS then w else if isName w = true then "name" else if isFig w = true then "figures" else "strange"
end K1
set_option Elab.async false
set_option linter.all false
set_option maxRecDepth 100000
set_option maxHeartbeats 4000000
namespace SA
open PySem PySem.Spec PyProof.Rows L2 K1
abbrev sIsName : Stmt := topS 10
abbrev sIsText : Stmt := topS 11
def lettersS : Str := "abcdefghijklmnopqrstuvwxyz"
def innerS : Str := "abcdefghijklmnopqrstuvwxyzABCDEFGHIJKLMNOPQRSTUVWXYZ0123456789_"
/-- what the top's constants are -/
structure Top1 (K : PySem.W.Frag) (mg : Str → Option Value) (kA sA : Addr) : Prop where
  kept : mg "KEPT" = some (.ref kA)
  keptT : ∀ H, SqT K H kA (keptS.map V.str)
  signs : mg "SIGNS" = some (.ref sA)
  signsT : ∀ H, SqT K H sA (signsS.map V.str)
  letters : ∃ t, mg "LETTERS" = some (.str lettersS t)
  inner : ∃ t, mg "INNER" = some (.str innerS t)
  percent : ∃ t, mg "PERCENT" = some (.int 37 t)
/-- a value that is no text -/
def NotS (K : PySem.W.Frag) (H : Hp) (x : V) : Prop := ∃ t : String, TyX K H x (.type t) ∧ PySem.W.kitOne K (.type t) (.type "str") = some false
def spIsName (K : PySem.W.Frag) : Sp := fun vs H Q _ => ∃ x, vs = [x] ∧ ((∃ w, x = .str w ∧ w.length ≤ 100000 ∧ ∀ H', Same H H' → Q (.bl (isName w)) H') ∨ (NotS K H x ∧ Q (.bl false) H))
def isText (w : Str) : Bool := (tl w).all okc
def spIsText (K : PySem.W.Frag) : Sp := fun vs H Q _ => ∃ x, vs = [x] ∧ ((∃ w, x = .str w ∧ w.length ≤ 100000 ∧ ∀ H', Same H H' → Q (.bl (isText w)) H') ∨ (NotS K H x ∧ Q (.bl false) H))
theorem small_letters (c : Nat) : decide (c ∈ tl lettersS) = small c := by
  unfold small
  rw [decide_eq_decide]
  have e : tl lettersS = [97, 98, 99, 100, 101, 102, 103, 104, 105, 106, 107, 108, 109, 110, 111, 112, 113, 114, 115, 116, 117, 118, 119, 120, 121, 122] := by decide +kernel
  rw [e]
  simp only [List.mem_cons, List.not_mem_nil, or_false]
  omega
theorem inn_inner (c : Nat) : decide (c ∈ tl innerS) = inn c := by
  have e1 : ∀ c ∈ tl innerS, inn c = true := by decide +kernel
  have e2 : ∀ c < 128, inn c = true → c ∈ tl innerS := by decide +kernel
  rw [Bool.eq_iff_iff, decide_eq_true_eq]
  refine ⟨e1 c, fun h => e2 c ?_ h⟩
  unfold inn at h
  simp only [Bool.or_eq_true, decide_eq_true_eq] at h
  omega
theorem at_tl {w : Str} {i c : Nat} (h : w.cps[i]? = some c) : (tl w)[i]? = some c := by simpa using h
theorem take_all {p : Nat → Bool} {l : L} {i : Nat} {c : Nat} (h : l[i]? = some c) : (l.take (i + 1)).map p = (l.take i).map p ++ [p c] := by
  rw [List.take_add_one, h, List.map_append]
  rfl
/-- all(f(c) for c in w), its list as a comprehension makes it -/
theorem all_map (p : Nat → Bool) : ∀ l : L, (l.map p).all id = l.all p
  | [] => rfl
  | c :: l => by rw [List.map_cons, List.all_cons, List.all_cons, all_map p l]; rfl
section
variable {P : Program} {w0 : World} {K : PySem.W.Frag} {mg : Str → Option Value} {base : Heap} {kA sA : Addr}
theorem scIsName : FnScope ["thing", "letter"] ["thing"] (defScope sIsName) := ⟨rfl, rfl, rfl, by decide +kernel, rfl, by decide +kernel, by decide +kernel⟩
theorem ok_isName {f : Addr} {fd : FuncData} (F : Fun K "is_name" "is_name" sIsName f fd) (T : Top1 K mg kA sA) (gi : mg "isinstance" = none) (gs : mg "str" = none) (gl : mg "len" = none) (ga : mg "all" = none) :
    FnOk P w0 K mg base CX0 1 f fd ["thing"] (spIsName K) := by
  obtain ⟨tl1, mL⟩ := T.letters
  refine F.ok scIsName (fun vs H Q E h => ?_) (fun cdv A outer s H vs Q E hr h => ?_)
  · obtain ⟨x, rfl, _⟩ := h
    rfl
  · obtain ⟨x, rfl, h⟩ := h
    refine ⟨_, pss_cons (ps_if (PW.pt (pw_or (pt_not (pt_val (pe_callB call_isi (by rfl) gi boot_isinstance (pa_cons (pv 0) (pa_cons (pe_bltn (v := .ty "str") (by rfl) gs (by decide +kernel) rfl) pa_nil)))))
        (pw_or (pt_not (pt_chain op_le op_le pe_int (pe_callB call_len_str (by rfl) gl PySem.boot_len (pa_cons (pv 0) pa_nil)) pe_int))
          (pw_or1 (pt_cmpR op_in_seq (pv 0) (pe_glob (v := .ref kA) (by rfl) T.kept rfl) rfl))))) (pss_one (ps_ret pe_bl)) pss_nil)
      (pss_one (ps_ret (pe_callB (cr_all rfl) (by rfl) ga (by decide +kernel) (pa_cons (pe_lc (own := [("letter", 1)]) (g := gName 1) (tt := tYes) (te := tOp (fun x y H Q => ∃ (c : Nat) (z : Str), x = .str ⟨#[c]⟩ ∧ y = .str z ∧ Q (.bl (decide (c ∈ z.cps.toList))) H) (tVar 1) (tC (.str lettersS))) (by rfl) scIsName.nd (pi_str (pv 0))
        (blkOk_by (N := ["thing", "letter"]) (sc := defScope sIsName) (by decide +kernel)) (fun _ _ _ _ _ => pg_name (i := 1) scIsName.nd rfl (Or.inl rfl)) (fun _ _ _ _ _ => pts_nil) (fun _ _ _ _ _ => pe_cmpR op_in_sign (pv 1) (pe_glob (v := .str lettersS) (by rfl) mL ⟨_, rfl⟩) rfl)) pa_nil)))), ?_⟩
    rcases h with ⟨w, rfl, hw, k⟩ | ⟨⟨t, ty, kt⟩, k⟩
    · have hz : w.length ≤ sizeLine := Nat.le_trans hw (by decide)
      refine ⟨_, rfl, .str w, .ty "str", .type "str", .type "str", true, rfl, .ty _, .base (.str w), kit_ty (by decide +kernel), true, rfl, ?_⟩
      refine iteF ?_
      have k0 : isName w = false → Q (.bl false) H := fun e => e ▸ k H (Same.refl H)
      refine ⟨_, rfl, w, rfl, hz, _, _, rfl, rfl, _, rfl, ite2 (fun h1 => ?_) (fun h1 => ?_)⟩
      · have h1 : (1 : Int) ≤ w.length := of_decide_eq_true h1
        refine ⟨_, _, rfl, rfl, _, rfl, ?_⟩
        by_cases h2 : (w.length : Int) ≤ 8
        · rw [decide_eq_true h2]
          refine iteF ?_
          refine ⟨_, rfl, kA, _, rfl, .inr (T.keptT H), rfl, flat_strs _, _, rfl, ?_⟩
          rw [inV_str]
          by_cases h3 : w ∈ keptS
          · rw [decide_eq_true h3]
            refine iteT (k0 ?_)
            simp [isName, h3]
          · rw [decide_eq_false h3]
            refine iteF ?_
            refine ⟨_, rfl, w, rfl, fun p hp => lc_it walk_str (fun i H' => Same H H' ∧ H' p = some (.lst (((tl w).take i).map fun c => V.bl (small c)))) ⟨Same.new hp, upd_same⟩ (fun _ _ _ _ => trivial) ?_ ?_⟩
            · rintro i x H1 H' hi ⟨s1, e1⟩ ⟨rfl, c, hc, rfl⟩
              refine ⟨rfl, yes ?_⟩
              refine ⟨_, rfl, c, lettersS, rfl, rfl, _, e1, ?_, fun b o e => ?_, ?_⟩
              · rw [List.length_map, List.length_take]
                exact Nat.lt_of_le_of_lt (Nat.min_le_right _ _) (Nat.lt_of_le_of_lt hw (by decide))
              · rw [upd_ne (ne_of_none e hp)]
                exact s1 b o e
              · rw [upd_same, small_letters, List.take_add_one, at_tl hc, List.map_append]
                rfl
            · rintro H1 ⟨s1, e1⟩
              rw [List.take_of_length_le (Nat.le_of_eq (by simp))] at e1
              have e2 : (tl w).map (fun c => V.bl (small c)) = ((tl w).map small).map V.bl := by rw [List.map_map]; rfl
              rw [e2] at e1
              refine ⟨p, _, rfl, SqL.of e1, ?_⟩
              have := k H1 s1
              rw [all_map]
              have e3 : isName w = (tl w).all small := by simp [isName, h3, show 1 ≤ w.length by omega, show w.length ≤ 8 by omega]
              rw [← e3]
              exact this
        · rw [decide_eq_false h2]
          refine iteT (k0 ?_)
          simp [isName, show ¬ w.length ≤ 8 by omega]
      · have h1 : ¬ (1 : Int) ≤ w.length := fun z => h1 (decide_eq_true z)
        refine ⟨_, rfl, ?_⟩
        refine iteT (k0 ?_)
        simp [isName, show ¬ 1 ≤ w.length by omega]
    · refine ⟨_, rfl, x, .ty "str", .type t, .type "str", false, rfl, .ty _, ty, kt, false, rfl, ?_⟩
      exact k
theorem scIsText : FnScope ["thing", "sign"] ["thing"] (defScope sIsText) := ⟨rfl, rfl, rfl, by decide +kernel, rfl, by decide +kernel, by decide +kernel⟩
def tSign : TE := tOrV (tOp rEq (tVar 1) (tC (.str "\n"))) (tAndV (tChain (fun x y H Q => ∃ i j, x = .str i ∧ y = .str j ∧ Q (.bl (!decide (j.cps.toList < i.cps.toList))) H) (fun x y H Q => ∃ i j, x = .str i ∧ y = .str j ∧ Q (.bl (!decide (j.cps.toList < i.cps.toList))) H) (tC (.str " ")) (tVar 1) (tC (.str "~")))
  (tOp rNe (tCB (fun xs H Q => ∃ x, xs = [.str x] ∧ x.length = 1 ∧ Q (.int (x.cps.getD 0 0 : Nat)) H) (tCons (tVar 1) tNil)) (tC (.int 37))))
theorem sign_run {σ : L2.St} {H : Hp} {Q : VK} {c : Nat} (h : σ[1]? = some (some (.str ⟨#[c]⟩))) (q : Q (.bl (okc c)) H) : tSign σ H Q := by
  refine ⟨_, h, rfl, _, rfl, ?_⟩
  by_cases h1 : c = 10
  · subst h1
    have e : decide (V.str (⟨#[10]⟩ : Str) = V.str "\n") = true := by decide +kernel
    rw [e]
    exact iteT q
  · have e : decide (V.str (⟨#[c]⟩ : Str) = V.str "\n") = false := by
      rw [decide_eq_false_iff_not]
      intro z
      injection z with z
      have z2 := congrArg (fun s => s.cps.toList) z
      have z3 : ((Str.ofString "\n").cps.toList) = [10] := by decide +kernel
      rw [z3] at z2
      simp at z2
      exact h1 z2
    rw [e]
    refine iteF ?_
    refine ⟨_, h, _, _, rfl, rfl, _, rfl, ?_⟩
    have s1 : (Str.ofString " ").cps.toList = [32] := by decide +kernel
    have s2 : (Str.ofString "~").cps.toList = [126] := by decide +kernel
    rw [s1, lt1]
    by_cases h2 : c < 32
    · rw [decide_eq_true h2]
      refine iteF ⟨_, rfl, iteF ?_⟩
      have e2 : okc c = false := by
        unfold okc
        simp [h1, show ¬ 32 ≤ c by omega]
      rw [← e2]
      exact q
    · rw [decide_eq_false h2]
      refine iteT ⟨_, _, rfl, rfl, _, rfl, ?_⟩
      rw [s2, lt1]
      by_cases h3 : 126 < c
      · rw [decide_eq_true h3]
        refine iteF ?_
        have e2 : okc c = false := by
          unfold okc
          simp [h1, show ¬ c ≤ 126 by omega]
        rw [← e2]
        exact q
      · rw [decide_eq_false h3]
        refine iteT ⟨_, h, _, rfl, rfl, rfl, ?_⟩
        have e2 : (!decide (V.int (((#[c] : Array Nat).getD 0 0 : Nat) : Int) = V.int 37)) = okc c := by
          unfold okc
          have e3 : ((#[c] : Array Nat).getD 0 0) = c := rfl
          rw [e3]
          by_cases h4 : c = 37
          · subst h4
            decide +kernel
          · have h5 : ¬ (V.int (c : Int) = V.int 37) := fun z => by
              injection z with z
              omega
            simp [h1, h4, h5, show 32 ≤ c by omega, show c ≤ 126 by omega]
        show Q (.bl (!decide (V.int (((#[c] : Array Nat).getD 0 0 : Nat) : Int) = V.int 37))) H
        rw [e2]
        exact q
theorem ok_isText {f : Addr} {fd : FuncData} (F : Fun K "is_text" "is_text" sIsText f fd) (T : Top1 K mg kA sA) (gi : mg "isinstance" = none) (gs : mg "str" = none) (go : mg "ord" = none) (ga : mg "all" = none) :
    FnOk P w0 K mg base CX0 1 f fd ["thing"] (spIsText K) := by
  obtain ⟨tp, mP⟩ := T.percent
  refine F.ok scIsText (fun vs H Q E h => ?_) (fun cdv A outer s H vs Q E hr h => ?_)
  · obtain ⟨x, rfl, _⟩ := h
    rfl
  · obtain ⟨x, rfl, h⟩ := h
    refine ⟨_, pss_cons (ps_if (pt_not (pt_val (pe_callB call_isi (by rfl) gi boot_isinstance (pa_cons (pv 0) (pa_cons (pe_bltn (v := .ty "str") (by rfl) gs (by decide +kernel) rfl) pa_nil))))) (pss_one (ps_ret pe_bl)) pss_nil)
      (pss_one (ps_ret (pe_callB (cr_all rfl) (by rfl) ga (by decide +kernel) (pa_cons (pe_lc (own := [("sign", 1)]) (g := gName 1) (tt := tYes) (te := tSign) (by rfl) scIsText.nd (pi_str (pv 0))
        (blkOk_by (N := ["thing", "sign"]) (sc := defScope sIsText) (by decide +kernel)) (fun _ _ _ _ _ => pg_name (i := 1) scIsText.nd rfl (Or.inl rfl)) (fun _ _ _ _ _ => pts_nil)
        (fun _ _ _ _ _ => pe_or (pe_cmpR op_eq (pv 1) pe_str (nomark _)) (pe_one (pe_and (pe_chain op_le_str op_le_str pe_str (pv 1) pe_str) (pe_one (pe_cmpR op_ne (pe_callB call_ord (by rfl) go (by decide +kernel) (pa_cons (pv 1) pa_nil)) (pe_glob (v := .int 37) (by rfl) mP ⟨_, rfl⟩) (nomark _))))))) pa_nil)))), ?_⟩
    rcases h with ⟨w, rfl, hw, k⟩ | ⟨⟨t, ty, kt⟩, k⟩
    · have hz : w.length ≤ sizeLine := Nat.le_trans hw (by decide)
      refine ⟨_, rfl, .str w, .ty "str", .type "str", .type "str", true, rfl, .ty _, .base (.str w), kit_ty (by decide +kernel), true, rfl, ?_⟩
      refine iteF ?_
      refine ⟨_, rfl, w, rfl, fun p hp => lc_it walk_str (fun i H' => Same H H' ∧ H' p = some (.lst (((tl w).take i).map fun c => V.bl (okc c)))) ⟨Same.new hp, upd_same⟩ (fun _ _ _ _ => trivial) ?_ ?_⟩
      · rintro i x H1 H' hi ⟨s1, e1⟩ ⟨rfl, c, hc, rfl⟩
        refine ⟨rfl, yes ?_⟩
        refine sign_run rfl ⟨_, e1, ?_, fun b o e => ?_, ?_⟩
        · rw [List.length_map, List.length_take]
          exact Nat.lt_of_le_of_lt (Nat.min_le_right _ _) (Nat.lt_of_le_of_lt hw (by decide))
        · rw [upd_ne (ne_of_none e hp)]
          exact s1 b o e
        · rw [upd_same, List.take_add_one, at_tl hc, List.map_append]
          rfl
      · rintro H1 ⟨s1, e1⟩
        rw [List.take_of_length_le (Nat.le_of_eq (by simp))] at e1
        have e2 : (tl w).map (fun c => V.bl (okc c)) = ((tl w).map okc).map V.bl := by rw [List.map_map]; rfl
        rw [e2] at e1
        refine ⟨p, _, rfl, SqL.of e1, ?_⟩
        rw [all_map]
        exact k H1 s1
    · refine ⟨_, rfl, x, .ty "str", .type t, .type "str", false, rfl, .ty _, ty, kt, false, rfl, ?_⟩
      exact k
end
end SA
set_option Elab.async false
set_option linter.all false
set_option maxRecDepth 100000
set_option maxHeartbeats 4000000
namespace K1
theorem drop_at {t : L} {n c : Nat} (h : t[n]? = some c) : t.drop n = c :: t.drop (n + 1) := by
  obtain ⟨h1, h2⟩ := List.getElem?_eq_some_iff.mp h
  rw [List.drop_eq_getElem_cons h1, h2]
def twn (t : L) (n : Nat) : Nat := ((t.drop n).takeWhile inn).length
theorem twn_yes {t : L} {n c : Nat} (h : t[n]? = some c) (hc : inn c = true) : n + twn t n = (n + 1) + twn t (n + 1) := by
  unfold twn
  rw [drop_at h, List.takeWhile_cons, if_pos hc, List.length_cons]
  omega
theorem twn_no {t : L} {n c : Nat} (h : t[n]? = some c) (hc : ¬ inn c = true) : twn t n = 0 := by
  unfold twn
  rw [drop_at h, List.takeWhile_cons, if_neg hc]
  rfl
theorem twn_end {t : L} {n : Nat} (h : t.length ≤ n) : twn t n = 0 := by
  unfold twn
  rw [List.drop_of_length_le h]
  rfl
end K1
namespace SA
open PySem PySem.Spec PyProof.Rows L2 K1
abbrev sWordEnd : Stmt := topS 12
abbrev sInner : Stmt := topS 13
abbrev sSortOf : Stmt := topS 14
abbrev sSortTold : Stmt := topS 15
abbrev sFigures : Stmt := topS 16
def spInner : Sp := fun vs H Q _ => ∃ (w : Str) (n : Nat), vs = [.str w, .int n] ∧ n ≤ w.length ∧ w.length ≤ 100000 ∧ Q (.int ((n + twn (tl w) n : Nat) : Int)) H
section
variable {P : Program} {w0 : World} {K : PySem.W.Frag} {mg : Str → Option Value} {base : Heap} {kA sA : Addr}
theorem scInner : FnScope ["text", "at"] ["text", "at"] (defScope sInner) := ⟨rfl, rfl, rfl, by decide +kernel, rfl, by decide +kernel, by decide +kernel⟩
theorem ok_inner {f : Addr} {fd : FuncData} (F : Fun K "_inner_end" "_inner_end" sInner f fd) (T : Top1 K mg kA sA) (gl : mg "len" = none) : FnOk P w0 K mg base CX0 1 f fd ["text", "at"] spInner := by
  obtain ⟨ti, mI⟩ := T.inner
  refine F.ok scInner (fun vs H Q E h => ?_) (fun cdv A outer s H vs Q E hr h => ?_)
  · obtain ⟨w, n, rfl, _⟩ := h
    rfl
  · obtain ⟨w, n, rfl, hn, hw, k⟩ := h
    have hz : w.length ≤ sizeLine := Nat.le_trans hw (by decide)
    refine ⟨_, pss_cons (ps_while PassesOwn.never (PW.pt (pw_and (pt_cmpR op_lt (pv 1) (pe_callB call_len_str (by rfl) gl PySem.boot_len (pa_cons (pv 0) pa_nil)) (nomark _))
        (pw_and1 (pt_cmpR op_in_sign (pe_item_str (pv 0) (pv 1) (fun _ _ => rfl)) (pe_glob (v := .str innerS) (by rfl) mI ⟨_, rfl⟩) rfl))))
        (pss_one (ps_aug (i := 1) scInner.nd rfl (.inl rfl) pe_int ip_add)))
      (pss_one (ps_ret (pv 1))), ?_⟩
    refine ⟨fun m σ H' => ∃ a : Nat, m = w.length - a ∧ a ≤ w.length ∧ a + twn (tl w) a = n + twn (tl w) n ∧ σ = [some (.str w), some (.int a)] ∧ H' = H, ⟨_, n, rfl, hn, rfl, rfl, rfl⟩, ?_⟩
    rintro m σ H' ⟨a, rfl, ha, e, rfl, rfl⟩
    refine ⟨_, rfl, _, rfl, w, rfl, hz, _, _, rfl, rfl, _, rfl, ite2 (fun h1 => ?_) (fun h1 => ?_)⟩
    · have h1 : (a : Int) < w.length := of_decide_eq_true h1
      have h2 : a < (tl w).length := by
        have := len_tl w
        omega
      have hc : (tl w)[a]? = some (tl w)[a] := List.getElem?_eq_getElem h2
      have hc2 : w.cps[a]? = some (tl w)[a] := by simpa using hc
      generalize (tl w)[a] = c at hc hc2
      refine ⟨_, rfl, _, rfl, w, a, c, rfl, rfl, by omega, ?_, h1, by rw [Int.toNat_natCast]; exact hc2, c, innerS, rfl, rfl, _, rfl, ?_⟩
      · have : (100000 : Int) < 2 ^ 63 := by decide
        omega
      · rw [inn_inner]
        by_cases h3 : inn c = true
        · rw [h3]
          refine iteT ⟨fun σ' H'' => ∃ a' : Nat, a' = a + 1 ∧ σ' = [some (.str w), some (.int a')] ∧ H'' = H', fun σ' H'' ⟨a', e1, e2, e3⟩ => ⟨w.length - a', by omega, a', rfl, by omega, ?_, e2, e3⟩, ?_⟩
          · rw [e1, ← twn_yes hc h3, e]
          · refine ⟨_, rfl, _, _, rfl, rfl, a + 1, rfl, ?_, rfl⟩
            rfl
        · have h3 : inn c = false := by simpa using h3
          rw [h3]
          refine iteF ⟨_, rfl, ?_⟩
          rw [← e, twn_no hc (by simp [h3]), Nat.add_zero] at k
          exact k
    · have h1 : ¬ (a : Int) < w.length := fun z => h1 (decide_eq_true z)
      refine ⟨_, rfl, ?_⟩
      rw [← e, twn_end (by have := len_tl w; omega), Nat.add_zero] at k
      exact k
end
end SA
set_option Elab.async false
set_option linter.all false
set_option maxRecDepth 100000
set_option maxHeartbeats 4000000
namespace K1
open PySem L2
theorem decV (a b : Str) : decide (V.str a = V.str b) = decide (a = b) := by
  rw [decide_eq_decide]
  exact ⟨fun z => by injection z, fun z => by rw [z]⟩
theorem mk_eq {l k : L} {s : Str} (hs : tl s = k) : decide (mk l = s) = decide (l = k) := by
  rw [decide_eq_decide]
  constructor
  · intro e
    rw [← hs, ← e, tl_mk]
  · intro e
    rw [e, ← hs, mk_tl]
theorem one_mk (c : Nat) : (⟨#[c]⟩ : Str) = mk [c] := rfl
theorem dec1 {c k : Nat} {s : Str} (hs : tl s = [k]) : decide (V.str (⟨#[c]⟩ : Str) = V.str s) = decide (c = k) := by
  rw [decV, one_mk, mk_eq hs, decide_eq_decide]
  simp
theorem app_mk (c : Nat) (l : L) : (⟨#[c]⟩ : Str) ++ mk l = mk (c :: l) := by
  show (⟨#[c] ++ l.toArray⟩ : Str) = ⟨(c :: l).toArray⟩
  simp
theorem mem_pairs (l : L) : decide (mk l ∈ ([Str.ofString "<=", Str.ofString "=="] : List Str)) = decide (l = [60, 61] ∨ l = [61, 61]) := by
  have e1 : tl (Str.ofString "<=") = [60, 61] := by decide +kernel
  have e2 : tl (Str.ofString "==") = [61, 61] := by decide +kernel
  have h1 := mk_eq (l := l) e1
  have h2 := mk_eq (l := l) e2
  rw [decide_eq_decide] at h1 h2 ⊢
  rw [List.mem_cons, List.mem_singleton, h1, h2]
theorem nx_some {t : L} {n d : Nat} (h : t[n]? = some d) : (t.drop n).take 1 = [d] := by
  rw [drop_at h]
  rfl
theorem nx_none {t : L} {n : Nat} (h : t[n]? = none) : t.drop n = [] := List.drop_of_length_le (List.getElem?_eq_none_iff.mp h)
/-- the first word's length, at a place -/
theorem wl_at {t : L} {n c : Nat} (h : t[n]? = some c) : wl (t.drop n) = if inn c = true then 1 + twn t (n + 1) else match t[n + 1]? with
    | none => 1
    | some d => if c = 45 ∧ digit d = true then 2 + twn t (n + 2) else if d = 61 ∧ (c = 60 ∨ c = 61) then 2 else 1 := by
  rw [drop_at h]
  by_cases h1 : inn c = true
  · rw [if_pos h1, wl_inn h1]
    rfl
  · rw [if_neg h1]
    cases h2 : t[n + 1]? with
    | none =>
      rw [nx_none h2, wl_one h1]
    | some d =>
      rw [drop_at h2, wl_two h1]
      rfl
end K1
namespace SA
open PySem PySem.Spec PyProof.Rows L2 K1
def spWordEnd : Sp := fun vs H Q _ => ∃ (w : Str) (n : Nat), vs = [.str w, .int n] ∧ n < w.length ∧ w.length ≤ 100000 ∧ (∀ c ∈ tl w, c < 128) ∧ ∀ H', Same H H' → Q (.int ((n + wl ((tl w).drop n) : Nat) : Int)) H'
section
variable {P : Program} {w0 : World} {K : PySem.W.Frag} {mg : Str → Option Value} {base : Heap} {kA sA : Addr}
theorem scWordEnd : FnScope ["text", "at", "sign", "behind"] ["text", "at"] (defScope sWordEnd) := ⟨rfl, rfl, rfl, by decide +kernel, rfl, by decide +kernel, by decide +kernel⟩
theorem ok_wordEnd {f fI : Addr} {fd fdI : FuncData} (F : Fun K "word_end" "word_end" sWordEnd f fd) (T : Top1 K mg kA sA) (FI : Fun K "_inner_end" "_inner_end" sInner fI fdI) (bI : Binds K fdI ["text", "at"] []) (gI : mg "_inner_end" = some (.ref fI))
    (GI : FnOk P w0 K mg base CX0 1 fI fdI ["text", "at"] spInner) : FnOk P w0 K mg base CX0 2 f fd ["text", "at"] spWordEnd := by
  obtain ⟨ti, mI⟩ := T.inner
  refine F.ok scWordEnd (fun vs H Q E h => ?_) (fun cdv A outer s H vs Q E hr h => ?_)
  · obtain ⟨w, n, rfl, _⟩ := h
    rfl
  · obtain ⟨w, n, rfl, hn, hw, ha, k⟩ := h
    have hz : w.length ≤ sizeLine := Nat.le_trans hw (by decide)
    refine ⟨_, pss_cons (ps_set (i := 2) scWordEnd.nd rfl (.inl rfl) (pe_item_str (pv 0) (pv 1) (fun _ _ => rfl)))
      (pss_cons (ps_if (pt_cmpR op_in_sign (pv 2) (pe_glob (v := .str innerS) (by rfl) mI ⟨_, rfl⟩) rfl) (pss_one (ps_ret (pe_call GI hr (by rfl) gI FI.kp bI .nil pass0 (pa_cons (pv 0) (pa_cons (pe_op op_add (pv 1) pe_int) pa_nil))))) pss_nil)
      (pss_cons (ps_set (i := 3) scWordEnd.nd rfl (.inl rfl) (pe_slice sl_str (pv 0) (po_some (pe_op op_add (pv 1) pe_int)) (po_some (pe_op op_add (pv 1) pe_int))))
      (pss_cons (ps_if (PW.pt (pw_and (pt_cmpR op_eq (pv 2) pe_str (nomark _)) (pw_and1 (pt_val (pe_m0 PySem.F.slot_str_isdigit PySem.F.type_str_isdigit mt_isdigit (pv 3)))))) (pss_one (ps_ret (pe_call GI hr (by rfl) gI FI.kp bI .nil pass0 (pa_cons (pv 0) (pa_cons (pe_op op_add (pv 1) pe_int) pa_nil))))) pss_nil)
      (pss_cons (ps_if (pt_cmpR op_in_seq (pe_op op_add_str (pv 2) (pv 3)) (pe_tup (pa_cons pe_str (pa_cons pe_str pa_nil))) rfl) (pss_one (ps_ret (pe_op op_add (pv 1) pe_int))) pss_nil)
      (pss_one (ps_ret (pe_op op_add (pv 1) pe_int))))))), ?_⟩
    have h2 : n < (tl w).length := hn
    have hc : (tl w)[n]? = some (tl w)[n] := List.getElem?_eq_getElem h2
    have hc2 : w.cps[n]? = some (tl w)[n] := by simpa using hc
    generalize (tl w)[n] = c at hc hc2
    have hb : (100000 : Int) < 2 ^ 63 := by decide
    have e := wl_at hc
    refine ⟨_, rfl, _, rfl, w, n, c, rfl, rfl, by omega, by omega, by omega, by rw [Int.toNat_natCast]; exact hc2, _, rfl, c, innerS, rfl, rfl, _, rfl, ?_⟩
    rw [inn_inner]
    by_cases h3 : inn c = true
    · rw [h3]
      refine iteT ⟨_, rfl, _, rfl, _, _, rfl, rfl, w, n + 1, rfl, hn, hw, ?_⟩
      have k1 := k H (Same.refl H)
      rw [e, if_pos h3, ← Nat.add_assoc] at k1
      exact k1
    · have h4 : inn c = false := by simpa using h3
      rw [h4]
      refine iteF ?_
      rw [if_neg h3] at e
      refine ⟨_, rfl, _, rfl, _, _, rfl, rfl, _, rfl, _, rfl, _, _, rfl, rfl, _, rfl, w, rfl, hz, ?_⟩
      rw [show ((n : Int) + 1) = ((n + 1 : Nat) : Int) from rfl, show ((n : Int) + 2) = ((n + 2 : Nat) : Int) from rfl, cut_nn, show n + 2 - (n + 1) = 1 by omega]
      refine ⟨_, rfl, rfl, _, rfl, ?_⟩
      rw [dec1 (k := 45) (by decide +kernel)]
      have rest : ∀ l : L, l.length ≤ 1 → (((tl w).drop (n + 1)).take 1 = l) → wl ((tl w).drop n) = (if l = [61] ∧ (c = 60 ∨ c = 61) then 2 else 1) →
          (tSeq (tIfS (tTest (tOp (rIn K false) (tOp (fun x y H Q => ∃ i j, x = .str i ∧ y = .str j ∧ i.length + j.length ≤ sizeLine ∧ Q (.str (i ++ j)) H) (tVar 2) (tVar 3)) (tTup (tCons (tC (.str "<=")) (tCons (tC (.str "==")) tNil))))) (tRet (tOp (rI0 fun i j => .int (i + j)) (tVar 1) (tC (.int 2)))) tNext) (tRet (tOp (rI0 fun i j => .int (i + j)) (tVar 1) (tC (.int 1)))))
            { nx := fun _ H' => Q .non H', rt := Q } [some (.str w), some (.int n), some (.str ⟨#[c]⟩), some (.str (mk l))] H := by
        intro l hl1 hl hl2
        refine ⟨_, rfl, _, rfl, _, _, rfl, rfl, ?_, ?_⟩
        · rw [len_mk]
          show 1 + l.length ≤ sizeLine
          exact Nat.le_trans (by omega : 1 + l.length ≤ 2) (by decide)
        · refine ⟨by show 2 ≤ sizeLine; decide, fun p hp => ⟨p, ([Str.ofString "<=", Str.ofString "=="] : List Str).map V.str, rfl, .inr (SqT.of upd_same), rfl, flat_strs _, _, rfl, ?_⟩⟩
          have k1 := k _ (Same.new (o := HO.tup [V.str "<=", V.str "=="]) hp)
          rw [hl2] at k1
          show (if (if false = true then !inV _ _ else inV _ _) = true then _ else _)
          rw [if_neg Bool.false_ne_true, inV_str, app_mk, mem_pairs]
          have e5 : decide (c :: l = [60, 61] ∨ c :: l = [61, 61]) = decide (l = [61] ∧ (c = 60 ∨ c = 61)) := by
            rw [decide_eq_decide]
            simp only [List.cons.injEq]
            constructor
            · rintro (⟨h, h'⟩ | ⟨h, h'⟩)
              · exact ⟨h', .inl h⟩
              · exact ⟨h', .inr h⟩
            · rintro ⟨h', h | h⟩
              · exact .inl ⟨h, h'⟩
              · exact .inr ⟨h, h'⟩
          rw [e5]
          by_cases h6 : l = [61] ∧ (c = 60 ∨ c = 61)
          · rw [decide_eq_true h6]
            rw [if_pos h6] at k1
            exact iteT ⟨_, rfl, _, _, rfl, rfl, k1⟩
          · rw [decide_eq_false h6]
            rw [if_neg h6] at k1
            exact iteF ⟨_, rfl, _, _, rfl, rfl, k1⟩
      cases h5 : (tl w)[n + 1]? with
      | none =>
        rw [h5] at e
        have e7 : ((tl w).drop (n + 1)).take 1 = [] := by rw [nx_none h5]; rfl
        rw [e7]
        have last := rest [] (by simp) e7 (by rw [e]; simp)
        by_cases h8 : c = 45
        · rw [decide_eq_true h8]
          refine iteT ⟨_, rfl, ⟨_, rfl⟩, _, rfl, rfl, trivial, _, rfl, ?_⟩
          rw [isdigit_mk _ (by simp)]
          exact iteF last
        · rw [decide_eq_false h8]
          exact iteF last
      | some d =>
        rw [h5] at e
        have e7 : ((tl w).drop (n + 1)).take 1 = [d] := nx_some h5
        rw [e7]
        have hd : d < 128 := ha d (List.mem_of_getElem? h5)
        have dg : Txt.isdigit (mk [d]) = digit d := by
          rw [isdigit_mk _ (by simpa using hd)]
          simp
        have hl1 : n + 1 < (tl w).length := (List.getElem?_eq_some_iff.mp h5).1
        have e0 : wl ((tl w).drop n) = if c = 45 ∧ digit d = true then 2 + twn (tl w) (n + 2) else if d = 61 ∧ (c = 60 ∨ c = 61) then 2 else 1 := e
        by_cases h9 : c = 45 ∧ digit d = true
        · rw [decide_eq_true h9.1]
          refine iteT ⟨_, rfl, ⟨_, rfl⟩, _, rfl, rfl, trivial, _, rfl, ?_⟩
          rw [dg, h9.2]
          refine iteT ⟨_, rfl, _, rfl, _, _, rfl, rfl, w, n + 2, rfl, hl1, hw, ?_⟩
          have k1 := k H (Same.refl H)
          rw [e0, if_pos h9, ← Nat.add_assoc] at k1
          exact k1
        · rw [if_neg h9] at e0
          have last := rest [d] (by simp) e7 (by rw [e0]; simp)
          by_cases h8 : c = 45
          · rw [decide_eq_true h8]
            refine iteT ⟨_, rfl, ⟨_, rfl⟩, _, rfl, rfl, trivial, _, rfl, ?_⟩
            rw [dg, show digit d = false by
              cases h : digit d with
              | false => rfl
              | true => exact absurd ⟨h8, h⟩ h9]
            exact iteF last
          · rw [decide_eq_false h8]
            exact iteF last
end
end SA
set_option Elab.async false
set_option linter.all false
set_option maxRecDepth 100000
set_option maxHeartbeats 4000000
namespace SA
open PySem PySem.Spec PyProof.Rows L2 K1
/-- a word: not empty, plain signs -/
def Wd (w : Str) : Prop := w.length ≤ 100000 ∧ (∀ c ∈ tl w, c < 128) ∧ tl w ≠ []
def spFigures : Sp := fun vs H Q _ => ∃ w : Str, vs = [.str w] ∧ Wd w ∧ Q (.bl (isFig w)) H
def spSortTold : Sp := fun vs H Q _ => ∃ w : Str, vs = [.str w] ∧ Wd w ∧ ∀ H', Same H H' → Q (.str (sortW w)) H'
theorem head_at {t : L} : t.head? = t[0]? := by cases t <;> rfl
section
variable {P : Program} {w0 : World} {K : PySem.W.Frag} {mg : Str → Option Value} {base : Heap} {kA sA : Addr}
theorem scFigures : FnScope ["word", "figures"] ["word"] (defScope sFigures) := ⟨rfl, rfl, rfl, by decide +kernel, rfl, by decide +kernel, by decide +kernel⟩
theorem ok_figures {f : Addr} {fd : FuncData} (F : Fun K "_is_figures" "_is_figures" sFigures f fd) : FnOk P w0 K mg base CX0 1 f fd ["word"] spFigures := by
  refine F.ok scFigures (fun vs H Q E h => ?_) (fun cdv A outer s H vs Q E hr h => ?_)
  · obtain ⟨w, rfl, _⟩ := h
    rfl
  · obtain ⟨w, rfl, ⟨hw, ha, hne⟩, k⟩ := h
    have hz : w.length ≤ sizeLine := Nat.le_trans hw (by decide)
    refine ⟨_, pss_cons (ps_if (pt_cmpR op_eq (pv 0) pe_str (nomark _)) (pss_one (ps_ret pe_bl)) pss_nil)
      (pss_cons (ps_set (i := 1) scFigures.nd rfl (.inl rfl) (pe_ifExp (pt_cmpR op_eq (pe_item_str (pv 0) pe_int (fun _ _ => rfl)) pe_str (nomark _)) (pe_slice sl_str (pv 0) (po_some pe_int) po_none) (pv 0)))
      (pss_one (ps_ret (pe_and (pe_m0 PySem.F.slot_str_isdigit PySem.F.type_str_isdigit mt_isdigit (pv 1)) (pe_one (pe_cmpR op_ne (pe_item_str (pv 1) pe_int (fun _ _ => rfl)) pe_str (nomark _))))))), ?_⟩
    refine ⟨_, rfl, rfl, _, rfl, ?_⟩
    rw [decV]
    by_cases h0 : w = "0"
    · rw [decide_eq_true h0]
      refine iteT ?_
      have e : isFig w = true := by
        unfold isFig
        rw [decide_eq_true h0, Bool.true_or]
      rw [← e]
      exact k
    · rw [decide_eq_false h0]
      refine iteF ?_
      have e1 : isFig w = (!(figs w).isEmpty && ((figs w).all digit && !decide ((figs w).head? = some 48))) := by
        unfold isFig
        rw [decide_eq_false h0, Bool.false_or]
      rw [e1] at k
      have h2 : 0 < (tl w).length := List.length_pos_iff.mpr hne
      have hc : (tl w)[0]? = some (tl w)[0] := List.getElem?_eq_getElem h2
      have hc2 : w.cps[0]? = some (tl w)[0] := by simpa using hc
      generalize (tl w)[0] = c at hc hc2
      refine ⟨_, rfl, w, 0, c, rfl, rfl, by decide, by decide, by have := len_tl w; omega, hc2, rfl, _, rfl, ?_⟩
      rw [dec1 (k := 45) (by decide +kernel)]
      -- the figures
      have rest : ∀ z : Str, tl z = figs w → z.length ≤ sizeLine →
          (tAndV (tM0 (fun x xs H Q => ∃ a, x = .str a ∧ xs = [] ∧ True ∧ Q (.bl (Txt.isdigit a)) H) (tVar 1)) (tOp rNe (tOp (fun x y H Q => ∃ z i c, x = .str z ∧ y = .int i ∧ 0 ≤ i ∧ i < 2 ^ 63 ∧ i < z.length ∧ z.cps[i.toNat]? = some c ∧ Q (.str ⟨#[c]⟩) H) (tVar 1) (tC (.int 0))) (tC (.str "0"))))
            [some (.str w), some (.str z)] H Q := by
        intro z hf hz2
        have ha2 : ∀ c ∈ tl z, c < 128 := by
          rw [hf]
          intro c hc
          unfold figs at hc
          split at hc
          · exact ha c (List.mem_of_mem_drop hc)
          · exact ha c hc
        refine ⟨_, rfl, ⟨_, rfl⟩, z, rfl, rfl, trivial, _, rfl, ?_⟩
        have e2 : Txt.isdigit z = (!(figs w).isEmpty && (figs w).all digit) := by
          rw [← mk_tl z, isdigit_mk _ ha2, hf]
        rw [e2]
        cases h3 : (!(figs w).isEmpty && (figs w).all digit) with
        | false =>
          rw [← Bool.and_assoc, h3, Bool.false_and] at k
          exact iteF k
        | true =>
          rw [← Bool.and_assoc, h3, Bool.true_and] at k
          have hne2 : tl z ≠ [] := by
            rw [hf]
            intro e
            rw [e] at h3
            cases h3
          have h4 : 0 < (tl z).length := List.length_pos_iff.mpr hne2
          have hd : (tl z)[0]? = some (tl z)[0] := List.getElem?_eq_getElem h4
          have hd2 : z.cps[0]? = some (tl z)[0] := by simpa using hd
          generalize (tl z)[0] = d at hd hd2
          refine iteT ⟨_, rfl, z, 0, d, rfl, rfl, by decide, by decide, by have := len_tl z; omega, hd2, rfl, ?_⟩
          show Q (.bl (!decide (V.str (⟨#[d]⟩ : Str) = V.str "0"))) H
          rw [dec1 (k := 48) (by decide +kernel)]
          rw [← hf, head_at, hd] at k
          have e5 : decide ((some d) = some 48) = decide (d = 48) := by
            rw [decide_eq_decide]
            exact ⟨fun e => Option.some.inj e, fun e => by rw [e]⟩
          rw [e5] at k
          exact k
      by_cases h8 : c = 45
      · rw [decide_eq_true h8]
        refine iteT ⟨_, rfl, _, rfl, w, rfl, hz, ?_⟩
        rw [show (1 : Int) = ((1 : Nat) : Int) from rfl, cut_n]
        refine rest _ ?_ ?_
        · rw [tl_mk]
          unfold figs
          rw [head_at, hc, if_pos (by rw [h8])]
        · rw [len_mk, List.length_drop]
          exact Nat.le_trans (Nat.sub_le _ _) hz
      · rw [decide_eq_false h8]
        refine iteF ⟨_, rfl, ?_⟩
        refine rest w ?_ hz
        unfold figs
        rw [head_at, hc, if_neg (fun e => h8 (Option.some.inj e))]
theorem scSortTold : FnScope ["word"] ["word"] (defScope sSortTold) := ⟨rfl, rfl, rfl, by decide +kernel, rfl, by decide +kernel, by decide +kernel⟩
theorem ok_sortTold {f fN fG : Addr} {fd fdN fdG : FuncData} (F : Fun K "sort_told" "sort_told" sSortTold f fd) (T : Top1 K mg kA sA)
    (FN : Fun K "is_name" "is_name" sIsName fN fdN) (bN : Binds K fdN ["thing"] []) (gN : mg "is_name" = some (.ref fN)) (GN : FnOk P w0 K mg base CX0 1 fN fdN ["thing"] (spIsName K))
    (FG : Fun K "_is_figures" "_is_figures" sFigures fG fdG) (bG : Binds K fdG ["word"] []) (gG : mg "_is_figures" = some (.ref fG)) (GG : FnOk P w0 K mg base CX0 1 fG fdG ["word"] spFigures) :
    FnOk P w0 K mg base CX0 2 f fd ["word"] spSortTold := by
  refine F.ok scSortTold (fun vs H Q E h => ?_) (fun cdv A outer s H vs Q E hr h => ?_)
  · obtain ⟨w, rfl, _⟩ := h
    rfl
  · obtain ⟨w, rfl, hW, k⟩ := h
    refine ⟨_, pss_cons (ps_if (PW.pt (pw_or (pt_cmpR op_in_seq (pv 0) (pe_glob (v := .ref kA) (by rfl) T.kept rfl) rfl) (pw_or1 (pt_cmpR op_in_seq (pv 0) (pe_glob (v := .ref sA) (by rfl) T.signs rfl) rfl)))) (pss_one (ps_ret (pv 0))) pss_nil)
      (pss_cons (ps_if (pt_val (pe_call GN hr (by rfl) gN FN.kp bN .nil pass0 (pa_cons (pv 0) pa_nil))) (pss_one (ps_ret pe_str)) pss_nil)
      (pss_cons (ps_if (pt_val (pe_call GG hr (by rfl) gG FG.kp bG .nil pass0 (pa_cons (pv 0) pa_nil))) (pss_one (ps_ret pe_str)) pss_nil)
      (pss_one (ps_ret pe_str)))), ?_⟩
    refine ⟨_, rfl, kA, _, rfl, .inr (T.keptT H), rfl, flat_strs _, _, rfl, ?_⟩
    rw [if_neg Bool.false_ne_true, inV_str]
    by_cases h1 : w ∈ keptS
    · rw [decide_eq_true h1]
      refine iteT (iteT ⟨_, rfl, ?_⟩)
      have k1 := k H (Same.refl H)
      rw [sortW, if_pos (.inl h1)] at k1
      exact k1
    · rw [decide_eq_false h1]
      refine iteF ?_
      refine ⟨_, rfl, sA, _, rfl, .inr (T.signsT H), rfl, flat_strs _, _, rfl, ?_⟩
      rw [if_neg Bool.false_ne_true, inV_str]
      by_cases h2 : w ∈ signsS
      · rw [decide_eq_true h2]
        refine iteT ⟨_, rfl, ?_⟩
        have k1 := k H (Same.refl H)
        rw [sortW, if_pos (.inr h2)] at k1
        exact k1
      · rw [decide_eq_false h2]
        refine iteF ?_
        have e : sortW w = if isName w = true then Str.ofString "name" else if isFig w = true then Str.ofString "figures" else Str.ofString "strange" := by
          unfold sortW
          exact if_neg (fun h => Or.elim h h1 h2)
        rw [e] at k
        refine ⟨_, rfl, .str w, rfl, .inl ⟨w, rfl, hW.1, fun H1 s1 => ⟨_, rfl, ?_⟩⟩⟩
        cases h3 : isName w with
        | true =>
          rw [h3] at k
          exact iteT (k H1 s1)
        | false =>
          rw [h3] at k
          refine iteF ⟨_, rfl, w, rfl, hW, _, rfl, ?_⟩
          cases h4 : isFig w with
          | true =>
            rw [h4] at k
            exact iteT (k H1 s1)
          | false =>
            rw [h4] at k
            exact iteF (k H1 s1)
end
end SA
set_option Elab.async false
set_option linter.all false
set_option maxRecDepth 100000
set_option maxHeartbeats 4000000
namespace K1
/-- one word alone -/
def isWord (w : PySem.Str) : Bool := (tl w).all okc && match tl w with
  | [] => false
  | c :: r => !blank c && decide (wl (c :: r) = (c :: r).length)
theorem ok_lt {c : Nat} (h : okc c = true) : c < 128 := by
  unfold okc at h
  simp only [Bool.or_eq_true, Bool.and_eq_true, decide_eq_true_eq] at h
  omega
theorem blank_mem (c : Nat) : decide (c ∈ tl (PySem.Str.ofString " \n")) = blank c := by
  have e : tl (PySem.Str.ofString " \n") = [32, 10] := by decide +kernel
  rw [e]
  unfold blank
  rw [← Bool.decide_or, decide_eq_decide]
  simp
end K1
namespace SA
open PySem PySem.Spec PyProof.Rows L2 K1
/-- a class of errors without __init__ -/
structure Cl0 (K : PySem.W.Frag) (mg : Str → Option Value) (x : Str) (C : Addr) : Prop where
  g : mg x = some (.ref C)
  x : PySem.W.excIn K C [.type "ValueError", .type "Exception", .type "BaseException", .type "object"] "ValueError.__new__" = true
  k : PySem.W.keepIn K (.ref C) = true
  b : PySem.W.subIn K (.ref C) (.type "BaseException") = some true
  t : PySem.W.typeIn K (.ref C) = some (.type "type")
def spSortOf (K : PySem.W.Frag) (BW : Addr) : Sp := fun vs H Q E => ∃ x, vs = [x] ∧ ((∃ w, x = .str w ∧ w.length ≤ 100000 ∧ (isWord w = true → ∀ H', Same H H' → Q (.str (sortW w)) H') ∧ (isWord w = false → ∀ H', Same H H' → E (.ref BW) none H')) ∨ (NotS K H x ∧ E (.ref BW) none H))
section
variable {P : Program} {w0 : World} {K : PySem.W.Frag} {mg : Str → Option Value} {base : Heap} {kA sA BW : Addr}
theorem scSortOf : FnScope ["word"] ["word"] (defScope sSortOf) := ⟨rfl, rfl, rfl, by decide +kernel, rfl, by decide +kernel, by decide +kernel⟩
theorem ok_sortOf {f fT fE fS : Addr} {fd fdT fdE fdS : FuncData} (F : Fun K "sort_of" "sort_of" sSortOf f fd) (B : Cl0 K mg "BadWord" BW) (gl : mg "len" = none)
    (FT : Fun K "is_text" "is_text" sIsText fT fdT) (bT : Binds K fdT ["thing"] []) (gT : mg "is_text" = some (.ref fT)) (GT : FnOk P w0 K mg base CX0 1 fT fdT ["thing"] (spIsText K))
    (FE : Fun K "word_end" "word_end" sWordEnd fE fdE) (bE : Binds K fdE ["text", "at"] []) (gE : mg "word_end" = some (.ref fE)) (GE : FnOk P w0 K mg base CX0 2 fE fdE ["text", "at"] spWordEnd)
    (FS : Fun K "sort_told" "sort_told" sSortTold fS fdS) (bS : Binds K fdS ["word"] []) (gS : mg "sort_told" = some (.ref fS)) (GS : FnOk P w0 K mg base CX0 2 fS fdS ["word"] spSortTold) :
    FnOk P w0 K mg base (L2.CX P w0) 3 f fd ["word"] (spSortOf K BW) := by
  refine F.okX scSortOf (fun vs H Q E h => ?_) (fun cdv A outer s H vs Q E hr h => ?_)
  · obtain ⟨x, rfl, _⟩ := h
    rfl
  · obtain ⟨x, rfl, h⟩ := h
    have hr1 := hr.mono (by decide : 1 ≤ 2)
    refine ⟨_, pss_cons (ps_if (PW.pt (pw_or (pt_not (pt_val (pe_call GT hr1 (by rfl) gT FT.kp bT .nil pass0 (pa_cons (pv 0) pa_nil))))
        (pw_or (pt_cmpR op_eq (pv 0) pe_str (nomark _)) (pw_or (pt_cmpR op_in_sign (pe_item_str (pv 0) pe_int (fun _ _ => rfl)) pe_str rfl)
          (pw_or1 (pt_cmpR op_ne (pe_call GE hr (by rfl) gE FE.kp bE .nil pass0 (pa_cons (pv 0) (pa_cons pe_int pa_nil))) (pe_callB call_len_str (by rfl) gl PySem.boot_len (pa_cons (pv 0) pa_nil)) (nomark _)))))))
        (pss_one (ps_raise rfl (takes_of rfl rfl rfl rfl) (pmk_own PySem.F.excBase_ValueError B.x B.g B.k (raises_own B.b B.t) (by rfl)))) pss_nil)
      (pss_one (ps_ret (pe_call GS hr (by rfl) gS FS.kp bS .nil pass0 (pa_cons (pv 0) pa_nil)))), ?_⟩
    rcases h with ⟨w, rfl, hw, k1, k2⟩ | ⟨ns, k⟩
    · have hz : w.length ≤ sizeLine := Nat.le_trans hw (by decide)
      refine ⟨_, rfl, .str w, rfl, .inl ⟨w, rfl, hw, fun H1 s1 => ⟨_, rfl, ?_⟩⟩⟩
      by_cases h1 : isText w = true
      · rw [h1]
        refine iteF ⟨_, rfl, rfl, _, rfl, ?_⟩
        rw [decV]
        have ha : ∀ c ∈ tl w, c < 128 := fun c hc => ok_lt (List.all_eq_true.mp h1 c hc)
        have e0 : tl (Str.ofString "") = [] := by decide +kernel
        have ew : isWord w = match tl w with | [] => false | c :: r => !blank c && decide (wl (c :: r) = (c :: r).length) := by
          have z : (tl w).all okc = true := h1
          unfold isWord
          rw [z, Bool.true_and]
        cases ht : tl w with
        | nil =>
          have e1 : w = "" := tl_inj (by rw [ht, e0])
          rw [ht] at ew
          rw [decide_eq_true e1]
          exact iteT (k2 ew H1 s1)
        | cons c r =>
          have e1 : ¬ w = "" := fun z => by
            rw [z, e0] at ht
            cases ht
          rw [decide_eq_false e1]
          have hc : (tl w)[0]? = some c := by rw [ht]; rfl
          have hc2 : w.cps[0]? = some c := by simpa using hc
          have hlen : w.length = (c :: r).length := by rw [len_tl, ht]
          rw [ht] at ew
          have ew : isWord w = (!blank c && decide (wl (c :: r) = (c :: r).length)) := ew
          refine iteF ⟨_, rfl, w, 0, c, rfl, rfl, by decide, by decide, by rw [hlen, List.length_cons]; omega, hc2, c, _, rfl, rfl, _, rfl, ?_⟩
          rw [blank_mem]
          cases hb : blank c with
          | true =>
            refine iteT (k2 ?_ H1 s1)
            rw [ew, hb]
            rfl
          | false =>
            refine iteF ⟨_, rfl, w, 0, rfl, by rw [hlen, List.length_cons]; omega, hw, ha, fun H2 s2 => ⟨_, rfl, w, rfl, hz, rfl, _, rfl, ?_⟩⟩
            rw [List.drop_zero, ht, Nat.zero_add]
            have ew2 : isWord w = decide (wl (c :: r) = (c :: r).length) := by
              rw [ew, hb]
              rfl
            have s12 := s1.trans s2
            by_cases h5 : wl (c :: r) = (c :: r).length
            · rw [decide_eq_true h5] at ew2
              have z : (V.int ((wl (c :: r) : Nat) : Int) = V.int (w.length : Int)) := by rw [h5, hlen]
              refine iteNS z ⟨_, rfl, w, rfl, ⟨hw, ha, by rw [ht]; simp⟩, fun H3 s3 => k1 ew2 H3 (s12.trans s3)⟩
            · rw [decide_eq_false h5] at ew2
              have z : ¬ (V.int ((wl (c :: r) : Nat) : Int) = V.int (w.length : Int)) := fun e => by
                injection e with e
                rw [hlen] at e
                exact h5 (by omega)
              rw [decide_eq_false z]
              exact iteT (k2 ew2 H2 s12)
      · have h1 : isText w = false := by simpa using h1
        rw [h1]
        refine iteT (iteT (k2 ?_ H1 s1))
        unfold isWord
        have z : (tl w).all okc = false := h1
        rw [z]
        rfl
    · refine ⟨_, rfl, x, rfl, .inr ⟨ns, _, rfl, ?_⟩⟩
      exact iteT (iteT k)
end
end SA
set_option Elab.async false
set_option linter.all false
set_option maxRecDepth 100000
set_option maxHeartbeats 4000000
namespace SA
open PySem PySem.Spec PyProof.Rows L2 K1
theorem pget {A B : Type} {F : A → B → Prop} : ∀ {l : List A} {m : List B} {k : Nat} {a : A}, Paired F l m → l[k]? = some a → ∃ b, m[k]? = some b ∧ F a b
  | _, _, k, a, .nil, h => by simp at h
  | _, _, 0, a, .cons (b := b) r _, h => ⟨b, rfl, by simp at h; exact h ▸ r⟩
  | _, _, k + 1, a, .cons _ t, h => by
    obtain ⟨b, h1, h2⟩ := pget (k := k) t (by simpa using h)
    exact ⟨b, by simpa using h1, h2⟩
theorem papp {A B : Type} {F : A → B → Prop} : ∀ {l : List A} {m : List B} {l2 : List A} {m2 : List B}, Paired F l m → Paired F l2 m2 → Paired F (l ++ l2) (m ++ m2)
  | _, _, _, _, .nil, h => h
  | _, _, _, _, .cons r t, h => .cons r (papp t h)
theorem pmono {A B : Type} {F G : A → B → Prop} (f : ∀ a b, F a b → G a b) : ∀ {l : List A} {m : List B}, Paired F l m → Paired G l m
  | _, _, .nil => .nil
  | _, _, .cons r t => .cons (f _ _ r) (pmono f t)
theorem XAt.same {H H' : Hp} {a C : Addr} (e : Same H H') (h : XAt H a C) : XAt H' a C := by
  rcases h with h | ⟨d, fs, h1, h2⟩
  · exact .inl (e _ _ h)
  · exact .inr ⟨d, fs, e _ _ h1, e _ _ h2⟩
/-- the class C has an own __init__ at f, and the fields of these names are no names of the class -/
structure Own24 (K : PySem.W.Frag) (C f : Addr) (fs : List Str) : Prop where
  oex : OexC K C
  init : PySem.W.findIn K (.ref C) "__init__" = some (some (.ref f))
  fn : PySem.W.typeIn K (.ref f) = some (.type "function")
  no : ∀ x ∈ fs, PySem.W.findIn K (.ref C) x = some none
/-- __init__'s promise: the fields hold the arguments -/
def spInit (C : Addr) (fs : List Str) : Sp := fun vs H Q _ => ∃ (a : Addr) (xs : List V), vs = .ref a :: xs ∧ xs.length = fs.length ∧ H a = some (exo a C none) ∧
  ∀ (dx : Addr) (H' : Hp), H dx = none → dx ≠ a → H' a = some (exo a C (some dx)) → H' dx = some (exd dx (fs.zip xs).reverse) → (∀ b o, H b = some o → b ≠ a → H' b = some o) → Q .non H'
/-- self.f = e, the first field -/
theorem st_first {K : PySem.W.Frag} {C a : Addr} {f : Str} {i j : Nat} {D : Ends} {σ : L2.St} {H : Hp} {v : V} (T : OexC K C) (no : PySem.W.findIn K (.ref C) f = some none) (hi : σ[i]? = some (some (.ref a))) (hj : σ[j]? = some (some v))
    (ha : H a = some (exo a C none)) (k : ∀ dx, H dx = none → dx ≠ a → D.nx σ (upd (upd H dx (exd dx [(f, v)])) a (exo a C (some dx)))) : tOst K f (tVar i) (tVar j) D σ H :=
  ⟨v, hj, .ref a, hi, a, C, rfl, T, no, .inl ⟨ha, k⟩⟩
theorem st_next {K : PySem.W.Frag} {C a dx : Addr} {f : Str} {i j : Nat} {D : Ends} {σ : L2.St} {H : Hp} {v : V} {fs : List (Str × V)} (T : OexC K C) (no : PySem.W.findIn K (.ref C) f = some none) (hi : σ[i]? = some (some (.ref a))) (hj : σ[j]? = some (some v))
    (ha : H a = some (exo a C (some dx))) (hd : H dx = some (exd dx fs)) (hl : fs.length ≤ 900) (k : D.nx σ (upd H dx (exd dx ((f, v) :: fs)))) : tOst K f (tVar i) (tVar j) D σ H :=
  ⟨v, hj, .ref a, hi, a, C, rfl, T, no, .inr ⟨dx, fs, ha, hd, hl, k⟩⟩
section
variable {P : Program} {w0 : World} {K : PySem.W.Frag} {mg : Str → Option Value} {base : Heap} {C f : Addr} {fd : FuncData}
abbrev sI_BadText : Stmt := inClass (topS 3) 0
theorem scI_BadText : FnScope ["self", "line", "column", "wanted"] ["self", "line", "column", "wanted"] (defScope sI_BadText) := ⟨rfl, rfl, rfl, by decide +kernel, rfl, by decide +kernel, by decide +kernel⟩
theorem okI_BadText (F : Fun K "__init__" "BadText.__init__" sI_BadText f fd) (T : Own24 K C f ["line", "column", "wanted"]) : FnOk P w0 K mg base CX0 1 f fd ["self", "line", "column", "wanted"] (spInit C ["line", "column", "wanted"]) := by
  refine F.ok scI_BadText (fun vs H Q E h => ?_) (fun cdv A outer s H vs Q E hr h => ?_)
  · obtain ⟨a, xs, rfl, hl, _⟩ := h
    exact congrArg (· + 1) hl
  · obtain ⟨a, xs, rfl, hl, ha, k⟩ := h
    match xs, hl with
    | [x0, x1, x2], _ =>
      refine ⟨_, pss_cons (ps_ost (pv 0) (pv 1)) (pss_cons (ps_ost (pv 0) (pv 2)) (pss_one (ps_ost (pv 0) (pv 3)))), ?_⟩
      refine st_first T.oex (T.no _ (by simp)) rfl rfl ha fun dx hd ne => ?_
      have h1 : ∀ o, (upd (upd H dx o) a (exo a C (some dx))) a = some (exo a C (some dx)) := fun _ => upd_same
      have h2 : ∀ o, (upd (upd H dx o) a (exo a C (some dx))) dx = some o := fun _ => by rw [upd_ne ne, upd_same]
      have ha1 : ∀ (H1 : Hp) o, H1 a = some (exo a C (some dx)) → (upd H1 dx o) a = some (exo a C (some dx)) := fun H1 o e => by rw [upd_ne ne.symm]; exact e
      refine st_next T.oex (T.no _ (by simp)) rfl rfl (h1 _) (h2 _) (by simp) ?_
      refine st_next T.oex (T.no _ (by simp)) rfl rfl (ha1 _ _ (h1 _)) upd_same (by simp) ?_
      exact k dx _ hd ne (ha1 _ _ (ha1 _ _ (h1 _))) upd_same fun b o e hb => by rw [upd_ne (ne_of_none e hd), upd_ne (ne_of_none e hd), upd_ne hb, upd_ne (ne_of_none e hd)]; exact e
end
end SA
set_option Elab.async false
set_option linter.all false
set_option maxRecDepth 100000
set_option maxHeartbeats 4000000
namespace SA
open PySem PySem.Spec PyProof.Rows L2 K1
abbrev sScanned : Stmt := topS 18
abbrev sWordsOf : Stmt := topS 20
/-- the tuples of words with their places -/
def Toks (H : Hp) (ts : List Addr) (l : List (L × Int × Int)) : Prop := Paired (fun t x => H t = some (.tup [.str (mk x.1), .int x.2.1, .int x.2.2])) ts l
theorem Toks.same {H H' : Hp} {ts : List Addr} {l : List (L × Int × Int)} (s : Same H H') (h : Toks H ts l) : Toks H' ts l := pmono (fun _ _ z => s _ _ z) h
/-- a list may change -/
theorem Toks.upd {H : Hp} {ts : List Addr} {l : List (L × Int × Int)} {p : Addr} {xs : List V} {o : HO} (h : Toks H ts l) (e : H p = some (.lst xs)) : Toks (upd H p o) ts l :=
  pmono (fun t _ z => by rw [upd_ne (ne_of z e (by intro q; cases q))]; exact z) h
theorem Same.mut {H H' : Hp} {p : Addr} {o : HO} (s : Same H H') (h : H p = none) : Same H (upd H' p o) := fun b u e => by
  rw [upd_ne (ne_of_none e h)]
  exact s b u e
/-- BadText(None, None, None), made within -/
def BadT (BT : Addr) (H : Hp) (E : XK) : Prop := ∀ (d : Addr) (H' : Hp), Same H H' → H d = none → H' d = some (.xd [("wanted", .non), ("column", .non), ("line", .non)]) → E (.ref BT) (some d) H'
def spScan (K : PySem.W.Frag) (BT : Addr) : Sp := fun vs H Q E => ∃ x, vs = [x] ∧ ((∃ w, x = .str w ∧ w.length ≤ 100000 ∧
    (isText w = true → ∀ (p : Addr) (ts : List Addr) (H' : Hp), H p = none → Same H H' → H' p = some (.lst (ts.map V.ref)) → Toks H' ts (cut (tl w) 1 1) → Q (.ref p) H') ∧ (isText w = false → BadT BT H E)) ∨ (NotS K H x ∧ BadT BT H E))
theorem BadT.of {BT : Addr} {H H1 : Hp} {E : XK} (s : Same H H1) (h : BadT BT H E) : BadT BT H1 E := fun d H' s1 hd e => h d H' (s.trans s1) (s.free hd) e
section
variable {P : Program} {w0 : World} {K : PySem.W.Frag} {mg : Str → Option Value} {base : Heap} {kA sA BT : Addr}
abbrev nScan : List Str := ["text", "found", "at", "line", "begin", "end"]
theorem scScanned : FnScope nScan ["text"] (defScope sScanned) := ⟨rfl, rfl, rfl, by decide +kernel, rfl, by decide +kernel, by decide +kernel⟩
/-- what the while loop knows -/
def Scn (H : Hp) (w : Str) (p : Addr) (n : Nat) (σ : L2.St) (H' : Hp) : Prop := ∃ (a : Nat) (line bg : Int) (ts : List Addr) (l0 : List (L × Int × Int)) (y : Option V),
  σ = [some (.str w), some (.ref p), some (.int a), some (.int line), some (.int bg), y] ∧ n = w.length - a ∧ a ≤ w.length ∧ Same H H' ∧ H' p = some (.lst (ts.map V.ref)) ∧ Toks H' ts l0 ∧ ts.length ≤ a ∧
    l0 ++ cut ((tl w).drop a) line (a - bg + 1) = cut (tl w) 1 1
theorem ok_scanned {f fT fE fI : Addr} {fd fdT fdE fdI : FuncData} (F : Fun K "scanned" "scanned" sScanned f fd) (gl : mg "len" = none) (gB : mg "BadText" = some (.ref BT)) (O : Own24 K BT fI ["line", "column", "wanted"]) (rB : ∀ X : Cx, X.K = K → Raises X (.ref BT))
    (GI : FnOk P w0 K mg base CX0 1 fI fdI ["self", "line", "column", "wanted"] (spInit BT ["line", "column", "wanted"])) (bI : Binds K fdI ["self", "line", "column", "wanted"] [])
    (FT : Fun K "is_text" "is_text" sIsText fT fdT) (bT : Binds K fdT ["thing"] []) (gT : mg "is_text" = some (.ref fT)) (GT : FnOk P w0 K mg base CX0 1 fT fdT ["thing"] (spIsText K))
    (FE : Fun K "word_end" "word_end" sWordEnd fE fdE) (bE : Binds K fdE ["text", "at"] []) (gE : mg "word_end" = some (.ref fE)) (GE : FnOk P w0 K mg base CX0 2 fE fdE ["text", "at"] spWordEnd) :
    FnOk P w0 K mg base (L2.CX P w0) 3 f fd ["text"] (spScan K BT) := by
  refine F.okX scScanned (fun vs H Q E h => ?_) (fun cdv A outer s H vs Q E hr h => ?_)
  · obtain ⟨x, rfl, _⟩ := h
    rfl
  · obtain ⟨x, rfl, h⟩ := h
    have hr1 := hr.mono (by decide : 1 ≤ 2)
    refine ⟨_, pss_cons (ps_if (pt_not (pt_val (pe_call GT hr1 (by rfl) gT FT.kp bT .nil pass0 (pa_cons (pv 0) pa_nil))))
        (pss_one (ps_raise rfl (takes_of rfl rfl rfl rfl) (pmk_oex O.oex O.init O.fn GI hr bI .nil pass0 (by rfl) gB (pa_cons pe_non (pa_cons pe_non (pa_cons pe_non pa_nil)))))) pss_nil)
      (pss_cons (ps_set (i := 1) scScanned.nd rfl (.inl rfl) (pe_lst pa_nil))
      (pss_cons (ps_set (i := 2) scScanned.nd rfl (.inl rfl) pe_int)
      (pss_cons (ps_set (i := 3) scScanned.nd rfl (.inl rfl) pe_int)
      (pss_cons (ps_set (i := 4) scScanned.nd rfl (.inl rfl) pe_int)
      (pss_cons (ps_while (passes_of rfl) (pt_cmpR op_lt (pv 2) (pe_callB call_len_str (by rfl) gl PySem.boot_len (pa_cons (pv 0) pa_nil)) (nomark _))
        (Evl.pss_cut (ps_if (pt_cmpR op_eq (pe_item_str (pv 0) (pv 2) (fun _ _ => rfl)) pe_str (nomark _)) (pss_cons (ps_aug (i := 3) scScanned.nd rfl (.inl rfl) pe_int ip_add) (pss_one (ps_set (i := 4) scScanned.nd rfl (.inl rfl) (pe_op op_add (pv 2) pe_int)))) pss_nil)
        (pss_one (ps_if (pt_cmpR op_in_sign (pe_item_str (pv 0) (pv 2) (fun _ _ => rfl)) pe_str rfl) (pss_one (ps_aug (i := 2) scScanned.nd rfl (.inl rfl) pe_int ip_add))
          (pss_cons (ps_set (i := 5) scScanned.nd rfl (.inl rfl) (pe_call GE hr (by rfl) gE FE.kp bE .nil pass0 (pa_cons (pv 0) (pa_cons (pv 2) pa_nil))))
          (pss_cons (ps_expr (pe_bm PySem.F.plainAttrs_list PySem.F.slot_list_append PySem.F.type_list_append mt_append (pv 1) (pa_cons (pe_tup (pa_cons (pe_slice sl_str (pv 0) (po_some (pv 2)) (po_some (pv 5))) (pa_cons (pv 3) (pa_cons (pe_op op_add (pe_op op_sub (pv 2) (pv 4)) pe_int) pa_nil)))) pa_nil)))
          (pss_one (ps_set (i := 2) scScanned.nd rfl (.inl rfl) (pv 5)))))))))
      (pss_one (ps_ret (pv 1)))))))), ?_⟩
    have bad : ∀ H1, BadT BT H1 E → tMkO BT (spInit BT ["line", "column", "wanted"]) [] (tCons (tC .non) (tCons (tC .non) (tCons (tC .non) tNil))) [some x, none, none, none, none, none] H1 fun cls d H' => E cls d H' := by
      intro H1 hb
      refine ⟨by decide, fun a ha => ⟨a, [.non, .non, .non], rfl, rfl, upd_same, fun dx H' hdx ne e1 e2 kp => ⟨rfl, dx, _, e1, e2, ?_, ?_⟩⟩⟩
      · rw [upd_ne ne] at hdx
        exact hdx
      · have hdx : H1 dx = none := by
          rw [upd_ne ne] at hdx
          exact hdx
        refine hb dx _ (fun b o e => ?_) hdx upd_same
        have nb := ne_of_none e ha
        rw [upd_ne (ne_of_none e hdx), L2.del_ne nb]
        exact kp b o (by rw [upd_ne nb]; exact e) nb
    rcases h with ⟨w, rfl, hw, k1, k2⟩ | ⟨ns, k⟩
    · have hz : w.length ≤ sizeLine := Nat.le_trans hw (by decide)
      refine ⟨_, rfl, .str w, rfl, .inl ⟨w, rfl, hw, fun H1 s1 => ⟨_, rfl, ?_⟩⟩⟩
      cases h1 : isText w with
      | false => exact iteT (bad H1 ((k2 h1).of s1))
      | true =>
        have k1 := k1 h1
        have ha : ∀ c ∈ tl w, c < 128 := fun c hc => ok_lt (List.all_eq_true.mp h1 c hc)
        refine iteF ⟨Nat.zero_le _, fun p hp => ?_⟩
        have hpH : H p = none := s1.free hp
        refine ⟨Scn H w p, ⟨_, 0, 1, 0, [], [], none, rfl, rfl, Nat.zero_le _, s1.trans (Same.new hp), upd_same, .nil, Nat.le_refl _, by rw [List.drop_zero]; rfl⟩, ?_⟩
        rintro m σ H2 ⟨a, line, bg, ts, l0, y, rfl, rfl, hal, s2, e2, t2, hts, ec⟩
        refine ⟨_, rfl, _, rfl, w, rfl, hz, _, _, rfl, rfl, _, rfl, ite2 (fun h3 => ?_) (fun h3 => ?_)⟩
        · have h3 : (a : Int) < w.length := of_decide_eq_true h3
          have h4 : a < (tl w).length := by
            have := len_tl w
            omega
          have hc : (tl w)[a]? = some (tl w)[a] := List.getElem?_eq_getElem h4
          have hc2 : w.cps[a]? = some (tl w)[a] := by simpa using hc
          generalize (tl w)[a] = c at hc hc2
          have hb63 : (100000 : Int) < 2 ^ 63 := by decide
          have i63 : (a : Int) < 2 ^ 63 := by omega
          have h3' : a < w.length := by omega
          have hc3 : w.cps[((a : Int)).toNat]? = some c := by
            rw [Int.toNat_natCast]
            exact hc2
          have ia : (0 : Int) ≤ a := by omega
          refine ⟨fun σ' H' => ∃ n, n < w.length - a ∧ Scn H w p n σ' H', fun σ' H' z => ?_, ?_⟩
          · exact z
          · refine ⟨fun σ' H' => H' = H2 ∧ ∃ ln b2 : Int, σ' = [some (.str w), some (.ref p), some (.int a), some (.int ln), some (.int b2), y] ∧ (blank c = true → l0 ++ cut ((tl w).drop (a + 1)) ln (((a + 1 : Nat) : Int) - b2 + 1) = cut (tl w) 1 1) ∧ (blank c = false → ln = line ∧ b2 = bg), ?_, ?_⟩
            · refine ⟨_, rfl, _, rfl, w, a, c, rfl, rfl, ia, i63, h3, hc3, rfl, _, rfl, ?_⟩
              rw [dec1 (k := 10) (by decide +kernel)]
              rw [drop_at hc] at ec
              by_cases h5 : c = 10
              · rw [decide_eq_true h5]
                subst h5
                rw [cut_nl] at ec
                refine iteT ⟨_, rfl, _, _, rfl, rfl, _, rfl, _, _, rfl, rfl, rfl, line + 1, a + 1, rfl, fun _ => ?_, fun z => by cases z⟩
                rw [show (((a + 1 : Nat) : Int) - ((a : Int) + 1) + 1) = 1 by omega]
                exact ec
              · rw [decide_eq_false h5]
                refine iteF ⟨rfl, line, bg, rfl, fun z => ?_, fun _ => ⟨rfl, rfl⟩⟩
                have h6 : c = 32 := by
                  unfold blank at z
                  simp only [Bool.or_eq_true, decide_eq_true_eq] at z
                  omega
                subst h6
                rw [cut_sp] at ec
                rw [show (((a + 1 : Nat) : Int) - bg + 1) = (a : Int) - bg + 1 + 1 by omega]
                exact ec
            · rintro σ' H' ⟨rfl, ln, b2, rfl, c1, c2⟩
              refine ⟨_, rfl, _, rfl, w, a, c, rfl, rfl, ia, i63, h3, hc3, c, _, rfl, rfl, _, rfl, ?_⟩
              rw [blank_mem]
              cases hb : blank c with
              | true =>
                refine iteT ⟨_, rfl, _, _, rfl, rfl, w.length - (a + 1), by omega, a + 1, ln, b2, ts, l0, y, rfl, rfl, h3', s2, e2, t2, by omega, c1 hb⟩
              | false =>
                obtain ⟨rfl, rfl⟩ := c2 hb
                refine iteF ⟨_, rfl, _, rfl, w, a, rfl, h3', hw, ha, fun H3 s3 => ?_⟩
                have e3 := s3 _ _ e2
                have t3 := t2.same s3
                have n1 := wl_pos ((tl w).drop a)
                have n2 : a + wl ((tl w).drop a) ≤ w.length := by
                  rw [drop_at hc]
                  have := wl_le c ((tl w).drop (a + 1))
                  rw [List.length_drop] at this
                  have := len_tl w
                  omega
                refine ⟨_, rfl, Or.inl ⟨rfl, _, Or.inl (Or.inl e3)⟩, _, rfl, _, rfl, _, rfl, _, rfl, _, rfl, w, rfl, hz, _, rfl, _, rfl, _, rfl, _, _, rfl, rfl, _, _, rfl, rfl, by show 3 ≤ sizeLine; decide, fun t ht => ?_⟩
                have e4 : (upd H3 t (.tup [.str (cutS w (some (a : Int)) (some ((a + wl ((tl w).drop a) : Nat) : Int))), .int ln, .int ((a : Int) - b2 + 1)])) p = some (.lst (ts.map V.ref)) := by
                  rw [upd_ne (ne_of_none e3 ht)]
                  exact e3
                have s4 : Same H3 (upd H3 t (.tup [.str (cutS w (some (a : Int)) (some ((a + wl ((tl w).drop a) : Nat) : Int))), .int ln, .int ((a : Int) - b2 + 1)])) := Same.new ht
                refine ⟨p, _, _, rfl, rfl, e4, ?_, ?_⟩
                · rw [List.length_map]
                  exact Nat.lt_of_le_of_lt (by omega : ts.length ≤ 100000) (by decide)
                · refine ⟨_, rfl, w.length - (a + wl ((tl w).drop a)), by omega, a + wl ((tl w).drop a), ln, b2, ts ++ [t], l0 ++ [(((tl w).drop a).take (wl ((tl w).drop a)), ln, (a : Int) - b2 + 1)], _, rfl, rfl, n2, ?_, ?_, ?_, ?_, ?_⟩
                  · exact Same.mut (s2.trans (s3.trans s4)) hpH
                  · rw [upd_same, List.map_append]
                    rfl
                  · refine papp ((t3.same s4).upd e4) (.cons ?_ .nil)
                    rw [upd_ne (fun z => by rw [z] at ht; rw [ht] at e3; cases e3), upd_same, cut_nn, Nat.add_sub_cancel_left]
                  · rw [List.length_append, List.length_singleton]
                    omega
                  · rw [drop_at hc, cut_w hb, ← drop_at hc, List.drop_drop] at ec
                    rw [List.append_assoc, List.singleton_append]
                    rw [show (((a + wl ((tl w).drop a) : Nat) : Int) - b2 + 1) = (a : Int) - b2 + 1 + ((wl ((tl w).drop a) : Nat) : Int) by omega]
                    exact ec
        · have h3 : ¬ (a : Int) < w.length := fun z => h3 (decide_eq_true z)
          rw [List.drop_of_length_le (by have := len_tl w; omega), cut_nil, List.append_nil] at ec
          exact ⟨_, rfl, k1 p ts H2 hpH s2 e2 (ec ▸ t2)⟩
    · refine ⟨_, rfl, x, rfl, .inr ⟨ns, _, rfl, ?_⟩⟩
      exact iteT (bad H k)
theorem scWordsOf : FnScope ["text"] ["text"] (defScope sWordsOf) := ⟨rfl, rfl, rfl, by decide +kernel, rfl, by decide +kernel, by decide +kernel⟩
theorem ok_wordsOf {f fS : Addr} {fd fdS : FuncData} (F : Fun K "words_of" "words_of" sWordsOf f fd) (FS : Fun K "scanned" "scanned" sScanned fS fdS) (bS : Binds K fdS ["text"] []) (gS : mg "scanned" = some (.ref fS))
    (GS : FnOk P w0 K mg base (L2.CX P w0) 3 fS fdS ["text"] (spScan K BT)) : FnOk P w0 K mg base (L2.CX P w0) 4 f fd ["text"] (spScan K BT) := by
  refine F.okX scWordsOf (fun vs H Q E h => ?_) (fun cdv A outer s H vs Q E hr h => ?_)
  · obtain ⟨x, rfl, _⟩ := h
    rfl
  · refine ⟨_, pss_one (ps_ret (pe_call GS hr (by rfl) gS FS.kp bS .nil (passes_call (takes_of rfl rfl rfl rfl) fun _ _ _ _ h => h) (pa_cons (pv 0) pa_nil))), ?_⟩
    obtain ⟨x, rfl, h⟩ := h
    exact ⟨_, rfl, x, rfl, h⟩
end
end SA
set_option Elab.async false
set_option linter.all false
set_option maxRecDepth 100000
set_option maxHeartbeats 4000000
namespace K1
def isSmall (w : PySem.Str) : Bool := !decide (w = "") && (tl w).all small
theorem isName_eq (w : PySem.Str) : isName w = (decide (w.length ≤ 8) && (isSmall w && !decide (w ∈ keptS))) := by
  unfold isName isSmall
  have e : decide (1 ≤ w.length) = !decide (w = "") := by
    by_cases h : w = ""
    · subst h
      decide +kernel
    · have h2 : 1 ≤ w.length := by
        rw [len_tl]
        apply Nat.pos_of_ne_zero
        intro z
        have z2 : tl w = [] := List.eq_nil_of_length_eq_zero z
        have e0 : tl (PySem.Str.ofString "") = [] := by decide +kernel
        exact h (tl_inj (by rw [z2, e0]))
      rw [decide_eq_true h2, decide_eq_false h]
      rfl
  rw [e]
  cases decide (w = "") <;> cases decide (w.length ≤ 8) <;> cases decide (w ∈ keptS) <;> cases (tl w).all small <;> rfl
theorem filter_nil {p : Nat → Bool} (l : L) : decide (l.filter (fun c => !p c) = []) = l.all p := by
  rw [Bool.eq_iff_iff, decide_eq_true_eq, List.all_eq_true, List.filter_eq_nil_iff]
  simp
theorem filter_take {p : Nat → Bool} {l : L} {i c : Nat} (h : l[i]? = some c) : (l.take (i + 1)).filter p = (l.take i).filter p ++ (if p c = true then [c] else []) := by
  rw [List.take_add_one, h, List.filter_append]
  congr 1
  show List.filter p [c] = _
  rw [List.filter_cons]
  split <;> rfl
end K1
namespace SA
open PySem PySem.Spec PyProof.Rows L2 K1
theorem dp_strs {K : PySem.W.Frag} {H : Hp} : ∀ ws : List Str, DpAll K H (ws.map V.str) (ws.map PyData.str)
  | [] => .nil
  | w :: ws => .cons (.str w) (dp_strs ws)
theorem strOk_of {w : Str} (h : ∀ c ∈ tl w, c < 128) : PyData.strOk w = true := by
  unfold PyData.strOk
  rw [← Array.all_toList, List.all_eq_true]
  intro c hc
  exact decide_eq_true (Nat.lt_trans (h c hc) (by decide))
theorem canLay_strs : ∀ ws : List Str, (∀ w ∈ ws, ∀ c ∈ tl w, c < 128) → PyData.canLayAll0 (ws.map PyData.str) = true
  | [], _ => rfl
  | w :: ws, h => by
    rw [List.map_cons]
    simp only [PyData.canLayAll0, PyData.canLay0, canLay_strs ws (fun v hv => h v (List.mem_cons_of_mem _ hv)), strOk_of (h w (List.mem_cons_self ..)), Bool.and_self]
theorem depth_strs : ∀ ws : List Str, (PyData.list (ws.map PyData.str)).depth ≤ 2 := by
  intro ws
  have h : ∀ l : List Str, PyData.depthAll (l.map PyData.str) = 0 := by
    intro l
    induction l with
    | nil => rfl
    | cons n l ih => rw [List.map_cons]; simp only [PyData.depthAll, PyData.depth, ih]; rfl
  simp only [PyData.depth, h]
  decide
theorem shaped_strs (ws : List Str) (h : ∀ w ∈ ws, ∀ c ∈ tl w, c < 128) : SeqAt.shaped (.list (ws.map PyData.str)) = true := by
  show (PyData.canLay0 _ && decide _) = true
  rw [Bool.and_eq_true]
  refine ⟨?_, decide_eq_true (Nat.le_trans (depth_strs ws) (by decide))⟩
  simp only [PyData.canLay0, canLay_strs ws h]
theorem eqv_nil (ws : List Str) : PyData.eqv (.list (ws.map PyData.str)) (.list []) = decide (ws = []) := by
  cases ws <;> rfl
abbrev sKept : Stmt := topS 26
abbrev sIsSmall : Stmt := topS 27
abbrev sLIsName : Stmt := topS 28
abbrev sLSort : Stmt := topS 29
abbrev sLInner : Stmt := topS 31
def k1a : List Str := ["and", "at", "choice", "else", "fail", "false", "function", "if", "let", "long", "make", "match", "new"]
def k1b : List Str := ["not", "number", "of", "or", "over", "put", "rest", "return", "row", "set", "show", "true", "truth"]
def k1c : List Str := ["try", "unit", "uses", "while"]
def spKept : Sp := fun vs H Q _ => vs = [] ∧ ∀ (p : Addr) (H' : Hp), H p = none → Same H H' → H' p = some (.lst (keptS.map V.str)) → Q (.ref p) H'
def spSmall : Sp := fun vs H Q _ => ∃ w : Str, vs = [.str w] ∧ w.length ≤ 100000 ∧ (∀ c ∈ tl w, c < 128) ∧ ∀ H', Same H H' → Q (.bl (isSmall w)) H'
section
variable {P : Program} {w0 : World} {K : PySem.W.Frag} {mg : Str → Option Value} {base : Heap} {kA sA BT : Addr}
theorem scKept : FnScope ["found"] [] (defScope sKept) := ⟨rfl, rfl, rfl, by decide +kernel, rfl, by decide +kernel, by decide +kernel⟩
theorem ok_kept {f : Addr} {fd : FuncData} (F : Fun K "_law_kept" "_law_kept" sKept f fd) : FnOk P w0 K mg base CX0 1 f fd [] spKept := by
  refine F.ok scKept (fun vs H Q E h => ?_) (fun cdv A outer s H vs Q E hr h => ?_)
  · obtain ⟨rfl, _⟩ := h
    rfl
  · obtain ⟨rfl, k⟩ := h
    refine ⟨_, pss_cons (ps_set (i := 0) scKept.nd rfl (.inl rfl) (pe_lst (pa_cons pe_str (pa_cons pe_str (pa_cons pe_str (pa_cons pe_str (pa_cons pe_str (pa_cons pe_str (pa_cons pe_str (pa_cons pe_str (pa_cons pe_str (pa_cons pe_str (pa_cons pe_str (pa_cons pe_str (pa_cons pe_str pa_nil)))))))))))))))
      (pss_cons (ps_set (i := 0) scKept.nd rfl (.inl rfl) (pe_op op_cat (pv 0) (pe_lst (pa_cons pe_str (pa_cons pe_str (pa_cons pe_str (pa_cons pe_str (pa_cons pe_str (pa_cons pe_str (pa_cons pe_str (pa_cons pe_str (pa_cons pe_str (pa_cons pe_str (pa_cons pe_str (pa_cons pe_str (pa_cons pe_str pa_nil))))))))))))))))
      (pss_one (ps_ret (pe_op op_cat (pv 0) (pe_lst (pa_cons pe_str (pa_cons pe_str (pa_cons pe_str (pa_cons pe_str pa_nil))))))))), ?_⟩
    refine ⟨by show 13 ≤ sizeLine; decide, fun p hp => ?_⟩
    have e1 : upd H p (.lst (k1a.map V.str)) p = some (.lst (k1a.map V.str)) := upd_same
    have s1 : Same H (upd H p (.lst (k1a.map V.str))) := Same.new hp
    show (tSeq _ _) _ _ (upd H p (.lst (k1a.map V.str)))
    generalize upd H p (.lst (k1a.map V.str)) = H1 at *
    refine ⟨_, rfl, by show 13 ≤ sizeLine; decide, fun q hq => ?_⟩
    have s2 : Same H1 (upd H1 q (.lst (k1b.map V.str))) := Same.new hq
    refine ⟨p, q, k1a.map V.str, k1b.map V.str, rfl, rfl, s2 _ _ e1, upd_same, by decide, fun r hr => ?_⟩
    have e3 : upd (upd H1 q (.lst (k1b.map V.str))) r (.lst (k1a.map V.str ++ k1b.map V.str)) r = some (.lst (k1a.map V.str ++ k1b.map V.str)) := upd_same
    have s3 := (s1.trans s2).trans (Same.new (o := HO.lst (k1a.map V.str ++ k1b.map V.str)) hr)
    refine ⟨_, rfl, by show 4 ≤ sizeLine; decide, fun u hu => ?_⟩
    have s4 : Same (upd (upd H1 q (.lst (k1b.map V.str))) r (.lst (k1a.map V.str ++ k1b.map V.str))) (upd (upd (upd H1 q (.lst (k1b.map V.str))) r (.lst (k1a.map V.str ++ k1b.map V.str))) u (.lst (k1c.map V.str))) := Same.new hu
    refine ⟨r, u, k1a.map V.str ++ k1b.map V.str, k1c.map V.str, rfl, rfl, s4 _ _ e3, upd_same, by decide, fun z hz => ?_⟩
    exact k z _ ((s3.trans s4).free hz) ((s3.trans s4).trans (Same.new hz)) upd_same
theorem scIsSmall : FnScope ["word", "letter"] ["word"] (defScope sIsSmall) := ⟨rfl, rfl, rfl, by decide +kernel, rfl, by decide +kernel, by decide +kernel⟩
def tBetween (i : Nat) (a z : Str) : TE := tChain (fun x y H Q => ∃ i j, x = .str i ∧ y = .str j ∧ Q (.bl (!decide (j.cps.toList < i.cps.toList))) H) (fun x y H Q => ∃ i j, x = .str i ∧ y = .str j ∧ Q (.bl (!decide (j.cps.toList < i.cps.toList))) H) (tC (.str a)) (tVar i) (tC (.str z))
theorem between_run {i : Nat} {a z : Str} {lo hi c : Nat} (ea : tl a = [lo]) (ez : tl z = [hi]) {σ : L2.St} {H : Hp} {Q : VK} (h : σ[i]? = some (some (.str ⟨#[c]⟩))) (q : Q (.bl (decide (lo ≤ c ∧ c ≤ hi))) H) : tBetween i a z σ H Q := by
  refine ⟨_, h, _, _, rfl, rfl, _, rfl, ?_⟩
  have e1 : a.cps.toList = [lo] := ea
  rw [e1, lt1]
  by_cases h1 : c < lo
  · rw [decide_eq_true h1]
    rw [decide_eq_false (by omega)] at q
    exact iteF q
  · rw [decide_eq_false h1]
    refine iteT ⟨_, _, rfl, rfl, ?_⟩
    have e2 : z.cps.toList = [hi] := ez
    rw [e2, lt1]
    have e3 : (!decide (hi < c)) = decide (lo ≤ c ∧ c ≤ hi) := by
      rw [← decide_not, decide_eq_decide]
      omega
    rw [e3]
    exact q
theorem nbetween_run {i : Nat} {a z : Str} {lo hi c : Nat} (ea : tl a = [lo]) (ez : tl z = [hi]) {σ : L2.St} {H : Hp} {Q : Bool → Hp → Prop} (h : σ[i]? = some (some (.str ⟨#[c]⟩))) (q : Q (!decide (lo ≤ c ∧ c ≤ hi)) H) : tNot (tTest (tBetween i a z)) σ H Q := by
  show tBetween i a z σ H (fun x H1 => ∃ k, x = .bl k ∧ Q (!k) H1)
  exact between_run ea ez h ⟨_, rfl, q⟩
theorem ok_isSmall {f : Addr} {fd : FuncData} (F : Fun K "_law_is_small" "_law_is_small" sIsSmall f fd) : FnOk P w0 K mg base CX0 1 f fd ["word"] spSmall := by
  refine F.ok scIsSmall (fun vs H Q E h => ?_) (fun cdv A outer s H vs Q E hr h => ?_)
  · obtain ⟨w, rfl, _⟩ := h
    rfl
  · obtain ⟨w, rfl, hw, ha, k⟩ := h
    refine ⟨_, pss_one (ps_ret (pe_and (pe_cmpR op_ne (pv 0) pe_str (nomark _)) (pe_one (pe_cmpR (op_eqD hr.units)
        (pe_lc (own := [("letter", 1)]) (g := gName 1) (tt := tNot (tTest (tBetween 1 "a" "z"))) (te := tVar 1) (by rfl) scIsSmall.nd (pi_str (pv 0)) (blkOk_by (N := ["word", "letter"]) (sc := defScope sIsSmall) (by decide +kernel)) (fun _ _ _ _ _ => pg_name (i := 1) scIsSmall.nd rfl (Or.inl rfl))
          (fun _ _ _ _ _ => pts_one (pt_not (pt_chain op_le_str op_le_str pe_str (pv 1) pe_str))) (fun _ _ _ _ _ => pv 1))
        (pe_lst pa_nil) (nomark _))))), ?_⟩
    refine ⟨_, rfl, rfl, _, rfl, ?_⟩
    rw [decV]
    by_cases h1 : w = ""
    · rw [decide_eq_true h1]
      refine iteF ?_
      have e : isSmall w = false := by
        unfold isSmall
        rw [decide_eq_true h1]
        rfl
      rw [← e]
      exact k H (Same.refl H)
    · rw [decide_eq_false h1]
      refine iteT ⟨_, rfl, w, rfl, fun p hp => lc_it walk_str (fun i H' => Same H H' ∧ H' p = some (.lst ((((tl w).take i).filter (fun c => !small c)).map fun c => V.str (mk [c])))) ⟨Same.new hp, upd_same⟩ (fun _ _ _ _ => trivial) ?_ ?_⟩
      · rintro i x H1 H' hi ⟨s1, e1⟩ ⟨rfl, c, hc, rfl⟩
        refine ⟨rfl, nbetween_run (lo := 97) (hi := 122) (by decide +kernel) (by decide +kernel) rfl ?_⟩
        have e2 : decide (97 ≤ c ∧ c ≤ 122) = small c := rfl
        rw [e2]
        have e3 := filter_take (p := fun c => !small c) (at_tl hc)
        cases h3 : small c with
        | true =>
          refine iteF ⟨s1, ?_⟩
          rw [e3, e1, h3]
          simp
        | false =>
          refine iteT ⟨_, rfl, _, e1, ?_, Same.mut s1 hp, ?_⟩
          · rw [List.length_map]
            refine Nat.lt_of_le_of_lt (List.length_filter_le _ _) ?_
            rw [List.length_take]
            exact Nat.lt_of_le_of_lt (Nat.min_le_right _ _) (Nat.lt_of_le_of_lt hw (by decide))
          · rw [upd_same, e3, h3, List.map_append]
            rfl
      · rintro H1 ⟨s1, e1⟩
        rw [List.take_of_length_le (Nat.le_of_eq (by simp))] at e1
        have e2 : ((tl w).filter (fun c => !small c)).map (fun c => V.str (mk [c])) = (((tl w).filter (fun c => !small c)).map (fun c => mk [c])).map V.str := by rw [List.map_map]; rfl
        rw [e2] at e1
        refine ⟨Nat.zero_le _, fun q hq => ⟨_, _, .lst (SqL.of (Same.new hq _ _ e1)) (dp_strs _), .lst (SqL.of upd_same) .nil, shaped_strs _ ?_, rfl, ?_⟩⟩
        · intro v hv c hc
          obtain ⟨d, hd, rfl⟩ := List.mem_map.mp hv
          rw [tl_mk, List.mem_singleton] at hc
          rw [hc]
          exact ha d (List.mem_filter.mp hd).1
        rw [eqv_nil]
        have e3 : decide (((tl w).filter (fun c => !small c)).map (fun c => mk [c]) = []) = isSmall w := by
          unfold isSmall
          rw [decide_eq_false h1, Bool.not_false, Bool.true_and, ← filter_nil, decide_eq_decide, List.map_eq_nil_iff]
        rw [e3]
        exact k _ (s1.trans (Same.new hq))
def spLIsName (K : PySem.W.Frag) : Sp := fun vs H Q _ => ∃ w : Str, vs = [.str w] ∧ w.length ≤ 100000 ∧ (∀ c ∈ tl w, c < 128) ∧ ∀ H', Same H H' → Q (.bl (isName w)) H'
theorem scLIsName : FnScope ["matter"] ["matter"] (defScope sLIsName) := ⟨rfl, rfl, rfl, by decide +kernel, rfl, by decide +kernel, by decide +kernel⟩
theorem ok_lisName {f fS fK : Addr} {fd fdS fdK : FuncData} (F : Fun K "_law_is_name" "_law_is_name" sLIsName f fd) (gi : mg "isinstance" = none) (gs : mg "str" = none) (gl : mg "len" = none)
    (FS : Fun K "_law_is_small" "_law_is_small" sIsSmall fS fdS) (bS : Binds K fdS ["word"] []) (gS : mg "_law_is_small" = some (.ref fS)) (GS : FnOk P w0 K mg base CX0 1 fS fdS ["word"] spSmall)
    (FK : Fun K "_law_kept" "_law_kept" sKept fK fdK) (bK : Binds K fdK [] []) (gK : mg "_law_kept" = some (.ref fK)) (GK : FnOk P w0 K mg base CX0 1 fK fdK [] spKept) :
    FnOk P w0 K mg base CX0 2 f fd ["matter"] (spLIsName K) := by
  refine F.ok scLIsName (fun vs H Q E h => ?_) (fun cdv A outer s H vs Q E hr h => ?_)
  · obtain ⟨w, rfl, _⟩ := h
    rfl
  · obtain ⟨w, rfl, hw, ha, k⟩ := h
    refine ⟨_, pss_one (ps_ret (pe_and (pe_callB call_isi (by rfl) gi boot_isinstance (pa_cons (pv 0) (pa_cons (pe_bltn (v := .ty "str") (by rfl) gs (by decide +kernel) rfl) pa_nil)))
      (pe_and (pe_cmpR op_lt (pe_callB call_len_str (by rfl) gl PySem.boot_len (pa_cons (pv 0) pa_nil)) pe_int (nomark _))
      (pe_and (pe_call GS hr (by rfl) gS FS.kp bS .nil pass0 (pa_cons (pv 0) pa_nil)) (pe_one (pe_cmpR op_notIn_seq (pv 0) (pe_call0 GK hr (by rfl) gK FK.kp bK .nil pass0) rfl)))))), ?_⟩
    have hz : w.length ≤ sizeLine := Nat.le_trans hw (by decide)
    refine ⟨_, rfl, .str w, .ty "str", .type "str", .type "str", true, rfl, .ty _, .base (.str w), kit_ty (by decide +kernel), true, rfl, ?_⟩
    rw [isName_eq] at k
    refine iteT ⟨_, rfl, w, rfl, hz, _, _, rfl, rfl, _, rfl, ?_⟩
    have e8 : decide ((w.length : Int) < 9) = decide (w.length ≤ 8) := by
      rw [decide_eq_decide]
      omega
    rw [e8]
    cases h8 : decide (w.length ≤ 8) with
    | false =>
      rw [h8] at k
      exact iteF (k H (Same.refl H))
    | true =>
      rw [h8] at k
      refine iteT ⟨_, rfl, w, rfl, hw, ha, fun H1 s1 => ⟨_, rfl, ?_⟩⟩
      cases h9 : isSmall w with
      | false =>
        rw [h9] at k
        exact iteF (k H1 s1)
      | true =>
        rw [h9] at k
        refine iteT ⟨_, rfl, rfl, fun p H2 hp s2 e2 => ⟨p, _, rfl, .inl (SqL.of e2), rfl, flat_strs _, ?_⟩⟩
        rw [if_pos rfl, inV_str]
        exact k H2 (s1.trans s2)
end
end SA
set_option Elab.async false
set_option linter.all false
set_option maxRecDepth 100000
set_option maxHeartbeats 4000000
namespace K1
theorem digits_mem (c : Nat) : decide (c ∈ tl (PySem.Str.ofString "0123456789")) = digit c := by
  unfold digit
  rw [decide_eq_decide]
  have e : tl (PySem.Str.ofString "0123456789") = [48, 49, 50, 51, 52, 53, 54, 55, 56, 57] := by decide +kernel
  rw [e]
  simp only [List.mem_cons, List.not_mem_nil, or_false]
  omega
theorem tl_empty : tl (PySem.Str.ofString "") = [] := by decide +kernel
theorem empty_iff (w : PySem.Str) : decide (w = "") = (tl w).isEmpty := by
  rw [Bool.eq_iff_iff, decide_eq_true_eq, List.isEmpty_iff]
  exact ⟨fun e => by rw [e]; exact tl_empty, fun e => tl_inj (e.trans tl_empty.symm)⟩
theorem take1 {t : L} : decide (t.take 1 = [45]) = decide (t.head? = some 45) := by
  rw [decide_eq_decide]
  cases t with
  | nil => simp
  | cons c r => simp
end K1
namespace SA
open PySem PySem.Spec PyProof.Rows L2 K1
section
variable {P : Program} {w0 : World} {K : PySem.W.Frag} {mg : Str → Option Value} {base : Heap} {kA sA BT : Addr}
abbrev nSort : List Str := ["word", "figures", "is_plain", "one"]
theorem scLSort : FnScope nSort ["word"] (defScope sLSort) := ⟨rfl, rfl, rfl, by decide +kernel, rfl, by decide +kernel, by decide +kernel⟩
theorem ok_lsort {f fN fK : Addr} {fd fdN fdK : FuncData} (F : Fun K "_law_sort" "_law_sort" sLSort f fd)
    (FN : Fun K "_law_is_name" "_law_is_name" sLIsName fN fdN) (bN : Binds K fdN ["matter"] []) (gN : mg "_law_is_name" = some (.ref fN)) (GN : FnOk P w0 K mg base CX0 2 fN fdN ["matter"] (spLIsName K))
    (FK : Fun K "_law_kept" "_law_kept" sKept fK fdK) (bK : Binds K fdK [] []) (gK : mg "_law_kept" = some (.ref fK)) (GK : FnOk P w0 K mg base CX0 1 fK fdK [] spKept) :
    FnOk P w0 K mg base CX0 3 f fd ["word"] spSortTold := by
  refine F.ok scLSort (fun vs H Q E h => ?_) (fun cdv A outer s H vs Q E hr h => ?_)
  · obtain ⟨w, rfl, _⟩ := h
    rfl
  · obtain ⟨w, rfl, ⟨hw, ha, hne⟩, k⟩ := h
    have hr1 := hr.mono (by decide : 1 ≤ 2)
    have hz : w.length ≤ sizeLine := Nat.le_trans hw (by decide)
    refine ⟨_, Evl.pss_cut (ps_if (PW.pt (pw_or (pt_cmpR op_in_seq (pv 0) (pe_call0 GK hr1 (by rfl) gK FK.kp bK .nil pass0) rfl) (pw_or1 (pt_cmpR op_in_seq (pv 0) (pe_lst (pa_cons pe_str (pa_cons pe_str (pa_cons pe_str (pa_cons pe_str (pa_cons pe_str (pa_cons pe_str (pa_cons pe_str (pa_cons pe_str (pa_cons pe_str (pa_cons pe_str (pa_cons pe_str (pa_cons pe_str (pa_cons pe_str (pa_cons pe_str pa_nil))))))))))))))) rfl)))) (pss_one (ps_ret (pv 0))) pss_nil)
      (pss_cons (ps_if (pt_val (pe_call GN hr (by rfl) gN FN.kp bN .nil pass0 (pa_cons (pv 0) pa_nil))) (pss_one (ps_ret pe_str)) pss_nil)
      (Evl.pss_cut (ps_set (i := 1) scLSort.nd rfl (.inl rfl) (pe_ifExp (pt_cmpR op_eq (pe_slice sl_str (pv 0) po_none (po_some pe_int)) pe_str (nomark _)) (pe_slice sl_str (pv 0) (po_some pe_int) po_none) (pv 0)))
      (pss_cons (ps_set (i := 2) scLSort.nd rfl (.inl rfl) (pe_and (pe_cmpR op_ne (pv 1) pe_str (nomark _)) (pe_one (pe_cmpR (op_eqD hr.units)
        (pe_lc (own := [("one", 3)]) (g := gName 3) (tt := tTest (tOp (fun x y H Q => ∃ (c : Nat) (z : Str), x = .str ⟨#[c]⟩ ∧ y = .str z ∧ Q (.bl (!decide (c ∈ z.cps.toList))) H) (tVar 3) (tC (.str "0123456789")))) (te := tVar 3) (by rfl) scLSort.nd (pi_str (pv 1)) (blkOk_by (N := nSort) (sc := defScope sLSort) (by decide +kernel)) (fun _ _ _ _ _ => pg_name (i := 3) scLSort.nd rfl (Or.inl rfl))
          (fun _ _ _ _ _ => pts_one (pt_cmpR op_notIn_sign (pv 3) pe_str rfl)) (fun _ _ _ _ _ => pv 3))
        (pe_lst pa_nil) (nomark _)))))
      (pss_one (ps_ret (pe_ifExp (PW.pt (pw_or (pt_cmpR op_eq (pv 0) pe_str (nomark _)) (pw_or1 (PW.pt (pw_and (pt_val (pv 2)) (pw_and1 (pt_cmpR op_ne (pe_item_str (pv 1) pe_int (fun _ _ => rfl)) pe_str (nomark _)))))))) pe_str pe_str)))))), ?_⟩
    refine ⟨fun σ H' => σ = [some (.str w), none, none, none] ∧ Same H H' ∧ ¬ w ∈ keptS ∧ ¬ w ∈ signsS, ?_, ?_⟩
    · refine ⟨_, rfl, rfl, fun p H1 hp s1 e1 => ⟨p, _, rfl, .inl (SqL.of e1), rfl, flat_strs _, _, rfl, ?_⟩⟩
      rw [if_neg Bool.false_ne_true, inV_str]
      by_cases h1 : w ∈ keptS
      · rw [decide_eq_true h1]
        refine iteT (iteT ⟨_, rfl, ?_⟩)
        have k1 := k H1 s1
        rw [sortW, if_pos (.inl h1)] at k1
        exact k1
      · rw [decide_eq_false h1]
        refine iteF ⟨_, rfl, by show 14 ≤ sizeLine; decide, fun q hq => ⟨q, signsS.map V.str, rfl, .inl (SqL.of upd_same), rfl, flat_strs _, _, rfl, ?_⟩⟩
        have s2 : Same H (upd H1 q (.lst (signsS.map V.str))) := s1.trans (Same.new hq)
        rw [if_neg Bool.false_ne_true, inV_str]
        by_cases h2 : w ∈ signsS
        · rw [decide_eq_true h2]
          refine iteT ⟨_, rfl, ?_⟩
          have k1 := k _ s2
          rw [sortW, if_pos (.inr h2)] at k1
          exact k1
        · rw [decide_eq_false h2]
          exact iteF ⟨rfl, s2, h1, h2⟩
    · rintro σ H2 ⟨rfl, s2, h1, h2⟩
      have e : sortW w = if isName w = true then Str.ofString "name" else if isFig w = true then Str.ofString "figures" else Str.ofString "strange" := by
        unfold sortW
        exact if_neg (fun h => Or.elim h h1 h2)
      rw [e] at k
      refine ⟨_, rfl, w, rfl, hw, ha, fun H3 s3 => ⟨_, rfl, ?_⟩⟩
      have s23 := s2.trans s3
      cases h3 : isName w with
      | true =>
        rw [h3] at k
        exact iteT (k H3 s23)
      | false =>
        rw [h3] at k
        have k : ∀ H', Same H H' → Q (.str (if isFig w = true then Str.ofString "figures" else Str.ofString "strange")) H' := k
        refine iteF ?_
        refine ⟨fun σ H' => ∃ z : Str, tl z = figs w ∧ z.length ≤ 100000 ∧ σ = [some (.str w), some (.str z), none, none] ∧ Same H H', ?_, ?_⟩
        · refine ⟨_, rfl, _, rfl, w, rfl, hz, rfl, _, rfl, ?_⟩
          rw [show (1 : Int) = ((1 : Nat) : Int) from rfl, cut_0n, decV, mk_eq (k := [45]) (by decide +kernel), take1]
          by_cases h4 : (tl w).head? = some 45
          · rw [decide_eq_true h4]
            refine iteT ⟨_, rfl, _, rfl, w, rfl, hz, _, ?_, ?_, rfl, s23⟩
            · rw [cut_n, tl_mk]
              unfold figs
              rw [if_pos h4]
            · rw [cut_n, len_mk, List.length_drop]
              exact Nat.le_trans (Nat.sub_le _ _) hw
          · rw [decide_eq_false h4]
            refine iteF ⟨_, rfl, w, ?_, hw, rfl, s23⟩
            unfold figs
            rw [if_neg h4]
        · rintro σ H4 ⟨z, ez, hzl, rfl, s4⟩
          have hz2 : z.length ≤ sizeLine := Nat.le_trans hzl (by decide)
          have ha2 : ∀ c ∈ tl z, c < 128 := by
            rw [ez]
            intro c hc
            unfold figs at hc
            split at hc
            · exact ha c (List.mem_of_mem_drop hc)
            · exact ha c hc
          -- the end
          have fin : ∀ (b : Bool) (H5 : Hp), Same H H5 → b = (!(figs w).isEmpty && (figs w).all digit) →
              (tIf (tOr (tTest (tOp rEq (tVar 0) (tC (.str "0")))) (tAnd (tB (tVar 2)) (tTest (tOp rNe (tOp (fun x y H Q => ∃ z i c, x = .str z ∧ y = .int i ∧ 0 ≤ i ∧ i < 2 ^ 63 ∧ i < z.length ∧ z.cps[i.toNat]? = some c ∧ Q (.str ⟨#[c]⟩) H) (tVar 1) (tC (.int 0))) (tC (.str "0")))))) (tC (.str "figures")) (tC (.str "strange")))
                [some (.str w), some (.str z), some (.bl b), none] H5 Q := by
            intro b H5 s5 eb
            refine ⟨_, rfl, rfl, _, rfl, ?_⟩
            rw [decV]
            by_cases h0 : w = "0"
            · rw [decide_eq_true h0]
              have e1 : isFig w = true := by
                unfold isFig
                rw [decide_eq_true h0, Bool.true_or]
              rw [e1] at k
              exact iteT (iteT (k H5 s5))
            · rw [decide_eq_false h0]
              have e1 : isFig w = (b && !decide ((figs w).head? = some 48)) := by
                unfold isFig
                rw [decide_eq_false h0, Bool.false_or, eb, Bool.and_assoc]
              refine iteF ⟨_, rfl, b, rfl, ?_⟩
              cases b with
              | false =>
                rw [e1] at k
                exact iteF (iteF (k H5 s5))
              | true =>
                have hne2 : tl z ≠ [] := by
                  rw [ez]
                  intro e
                  rw [e] at eb
                  cases eb
                have h5 : 0 < (tl z).length := List.length_pos_iff.mpr hne2
                have hd : (tl z)[0]? = some (tl z)[0] := List.getElem?_eq_getElem h5
                have hd2 : z.cps[0]? = some (tl z)[0] := by simpa using hd
                generalize (tl z)[0] = d at hd hd2
                refine iteT ⟨_, rfl, z, 0, d, rfl, rfl, by decide, by decide, by have := len_tl z; omega, hd2, rfl, _, rfl, ?_⟩
                rw [dec1 (k := 48) (by decide +kernel)]
                rw [e1, Bool.true_and, ← ez, head_at, hd] at k
                have e5 : decide ((some d) = some 48) = decide (d = 48) := by
                  rw [decide_eq_decide]
                  exact ⟨fun e => Option.some.inj e, fun e => by rw [e]⟩
                rw [e5] at k
                by_cases h6 : d = 48
                · rw [decide_eq_true h6] at k ⊢
                  exact iteF (k H5 s5)
                · rw [decide_eq_false h6] at k ⊢
                  exact iteT (k H5 s5)
          refine ⟨_, rfl, rfl, _, rfl, ?_⟩
          rw [decV, empty_iff, ez]
          cases he : (figs w).isEmpty with
          | true => exact iteF (fin false H4 s4 (by rw [he]; rfl))
          | false =>
            refine iteT ⟨_, rfl, z, rfl, fun p hp => lc_it walk_str (fun i H' => Same H4 H' ∧ H' p = some (.lst ((((tl z).take i).filter (fun c => !digit c)).map fun c => V.str (mk [c])))) ⟨Same.new hp, upd_same⟩ (fun _ _ _ _ => trivial) ?_ ?_⟩
            · rintro i x H1 H' hi ⟨s1, e1⟩ ⟨rfl, c, hc, rfl⟩
              refine ⟨rfl, _, rfl, c, _, rfl, rfl, _, rfl, ?_⟩
              rw [digits_mem]
              have e3 := filter_take (p := fun c => !digit c) (at_tl hc)
              cases h3 : digit c with
              | true =>
                refine iteF ⟨s1, ?_⟩
                rw [e3, e1, h3]
                simp
              | false =>
                refine iteT ⟨_, rfl, _, e1, ?_, Same.mut s1 hp, ?_⟩
                · rw [List.length_map]
                  refine Nat.lt_of_le_of_lt (List.length_filter_le _ _) ?_
                  rw [List.length_take]
                  exact Nat.lt_of_le_of_lt (Nat.min_le_right _ _) (Nat.lt_of_le_of_lt hzl (by decide))
                · rw [upd_same, e3, h3, List.map_append]
                  rfl
            · rintro H1 ⟨s1, e1⟩
              rw [List.take_of_length_le (Nat.le_of_eq (by simp))] at e1
              have e2 : ((tl z).filter (fun c => !digit c)).map (fun c => V.str (mk [c])) = (((tl z).filter (fun c => !digit c)).map (fun c => mk [c])).map V.str := by rw [List.map_map]; rfl
              rw [e2] at e1
              refine ⟨Nat.zero_le _, fun q hq => ⟨_, _, .lst (SqL.of (Same.new hq _ _ e1)) (dp_strs _), .lst (SqL.of upd_same) .nil, shaped_strs _ ?_, rfl, ?_⟩⟩
              · intro v hv c hc
                obtain ⟨d, hd, rfl⟩ := List.mem_map.mp hv
                rw [tl_mk, List.mem_singleton] at hc
                rw [hc]
                exact ha2 d (List.mem_filter.mp hd).1
              · rw [eqv_nil]
                refine fin _ _ (s4.trans (s1.trans (Same.new hq))) ?_
                rw [he, Bool.not_false, Bool.true_and, ← ez, ← filter_nil, decide_eq_decide, List.map_eq_nil_iff]
end
end SA
set_option Elab.async false
set_option linter.all false
set_option maxRecDepth 100000
set_option maxHeartbeats 4000000
namespace K1
/-- the first sign of a text lies between two -/
def in1 (lo hi : Nat) (l : L) : Bool := l.head?.any fun d => decide (lo ≤ d ∧ d ≤ hi)
def lgB (c : Nat) (l : L) : Bool := inn c || (decide (c = 45) && in1 48 57 l)
theorem wl_lg {t : L} {n c : Nat} (hc : t[n]? = some c) : wl (t.drop n) = if lgB c ((t.drop (n + 1)).take 1) = true then 1 + twn t (n + 1) else if (t.drop (n + 1)).take 1 = [61] ∧ (c = 60 ∨ c = 61) then 2 else 1 := by
  rw [wl_at hc]
  unfold lgB
  by_cases h1 : inn c = true
  · rw [if_pos h1, h1, Bool.true_or, if_pos rfl]
  · have h1' : inn c = false := by simpa using h1
    rw [if_neg h1, h1', Bool.false_or]
    cases h5 : t[n + 1]? with
    | none =>
      rw [nx_none h5]
      have e : in1 48 57 (([] : L).take 1) = false := rfl
      rw [e, Bool.and_false]
      simp
    | some d =>
      rw [nx_some h5]
      have e : in1 48 57 [d] = digit d := rfl
      rw [e]
      by_cases h6 : c = 45 ∧ digit d = true
      · rw [if_pos (show (decide (c = 45) && digit d) = true by simp [h6])]
        show (if c = 45 ∧ digit d = true then 2 + twn t (n + 2) else if d = 61 ∧ (c = 60 ∨ c = 61) then 2 else 1) = _
        rw [if_pos h6]
        have hd : inn d = true := by
          have := h6.2
          unfold digit at this
          unfold inn
          simp only [decide_eq_true_eq] at this
          simp [this]
        have := twn_yes h5 hd
        rw [show n + 1 + 1 = n + 2 from rfl] at this
        omega
      · rw [if_neg (show ¬ (decide (c = 45) && digit d) = true by simp only [Bool.and_eq_true, decide_eq_true_eq]; exact h6)]
        show (if c = 45 ∧ digit d = true then 2 + twn t (n + 2) else if d = 61 ∧ (c = 60 ∨ c = 61) then 2 else 1) = _
        rw [if_neg h6]
        simp
end K1
namespace SA
open PySem PySem.Spec PyProof.Rows L2 K1
abbrev sWordAt : Stmt := topS 32
abbrev sCut : Stmt := topS 33
def spLInner : Sp := fun vs H Q _ => ∃ c : Nat, vs = [.str ⟨#[c]⟩] ∧ Q (.bl (inn c)) H
def spWordAt : Sp := fun vs H Q _ => ∃ (w : Str) (n : Nat), vs = [.str w, .int n] ∧ n < w.length ∧ w.length ≤ 100000 ∧ ∀ H', Same H H' → Q (.str (mk (((tl w).drop n).take (wl ((tl w).drop n))))) H'
def spCut : Sp := fun vs H Q _ => ∃ w : Str, vs = [.str w] ∧ w.length ≤ 100000 ∧ ∀ (p : Addr) (ts : List Addr) (H' : Hp), H p = none → Same H H' → H' p = some (.lst (ts.map V.ref)) → Toks H' ts (cut (tl w) 1 1) → Q (.ref p) H'
section
variable {P : Program} {w0 : World} {K : PySem.W.Frag} {mg : Str → Option Value} {base : Heap} {kA sA BT : Addr}
theorem scLInner : FnScope ["sign"] ["sign"] (defScope sLInner) := ⟨rfl, rfl, rfl, by decide +kernel, rfl, by decide +kernel, by decide +kernel⟩
theorem orb_run {i : Nat} {a z : Str} {lo hi c : Nat} (ea : tl a = [lo]) (ez : tl z = [hi]) {tb : TE} {σ : L2.St} {H : Hp} {Q : VK} (h : σ[i]? = some (some (.str ⟨#[c]⟩))) (q1 : (lo ≤ c ∧ c ≤ hi) → Q (.bl true) H) (q2 : ¬ (lo ≤ c ∧ c ≤ hi) → tb σ H Q) : tOrV (tBetween i a z) tb σ H Q := by
  show tBetween i a z σ H (fun x H1 => ∃ c, x = .bl c ∧ if c = true then Q (.bl true) H1 else tb σ H1 Q)
  refine between_run ea ez h ⟨_, rfl, ?_⟩
  by_cases e : lo ≤ c ∧ c ≤ hi
  · rw [decide_eq_true e]
    exact iteT (q1 e)
  · rw [decide_eq_false e]
    exact iteF (q2 e)
theorem ok_linner {f : Addr} {fd : FuncData} (F : Fun K "_law_inner" "_law_inner" sLInner f fd) : FnOk P w0 K mg base CX0 1 f fd ["sign"] spLInner := by
  refine F.ok scLInner (fun vs H Q E h => ?_) (fun cdv A outer s H vs Q E hr h => ?_)
  · obtain ⟨c, rfl, _⟩ := h
    rfl
  · obtain ⟨c, rfl, k⟩ := h
    refine ⟨tRet (tOrV (tBetween 0 "a" "z") (tOrV (tBetween 0 "A" "Z") (tOrV (tBetween 0 "0" "9") (tOp rEq (tVar 0) (tC (.str "_")))))), pss_one (ps_ret (pe_or (pe_chain op_le_str op_le_str pe_str (pv 0) pe_str) (pe_or (pe_chain op_le_str op_le_str pe_str (pv 0) pe_str) (pe_or (pe_chain op_le_str op_le_str pe_str (pv 0) pe_str) (pe_one (pe_cmpR op_eq (pv 0) pe_str (nomark _))))))), ?_⟩
    have e : inn c = (decide (97 ≤ c ∧ c ≤ 122) || (decide (65 ≤ c ∧ c ≤ 90) || (decide (48 ≤ c ∧ c ≤ 57) || decide (c = 95)))) := by
      unfold inn
      rw [Bool.or_assoc, Bool.or_assoc]
    rw [e] at k
    refine orb_run (lo := 97) (hi := 122) (c := c) (by decide +kernel) (by decide +kernel) rfl (fun h1 => ?_) (fun h1 => ?_)
    · rw [decide_eq_true h1] at k
      exact k
    · rw [decide_eq_false h1] at k
      refine orb_run (lo := 65) (hi := 90) (c := c) (by decide +kernel) (by decide +kernel) rfl (fun h2 => ?_) (fun h2 => ?_)
      · rw [decide_eq_true h2] at k
        exact k
      · rw [decide_eq_false h2] at k
        refine orb_run (lo := 48) (hi := 57) (c := c) (by decide +kernel) (by decide +kernel) rfl (fun h3 => ?_) (fun h3 => ?_)
        · rw [decide_eq_true h3] at k
          exact k
        · rw [decide_eq_false h3] at k
          refine ⟨_, rfl, rfl, ?_⟩
          show Q (.bl (decide (V.str (⟨#[c]⟩ : Str) = V.str "_"))) H
          rw [dec1 (k := 95) (by decide +kernel)]
          exact k
abbrev nWordAt : List Str := ["text", "at", "end", "is_long"]
theorem scWordAt : FnScope nWordAt ["text", "at"] (defScope sWordAt) := ⟨rfl, rfl, rfl, by decide +kernel, rfl, by decide +kernel, by decide +kernel⟩
/-- 'lo' <= s <= 'hi' of a text of one sign at most -/
theorem cut_between {l : L} {lo hi : Nat} {a z : Str} (ea : tl a = [lo]) (ez : tl z = [hi]) (hl : l.length ≤ 1) {te : TE} {σ : L2.St} {H : Hp} {Q : VK} (he : ∀ Q2 : VK, Q2 (.str (mk l)) H → te σ H Q2)
    (q : Q (.bl (in1 lo hi l)) H) :
    tChain (fun x y H Q => ∃ i j, x = .str i ∧ y = .str j ∧ Q (.bl (!decide (j.cps.toList < i.cps.toList))) H) (fun x y H Q => ∃ i j, x = .str i ∧ y = .str j ∧ Q (.bl (!decide (j.cps.toList < i.cps.toList))) H) (tC (.str a)) te (tC (.str z)) σ H Q := by
  refine he _ ⟨_, _, rfl, rfl, _, rfl, ?_⟩
  have e1 : a.cps.toList = [lo] := ea
  have e2 : z.cps.toList = [hi] := ez
  have e3 : (mk l).cps.toList = l := tl_mk l
  rw [e1, e3]
  match l, hl with
  | [], _ =>
    rw [nil_lt]
    exact iteF q
  | [c], _ =>
    rw [lt1]
    by_cases h1 : c < lo
    · rw [decide_eq_true h1]
      have e4 : decide (lo ≤ c ∧ c ≤ hi) = false := decide_eq_false (by omega)
      have q : Q (.bl (decide (lo ≤ c ∧ c ≤ hi))) H := q
      rw [e4] at q
      exact iteF q
    · rw [decide_eq_false h1]
      refine iteT ⟨_, _, rfl, rfl, ?_⟩
      rw [e2, e3, lt1]
      have e5 : (!decide (hi < c)) = decide (lo ≤ c ∧ c ≤ hi) := by
        rw [← decide_not, decide_eq_decide]
        omega
      rw [e5]
      exact q
theorem ok_wordAt {f fI : Addr} {fd fdI : FuncData} (F : Fun K "_law_word_at" "_law_word_at" sWordAt f fd) (gl : mg "len" = none) (FI : Fun K "_law_inner" "_law_inner" sLInner fI fdI) (bI : Binds K fdI ["sign"] []) (gI : mg "_law_inner" = some (.ref fI))
    (GI : FnOk P w0 K mg base CX0 1 fI fdI ["sign"] spLInner) : FnOk P w0 K mg base CX0 2 f fd ["text", "at"] spWordAt := by
  refine F.ok scWordAt (fun vs H Q E h => ?_) (fun cdv A outer s H vs Q E hr h => ?_)
  · obtain ⟨w, n, rfl, _⟩ := h
    rfl
  · obtain ⟨w, n, rfl, hn, hw, k⟩ := h
    have hz : w.length ≤ sizeLine := Nat.le_trans hw (by decide)
    refine ⟨_, pss_cons (ps_set (i := 2) scWordAt.nd rfl (.inl rfl) (pe_op op_add (pv 1) pe_int))
      (Evl.pss_cut (ps_set (i := 3) scWordAt.nd rfl (.inl rfl) (pe_or (pe_call GI hr (by rfl) gI FI.kp bI .nil pass0 (pa_cons (pe_item_str (pv 0) (pv 1) (fun _ _ => rfl)) pa_nil))
        (pe_one (pe_and (pe_cmpR op_eq (pe_item_str (pv 0) (pv 1) (fun _ _ => rfl)) pe_str (nomark _)) (pe_one (pe_chain op_le_str op_le_str pe_str (pe_slice sl_str (pv 0) (po_some (pe_op op_add (pv 1) pe_int)) (po_some (pe_op op_add (pv 1) pe_int))) pe_str))))))
      (Evl.pss_cut (ps_while PassesOwn.never (PW.pt (pw_and (pt_val (pv 3)) (pw_and (pt_cmpR op_lt (pv 2) (pe_callB call_len_str (by rfl) gl PySem.boot_len (pa_cons (pv 0) pa_nil)) (nomark _))
          (pw_and1 (pt_val (pe_call GI hr (by rfl) gI FI.kp bI .nil pass0 (pa_cons (pe_item_str (pv 0) (pv 2) (fun _ _ => rfl)) pa_nil)))))))
          (pss_one (ps_set (i := 2) scWordAt.nd rfl (.inl rfl) (pe_op op_add (pv 2) pe_int))))
      (pss_one (ps_ret (pe_ifExp (PW.pt (pw_and (pt_not (pt_val (pv 3))) (pw_and1 (pt_cmpR op_in_seq (pe_slice sl_str (pv 0) (po_some (pv 1)) (po_some (pe_op op_add (pv 1) pe_int))) (pe_lst (pa_cons pe_str (pa_cons pe_str pa_nil))) rfl))))
        (pe_slice sl_str (pv 0) (po_some (pv 1)) (po_some (pe_op op_add (pv 1) pe_int))) (pe_slice sl_str (pv 0) (po_some (pv 1)) (po_some (pv 2)))))))), ?_⟩
    have hn2 : n < (tl w).length := hn
    have hc : (tl w)[n]? = some (tl w)[n] := List.getElem?_eq_getElem hn2
    have hc2 : w.cps[n]? = some (tl w)[n] := by simpa using hc
    generalize (tl w)[n] = c at hc hc2
    have hb63 : (100000 : Int) < 2 ^ 63 := by decide
    have hc3 : w.cps[((n : Int)).toNat]? = some c := by
      rw [Int.toNat_natCast]
      exact hc2
    have e := wl_lg hc
    have ha63 : ∀ a : Nat, a ≤ w.length → (a : Int) < 2 ^ 63 := fun a h => by omega
    generalize el : ((tl w).drop (n + 1)).take 1 = l1 at e
    refine ⟨_, rfl, _, _, rfl, rfl, fun σ H' => σ = [some (.str w), some (.int n), some (.int ((n + 1 : Nat) : Int)), some (.bl (lgB c l1))] ∧ H' = H, ?_, ?_⟩
    · refine ⟨_, rfl, _, rfl, w, n, c, rfl, rfl, by omega, by omega, by omega, hc3, c, rfl, _, rfl, ?_⟩
      unfold lgB
      cases h1 : inn c with
      | true => exact iteT ⟨rfl, rfl⟩
      | false =>
        refine iteF ⟨_, rfl, _, rfl, w, n, c, rfl, rfl, by omega, by omega, by omega, hc3, rfl, _, rfl, ?_⟩
        rw [dec1 (k := 45) (by decide +kernel)]
        cases h2 : decide (c = 45) with
        | false => exact iteF ⟨rfl, rfl⟩
        | true =>
          refine iteT (cut_between (lo := 48) (hi := 57) (l := l1) (by decide +kernel) (by decide +kernel) (by rw [← el, List.length_take]; exact Nat.min_le_left _ _) (fun Q2 q2 => ?_) ⟨rfl, rfl⟩)
          refine ⟨_, rfl, _, rfl, _, _, rfl, rfl, _, rfl, _, rfl, _, _, rfl, rfl, _, rfl, w, rfl, hz, ?_⟩
          rw [show ((n : Int) + 1) = ((n + 1 : Nat) : Int) from rfl, show ((n : Int) + 2) = ((n + 2 : Nat) : Int) from rfl, cut_nn, show n + 2 - (n + 1) = 1 by omega, el]
          exact q2
    · rintro σ H' ⟨rfl, rfl⟩
      have kS := k
      have k := k H' (Same.refl H')
      generalize lgB c l1 = b at e
      refine ⟨fun σ H'' => ∃ a : Nat, n + 1 ≤ a ∧ a ≤ w.length ∧ a = n + 1 + (if b = true then twn (tl w) (n + 1) else 0) ∧ σ = [some (.str w), some (.int n), some (.int a), some (.bl b)] ∧ H'' = H', ?_, ?_⟩
      · refine ⟨fun m σ H'' => ∃ a : Nat, m = w.length - a ∧ n + 1 ≤ a ∧ a ≤ w.length ∧ a + (if b = true then twn (tl w) a else 0) = (n + 1) + (if b = true then twn (tl w) (n + 1) else 0) ∧ σ = [some (.str w), some (.int n), some (.int a), some (.bl b)] ∧ H'' = H', ⟨_, n + 1, rfl, Nat.le_refl _, hn, rfl, rfl, rfl⟩, ?_⟩
        rintro m σ H'' ⟨a, rfl, hna, ha, ea, rfl, rfl⟩
        refine ⟨_, rfl, b, rfl, ?_⟩
        cases b with
        | false => exact iteF (iteF ⟨a, hna, ha, by simpa using ea, rfl, rfl⟩)
        | true =>
          have ea : a + twn (tl w) a = (n + 1) + twn (tl w) (n + 1) := ea
          refine iteT ⟨_, rfl, _, rfl, w, rfl, hz, _, _, rfl, rfl, _, rfl, ite2 (fun h3 => ?_) (fun h3 => ?_)⟩
          · have h3 : (a : Int) < w.length := of_decide_eq_true h3
            have h4 : a < (tl w).length := by
              have := len_tl w
              omega
            have hd : (tl w)[a]? = some (tl w)[a] := List.getElem?_eq_getElem h4
            have hd2 : w.cps[a]? = some (tl w)[a] := by simpa using hd
            generalize (tl w)[a] = d at hd hd2
            refine ⟨_, rfl, _, rfl, w, a, d, rfl, rfl, by omega, ha63 a ha, h3, by rw [Int.toNat_natCast]; exact hd2, d, rfl, _, rfl, ?_⟩
            cases h5 : inn d with
            | true =>
              refine iteT ⟨fun σ' H3 => ∃ a' : Nat, a' = a + 1 ∧ σ' = [some (.str w), some (.int n), some (.int a'), some (.bl true)] ∧ H3 = H'', fun σ' H3 ⟨a', e1, e2, e3⟩ => ⟨w.length - a', by omega, a', rfl, by omega, by omega, ?_, e2, e3⟩, ?_⟩
              · have := twn_yes hd h5
                show a' + twn (tl w) a' = (n + 1) + twn (tl w) (n + 1)
                rw [e1, ← this, ea]
              · exact ⟨_, rfl, _, _, rfl, rfl, a + 1, rfl, rfl, rfl⟩
            | false =>
              have := twn_no hd (by simp [h5])
              exact iteF ⟨a, hna, ha, by show a = n + 1 + twn (tl w) (n + 1); omega, rfl, rfl⟩
          · have h3 : ¬ (a : Int) < w.length := fun z => h3 (decide_eq_true z)
            have := twn_end (t := tl w) (n := a) (by have := len_tl w; omega)
            exact ⟨a, hna, ha, by show a = n + 1 + twn (tl w) (n + 1); omega, rfl, rfl⟩
      · rintro σ H'' ⟨a, hna, ha, ea, rfl, rfl⟩
        have sl2 : cutS w (some (n : Int)) (some ((n : Int) + 2)) = mk (((tl w).drop n).take 2) := by
          rw [show ((n : Int) + 2) = ((n + 2 : Nat) : Int) from rfl, cut_nn, Nat.add_sub_cancel_left]
        have sla : cutS w (some (n : Int)) (some (a : Int)) = mk (((tl w).drop n).take (a - n)) := cut_nn _ _ _
        refine ⟨_, rfl, b, rfl, ?_⟩
        cases b with
        | true =>
          have ea : a = n + 1 + twn (tl w) (n + 1) := ea
          rw [if_pos rfl] at e
          refine iteF (iteF ⟨_, rfl, _, rfl, _, rfl, _, rfl, _, rfl, w, rfl, hz, ?_⟩)
          rw [sla, show a - n = wl ((tl w).drop n) by omega]
          exact k
        | false =>
          have ea : a = n + 1 := ea
          rw [if_neg Bool.false_ne_true] at e
          refine iteT ⟨_, rfl, _, rfl, _, rfl, _, rfl, _, _, rfl, rfl, _, rfl, w, rfl, hz, by show 2 ≤ sizeLine; decide, fun p hp => ⟨p, ([Str.ofString "<=", Str.ofString "=="] : List Str).map V.str, rfl, .inl (SqL.of upd_same), rfl, flat_strs _, _, rfl, ?_⟩⟩
          have k := k
          rw [if_neg Bool.false_ne_true, inV_str, sl2, mem_pairs]
          have e5 : decide (((tl w).drop n).take 2 = [60, 61] ∨ ((tl w).drop n).take 2 = [61, 61]) = decide (l1 = [61] ∧ (c = 60 ∨ c = 61)) := by
            have e6 : ((tl w).drop n).take 2 = c :: l1 := by
              rw [drop_at hc, List.take_succ_cons, el]
            rw [e6, decide_eq_decide]
            simp only [List.cons.injEq]
            constructor
            · rintro (⟨h, h'⟩ | ⟨h, h'⟩)
              · exact ⟨h', .inl h⟩
              · exact ⟨h', .inr h⟩
            · rintro ⟨h', h | h⟩
              · exact .inl ⟨h, h'⟩
              · exact .inr ⟨h, h'⟩
          rw [e5]
          have k2 := kS _ (Same.new (o := HO.lst [V.str "<=", V.str "=="]) hp)
          by_cases h6 : l1 = [61] ∧ (c = 60 ∨ c = 61)
          · rw [decide_eq_true h6]
            rw [if_pos h6] at e
            refine iteT ⟨_, rfl, _, rfl, _, rfl, _, rfl, _, _, rfl, rfl, _, rfl, w, rfl, hz, ?_⟩
            rw [sl2]
            rw [e] at k2
            exact k2
          · rw [decide_eq_false h6]
            rw [if_neg h6] at e
            refine iteF ⟨_, rfl, _, rfl, _, rfl, _, rfl, _, rfl, w, rfl, hz, ?_⟩
            rw [sla, show a - n = 1 by omega]
            rw [e] at k2
            exact k2
end
end SA
set_option Elab.async false
set_option linter.all false
set_option maxRecDepth 100000
set_option maxHeartbeats 4000000
namespace K1
theorem mem_blank (c : Nat) : decide ((⟨#[c]⟩ : PySem.Str) ∈ ([PySem.Str.ofString " ", PySem.Str.ofString "\n"] : List PySem.Str)) = blank c := by
  have e1 : tl (PySem.Str.ofString " ") = [32] := by decide +kernel
  have e2 : tl (PySem.Str.ofString "\n") = [10] := by decide +kernel
  have h1 := mk_eq (l := [c]) e1
  have h2 := mk_eq (l := [c]) e2
  unfold blank
  rw [decide_eq_decide] at h1 h2
  rw [← Bool.decide_or, decide_eq_decide, List.mem_cons, List.mem_singleton, one_mk, h1, h2]
  simp
end K1
namespace SA
open PySem PySem.Spec PyProof.Rows L2 K1
section
variable {P : Program} {w0 : World} {K : PySem.W.Frag} {mg : Str → Option Value} {base : Heap} {kA sA BT : Addr}
abbrev nCut : List Str := ["text", "found", "at", "line", "column", "size"]
theorem scCut : FnScope nCut ["text"] (defScope sCut) := ⟨rfl, rfl, rfl, by decide +kernel, rfl, by decide +kernel, by decide +kernel⟩
def Ctn (H : Hp) (w : Str) (p : Addr) (n : Nat) (σ : L2.St) (H' : Hp) : Prop := ∃ (a : Nat) (line col : Int) (ts : List Addr) (l0 : List (L × Int × Int)) (y : Option V),
  σ = [some (.str w), some (.ref p), some (.int a), some (.int line), some (.int col), y] ∧ n = w.length - a ∧ a ≤ w.length ∧ Same H H' ∧ H' p = some (.lst (ts.map V.ref)) ∧ Toks H' ts l0 ∧ ts.length ≤ a ∧
    l0 ++ cut ((tl w).drop a) line col = cut (tl w) 1 1
theorem ok_cut {f fW : Addr} {fd fdW : FuncData} (F : Fun K "_law_cut" "_law_cut" sCut f fd) (gl : mg "len" = none) (gi : mg "int" = none) (FW : Fun K "_law_word_at" "_law_word_at" sWordAt fW fdW) (bW : Binds K fdW ["text", "at"] []) (gW : mg "_law_word_at" = some (.ref fW))
    (GW : FnOk P w0 K mg base CX0 2 fW fdW ["text", "at"] spWordAt) : FnOk P w0 K mg base CX0 3 f fd ["text"] spCut := by
  refine F.ok scCut (fun vs H Q E h => ?_) (fun cdv A outer s H vs Q E hr h => ?_)
  · obtain ⟨w, rfl, _⟩ := h
    rfl
  · obtain ⟨w, rfl, hw, k⟩ := h
    have hz : w.length ≤ sizeLine := Nat.le_trans hw (by decide)
    refine ⟨_, pss_cons (ps_asg (pe_tup (pa_cons (pe_lst pa_nil) (pa_cons pe_int (pa_cons pe_int (pa_cons pe_int pa_nil))))) (pg_tup rfl (pgs_cons (pg_name (i := 1) scCut.nd rfl (.inl rfl)) (pgs_cons (pg_name (i := 2) scCut.nd rfl (.inl rfl)) (pgs_cons (pg_name (i := 3) scCut.nd rfl (.inl rfl)) (pgs_cons (pg_name (i := 4) scCut.nd rfl (.inl rfl)) pgs_nil))))))
      (pss_cons (ps_while PassesOwn.never (pt_cmpR op_lt (pv 2) (pe_callB call_len_str (by rfl) gl PySem.boot_len (pa_cons (pv 0) pa_nil)) (nomark _))
        (pss_cons (ps_set (i := 5) scCut.nd rfl (.inl rfl) pe_int)
        (Evl.pss_cut (ps_if (pt_cmpR op_notIn_seq (pe_item_str (pv 0) (pv 2) (fun _ _ => rfl)) (pe_lst (pa_cons pe_str (pa_cons pe_str pa_nil))) rfl)
          (pss_cons (ps_expr (pe_bm PySem.F.plainAttrs_list PySem.F.slot_list_append PySem.F.type_list_append mt_append (pv 1) (pa_cons (pe_tup (pa_cons (pe_call GW hr (by rfl) gW FW.kp bW .nil pass0 (pa_cons (pv 0) (pa_cons (pv 2) pa_nil))) (pa_cons (pv 3) (pa_cons (pv 4) pa_nil)))) pa_nil)))
          (pss_one (ps_set (i := 5) scCut.nd rfl (.inl rfl) (pe_callB call_len_str (by rfl) gl PySem.boot_len (pa_cons (pe_ix ix_tup (pe_ix ix_list (pv 1) (pe_un un_neg pe_int) (fun _ _ => rfl)) pe_int (fun _ _ => rfl)) pa_nil))))) pss_nil)
        (pss_cons (ps_par (i := 3) (j := 4) rfl scCut.nd rfl rfl (by decide) rfl rfl (pa_cons (pe_op op_add (pv 3) (pe_callTy call_int1 (by rfl) gi PySem.Pv.boot_int (pa_cons (pe_cmpR op_eq (pe_item_str (pv 0) (pv 2) (fun _ _ => rfl)) pe_str (nomark _)) pa_nil)))
          (pa_cons (pe_ifExp (pt_cmpR op_eq (pe_item_str (pv 0) (pv 2) (fun _ _ => rfl)) pe_str (nomark _)) pe_int (pe_op op_add (pv 4) (pv 5))) pa_nil)) rfl)
        (pss_one (ps_set (i := 2) scCut.nd rfl (.inl rfl) (pe_op op_add (pv 2) (pv 5))))))))
      (pss_one (ps_ret (pv 1)))), ?_⟩
    refine ⟨Nat.zero_le _, fun p hp => ⟨by show 4 ≤ sizeLine; decide, fun t ht => ?_⟩⟩
    have ep : (upd H p (.lst [])) p = some (.lst []) := upd_same
    have npt : p ≠ t := ne_of_none ep ht
    refine ⟨t, _, rfl, SqT.of upd_same, rfl, _, _, rfl, _, _, rfl, _, _, rfl, _, _, rfl, rfl, ?_⟩
    have s0 : Same H (upd (upd H p (.lst [])) t (.tup [.ref p, .int 0, .int 1, .int 1])) := (Same.new hp).trans (Same.new ht)
    have e0 : (upd (upd H p (.lst [])) t (.tup [.ref p, .int 0, .int 1, .int 1])) p = some (.lst (([] : List Addr).map V.ref)) := by
      rw [upd_ne npt]
      exact ep
    refine ⟨Ctn H w p, ⟨_, 0, 1, 1, [], [], none, rfl, rfl, Nat.zero_le _, s0, e0, .nil, Nat.le_refl _, by rw [List.drop_zero]; rfl⟩, ?_⟩
    rintro m σ H2 ⟨a, line, col, ts, l0, y, rfl, rfl, hal, s2, e2, t2, hts, ec⟩
    refine ⟨_, rfl, _, rfl, w, rfl, hz, _, _, rfl, rfl, _, rfl, ite2 (fun h3 => ?_) (fun h3 => ?_)⟩
    · have h3 : (a : Int) < w.length := of_decide_eq_true h3
      have h4 : a < (tl w).length := by
        have := len_tl w
        omega
      have hc : (tl w)[a]? = some (tl w)[a] := List.getElem?_eq_getElem h4
      have hc2 : w.cps[a]? = some (tl w)[a] := by simpa using hc
      generalize (tl w)[a] = c at hc hc2
      have hb63 : (100000 : Int) < 2 ^ 63 := by decide
      have i63 : (a : Int) < 2 ^ 63 := by omega
      have h3' : a < w.length := by omega
      have hc3 : w.cps[((a : Int)).toNat]? = some c := by
        rw [Int.toNat_natCast]
        exact hc2
      have ia : (0 : Int) ≤ a := by omega
      refine ⟨fun σ' H' => ∃ n, n < w.length - a ∧ Ctn H w p n σ' H', fun σ' H' z => z, ?_⟩
      refine ⟨fun σ' H' => ∃ (sz : Nat) (ts' : List Addr) (l1 : List (L × Int × Int)), σ' = [some (.str w), some (.ref p), some (.int a), some (.int line), some (.int col), some (.int sz)] ∧ 1 ≤ sz ∧ a + sz ≤ w.length ∧ Same H H' ∧ H' p = some (.lst (ts'.map V.ref)) ∧ Toks H' ts' l1 ∧ ts'.length ≤ a + 1 ∧
        l1 ++ cut ((tl w).drop (a + sz)) (if c = 10 then line + 1 else line) (if c = 10 then 1 else col + sz) = cut (tl w) 1 1, ?_, ?_⟩
      · refine ⟨_, rfl, _, rfl, w, a, c, rfl, rfl, ia, i63, h3, hc3, by show 2 ≤ sizeLine; decide, fun q hq => ⟨q, ([Str.ofString " ", Str.ofString "\n"] : List Str).map V.str, rfl, .inl (SqL.of upd_same), rfl, flat_strs _, _, rfl, ?_⟩⟩
        rw [if_pos rfl, inV_str, mem_blank]
        have s3 : Same H2 (upd H2 q (.lst [V.str " ", V.str "\n"])) := Same.new hq
        have e3 : (upd H2 q (.lst [V.str " ", V.str "\n"])) p = some (.lst (ts.map V.ref)) := s3 _ _ e2
        have t3 := t2.same s3
        rw [drop_at hc] at ec
        cases hb : blank c with
        | true =>
          refine iteF ⟨1, ts, l0, rfl, Nat.le_refl _, h3', s2.trans s3, e3, t3, by omega, ?_⟩
          by_cases h5 : c = 10
          · rw [if_pos h5, if_pos h5]
            subst h5
            rw [cut_nl] at ec
            exact ec
          · rw [if_neg h5, if_neg h5]
            have h6 : c = 32 := by
              unfold blank at hb
              simp only [Bool.or_eq_true, decide_eq_true_eq] at hb
              omega
            subst h6
            rw [cut_sp] at ec
            exact ec
        | false =>
          have s23 := s2.trans s3
          have nc : ¬ c = 10 := fun z => by
            subst z
            cases hb
          refine iteT ⟨_, rfl, Or.inl ⟨rfl, _, Or.inl (Or.inl e3)⟩, _, rfl, _, rfl, w, a, rfl, h3', hw, fun H4 s4 => ⟨_, rfl, _, rfl, by show 3 ≤ sizeLine; decide, fun u hu => ?_⟩⟩
          have hlen : ((mk (((tl w).drop a).take (wl ((tl w).drop a)))).length) = wl ((tl w).drop a) := by
            rw [len_mk, List.length_take, drop_at hc]
            exact Nat.min_eq_left (by rw [List.length_cons]; exact wl_le _ _)
          have hle : a + wl ((tl w).drop a) ≤ w.length := by
            rw [drop_at hc]
            have := wl_le c ((tl w).drop (a + 1))
            rw [List.length_drop] at this
            have := len_tl w
            omega
          have hpos := wl_pos ((tl w).drop a)
          have e4 := s4 _ _ e3
          have t4 := t3.same s4
          generalize hW : mk (((tl w).drop a).take (wl ((tl w).drop a))) = W at hlen hu
          have s5 : Same H4 (upd H4 u (.tup [.str W, .int line, .int col])) := Same.new hu
          have e5 := s5 _ _ e4
          have npu : u ≠ p := fun z => by
            rw [z] at hu
            rw [hu] at e4
            cases e4
          refine ⟨p, _, _, rfl, rfl, e5, ?_, ?_⟩
          · rw [List.length_map]
            exact Nat.lt_of_le_of_lt (by omega : ts.length ≤ 100000) (by decide)
          · have e6 : (upd (upd H4 u (.tup [.str W, .int line, .int col])) p (.lst (ts.map V.ref ++ [.ref u]))) p = some (.lst (ts.map V.ref ++ [.ref u])) := upd_same
            have e7 : (upd (upd H4 u (.tup [.str W, .int line, .int col])) p (.lst (ts.map V.ref ++ [.ref u]))) u = some (.tup [.str W, .int line, .int col]) := by
              rw [upd_ne npu, upd_same]
            refine ⟨_, rfl, 1, rfl, p, _, -1, _, rfl, rfl, SqL.of e6, atI_last _ _, u, _, 0, _, rfl, rfl, SqT.of e7, rfl, W, rfl, ?_, ?_⟩
            · rw [hlen]
              exact Nat.le_trans (by omega : wl ((tl w).drop a) ≤ 100000) (by decide)
            · refine ⟨W.length, ts ++ [u], l0 ++ [(((tl w).drop a).take (wl ((tl w).drop a)), line, col)], rfl, by omega, by omega, ?_, ?_, ?_, ?_, ?_⟩
              · exact Same.mut (s23.trans (s4.trans s5)) hp
              · rw [e6, List.map_append]
                rfl
              · refine papp ((t4.same s5).upd e5) (.cons ?_ .nil)
                rw [e7, hW]
              · rw [List.length_append, List.length_singleton]
                omega
              · rw [if_neg nc, if_neg nc, hlen]
                rw [cut_w hb, ← drop_at hc, List.drop_drop] at ec
                rw [List.append_assoc, List.singleton_append]
                exact ec
      · rintro σ' H' ⟨sz, ts', l1, rfl, z1, z2, s3, e3, t3, hts3, ec3⟩
        have nl : decide (V.str (⟨#[c]⟩ : Str) = V.str "\n") = decide (c = 10) := dec1 (k := 10) (by decide +kernel)
        refine ⟨_, rfl, _, rfl, _, rfl, w, a, c, rfl, rfl, ia, i63, h3, hc3, rfl, .inr ⟨_, rfl, _, _, rfl, rfl, _, rfl, _, rfl, w, a, c, rfl, rfl, ia, i63, h3, hc3, rfl, _, rfl, ?_⟩⟩
        rw [nl]
        have nx : ∀ (ln cl : Int) (H3 : Hp), H3 = H' → ln = (if c = 10 then line + 1 else line) → cl = (if c = 10 then 1 else col + sz) →
            ∃ n, n < w.length - a ∧ Ctn H w p n [some (.str w), some (.ref p), some (.int ((a : Int) + sz)), some (.int ln), some (.int cl), some (.int sz)] H3 := by
          rintro ln cl H3 rfl e1 e2
          exact ⟨w.length - (a + sz), by omega, a + sz, ln, cl, ts', l1, _, rfl, rfl, z2, s3, e3, t3, by omega, by rw [e1, e2]; exact ec3⟩
        by_cases h5 : c = 10
        · rw [decide_eq_true h5]
          refine iteT ⟨_, _, rfl, _, rfl, _, rfl, _, _, rfl, rfl, nx _ _ _ rfl ?_ ?_⟩
          · rw [if_pos h5]
            rfl
          · rw [if_pos h5]
        · rw [decide_eq_false h5]
          refine iteF ⟨_, rfl, _, rfl, _, _, rfl, rfl, _, _, rfl, _, rfl, _, rfl, _, _, rfl, rfl, nx _ _ _ rfl ?_ ?_⟩
          · rw [if_neg h5]
            show line + 0 = line
            omega
          · rw [if_neg h5]
    · have h3 : ¬ (a : Int) < w.length := fun z => h3 (decide_eq_true z)
      rw [List.drop_of_length_le (by have := len_tl w; omega), cut_nil, List.append_nil] at ec
      exact ⟨_, rfl, k p ts H2 hp s2 e2 (ec ▸ t2)⟩
end
end SA
set_option Elab.async false
set_option linter.all false
set_option maxRecDepth 100000
set_option maxHeartbeats 4000000
/-! ### a caught exception that outlives its except suite -/
namespace SA
open PySem PySem.Spec PyProof.Rows L2
/-- at a stands an exception of the class cls, its dict at d, that was caught -/
def HX (cls : Value) (d : Option Addr) (a : Addr) : HO := .ext fun h => ∃ (oe : Obj) (vs : Array Value), h.get? a = some oe ∧ Zc cls d oe ∧ oe.data = .fields vs
theorem hx_ok {P : Program} {w : World} {H : Hp} {h : Heap} {a : Addr} {cls : Value} {d : Option Addr} {oe : Obj} {vs : Array Value} (e : h.get? a = some oe) (z : Zc cls d oe) (q : oe.data = .fields vs) : ObjOk P w H h a (HX cls d a) :=
  ⟨⟨oe, vs, e, z, q⟩, ⟨oe, e⟩, fun _ _ ⟨o, v, q, r⟩ k => ⟨o, v, k o q, r⟩⟩
section
variable {X : Cx} {pins : List (Addr × Obj)} {σ : L2.St} {H : Hp} {s : Shared}
theorem Inv.track {a : Addr} {o : HO} (I : Inv X pins σ H s) (hn : H a = none) (h0 : X.s_0.heap.get? a = none) (nL : a ≠ X.env.locals) (nC : ∀ x c, X.env.cells.lookup x = some c → c ≠ a) (nP : ∀ p ∈ X.pn ++ pins, p.1 ≠ a) (new : ObjOk X.prog X.w (upd H a o) s.heap a o) :
    Inv X pins σ (upd H a o) s := by
  have up : ∀ {b : Addr} {u : HO}, H b = some u → upd H a o b = some u := fun {b u} e => by
    rw [upd_ne (ne_of_none e hn)]
    exact e
  refine ⟨I.ok, I.os, I.bare, ⟨I.base.keep, I.base.slot, fun b u e n hx => ?_, I.base.there, fun b xs e => up (I.base.tups b xs e), fun b u v e => up (I.base.frzs b u v e), fun b ps e => ?_⟩, I.loc, I.cell, ?_, fun x c e => ?_, fun p hp => ?_, ?_, I.len⟩
  · rw [upd_ne (fun z => by rw [z, h0] at e; cases e)]
    exact I.base.free b u e n hx
  · obtain ⟨more, q⟩ := I.base.tbls b ps e
    exact ⟨more, up q⟩
  · rw [upd_ne nL.symm]
    exact I.free
  · rw [upd_ne (nC x c e)]
    exact I.freeC x c e
  · obtain ⟨e, n, q⟩ := I.pin p hp
    refine ⟨e, ?_, q⟩
    rw [upd_ne (nP p hp)]
    exact n
  · exact I.hok.laidN (fun _ _ e => e) hn new
/-- an object of fields is no frame -/
theorem fields_noframe {B h : Heap} {l : List Env} {a : Addr} {o : Obj} {vs : Array Value} (ff : h.FunFrames B l) (e : h.get? a = some o) (d : o.data = .fields vs) : a ∉ frs l := fun m => by
  obtain ⟨_, o2, e2, z⟩ := ff.mem m
  cases e.symm.trans e2
  exact z _ d
/-- an exception that came up within is new to the def: no frame, no pin, nothing that stood at the entry -/
structure NewX (X : Cx) (pins : List (Addr × Obj)) (a : Addr) : Prop where
  nloc : a ≠ X.env.locals
  nfs : a ∉ X.fs
  old : X.s_0.heap.get? a = none
  npin : ∀ p ∈ X.pn ++ pins, p.1 ≠ a
theorem newX {B h : Heap} {a : Addr} {o : Obj} {vs : Array Value} {sI : Shared} (hs : X.stack = X.env :: X.outer) (hf : X.env.frame = some X.env.locals) (hex : X.ex = []) (J : Inv X pins σ H sI)
    (nb : ∀ b u, sI.heap.get? b = some u → b ∉ frs X.stack → B.get? b = some u) (hB : B.get? a = none) (ff : h.FunFrames B (X.env :: X.outer)) (e : h.get? a = some o) (d : o.data = .fields vs) : NewX X pins a := by
  have nf := fields_noframe ff e d
  have gone : ∀ u, sI.heap.get? a ≠ some u := fun u q => by
    have z := nb a u q (hs ▸ nf)
    rw [hB] at z
    cases z
  refine ⟨fun z => nf (List.mem_filterMap.mpr ⟨X.env, List.mem_cons_self, z ▸ hf⟩), fun m => ?_, ?_, fun p hp z => gone _ (z ▸ (J.pin p hp).1)⟩
  · obtain ⟨v, hv, q⟩ := List.mem_filterMap.mp m
    exact nf (List.mem_filterMap.mpr ⟨v, List.mem_cons_of_mem _ hv, q⟩)
  · match q : X.s_0.heap.get? a with
    | none => rfl
    | some u =>
      obtain ⟨u', q'⟩ := J.base.there a u q (hex ▸ List.not_mem_nil)
      exact (gone u' q').elim
/-- what the clause 'except x as n' wishes whose suite keeps the exception: behind the suite it stands at a, told by HX -/
def wHold (K : PySem.W.Frag) (c : Value) (m i : Nat) (ts : Addr → Value → Option Addr → TS) (Wout : WX) (D : Ends) : WX := fun cls d σ H =>
  ∃ b, PySem.W.exmOne K cls c = some b ∧ (b = false → Wout cls d σ H) ∧
    (b = true → σ.length = m → ∀ a, H a = none → ts a cls d { nx := fun σ1 H1 => D.nx (σ1.set i none) (upd H1 a (HX cls d a)), rt := fun _ _ => False, bk := fun _ _ => False, ct := fun _ _ => False } (σ.set i (some (.ref a))) H)
end
section
variable {X : Cx} {x n : Str} {c : Value} {i : Nat} {body suite : List Stmt} {b₀ : Stmt} {np p1 p2 : Pos} {tb : WX → TS} {ts : Addr → Value → Option Addr → TS} {Wout : WX}
/-- try: body / except x as n: suite, the suite neither returning nor leaving a loop: the exception may be kept under another name -/
theorem ps_try_hold (hs : X.stack = X.env :: X.outer) (hf : X.env.frame = some X.env.locals) (hex : X.ex = []) (hN : X.N.Nodup) (hi : X.N[i]? = some n) (hln : X.env.kindOf n = some .local) (hc : Names X x c) (tk : Takes X Wout)
    (hb : ∀ (W : WX) (pn : List (Addr × Obj)) (xe : Value → Shared → Prop), Takes (X.tr pn xe) W → PassesOwn (model X.prog X.w) X.A X.env xe → PSs (X.tr pn xe) body (tb W))
    (hsu : ∀ (a : Addr) (oe : Obj) (cls : Value) (d : Option Addr) (pn : List (Addr × Obj)), Zc cls d oe → (∃ vs, oe.data = .fields vs) → PSs (X.suite a ((a, oe) :: pn)) (b₀ :: suite) (ts a cls d)) :
    PS X (.Try body [.ExceptHandler (some (.Name x np)) (some n) (b₀ :: suite) p1] [] [] p2) (fun D σ H => tb (wHold X.K c X.N.length i ts Wout D) D σ H) := ⟨fun pins s σ H D I hw => by
  have ok := I.ok
  have fr : X.A.frames = some (X.env :: X.outer) := hs ▸ ok.frames
  -- what is done with an exception that the body lets out
  let caught : Value → Shared → Prop := fun e t1 => wpAny (model X.prog X.w) X.A (noteFrame e X.env) (fun _ t2 => wpAny (model X.prog X.w) X.A (setFlight e none) (fun _ t3 => wpAny (model X.prog X.w) X.A (handleBy e X.env [.ExceptHandler (some (.Name x np)) (some n) (b₀ :: suite) p1]) (SP X pins D) X.xe t3) X.xe t2) X.xe t1
  have takes : Takes (X.tr (X.pn ++ pins) caught) (wHold X.K c X.N.length i ts Wout D) := fun u t ⟨a, B, sI, _, σ1, H1, cls, d, eu, I1, nb, up, sky, na, os, ag, b, hcls, hno, hyes⟩ => by
    subst eu
    have J : Inv X pins σ1 H1 sI := I1.ofTry ok
    refine Sky.land Zc.steady fr hf (show Sky B (X.env :: X.outer) a (Zc cls d) X.env.locals t.heap from hs ▸ sky) fun h3 fl3 up3 => ?_
    obtain ⟨o3, v3, g3, z3, d3⟩ := fl3.there
    have nx := newX hs hf hex J nb fl3.2.1 fl3.2.2.1 g3 d3
    have J3 : Inv X pins σ1 H1 { t with heap := h3 } := J.landed nb fl3.1 (up.trans up3) os ag
    have T3 := J3.suite g3 d3 na nx.nloc nx.nfs
    have cl : PySem.W.Looks (model X.prog X.w) h3 (typeOf (.ref a)) cls := fun _ _ _ t' k q => wpAny_typeOf_ref (k _ _ g3) (z3.1.symm ▸ q)
    refine wpAny_handleBy_cons (codeAny_handlers_test ?_) (fun q => nomatch q)
    have named : ∀ {Q E : Value → Shared → Prop}, Q c { t with heap := h3 } → wpAny (model X.prog X.w) (X.A.mark (some (.ref a))) (eval (.Name x np) X.env) Q E { t with heap := h3 } := fun q => by
      obtain ⟨hg, hdb, hm⟩ := hc
      rcases hm with hm | ⟨hm, hv, hnn⟩
      · exact ld_glob (X := X.suite a ((a, o3) :: (X.pn ++ pins))) T3 hg hm q hdb
      · exact ld_blt (X := X.suite a ((a, o3) :: (X.pn ++ pins))) T3 hg hm hv q hnn hdb
    refine named ((PySem.W.exm_one (M := model X.prog X.w) J3.kIn cl hcls).here ?_)
    match b, hno, hyes with
    | false, hno, _ =>
      show wpAny _ X.A (handleBy (.ref a) X.env []) _ _ _
      obtain ⟨_, _, _, oe, vs, T, _, _, g, _, dd, h1, _⟩ := id fl3
      have out : wpAny (model X.prog X.w) X.A (setFlight (.ref a) X.env.frame) (fun _ t4 => wpAny (model X.prog X.w) X.A (throw (.ref a) : Sem Flow) (SP X pins D) X.xe t4) X.xe { t with heap := h3 } := by
        rw [hf]
        refine HandSPX.setFlight_upZ fl3 fun h4 k4 up4 => wpAny_throw (tk _ _ ⟨a, B, sI, pins, σ1, H1, cls, d, rfl, J, nb, (up.trans up3).trans up4, .inr (.inr (hs ▸ k4)), na, os, ag, hno rfl⟩)
      refine wpAny_handleBy_nil ?_
      unfold PySem.passOn
      refine wpAny_bind (wpAny_field g dd h1 ?_)
      rw [if_neg (show ¬ ((Value.ref T == Value.none) = true) from by simp)]
      first
        | exact wpAny_bind out
        | exact wpAny_bind (wpAny_pure (wpAny_bind out))
    | true, _, hyes =>
      refine codeAny_handlers_suite_as (HandSPX.lands_againZ fl3 fun h4 fl4 up4 => ?_)
      obtain ⟨o4, v4, g4, z4, d4⟩ := fl4.there
      have J4 : Inv X pins σ1 H1 { t with heap := h4 } := J.landed nb fl4.1 ((up.trans up3).trans up4) os ag
      refine store_ok (X := X.suite a ((a, o4) :: (X.pn ++ pins))) (v := .ref a) (J4.suite g4 d4 na nx.nloc nx.nfs) hN hi (.inl hln) rfl (fun s5 T5 => ?_) (.inr hln)
      refine wpAny_mono ((hsu a o4 cls d (X.pn ++ pins) z4 ⟨_, d4⟩).run [] s5 _ H1 _ T5 (hyes rfl J.len a na)) (fun f s6 q => ?_) (fun _ _ z => z.elim)
      match f, q with
      | .brk, ⟨_, _, _, z⟩ => exact z.elim
      | .cont, ⟨_, _, _, z⟩ => exact z.elim
      | .ret _, ⟨_, _, _, _, _, z⟩ => exact z.elim
      | .next, ⟨σ6, H6, T6, q6⟩ =>
        refine gone_ok (X := X.suite a ((a, o4) :: (X.pn ++ pins))) T6 hN hi hln fun s7 T7 => ?_
        obtain ⟨g7, n7, _, _, c7⟩ := T7.pin (a, o4) (by rw [List.append_nil]; exact List.mem_cons_self)
        have J7 : Inv X pins (σ6.set i none) H6 s7 := T7.unsuite ok
        refine ⟨_, _, Inv.track J7 n7 nx.old nx.nloc (fun y c' e z => ?_) nx.npin (hx_ok g7 z4 d4), q6⟩
        obtain ⟨v, o, ho, hd⟩ := J7.cell y c' e
        rw [z] at ho
        cases g7.symm.trans ho
        exact c7 v hd
  refine wpAny_Try_except (wpAny_mono ((hb _ (X.pn ++ pins) caught takes PassesOwn.looking).run [] s σ H D (I.toTry _) hw) (fun f s1 q => ?_) fun e s1 q => q)
  match f, q with
  | .next, ⟨_, _, T, q⟩ => exact wpAny_execs_nil ⟨_, _, T.ofTry ok, q⟩
  | .brk, ⟨_, _, T, q⟩ => exact ⟨_, _, T.ofTry ok, q⟩
  | .cont, ⟨_, _, T, q⟩ => exact ⟨_, _, T.ofTry ok, q⟩
  | .ret _, ⟨_, _, _, T, r, q⟩ => exact ⟨_, _, _, T.ofTry ok, r, q⟩⟩
end
section
variable {X : Cx}
/-- it is an instance of its class -/
theorem HX.inst {pins : List (Addr × Obj)} {σ : L2.St} {H : Hp} {s : Shared} {a C : Addr} {d : Option Addr} (I : Inv X pins σ H s) (h : H a = some (HX (.ref C) d a)) (hd : ∀ dx, d = some dx → ∃ fs, H dx = some (.xd fs)) : ∃ ox od, PySem.W.InstAt s.heap a ox C od ∧
    (∀ dx fs, d = some dx → H dx = some (.xd fs) → ∃ o mA, od = some o ∧ s.heap.Ns1 dx mA ∧ s.heap.get? dx = some o ∧ ∀ f, RelO (fs.lookup f) (mA f)) := by
  obtain ⟨⟨oe, vs, e, z, dt⟩, _⟩ := I.hok a _ h
  have hnc : PySem.W.notCls oe = true := by
    unfold PySem.W.notCls
    rw [dt] <;> rfl
  cases d with
  | none =>
    refine ⟨oe, none, ⟨e, z.1, hnc, ?_⟩, fun dx fs q => by cases q⟩
    rw [z.2]
    trivial
  | some dx =>
    obtain ⟨fs, hx⟩ := hd dx rfl
    obtain ⟨mA, hns, hr⟩ := I.hok dx _ hx
    obtain ⟨od, ho, hlk⟩ := lookIn_ns hns
    refine ⟨oe, some od, ⟨e, z.1, hnc, ?_⟩, fun dx' fs' q hx' => ?_⟩
    · rw [z.2]
      exact ho
    · cases q
      rw [hx] at hx'
      cases hx'
      exact ⟨od, mA, rfl, hns, ho, hr⟩
end
end SA
set_option Elab.async false
set_option linter.all false
set_option maxRecDepth 100000
set_option maxHeartbeats 4000000
/-! ### what is asked of a caught exception -/
namespace SA
open PySem PySem.Spec PyProof.Rows L2
section
variable {X : Cx}
/-- isinstance(e, c), e a caught exception -/
def rIsH (K : PySem.W.Frag) : List V → Hp → VK → Prop := fun xs H Q => ∃ (a D : Addr) (d : Option Addr) (c : V) (cv : Value) (b : Bool), xs = [.ref a, c] ∧ ClsV c cv ∧ H a = some (HX (.ref D) d a) ∧ (∀ dx, d = some dx → ∃ fs, H dx = some (.xd fs)) ∧ ExcC K D ∧ PySem.W.kitOne K (.ref D) cv = some b ∧ Q (.bl b) H
theorem call_isH : CallR X (.builtin "isinstance") (rIsH X.K) := by
  intro pins s σ H xs us Q I r h
  obtain ⟨a, D, d, c, cv, b, rfl, k, hx, hd, hC, e, q⟩ := h
  obtain ⟨u1, u2, rfl, r1, r2⟩ := vals2 r
  have e2 := k.eq r2
  subst e2
  obtain rfl : u1 = Value.ref a := r1
  obtain ⟨ox, od, J, _⟩ := HX.inst I hx hd
  exact PySem.W.kia_one (kit_exc hC) I.kIn J e (fun z => nomatch z) fun tk => ⟨.bl b, H, I.kept (t' := tk) fun _ _ z => z, rfl, q⟩
/-- e.f, e a caught exception whose dict is told -/
def tHfld (K : PySem.W.Frag) (te : TE) (f : Str) : TE := fun σ H Q => te σ H fun x H1 => ∃ (a C dx : Addr) (fs : List (Str × V)) (v : V), x = .ref a ∧ H1 a = some (HX (.ref C) (some dx) a) ∧ H1 dx = some (.xd fs) ∧ XfC K C ∧
  PySem.W.findIn K (.ref C) f = some none ∧ fs.lookup f = some v ∧ Q v H1
theorem pe_hfld {e : Expr} {te : TE} {f : Str} {pos : Pos} (he : PE X e te) (hb : attributeBase e f X.env (eval e X.env) = eval e X.env := by rfl) : PE X (.Attribute e f pos) (tHfld X.K te f) := by
  refine ⟨fun pins s σ H Q I h => ?_⟩
  refine attr_of hb (thn (he.run pins s σ H _ I h) fun u s1 hh => ?_)
  obtain ⟨x, H1, I1, rx, a, C, dx, fs, v, ex, h1, h2, T, hno, hl, q⟩ := hh
  subst ex
  obtain rfl : u = Value.ref a := rx
  obtain ⟨ox, od, J, g⟩ := HX.inst I1 h1 fun dx' e => ⟨fs, by cases e; exact h2⟩
  obtain ⟨o, mA, eo, hns, ho, hr⟩ := g dx fs rfl h2
  obtain ⟨o', ho', hlk⟩ := lookIn_ns hns
  rw [ho] at ho'
  cases ho'
  subst eo
  obtain ⟨w, hw, rw'⟩ := RelO.some_of (v := v) (o := mA f) (by rw [← hl]; exact hr f)
  exact HandSPX.exc_get I1.kIn J T.ga T.gg T.exC (PySem.W.findObj_own T.hdC hno rfl (by rw [hlk, hw])) (handed_of rw') ⟨v, H1, I1.tok _, rw', q⟩
end
end SA
set_option Elab.async false
set_option linter.all false
set_option maxRecDepth 100000
set_option maxHeartbeats 4000000
namespace K1
open PySem
/-- a word with its place, as data -/
def tokD (x : L × Int × Int) : PyData := .tuple [.str (mk x.1), .int x.2.1, .int x.2.2]
theorem tok_eqv (x y : L × Int × Int) : PyData.eqv (tokD x) (tokD y) = decide (x = y) := by
  obtain ⟨a, b, c⟩ := x
  obtain ⟨a', b', c'⟩ := y
  show (mk a == mk a' && (b == b' && (c == c' && true))) = _
  rw [Bool.eq_iff_iff]
  simp only [Bool.and_eq_true, beq_iff_eq, decide_eq_true_eq, and_true, Prod.mk.injEq]
  constructor
  · rintro ⟨h1, h2, h3⟩
    exact ⟨by rw [← tl_mk a, h1, tl_mk], h2, h3⟩
  · rintro ⟨h1, h2, h3⟩
    exact ⟨by rw [h1], h2, h3⟩
theorem toks_eqv : ∀ l m : List (L × Int × Int), PyData.eqvAll (l.map tokD) (m.map tokD) = decide (l = m)
  | [], [] => rfl
  | [], _ :: _ => rfl
  | _ :: _, [] => rfl
  | x :: l, y :: m => by
    show (PyData.eqv (tokD x) (tokD y) && PyData.eqvAll (l.map tokD) (m.map tokD)) = _
    rw [tok_eqv, toks_eqv l m, Bool.eq_iff_iff]
    simp
theorem toksL_eqv (l m : List (L × Int × Int)) : PyData.eqv (.list (l.map tokD)) (.list (m.map tokD)) = decide (l = m) := toks_eqv l m
end K1
namespace SA
open PySem PySem.Spec PyProof.Rows L2 K1
/-- the signs of words are plain -/
def TokOk (l : List (L × Int × Int)) : Prop := ∀ x ∈ l, ∀ c ∈ x.1, c < 128
theorem canLay_tok {x : L × Int × Int} (h : ∀ c ∈ x.1, c < 128) : PyData.canLay0 (tokD x) = true := by
  have e : PyData.strOk (mk x.1) = true := strOk_of (by rw [tl_mk]; exact h)
  unfold tokD
  simp only [PyData.canLay0, PyData.canLayAll0, e, Bool.and_self]
theorem canLay_toks : ∀ l : List (L × Int × Int), TokOk l → PyData.canLayAll0 (l.map tokD) = true
  | [], _ => rfl
  | x :: l, h => by
    rw [List.map_cons]
    simp only [PyData.canLayAll0, canLay_tok (h x (List.mem_cons_self ..)), canLay_toks l fun y hy => h y (List.mem_cons_of_mem _ hy), Bool.and_self]
theorem depth_toks (l : List (L × Int × Int)) : (PyData.list (l.map tokD)).depth ≤ 3 := by
  have h1 : ∀ x : L × Int × Int, (tokD x).depth ≤ 1 := fun x => by
    unfold tokD
    simp [PyData.depth, PyData.depthAll]
  have h : ∀ l : List (L × Int × Int), PyData.depthAll (l.map tokD) ≤ 1 := by
    intro l
    induction l with
    | nil => simp [PyData.depthAll]
    | cons x l ih =>
      rw [List.map_cons]
      simp only [PyData.depthAll]
      exact Nat.max_le.mpr ⟨h1 x, ih⟩
  simp only [PyData.depth]
  have := h l
  omega
theorem shaped_toks (l : List (L × Int × Int)) (h : TokOk l) : SeqAt.shaped (.list (l.map tokD)) = true := by
  show (PyData.canLay0 _ && decide _) = true
  rw [Bool.and_eq_true]
  refine ⟨?_, decide_eq_true (Nat.le_trans (depth_toks l) (by decide))⟩
  simp only [PyData.canLay0, canLay_toks l h]
theorem dp_toks {K : PySem.W.Frag} {H : Hp} : ∀ {ts : List Addr} {l : List (L × Int × Int)}, Toks H ts l → DpAll K H (ts.map V.ref) (l.map tokD)
  | _, _, .nil => .nil
  | _, _, .cons r t => .cons (.tup (SqT.of r) (.cons (.str _) (.cons (.int _) (.cons (.int _) .nil)))) (dp_toks t)
/-! ### a call by one keyword alone -/
section
variable {X : Cx} {CX : CXT} {k : Nat} {f : Addr} {fd : FuncData} {ps ks : List Str} {sp : Sp} {E : XK} {x : Str} {p pos : Pos} {kws : List Keyword} {tk : TA} {g : List Value → List Value → List Value} {gV : List V → List V → List V}
theorem pe_kw0 (F : FnOk X.prog X.w X.K X.mg X.base CX k f fd ps sp) (hr : Room k X.A) (hg : Gl X x) (hm : X.mg x = some (.ref f)) (hk : PySem.W.keepIn X.K (.ref f) = true) (hb : KBinds X.K fd ps ks g gV) (hx : Passes CX X E)
    (hkw : PK X kws tk) (hall : (backToKw pos (keywordEach kws X.env)).all (·.1.isSome) = true := by rfl) (hks : (backToKw pos (keywordEach kws X.env)).filterMap (·.1) = ks := by rfl)
    (hdb : (x == ("__debug__" : Str)) = false := by decide) (hpl : ((backTo pos (starEach [] X.env)).any (·.1) || (backToKw pos (keywordEach kws X.env)).any (·.1.isNone)) = false := by rfl) :
    PE X (.Call (.Name x p) [] kws pos) (tCallK sp gV E tNil tk) := by
  refine ⟨fun pins s σ H Q I h => wpAny_Call_Name_kw (ld_glob I hg hm ?_ hdb)⟩
  refine PySem.W.callWith_KW0 (h₀ := X.base) I.ok.mod.kin hk hall (thn (hkw.run pos pins s σ H _ I h) fun ws s2 ⟨zs, H2, I2, rz, q⟩ => ⟨I2.kIn, ?_⟩) hpl
  rw [hks]
  exact run_fnk (us := []) (vs := []) F hr hb hx I2 .nil rz q
end
abbrev cat1 {α : Type} : List α → List α → List α := fun us ws => us ++ ws
/-! ### _law_caught -/
abbrev sCaught : Stmt := topS 30
abbrev nCaught : List Str := ["work", "error", "caught"]
theorem scCaught : FnScope nCaught ["work"] (defScope sCaught) := ⟨rfl, rfl, rfl, by decide +kernel, rfl, by decide +kernel, by decide +kernel⟩
/-- what _law_caught makes of what the lambda does: the error held, or None -/
def TTc (K : PySem.W.Frag) (SE : Addr) : (XK → Hp → VK → Prop) → Hp → VK → Prop := fun tl H Q =>
  tl (fun cls d H' => PySem.W.exmOne K cls (.ref SE) = some true ∧ ∀ a, H' a = none → Q (.ref a) (upd H' a (HX cls d a))) H (fun _ H' => ∃ v : V, (some (some V.non) : Option (Option V)) = some (some v) ∧ Q v H')
theorem caught_gives {X : Cx} {g SE : Addr} {cdg : Value} {q : Str} (hme : X.mg "StopError" = some (.ref SE)) : LamX.GivesTo X nCaught "_law_caught" (defScope sCaught) g cdg (defBody sCaught) "work" q (TTc X.K SE) := by
  intro f c' s H Q tl act hc h
  refine ⟨_, pss_cons (ps_set (i := 1) scCaught.nd rfl (.inl rfl) pe_non) (pss_cons (ps_try_hold (i := 2) (X := (cxOf C8.CX0 X.prog X.w X.K X.mg X.base nCaught "_law_caught" (defScope sCaught) g cdg X.A X.stack s H C8.E0).nox) (c := .ref SE)
      (tb := fun W D σ H => ∃ Ech : XK, (∀ cls d σ' H', Ech cls d H' → W cls d σ' H') ∧ σ[0]? = some (some (.ref f)) ∧ H c' = some (LamX.CodeO c' q) ∧ tl Ech H (fun _ H' => D.nx σ H'))
      rfl rfl rfl scCaught.nd rfl rfl ⟨rfl, by decide, .inl hme⟩ LamX.takes0 (fun W pn xe tk _ => ?_) (fun a oe cls d pn _ _ => pss_one (ps_set (i := 1) scCaught.nd rfl (.inl rfl) (pv 2))))
    (pss_one (ps_ret (pv 1)))), ?_⟩
  · refine ⟨fun pins s' σ H' D I h' => ?_⟩
    obtain ⟨Ech, hW, h1, h2, h3⟩ := h'
    exact (pss_one (ps_expr (act W pn xe Ech _ _ tk hW))).run pins s' σ H' D I ⟨h1, h2, h3⟩
  · refine ⟨fun cls d H' => PySem.W.exmOne X.K cls (.ref SE) = some true ∧ ∀ a, H' a = none → Q (.ref a) (upd H' a (HX cls d a)), fun cls d σ' H' ⟨e1, e2⟩ => ⟨true, e1, fun z => (nomatch z), fun _ hl a ha => ?_⟩, rfl, hc, h⟩
    have hl : σ'.length = 3 := hl
    match σ', hl with
    | [x0, x1, x2], _ => exact ⟨_, rfl, _, rfl, e2 a ha⟩
end SA
set_option Elab.async false
set_option linter.all false
set_option maxRecDepth 100000
set_option maxHeartbeats 4000000
namespace SA
open PySem PySem.Spec PyProof.Rows L2 K1
/-- all but d, w and tables of code stand as they stood -/
def But3 (d w : Addr) (H H' : Hp) : Prop := ∀ b o, H b = some o → b ≠ d → b ≠ w → (∀ ps, o ≠ .tbl ps) → H' b = some o
theorem But3.refl (d w : Addr) (H : Hp) : But3 d w H H := fun _ _ e _ _ _ => e
theorem But3.trans {d w : Addr} {H H1 H2 : Hp} (a : But3 d w H H1) (b : But3 d w H1 H2) : But3 d w H H2 := fun x o e h1 h2 h3 => b x o (a x o e h1 h2 h3) h1 h2 h3
theorem But3.of2 {d w : Addr} {H H' : Hp} (a : But2 d w H H') : But3 d w H H' := fun x o e h1 h2 _ => a x o e h1 h2
theorem But3.ofS {d w : Addr} {H H' : Hp} (a : Same H H') : But3 d w H H' := fun x o e _ _ _ => a x o e
theorem But3.ofE {d w : Addr} {H H' : Hp} (a : LamX.ExtN H H') : But3 d w H H' := fun x o e _ _ h => a x o e h
/-- what an ExtN keeps of the draw -/
theorem DrawAt.ext {H H' : Hp} {d w c : Addr} {n : Nat} (h : DrawAt H d w c n) (e : LamX.ExtN H H') : DrawAt H' d w c n := by
  obtain ⟨⟨r, t, a1, a2, e1⟩, ⟨ws, e2⟩, ⟨cs, e3⟩, ne⟩ := h
  exact ⟨⟨r, t, a1, a2, e _ _ e1 fun ps z => nomatch z⟩, ⟨ws, e _ _ e2 fun ps z => nomatch z⟩, ⟨cs, e _ _ e3 fun ps z => nomatch z⟩, ne⟩
theorem DrawAt.same {H H' : Hp} {d w c : Addr} {n : Nat} (h : DrawAt H d w c n) (e : Same H H') : DrawAt H' d w c n := h.ext fun b o q _ => e b o q
theorem tabs_same {T : List (Addr × Str)} {H H' : Hp} (t : LamX.Tabs T H) (e : Same H H') : LamX.Tabs T H' := t.ext e
/-- the draw's two objects are no table -/
theorem tabs_but {T : List (Addr × Str)} {H H' : Hp} {d w c : Addr} {n : Nat} (t : LamX.Tabs T H) (h : DrawAt H d w c n) (e : But2 d w H H') : LamX.Tabs T H' := by
  obtain ⟨⟨r, t', a1, a2, e1⟩, ⟨ws, e2⟩, ⟨cs, e3⟩, ne⟩ := h
  intro p hp
  obtain ⟨ps, h1, h2, h3⟩ := t p hp
  refine ⟨ps, e _ _ h1 (ne_of h1 e1 fun z => nomatch z) (ne_of h1 e2 fun z => nomatch z), h2, fun pos cv hc => ?_⟩
  obtain ⟨c', q1, q2⟩ := h3 pos cv hc
  have q3 : H c' = some (LamX.CodeO c' p.2) := q2
  exact ⟨c', q1, e _ _ q2 (ne_of q3 e1 fun z => nomatch z) (ne_of q3 e2 fun z => nomatch z)⟩
theorem DrawAt.knowD {H : Hp} {d w c : Addr} {n : Nat} (h : DrawAt H d w c n) {p : Addr} (hp : H p = none) : p ≠ d ∧ p ≠ w := by
  obtain ⟨⟨r, t, _, _, e⟩, ⟨ws, e2⟩, _, _⟩ := h
  refine ⟨fun z => ?_, fun z => ?_⟩
  · rw [z, e] at hp
    cases hp
  · rw [z, e2] at hp
    cases hp
/-- data that is no text -/
def NotD (d w : Addr) (H : Hp) (x : V) : Prop := x = .non ∨ (∃ i, x = .int i) ∨ (∃ b, x = .bl b) ∨ ∃ p, x = .ref p ∧ p ≠ d ∧ p ≠ w ∧ ((∃ xs, H p = some (.lst xs)) ∨ (∃ xs, H p = some (.tup xs)) ∨ ∃ kvs, H p = some (.dK kvs))
theorem NotD.but {d w : Addr} {H H' : Hp} {x : V} (b : But3 d w H H') (h : NotD d w H x) : NotD d w H' x := by
  rcases h with h | h | h | ⟨p, rfl, h1, h2, h⟩
  · exact .inl h
  · exact .inr (.inl h)
  · exact .inr (.inr (.inl h))
  · refine .inr (.inr (.inr ⟨p, rfl, h1, h2, ?_⟩))
    rcases h with ⟨xs, e⟩ | ⟨xs, e⟩ | ⟨xs, e⟩
    · exact .inl ⟨xs, b _ _ e h1 h2 fun ps z => nomatch z⟩
    · exact .inr (.inl ⟨xs, b _ _ e h1 h2 fun ps z => nomatch z⟩)
    · exact .inr (.inr ⟨xs, b _ _ e h1 h2 fun ps z => nomatch z⟩)
theorem NotD.notS {K : PySem.W.Frag} {d w : Addr} {H : Hp} {x : V} (h : NotD d w H x) : NotS K H x := by
  rcases h with rfl | ⟨i, rfl⟩ | ⟨b, rfl⟩ | ⟨p, rfl, _, _, ⟨xs, e⟩ | ⟨xs, e⟩ | ⟨kvs, e⟩⟩
  · exact ⟨"NoneType", .base .non, kit_ty (by decide +kernel)⟩
  · exact ⟨"int", .base (.int i), kit_ty (by decide +kernel)⟩
  · exact ⟨"bool", .base (.bl b), kit_ty (by decide +kernel)⟩
  · exact ⟨"list", .base (.lst e), kit_ty (by decide +kernel)⟩
  · exact ⟨"tuple", .base (.tup e), kit_ty (by decide +kernel)⟩
  · exact ⟨"dict", .base (.dK e), kit_ty (by decide +kernel)⟩
/-- a text of plain signs and tabs, or data that is no text -/
def OddOk (d w : Addr) (H : Hp) (x : V) : Prop := (∃ z : Str, x = .str z ∧ z.length ≤ 2000 ∧ ∀ c ∈ tl z, okc c = true ∨ c = 9) ∨ NotD d w H x
theorem OddOk.but {d w : Addr} {H H' : Hp} {x : V} (b : But3 d w H H') (h : OddOk d w H x) : OddOk d w H' x := h.elim .inl fun h => .inr (h.but b)
/-- a def whose code object stands at c -/
theorem Fun.okC {P : Program} {w : World} {K : PySem.W.Frag} {mg : Str → Option Value} {base : Heap} {x qual : Str} {st : Stmt} {f c : Addr} {fd : FuncData} {N ps : List Str} {k : Nat} {sp : Sp} (F : Fun K x qual st f fd) (hc : fd.code = .ref c) (S : FnScope N ps (defScope st)) (len : ∀ vs H Q E, sp vs H Q E → vs.length = ps.length)
    (body : ∀ (A : Around) (outer : List Env) (s : Shared) (H : Hp) (vs : List V) (Q : VK) (E : XK), Room k (A.deeper (envOfC qual (defScope st) s.heap.objs.size f (.ref c))) → sp vs H Q E →
      ∃ t, PSs (cxOf CX0 P w K mg base N qual (defScope st) f (.ref c) A outer s H E).nox (defBody st) t ∧ t { nx := fun _ H' => Q .non H', rt := Q } (start N vs) H) : FnOk P w K mg base CX0 (k + 1) f fd ps sp := by
  obtain ⟨oc, od, kV, doc, pm, an, cdv, ct, osl, rfl, lk, hcd⟩ := F.ex
  have ec : cdv = .ref c := hc
  subst ec
  exact fn_of lk hcd S len fun A outer s H vs Q E hr hsp => by
    obtain ⟨t, h, q⟩ := body A outer s H vs Q E hr hsp
    exact ⟨t, h.nox, q⟩
abbrev sRef : Stmt := topS 34
abbrev nRef : List Str := ["draw", "words", "some", "odd", "error", "is_word", "word", "line", "column"]
theorem scRef : FnScope nRef ["draw", "words"] (defScope sRef) := ⟨rfl, rfl, rfl, by decide +kernel, rfl, by decide +kernel, by decide +kernel⟩
def qL : Str := (envOfC "_law_refused_right" (defScope sRef) 0 0 .none).qual ++ "<lambda>"
def spRef (Pt : Addr) : Sp := fun vs H Q _ => ∃ (d w c pw : Addr) (n : Nat) (ts : List Addr) (l : List (L × Int × Int)), vs = [.ref d, .ref pw] ∧ DrawAt H d w c n ∧ n < 2 ^ 30 ∧ H pw = some (.lst (ts.map V.ref)) ∧ Toks H ts l ∧ pw ≠ d ∧ pw ≠ w ∧
  (∀ x ∈ l, x.1.length ≤ 1000 ∧ ∀ ch ∈ x.1, okc ch = true) ∧ l.length ≤ 1000 ∧ LamX.Tabs [(Pt, qL)] H ∧ ∀ (H' : Hp) (n' : Nat), DrawAt H' d w c n' → n' ≤ n + 2000 → But3 d w H H' → LamX.Tabs [(Pt, qL)] H' → Q (.bl true) H'
end SA
set_option Elab.async false
set_option linter.all false
set_option maxRecDepth 100000
set_option maxHeartbeats 4000000
namespace SA
open PySem PySem.Spec PyProof.Rows L2 K1
/-- what stands at every moment: the draw, all else as it was but tables; x is a drawn thing -/
structure Go (d w c Pt : Addr) (H0 H' : Hp) (x : V) (n : Nat) : Prop where
  draw : DrawAt H' d w c n
  but : But3 d w H0 H'
  tabs : LamX.Tabs [(Pt, qL)] H'
  odd : OddOk d w H' x
theorem Go.same {d w c Pt : Addr} {H0 H' H'' : Hp} {x : V} {n : Nat} (g : Go d w c Pt H0 H' x n) (s : Same H' H'') : Go d w c Pt H0 H'' x n := ⟨g.draw.same s, g.but.trans (But3.ofS s), tabs_same g.tabs s, g.odd.but (But3.ofS s)⟩
theorem Go.ext {d w c Pt : Addr} {H0 H' H'' : Hp} {x : V} {n : Nat} (g : Go d w c Pt H0 H' x n) (e : LamX.ExtN H' H'') (t : LamX.Tabs [(Pt, qL)] H'') : Go d w c Pt H0 H'' x n := ⟨g.draw.ext e, g.but.trans (But3.ofE e), t, g.odd.but (But3.ofE e)⟩
theorem Go.pick {d w c Pt : Addr} {H0 H' H'' : Hp} {x : V} {n m : Nat} (g : Go d w c Pt H0 H' x n) (D : DrawAt H'' d w c m) (b : But2 d w H' H'') : Go d w c Pt H0 H'' x m := ⟨D, g.but.trans (But3.of2 b), tabs_but g.tabs g.draw b, g.odd.but (But3.of2 b)⟩
/-- _law_caught(lambda: ..) -/
theorem pe_caught {X : Cx} {fC cc Pt SE : Addr} {fdC : FuncData} {k : Nat} {params : Arguments} {body : Expr} {scope : Scope} {t : XK → TE} {p lpos pos : Pos} (FC : Fun X.K "_law_caught" "_law_caught" sCaught fC fdC) (gC : X.mg "_law_caught" = some (.ref fC)) (gSE : X.mg "StopError" = some (.ref SE))
    (bC : Binds X.K fdC ["work"] []) (TB : LamX.TabB X.base X.mg cc Pt) (hg : Gl X "_law_caught") (hcode : X.env.code = .ref cc) (hq : X.env.qual ++ "<lambda>" = qL) (hr : Room (k + 2) X.A) (sc : Scope) (hsc : X.env.scope = sc) (L : LamX.lamSB sc scope = true) (hdef : defaultsOf params X.env = ([], []))
    (hbind : ∀ (q : Str) (cl : List (Str × Addr)) (pm cv ctv : Value), bindArgs (PySem.W.kla_fn "<lambda>" q params body scope cl pm cv ctv) ⟨[], []⟩ = pure [])
    (hbody : ∀ (A : Around) (outer : List Env) (s : Shared) (H : Hp) (E : XK) (f c' : Addr), Room k (A.deeper (LamX.lamEnv X scope s.heap.objs.size f c')) → PE (LamX.lamCx X A outer s H E scope f c') body (t E)) :
    PE X (.Call (.Name "_law_caught" p) [.Lambda params body scope lpos] [] pos) (LamX.tLam [(Pt, qL)] (TTc X.K SE) t) := by
  obtain ⟨oc, od, kV, doc, pm, an, cdv, ct, osl, rfl, lkC, hcdC⟩ := FC.ex
  exact LamX.pe_lamcall (T := [(Pt, qL)]) hg gC FC.kp lkC hcdC bC scCaught rfl (.inl rfl) (caught_gives gSE) TB hcode (by rw [hq]; exact List.mem_singleton.mpr rfl) (fun p hp _ => by rw [List.mem_singleton.mp hp, hq]) hr (LamX.lamS_by (by rw [hsc]; exact L)) hdef hbind hbody
end SA
set_option Elab.async false
set_option linter.all false
set_option maxRecDepth 100000
set_option maxHeartbeats 4000000
namespace SA
open PySem PySem.Spec PyProof.Rows L2 K1
/-- what is known of the three classes of errors -/
structure ErrT (K : PySem.W.Frag) (mg : Str → Option Value) (BT BW SE fI : Addr) : Prop where
  gBT : mg "BadText" = some (.ref BT)
  gBW : mg "BadWord" = some (.ref BW)
  gSE : mg "StopError" = some (.ref SE)
  xBT : ExcC K BT
  xBW : ExcC K BW
  fBT : XfC K BT
  own : Own24 K BT fI ["line", "column", "wanted"]
  eBT : PySem.W.exmOne K (.ref BT) (.ref SE) = some true
  eBW : PySem.W.exmOne K (.ref BW) (.ref SE) = some true
  kTT : PySem.W.kitOne K (.ref BT) (.ref BT) = some true
  kTV : PySem.W.kitOne K (.ref BT) (.type "ValueError") = some true
  kWW : PySem.W.kitOne K (.ref BW) (.ref BW) = some true
def some15 : List Str := ["", " ", "a b", "a-b", " a", "a ", "<= ", "a(", "()", "-", "- 1", "1-", "a\tb", "===", "<=="]
def more4 : List Str := ["(", " ", "\n", "+1"]
theorem some15_ok : ∀ z ∈ some15, z.length ≤ 2000 ∧ ∀ c ∈ tl z, okc c = true ∨ c = 9 := by decide +kernel
theorem more4_ok : ∀ z ∈ more4, z.length ≤ 2 ∧ ∀ c ∈ tl z, okc c = true := by decide +kernel
def isw : V → Bool
  | .str z => isWord z
  | _ => false
/-- the state between two statements -/
def RS (d w c pw Pt : Addr) (H0 : Hp) (n0 m : Nat) (e y : Option V) (x : V) (σ : L2.St) (H' : Hp) : Prop := ∃ (sv : V) (n1 : Nat), σ = [some (.ref d), some (.ref pw), some sv, some x, e, y, none, none, none] ∧ DrawAt H' d w c n1 ∧ n1 ≤ n0 + m ∧ But3 d w H0 H' ∧ LamX.Tabs [(Pt, qL)] H' ∧ OddOk d w H' x
section
variable {P : Program} {w0 : World} {K : PySem.W.Frag} {mg : Str → Option Value} {base : Heap} {kA sA BT BW SE fI : Addr}
theorem ok_ref {f cc Pt fP fC fW fS fX : Addr} {fd fdP fdC fdW fdS fdX : FuncData} (F : Fun K "_law_refused_right" "_law_refused_right" sRef f fd) (hc : fd.code = .ref cc) (TB : LamX.TabB base mg cc Pt) (ET : ErrT K mg BT BW SE fI)
    (FP : Fun K "_law_pick" "_law_pick" sPick fP fdP) (bP : Binds K fdP ["draw", "some"] []) (gP : mg "_law_pick" = some (.ref fP)) (GP : FnOk P w0 K mg base CX0 3 fP fdP ["draw", "some"] (spPick K))
    (FC : Fun K "_law_caught" "_law_caught" sCaught fC fdC) (bC : Binds K fdC ["work"] []) (gC : mg "_law_caught" = some (.ref fC))
    (FW : Fun K "words_of" "words_of" sWordsOf fW fdW) (bW : Binds K fdW ["text"] []) (kW : KBinds K fdW ["text"] ["text"] cat1 cat1) (gW : mg "words_of" = some (.ref fW)) (GW : FnOk P w0 K mg base (L2.CX P w0) 4 fW fdW ["text"] (spScan K BT))
    (FS : Fun K "sort_of" "sort_of" sSortOf fS fdS) (bS : Binds K fdS ["word"] []) (gS : mg "sort_of" = some (.ref fS)) (GS : FnOk P w0 K mg base (L2.CX P w0) 3 fS fdS ["word"] (spSortOf K BW))
    (FX : Fun K "_law_cut" "_law_cut" sCut fX fdX) (bX : Binds K fdX ["text"] []) (gX : mg "_law_cut" = some (.ref fX)) (GX : FnOk P w0 K mg base CX0 3 fX fdX ["text"] spCut)
    (gi : mg "isinstance" = none) (gs : mg "str" = none) (gv : mg "ValueError" = none) : FnOk P w0 K mg base CX0 7 f fd ["draw", "words"] (spRef Pt) := by
  refine Fun.okC F hc scRef (fun vs H Q E h => ?_) (fun A outer s H vs Q E hr h => ?_)
  · obtain ⟨d, w, c, pw, n, ts, l, rfl, _⟩ := h
    rfl
  · obtain ⟨d, w, c, pw, n, ts, l, rfl, hD, hn, hpw, hts, npd, npw, hl, hll, hT, k⟩ := h
    have hr3 : Room 3 (A.deeper (envOfC "_law_refused_right" (defScope sRef) s.heap.objs.size f (.ref cc))) := hr.mono (by decide)
    have memT : (Pt, qL) ∈ [(Pt, qL)] := List.mem_singleton.mpr rfl
    have onlyT : ∀ p ∈ [(Pt, qL)], p.1 = Pt → p.2 = qL := fun p hp _ => by rw [List.mem_singleton.mp hp]
    refine ⟨_, Evl.pss_cut (ps_set (i := 2) scRef.nd rfl (.inl rfl) (pe_lst (pa_cons pe_str (pa_cons pe_str (pa_cons pe_str (pa_cons pe_str (pa_cons pe_str (pa_cons pe_str (pa_cons pe_str (pa_cons pe_str (pa_cons pe_str (pa_cons pe_str (pa_cons pe_str (pa_cons pe_str (pa_cons pe_str (pa_cons pe_str (pa_cons pe_str pa_nil)))))))))))))))))
      (Evl.pss_cut (ps_set (i := 3) scRef.nd rfl (.inr rfl) (pe_call GP hr3 (by rfl) gP FP.kp bP .nil pass0 (pa_cons (pv 0) (pa_cons
          (pe_op op_cat (pe_op op_cat (pv 2) (pe_lst (pa_cons pe_non (pa_cons pe_int (pa_cons pe_bl (pa_cons (pe_lst (pa_cons pe_str pa_nil)) (pa_cons (pe_tup (pa_cons pe_str pa_nil)) (pa_cons pe_dnewK pa_nil))))))))
            (pe_lc (own := [("word", 6), ("line", 7), ("column", 8)]) (g := gTup K 3 (gCons (gName 6) (gCons (gName 7) (gCons (gName 8) gNil)))) (tt := tYes)
              (te := tOp (fun x y H Q => ∃ i j, x = .str i ∧ y = .str j ∧ i.length + j.length ≤ sizeLine ∧ Q (.str (i ++ j)) H) (tVar 6) (tCall (spPick K) [] E0 (tCons (tVar 0) (tCons (tLst (tCons (tC (.str "(")) (tCons (tC (.str " ")) (tCons (tC (.str "\n")) (tCons (tC (.str "+1")) tNil))))) tNil)))) (by rfl) scRef.nd (pi_list (pv 1))
              (blkOk_by (N := nRef) (sc := defScope sRef) (by decide +kernel)) (fun _ _ _ _ _ => pg_tup rfl (pgs_cons (pg_name (i := 6) scRef.nd rfl (Or.inl rfl)) (pgs_cons (pg_name (i := 7) scRef.nd rfl (Or.inl rfl)) (pgs_cons (pg_name (i := 8) scRef.nd rfl (Or.inl rfl)) pgs_nil)))) (fun _ _ _ _ _ => pts_nil)
              (fun _ _ _ _ _ => pe_op op_add_str (pv 6) (pe_call GP hr3 (by rfl) gP FP.kp bP .nil pass0 (pa_cons (pv 0) (pa_cons (pe_lst (pa_cons pe_str (pa_cons pe_str (pa_cons pe_str (pa_cons pe_str pa_nil))))) pa_nil)))))) pa_nil))))
      (Evl.pss_cut (ps_if (pt_not (pt_val (pe_callB call_isH (by rfl) gi boot_isinstance (pa_cons
          (pe_caught (Pt := Pt) (k := 4) (t := fun E => tCall (spScan K BT) [] E (tCons (tCall (spPick K) [] E0 (tCons (tVar 0) (tCons (tLst (tCons (tC .non) (tCons (tC (.int 5)) (tCons (tC (.bl true)) (tCons (tLst (tCons (tC (.str "a")) tNil)) (tCons (tC (.str "a\tb")) (tCons (tC (.str "\t")) (tCons (tTup (tCons (tC (.str "unit")) tNil)) (tCons tDNewK tNil))))))))) tNil))) tNil)) FC gC ET.gSE bC TB (by rfl) rfl (by rfl) hr (defScope sRef) rfl (by decide +kernel) rfl (fun _ _ _ _ _ => rfl)
            (fun A' outer' s' H' E' f' c' hr' => pe_call GW hr' (by rfl) gW FW.kp bW .nil (passes_call (takes_of rfl rfl rfl rfl) fun _ _ _ _ h => h) (pa_cons (pe_call GP (hr'.mono (by decide)) (by rfl) gP FP.kp bP .nil pass0 (pa_cons (pv 0) (pa_cons (pe_lst (pa_cons pe_non (pa_cons pe_int (pa_cons pe_bl (pa_cons (pe_lst (pa_cons pe_str pa_nil)) (pa_cons pe_str (pa_cons pe_str (pa_cons (pe_tup (pa_cons pe_str pa_nil)) (pa_cons pe_dnewK pa_nil))))))))) pa_nil))) pa_nil)))
          (pa_cons (pe_glob (v := .ref BT) (by rfl) ET.gBT rfl) pa_nil))))) (pss_one (ps_ret pe_bl)) pss_nil)
      (Evl.pss_cut (ps_set (i := 4) scRef.nd rfl (.inl rfl) (pe_caught (Pt := Pt) (k := 4) (t := fun E => tCallK (spScan K BT) cat1 E tNil (tCons (tC .non) tNil)) FC gC ET.gSE bC TB (by rfl) rfl (by rfl) hr (defScope sRef) rfl (by decide +kernel) rfl (fun _ _ _ _ _ => rfl)
            (fun A' outer' s' H' E' f' c' hr' => pe_kw0 GW hr' (by rfl) gW FW.kp kW (passes_call (takes_of rfl rfl rfl rfl) fun _ _ _ _ h => h) (pk_cons pe_non pk_nil))))
      (Evl.pss_cut (ps_if (PW.pt (pw_or (pt_cmpR (op_neD hr.units) (pe_lst (pa_cons (pe_hfld (pv 4)) (pa_cons (pe_hfld (pv 4)) (pa_cons (pe_hfld (pv 4)) pa_nil)))) (pe_lst (pa_cons pe_non (pa_cons pe_non (pa_cons pe_non pa_nil)))) (nomark _))
          (pw_or1 (pt_not (pt_val (pe_callB call_isH (by rfl) gi boot_isinstance (pa_cons (pv 4) (pa_cons (pe_bltn (v := .ty "ValueError") (by rfl) gv (by decide +kernel) rfl) pa_nil)))))))) (pss_one (ps_ret pe_bl)) pss_nil)
      (Evl.pss_cut (ps_set (i := 5) scRef.nd rfl (.inl rfl) (pe_and (pe_callB call_isi (by rfl) gi boot_isinstance (pa_cons (pv 3) (pa_cons (pe_bltn (v := .ty "str") (by rfl) gs (by decide +kernel) rfl) pa_nil)))
          (pe_and (pe_cmpR op_notIn_sign pe_str (pv 3) rfl) (pe_one (pe_cmpR (op_eqD hr.units) (pe_call GX hr3 (by rfl) gX FX.kp bX .nil pass0 (pa_cons (pv 3) pa_nil)) (pe_lst (pa_cons (pe_tup (pa_cons (pv 3) (pa_cons pe_int (pa_cons pe_int pa_nil)))) pa_nil)) (nomark _))))))
      (Evl.pss_cut (ps_set (i := 4) scRef.nd rfl (.inl rfl) (pe_caught (Pt := Pt) (k := 3) (t := fun E => tCall (spSortOf K BW) [] E (tCons (tVar 3) tNil)) FC gC ET.gSE bC TB (by rfl) rfl (by rfl) (hr.mono (by decide)) (defScope sRef) rfl (by decide +kernel) rfl (fun _ _ _ _ _ => rfl)
            (fun A' outer' s' H' E' f' c' hr' => pe_call GS hr' (by rfl) gS FS.kp bS .nil (passes_call (takes_of rfl rfl rfl rfl) fun _ _ _ _ h => h) (pa_cons (pv 3) pa_nil))))
      (pss_one (ps_ret (pe_ifExp (pt_val (pv 5)) (pe_cmpR op_isN (pv 4) pe_non (nomark _)) (pe_callB call_isH (by rfl) gi boot_isinstance (pa_cons (pv 4) (pa_cons (pe_glob (v := .ref BW) (by rfl) ET.gBW rfl) pa_nil)))))))))))), ?_⟩
    have hd0 : ∃ r t : Int, H d = some (.dK (dkv w c r t)) := by
      obtain ⟨⟨r, t, _, _, e⟩, _⟩ := hD
      exact ⟨r, t, e⟩
    refine ⟨fun σ H' => ∃ ps, σ = [some (.ref d), some (.ref pw), some (.ref ps), none, none, none, none, none, none] ∧ H' ps = some (.lst (some15.map V.str)) ∧ Same H H' ∧ H ps = none, ?_, ?_⟩
    · exact ⟨by show 15 ≤ sizeLine; decide, fun p hp => ⟨p, rfl, upd_same, Same.new hp, hp⟩⟩
    rintro σ H1 ⟨ps, rfl, eps, s1, nps⟩
    have D1 := hD.same s1
    have T1 := tabs_same hT s1
    have kps := hD.knowD nps
    refine ⟨fun σ H' => ∃ x, RS d w c pw Pt H n 1001 none none x σ H', ?_, ?_⟩
    · have k1s : ∀ {p : Addr}, H1 p = none → p ≠ d ∧ p ≠ w := fun h => D1.knowD h
      refine ⟨_, rfl, _, rfl, by show 1 ≤ sizeLine; decide, fun p1 hp1 => ⟨by show 1 ≤ sizeLine; decide, fun p2 hp2 => ?_⟩⟩
      intro p3 hp3
      refine ⟨by show 6 ≤ sizeLine; decide, fun p4 hp4 => ?_⟩
      have sa : Same H1 (upd H1 p1 (.lst [V.str "a"])) := Same.new hp1
      have sb : Same (upd H1 p1 (.lst [V.str "a"])) (upd (upd H1 p1 (.lst [V.str "a"])) p2 (.tup [V.str "a"])) := Same.new hp2
      have sc : Same (upd (upd H1 p1 (.lst [V.str "a"])) p2 (.tup [V.str "a"])) (upd (upd (upd H1 p1 (.lst [V.str "a"])) p2 (.tup [V.str "a"])) p3 (.dK [])) := Same.new hp3
      have sd : Same (upd (upd (upd H1 p1 (.lst [V.str "a"])) p2 (.tup [V.str "a"])) p3 (.dK [])) (upd (upd (upd (upd H1 p1 (.lst [V.str "a"])) p2 (.tup [V.str "a"])) p3 (.dK [])) p4 (.lst [V.non, V.int 5, V.bl true, V.ref p1, V.ref p2, V.ref p3])) := Same.new hp4
      have f1 := k1s hp1
      have f2 := k1s (sa.free hp2)
      have f3 := k1s ((sa.trans sb).free hp3)
      have x1 := (sb.trans (sc.trans sd)) _ _ (upd_same (H := H1) (a := p1) (o := .lst [V.str "a"]))
      have x2 := (sc.trans sd) _ _ (upd_same (H := upd H1 p1 (.lst [V.str "a"])) (a := p2) (o := .tup [V.str "a"]))
      have x3 := sd _ _ (upd_same (H := upd (upd H1 p1 (.lst [V.str "a"])) p2 (.tup [V.str "a"])) (a := p3) (o := .dK []))
      have x4 : (upd (upd (upd (upd H1 p1 (.lst [V.str "a"])) p2 (.tup [V.str "a"])) p3 (.dK [])) p4 (.lst [V.non, V.int 5, V.bl true, V.ref p1, V.ref p2, V.ref p3])) p4 = some (.lst [V.non, V.int 5, V.bl true, V.ref p1, V.ref p2, V.ref p3]) := upd_same
      have s1d : Same H1 (upd (upd (upd (upd H1 p1 (.lst [V.str "a"])) p2 (.tup [V.str "a"])) p3 (.dK [])) p4 (.lst [V.non, V.int 5, V.bl true, V.ref p1, V.ref p2, V.ref p3])) := sa.trans (sb.trans (sc.trans sd))
      clear sa sb sc sd hp1 hp2 hp3 hp4
      generalize (upd (upd (upd (upd H1 p1 (.lst [V.str "a"])) p2 (.tup [V.str "a"])) p3 (.dK [])) p4 (.lst [V.non, V.int 5, V.bl true, V.ref p1, V.ref p2, V.ref p3])) = H2 at *
      refine ⟨ps, p4, some15.map V.str, [V.non, V.int 5, V.bl true, V.ref p1, V.ref p2, V.ref p3], rfl, rfl, s1d _ _ eps, x4, by show 15 + 6 ≤ sizeLine; decide, fun p5 hp5 => ?_⟩
      have s5 : Same H2 (upd H2 p5 (.lst (some15.map V.str ++ [V.non, V.int 5, V.bl true, V.ref p1, V.ref p2, V.ref p3]))) := Same.new hp5
      have x5 : (upd H2 p5 (.lst (some15.map V.str ++ [V.non, V.int 5, V.bl true, V.ref p1, V.ref p2, V.ref p3]))) p5 = some (.lst (some15.map V.str ++ [V.non, V.int 5, V.bl true, V.ref p1, V.ref p2, V.ref p3])) := upd_same
      have x1 := s5 _ _ x1
      have x2 := s5 _ _ x2
      have x3 := s5 _ _ x3
      have s15 := s1d.trans s5
      clear s5 s1d x4 hp5
      generalize (upd H2 p5 (.lst (some15.map V.str ++ [V.non, V.int 5, V.bl true, V.ref p1, V.ref p2, V.ref p3]))) = H3 at *
      have s3 := s1.trans s15
      have D3 := hD.same s3
      have t3 := hts.same s3
      refine ⟨_, rfl, pw, rfl, ⟨_, SqL.of (s3 _ _ hpw)⟩, fun dd hdd => ?_⟩
      have kdd := D3.knowD hdd
      refine lc_list (K := K) (a := pw) (xs := ts.map V.ref) (fun i H' => ∃ zs : List Str, H' dd = some (.lst (zs.map V.str)) ∧ zs.length = i ∧ (∀ z ∈ zs, z.length ≤ 2000 ∧ ∀ c ∈ tl z, okc c = true ∨ c = 9) ∧ DrawAt H' d w c (n + i) ∧ But2 d w H3 H')
        ⟨[], upd_same, rfl, (by simp), D3.new hdd, (But2.refl d w H3).new hdd⟩ (fun i H' _ ⟨zs, _, _, _, _, b⟩ => b.seq npd npw (SqL.of (s3 _ _ hpw))) ?_ ?_
      · rintro i y H' hy ⟨zs, ez, lz, oz, Dz, bz⟩
        obtain ⟨t, ht, rfl⟩ : ∃ t, ts[i]? = some t ∧ y = .ref t := by
          rw [List.getElem?_map] at hy
          cases e : ts[i]? with
          | none =>
            rw [e] at hy
            cases hy
          | some t =>
            rw [e] at hy
            exact ⟨t, rfl, (Option.some.inj hy).symm⟩
        obtain ⟨tk, htk, e1⟩ := pget t3 ht
        have e1 : H3 t = some (.tup [.str (mk tk.1), .int tk.2.1, .int tk.2.2]) := e1
        have ntd : t ≠ d ∧ t ≠ w := by
          obtain ⟨⟨r, t', _, _, ed⟩, ⟨ws, ew⟩, _, _⟩ := D3
          exact ⟨ne_of e1 ed (fun z => nomatch z), ne_of e1 ew (fun z => nomatch z)⟩
        have e2 := bz _ _ e1 ntd.1 ntd.2
        have hil : i < l.length := (List.getElem?_eq_some_iff.mp htk).1
        obtain ⟨lw, ow⟩ := hl tk (List.mem_of_getElem? htk)
        refine ⟨t, _, rfl, SqT.of e2, rfl, _, _, rfl, _, _, rfl, _, _, rfl, rfl, rfl, yes ?_⟩
        refine ⟨_, rfl, _, rfl, by show 4 ≤ sizeLine; decide, fun q hq => ?_⟩
        have kq := Dz.knowD hq
        refine ⟨d, w, c, q, n + i, more4.map V.str, rfl, Dz.new hq, (by omega), kq.1, kq.2, SqL.of upd_same, by decide, by decide, fun y2 H'' hy2 D'' b'' => ?_⟩
        obtain ⟨m, hm, rfl⟩ := List.mem_map.mp hy2
        obtain ⟨lm, om⟩ := more4_ok m hm
        have ezq : (upd H' q (.lst (more4.map V.str))) dd = some (.lst (zs.map V.str)) := by
          rw [upd_ne (ne_of_none ez hq)]
          exact ez
        have ez2 := b'' _ _ ezq kdd.1 kdd.2
        refine ⟨_, _, rfl, rfl, ?_, zs.map V.str, ez2, ?_, zs ++ [mk tk.1 ++ m], ?_, ?_, ?_, ?_, ?_⟩
        · rw [len_mk]
          exact Nat.le_trans (by omega : tk.1.length + m.length ≤ 1002) (by decide)
        · rw [List.length_map, lz]
          exact Nat.lt_of_le_of_lt (by omega : i ≤ 1000) (by decide)
        · rw [upd_same, List.map_append]
          rfl
        · rw [List.length_append, List.length_singleton, lz]
        · intro z hz
          rcases List.mem_append.mp hz with hz | hz
          · exact oz z hz
          · rw [List.mem_singleton.mp hz]
            refine ⟨?_, fun ch hch => ?_⟩
            · show (mk tk.1 ++ m).cps.size ≤ 2000
              have e : (mk tk.1 ++ m).cps = (mk tk.1).cps ++ m.cps := rfl
              rw [e, Array.size_append]
              have e3 : (mk tk.1).cps.size = tk.1.length := len_mk tk.1
              have e4 : m.cps.size = m.length := rfl
              omega
            · have e : tl (mk tk.1 ++ m) = tk.1 ++ tl m := by
                have e : (mk tk.1 ++ m).cps = (mk tk.1).cps ++ m.cps := rfl
                show (mk tk.1 ++ m).cps.toList = _
                rw [e, Array.toList_append, ← tl_mk tk.1]
                simp [mk]
              rw [e] at hch
              rcases List.mem_append.mp hch with hch | hch
              · exact .inl (ow ch hch)
              · exact .inl (om ch hch)
        · obtain ⟨⟨r, t', a1, a2, ed⟩, ⟨ws, ew⟩, ⟨cs, ec⟩, ne⟩ := D''
          refine ⟨⟨r, t', a1, by omega, by rw [upd_ne kdd.1.symm]; exact ed⟩, ⟨ws, by rw [upd_ne kdd.2.symm]; exact ew⟩, ⟨cs, ?_⟩, ne⟩
          rw [upd_ne (fun z => by
            obtain ⟨_, _, ⟨cs3, ec3⟩, _⟩ := D3
            rw [z, hdd] at ec3
            cases ec3)]
          exact ec
        · intro b o e h1 h2
          have nb : b ≠ dd := ne_of_none e hdd
          rw [upd_ne nb]
          have z := bz b o e h1 h2
          exact b'' b o (by rw [upd_ne (ne_of_none z hq)]; exact z) h1 h2
      · rintro H4 ⟨zs, ez, lz, oz, Dz, bz⟩
        rw [List.length_map] at lz Dz
        have ltl : ts.length = l.length := Paired.length hts
        have x5' : H4 p5 = some (.lst (some15.map V.str ++ [V.non, V.int 5, V.bl true, V.ref p1, V.ref p2, V.ref p3])) := by
          have k5 : p5 ≠ d ∧ p5 ≠ w := by
            obtain ⟨⟨r, t', _, _, ed⟩, ⟨ws, ew⟩, _, _⟩ := hD
            refine ⟨ne_of x5 (s3 _ _ ed) (fun z => nomatch z), fun z => ?_⟩
            have q := s3 _ _ ew
            rw [← z, x5] at q
            cases ws with
            | nil => cases q
            | cons a ws => cases q
          exact bz _ _ x5 k5.1 k5.2
        refine ⟨p5, dd, _, _, rfl, rfl, x5', ez, ?_, fun p6 hp6 => ?_⟩
        · rw [List.length_map, List.length_append, List.length_map]
          show 15 + 6 + zs.length ≤ sizeLine
          exact Nat.le_trans (by omega : 15 + 6 + zs.length ≤ 1021) (by decide)
        have k6 := Dz.knowD hp6
        refine ⟨d, w, c, p6, _, some15.map V.str ++ [V.non, V.int 5, V.bl true, V.ref p1, V.ref p2, V.ref p3] ++ zs.map V.str, rfl, Dz.new hp6, (by omega), k6.1, k6.2, SqL.of upd_same, by simp, ?_, fun x H'' hx D'' b'' => ?_⟩
        · rw [List.length_append, List.length_append, List.length_map, List.length_map]
          show 15 + 6 + zs.length < 2 ^ 29
          have : (1021 : Nat) < 2 ^ 29 := by decide
          omega
        have b3 : But3 d w H3 H'' := (But3.of2 bz).trans ((But3.ofS (Same.new hp6)).trans (But3.of2 b''))
        refine ⟨x, .ref ps, _, rfl, D'', by omega, (But3.ofS s3).trans b3, ?_, ?_⟩
        · have t1 := tabs_same hT s3
          have t2 := tabs_but t1 D3 bz
          have t4 := tabs_same t2 (Same.new (o := HO.lst (some15.map V.str ++ [V.non, V.int 5, V.bl true, V.ref p1, V.ref p2, V.ref p3] ++ zs.map V.str)) hp6)
          exact tabs_but t4 (Dz.new hp6) b''
        · rcases List.mem_append.mp hx with hx | hx
          · rcases List.mem_append.mp hx with hx | hx
            · obtain ⟨z, hz, rfl⟩ := List.mem_map.mp hx
              exact .inl ⟨z, rfl, some15_ok z hz⟩
            · right
              simp only [List.mem_cons, List.not_mem_nil, or_false] at hx
              rcases hx with rfl | rfl | rfl | rfl | rfl | rfl
              · exact .inl rfl
              · exact .inr (.inl ⟨5, rfl⟩)
              · exact .inr (.inr (.inl ⟨true, rfl⟩))
              · exact .inr (.inr (.inr ⟨p1, rfl, f1.1, f1.2, .inl ⟨_, b3 _ _ x1 f1.1 f1.2 (fun ps z => nomatch z)⟩⟩))
              · exact .inr (.inr (.inr ⟨p2, rfl, f2.1, f2.2, .inr (.inl ⟨_, b3 _ _ x2 f2.1 f2.2 (fun ps z => nomatch z)⟩)⟩))
              · exact .inr (.inr (.inr ⟨p3, rfl, f3.1, f3.2, .inr (.inr ⟨_, b3 _ _ x3 f3.1 f3.2 (fun ps z => nomatch z)⟩)⟩))
          · obtain ⟨z, hz, rfl⟩ := List.mem_map.mp hx
            exact .inl ⟨z, rfl, oz z hz⟩
    rintro σ H2 ⟨x, sv, n2, rfl, D2, h2, b2, T2, ox⟩
    refine ⟨fun σ H' => ∃ x, RS d w c pw Pt H n 1002 none none x σ H', ?_, ?_⟩
    · refine ⟨T2, fun H3 x3 T3 => ?_⟩
      have g3 : Go d w c Pt H H3 x n2 := (Go.mk D2 b2 T2 ox).ext x3 T3
      refine ⟨_, rfl, by show 1 ≤ sizeLine; decide, fun p1 hp1 => ⟨by show 1 ≤ sizeLine; decide, fun p2 hp2 => ?_⟩⟩
      intro p3 hp3
      refine ⟨by show 8 ≤ sizeLine; decide, fun p4 hp4 => ?_⟩
      have sa : Same H3 (upd H3 p1 (.lst [V.str "a"])) := Same.new hp1
      have sb : Same (upd H3 p1 (.lst [V.str "a"])) (upd (upd H3 p1 (.lst [V.str "a"])) p2 (.tup [V.str "unit"])) := Same.new hp2
      have sc : Same (upd (upd H3 p1 (.lst [V.str "a"])) p2 (.tup [V.str "unit"])) (upd (upd (upd H3 p1 (.lst [V.str "a"])) p2 (.tup [V.str "unit"])) p3 (.dK [])) := Same.new hp3
      have sd : Same (upd (upd (upd H3 p1 (.lst [V.str "a"])) p2 (.tup [V.str "unit"])) p3 (.dK [])) (upd (upd (upd (upd H3 p1 (.lst [V.str "a"])) p2 (.tup [V.str "unit"])) p3 (.dK [])) p4 (.lst [V.non, V.int 5, V.bl true, V.ref p1, V.str "a	b", V.str "	", V.ref p2, V.ref p3])) := Same.new hp4
      have f1 := g3.draw.knowD hp1
      have f2 := g3.draw.knowD (sa.free hp2)
      have f3 := g3.draw.knowD ((sa.trans sb).free hp3)
      have f4 := g3.draw.knowD ((sa.trans (sb.trans sc)).free hp4)
      have y1 := (sb.trans (sc.trans sd)) _ _ (upd_same (H := H3) (a := p1) (o := .lst [V.str "a"]))
      have y2 := (sc.trans sd) _ _ (upd_same (H := upd H3 p1 (.lst [V.str "a"])) (a := p2) (o := .tup [V.str "unit"]))
      have y3 := sd _ _ (upd_same (H := upd (upd H3 p1 (.lst [V.str "a"])) p2 (.tup [V.str "unit"])) (a := p3) (o := .dK []))
      have y4 : (upd (upd (upd (upd H3 p1 (.lst [V.str "a"])) p2 (.tup [V.str "unit"])) p3 (.dK [])) p4 (.lst [V.non, V.int 5, V.bl true, V.ref p1, V.str "a	b", V.str "	", V.ref p2, V.ref p3])) p4 = some (.lst [V.non, V.int 5, V.bl true, V.ref p1, V.str "a	b", V.str "	", V.ref p2, V.ref p3]) := upd_same
      have g4 := g3.same (sa.trans (sb.trans (sc.trans sd)))
      clear sa sb sc sd hp1 hp2 hp3 hp4
      generalize (upd (upd (upd (upd H3 p1 (.lst [V.str "a"])) p2 (.tup [V.str "unit"])) p3 (.dK [])) p4 (.lst [V.non, V.int 5, V.bl true, V.ref p1, V.str "a	b", V.str "	", V.ref p2, V.ref p3])) = H4 at *
      refine ⟨d, w, c, p4, n2, _, rfl, g4.draw, by omega, f4.1, f4.2, SqL.of y4, by simp, by show 8 < 2 ^ 29; decide, fun y H5 hy D5 b5 => ?_⟩
      have g5 := g4.pick D5 b5
      have z1 := b5 _ _ y1 f1.1 f1.2
      have z2 := b5 _ _ y2 f2.1 f2.2
      have z3 := b5 _ _ y3 f3.1 f3.2
      have e0 : isText "a	b" = false ∧ isText "	" = false := by decide +kernel
      simp only [List.mem_cons, List.not_mem_nil, or_false] at hy
      rcases hy with rfl | rfl | rfl | rfl | rfl | rfl | rfl | rfl
      case' inl => refine ⟨_, rfl, .inr ⟨(show NotD d w H5 _ from .inl rfl).notS, ?_⟩⟩
      case' inr.inl => refine ⟨_, rfl, .inr ⟨(show NotD d w H5 _ from .inr (.inl ⟨5, rfl⟩)).notS, ?_⟩⟩
      case' inr.inr.inl => refine ⟨_, rfl, .inr ⟨(show NotD d w H5 _ from .inr (.inr (.inl ⟨true, rfl⟩))).notS, ?_⟩⟩
      case' inr.inr.inr.inl => refine ⟨_, rfl, .inr ⟨(show NotD d w H5 _ from .inr (.inr (.inr ⟨p1, rfl, f1.1, f1.2, .inl ⟨_, z1⟩⟩))).notS, ?_⟩⟩
      case' inr.inr.inr.inr.inl => refine ⟨_, rfl, .inl ⟨_, rfl, by decide +kernel, fun z => absurd z (by rw [e0.1]; simp), fun _ => ?_⟩⟩
      case' inr.inr.inr.inr.inr.inl => refine ⟨_, rfl, .inl ⟨_, rfl, by decide +kernel, fun z => absurd z (by rw [e0.2]; simp), fun _ => ?_⟩⟩
      case' inr.inr.inr.inr.inr.inr.inl => refine ⟨_, rfl, .inr ⟨(show NotD d w H5 _ from .inr (.inr (.inr ⟨p2, rfl, f2.1, f2.2, .inr (.inl ⟨_, z2⟩)⟩))).notS, ?_⟩⟩
      case' inr.inr.inr.inr.inr.inr.inr => refine ⟨_, rfl, .inr ⟨(show NotD d w H5 _ from .inr (.inr (.inr ⟨p3, rfl, f3.1, f3.2, .inr (.inr ⟨_, z3⟩)⟩))).notS, ?_⟩⟩
      all_goals
        intro dx H6 s6 hdx edx
        refine ⟨ET.eBT, fun a ha => ?_⟩
        have g7 := (g5.same s6).same (Same.new (o := HX (.ref BT) (some dx) a) ha)
        have nd : dx ≠ a := ne_of_none edx ha
        refine ⟨a, BT, some dx, .ref BT, .ref BT, true, rfl, .own _, upd_same, fun dx' e => ⟨_, by cases e; rw [upd_ne nd]; exact edx⟩, ET.xBT, ET.kTT, true, rfl, ?_⟩
        exact iteF ⟨x, sv, n2 + 1, rfl, g7.draw, by omega, g7.but, g7.tabs, g7.odd⟩
    rintro σ H3 ⟨x, sv, n3, rfl, D3, h3, b3, T3, ox⟩
    refine ⟨fun σ H' => ∃ (x : V) (a dx : Addr), RS d w c pw Pt H n 1002 (some (.ref a)) none x σ H' ∧ H' a = some (HX (.ref BT) (some dx) a) ∧ H' dx = some (.xd [("wanted", .non), ("column", .non), ("line", .non)]), ?_, ?_⟩
    · refine ⟨T3, fun H4 x4 T4 => ?_⟩
      have g4 : Go d w c Pt H H4 x n3 := (Go.mk D3 b3 T3 ox).ext x4 T4
      refine ⟨.non, rfl, .inr ⟨(show NotD d w H4 _ from .inl rfl).notS, ?_⟩⟩
      intro dx H6 s6 hdx edx
      refine ⟨ET.eBT, fun a ha => ?_⟩
      have g7 := (g4.same s6).same (Same.new (o := HX (.ref BT) (some dx) a) ha)
      have nd : dx ≠ a := ne_of_none edx ha
      exact ⟨x, a, dx, ⟨sv, n3, rfl, g7.draw, by omega, g7.but, g7.tabs, g7.odd⟩, upd_same, by rw [upd_ne nd]; exact edx⟩
    rintro σ H4 ⟨x, a, dx, ⟨sv, n4, rfl, D4, h4, b4, T4, ox⟩, ea, edx⟩
    refine ⟨fun σ H' => ∃ (x : V) (e : Option V), RS d w c pw Pt H n 1002 e none x σ H', ?_, ?_⟩
    · have g4 : Go d w c Pt H H4 x n4 := Go.mk D4 b4 T4 ox
      refine ⟨_, rfl, a, BT, dx, _, .non, rfl, ea, edx, ET.fBT, ET.own.no _ (by simp), by decide +kernel, _, rfl, a, BT, dx, _, .non, rfl, ea, edx, ET.fBT, ET.own.no _ (by simp), by decide +kernel, _, rfl, a, BT, dx, _, .non, rfl, ea, edx, ET.fBT, ET.own.no _ (by simp), by decide +kernel, by show 3 ≤ sizeLine; decide, fun p hp => ?_⟩
      refine ⟨by show 3 ≤ sizeLine; decide, fun q hq => ?_⟩
      have s5 : Same H4 (upd (upd H4 p (.lst [V.non, V.non, V.non])) q (.lst [V.non, V.non, V.non])) := (Same.new hp).trans (Same.new hq)
      have g5 := g4.same s5
      refine ⟨.list [.none, .none, .none], .list [.none, .none, .none], .lst (SqL.of (Same.new hq _ _ upd_same)) (.cons .non (.cons .non (.cons .non .nil))), .lst (SqL.of upd_same) (.cons .non (.cons .non (.cons .non .nil))), by decide +kernel, by decide +kernel, _, rfl, ?_⟩
      refine iteF ?_
      refine ⟨_, rfl, a, BT, some dx, .ty "ValueError", .type "ValueError", true, rfl, .ty _, s5 _ _ ea, fun dx' e => ⟨_, by cases e; exact s5 _ _ edx⟩, ET.xBT, ET.kTV, true, rfl, ?_⟩
      exact iteF ⟨x, _, sv, n4, rfl, g5.draw, h4, g5.but, g5.tabs, g5.odd⟩
    rintro σ H5 ⟨x, e, sv, n5, rfl, D5, h5, b5, T5, ox⟩
    refine ⟨fun σ H' => ∃ (x : V) (e : Option V), RS d w c pw Pt H n 1002 e (some (.bl (isw x))) x σ H', ?_, ?_⟩
    · have g5 : Go d w c Pt H H5 x n5 := Go.mk D5 b5 T5 ox
      rcases ox with ⟨z, rfl, lz, oz⟩ | nd
      · have hz : z.length ≤ 100000 := by omega
        refine ⟨_, rfl, .str z, .ty "str", .type "str", .type "str", true, rfl, .ty _, .base (.str z), kit_ty (by decide +kernel), true, rfl, iteT ?_⟩
        refine ⟨_, rfl, 9, z, by decide +kernel, rfl, _, rfl, ?_⟩
        have z9 : okc 9 = false := by decide
        by_cases h9 : 9 ∈ z.cps.toList
        · rw [decide_eq_true h9]
          have e9 : isw (.str z) = false := by
            show isWord z = false
            unfold isWord
            have q : (tl z).all okc = false := by
              cases q : (tl z).all okc with
              | false => rfl
              | true => exact absurd (List.all_eq_true.mp q 9 h9) (by rw [z9]; simp)
            rw [q]
            rfl
          refine iteF ⟨.str z, e, sv, n5, ?_, g5.draw, h5, g5.but, g5.tabs, g5.odd⟩
          rw [e9]
          rfl
        · rw [decide_eq_false h9]
          have ok : ∀ ch ∈ tl z, okc ch = true := fun ch hch => (oz ch hch).elim id fun q => absurd (q ▸ hch) h9
          have all : (tl z).all okc = true := List.all_eq_true.mpr ok
          refine iteT ⟨_, rfl, z, rfl, hz, fun p ts' H6 hp s6 e6 t6 => ?_⟩
          refine ⟨_, rfl, by show 3 ≤ sizeLine; decide, fun t ht => ⟨by show 1 ≤ sizeLine; decide, fun q hq => ?_⟩⟩
          have sa : Same H6 (upd H6 t (.tup [V.str z, V.int 1, V.int 1])) := Same.new ht
          have sb : Same (upd H6 t (.tup [V.str z, V.int 1, V.int 1])) (upd (upd H6 t (.tup [V.str z, V.int 1, V.int 1])) q (.lst [V.ref t])) := Same.new hq
          have g6 := g5.same (s6.trans (sa.trans sb))
          have tk : TokOk (cut (tl z) 1 1) := fun y hy ch hch => ok_lt (ok ch ((cut_word _ _ _ y hy).1 ch hch))
          have tk1 : TokOk [(tl z, (1 : Int), (1 : Int))] := fun y hy ch hch => by
            rw [List.mem_singleton.mp hy] at hch
            exact ok_lt (ok ch hch)
          refine ⟨.list ((cut (tl z) 1 1).map tokD), .list ([(tl z, (1 : Int), (1 : Int))].map tokD), .lst (SqL.of ((sa.trans sb) _ _ e6)) (dp_toks (t6.same (sa.trans sb))), .lst (SqL.of upd_same) (.cons (.tup (SqT.of (sb _ _ upd_same)) (.cons ?_ (.cons (.int 1) (.cons (.int 1) .nil)))) .nil), shaped_toks _ tk, shaped_toks _ tk1, ?_⟩
          · show Dp _ _ (V.str z) (PyData.str (mk (tl z)))
            rw [mk_tl]
            exact .str z
          · have ew : decide (cut (tl z) 1 1 = [(tl z, 1, 1)]) = isw (.str z) := by
              show _ = isWord z
              unfold isWord
              rw [all, Bool.true_and, Bool.eq_iff_iff, decide_eq_true_eq, cut_one (tl z) (tl z)]
              cases tl z with
              | nil => simp
              | cons ch r =>
                constructor
                · rintro ⟨c', r', e, h1, h2⟩
                  cases e
                  show (!blank ch && decide (wl (ch :: r) = (ch :: r).length)) = true
                  rw [h1, decide_eq_true h2]
                  rfl
                · intro h
                  have h : (!blank ch && decide (wl (ch :: r) = (ch :: r).length)) = true := h
                  simp only [Bool.and_eq_true, Bool.not_eq_true', decide_eq_true_eq] at h
                  exact ⟨ch, r, rfl, h.1, h.2⟩
            refine ⟨.str z, e, sv, n5, ?_, g6.draw, h5, g6.but, g6.tabs, g6.odd⟩
            rw [toksL_eqv, ew]
            rfl
      · obtain ⟨t, ty, kt⟩ := nd.notS (K := K)
        refine ⟨_, rfl, x, .ty "str", .type t, .type "str", false, rfl, .ty _, ty, kt, false, rfl, iteF ⟨x, e, sv, n5, ?_, g5.draw, h5, g5.but, g5.tabs, g5.odd⟩⟩
        have e9 : isw x = false := by
          rcases nd with rfl | ⟨i, rfl⟩ | ⟨b, rfl⟩ | ⟨p, rfl, _⟩ <;> rfl
        rw [e9]
        rfl
    rintro σ H6 ⟨x, e, sv, n6, rfl, D6, h6, b6, T6, ox⟩
    refine ⟨fun σ H' => ∃ (x ev : V), RS d w c pw Pt H n 1002 (some ev) (some (.bl (isw x))) x σ H' ∧ (isw x = true → ev = .non) ∧ (isw x = false → ∃ a, ev = .ref a ∧ H' a = some (HX (.ref BW) none a)), ?_, ?_⟩
    · refine ⟨T6, fun H7 x7 T7 => ?_⟩
      have g7 : Go d w c Pt H H7 x n6 := (Go.mk D6 b6 T6 ox).ext x7 T7
      have fin : ∀ (ev : V) (H8 : Hp), Go d w c Pt H H8 x n6 → (isw x = true → ev = .non) → (isw x = false → ∃ a, ev = .ref a ∧ H8 a = some (HX (.ref BW) none a)) →
          ∃ (x' ev' : V), RS d w c pw Pt H n 1002 (some ev') (some (.bl (isw x'))) x' [some (.ref d), some (.ref pw), some sv, some x, some ev, some (.bl (isw x)), none, none, none] H8 ∧ (isw x' = true → ev' = .non) ∧ (isw x' = false → ∃ a, ev' = .ref a ∧ H8 a = some (HX (.ref BW) none a)) :=
        fun ev H8 g q1 q2 => ⟨x, ev, ⟨sv, n6, rfl, g.draw, h6, g.but, g.tabs, g.odd⟩, q1, q2⟩
      have raise : isw x = false → ∀ H8, Same H7 H8 → ∀ a, H8 a = none → _ := fun hx H8 s8 a ha => fin (.ref a) (upd H8 a (HX (.ref BW) none a)) ((g7.same s8).same (Same.new ha)) (fun q => absurd q (by rw [hx]; simp)) (fun _ => ⟨a, rfl, upd_same⟩)
      rcases id g7.odd with ⟨z, rfl, lz, oz⟩ | nd
      · refine ⟨_, rfl, .str z, rfl, .inl ⟨z, rfl, by omega, fun hw H8 s8 => ⟨.non, rfl, fin .non H8 (g7.same s8) (fun _ => rfl) (fun q => absurd (q.symm.trans hw) (by simp))⟩, fun hw H8 s8 => ⟨ET.eBW, fun a ha => raise hw H8 s8 a ha⟩⟩⟩
      · have e9 : isw x = false := by
          rcases nd with rfl | ⟨i, rfl⟩ | ⟨b, rfl⟩ | ⟨p, rfl, _⟩ <;> rfl
        exact ⟨_, rfl, x, rfl, .inr ⟨nd.notS, ET.eBW, fun a ha => raise e9 H7 (Same.refl H7) a ha⟩⟩
    rintro σ H7 ⟨x, ev, ⟨sv, n7, rfl, D7, h7, b7, T7, ox⟩, e1, e2⟩
    refine ⟨_, rfl, isw x, rfl, ?_⟩
    have fin := k H7 n7 D7 (by omega) b7 T7
    cases hx : isw x with
    | true =>
      rw [e1 hx]
      exact iteT ⟨_, rfl, rfl, fin⟩
    | false =>
      obtain ⟨a, rfl, ea⟩ := e2 hx
      exact iteF ⟨_, rfl, a, BW, none, .ref BW, .ref BW, true, rfl, .own _, ea, (fun dx e => nomatch e), ET.xBW, ET.kWW, fin⟩
end
end SA
set_option Elab.async false
set_option linter.all false
set_option maxRecDepth 100000
set_option maxHeartbeats 4000000
namespace K1
/-- there are no more words than signs -/
theorem cut_count : ∀ (t : L) (l k : Int), (cut t l k).length ≤ t.length := by
  intro t l k
  fun_induction cut t l k with
  | case1 l k => simp
  | case2 r l k ih =>
    simp only [List.length_cons]
    omega
  | case3 r l k h ih =>
    simp only [List.length_cons]
    omega
  | case4 c r l k h1 h2 ih =>
    have := wl_pos (c :: r)
    simp only [List.length_drop, List.length_cons] at ih ⊢
    omega
end K1
namespace SA
open PySem PySem.Spec PyProof.Rows L2 K1
abbrev sLaw : Stmt := topS 35
abbrev nLaw : List Str := ["script", "draw", "some", "turn", "pieces", "text", "due", "found", "word", "line", "column", "k"]
theorem scLaw : FnScope nLaw ["script"] (defScope sLaw) := ⟨rfl, rfl, rfl, by decide +kernel, rfl, by decide +kernel, by decide +kernel⟩
def some28 : List Str := ["a", "b", "z", "if", "while", "truth", "A", "0", "1", "7", "-", "-", "_", "$", "<", "=", "==", "<=", "(", ")", "{", "}", ",", ":", "|", "+", "*", "."]
def more7 : List Str := [" ", " ", "\n", "  ", "\n\n", "abcdefgh", "number"]
theorem some35_ok : ∀ z ∈ some28 ++ more7, z.length ≤ 8 ∧ ∀ c ∈ tl z, okc c = true := by decide +kernel
structure LSt (d w c Pt ps : Addr) (H' : Hp) (n : Nat) : Prop where
  draw : DrawAt H' d w c n
  some_ : H' ps = some (.lst (some28.map V.str))
  tabs : LamX.Tabs [(Pt, qL)] H'
theorem LSt.ne {d w c Pt ps : Addr} {H' : Hp} {n : Nat} (g : LSt d w c Pt ps H' n) : ps ≠ d ∧ ps ≠ w := by
  obtain ⟨⟨⟨r, t, _, _, e⟩, ⟨ws, e2⟩, _, _⟩, h, _⟩ := g
  refine ⟨ne_of h e (fun z => nomatch z), fun z => ?_⟩
  rw [z, e2] at h
  cases ws with
  | nil => cases h
  | cons a ws => cases h
theorem LSt.same {d w c Pt ps : Addr} {H' H'' : Hp} {n : Nat} (g : LSt d w c Pt ps H' n) (s : Same H' H'') : LSt d w c Pt ps H'' n := ⟨g.draw.same s, s _ _ g.some_, tabs_same g.tabs s⟩
theorem LSt.pick {d w c Pt ps : Addr} {H' H'' : Hp} {n m : Nat} (g : LSt d w c Pt ps H' n) (D : DrawAt H'' d w c m) (b : But2 d w H' H'') : LSt d w c Pt ps H'' m := ⟨D, b _ _ g.some_ g.ne.1 g.ne.2, tabs_but g.tabs g.draw b⟩
theorem LSt.but {d w c Pt ps : Addr} {H' H'' : Hp} {n m : Nat} (g : LSt d w c Pt ps H' n) (D : DrawAt H'' d w c m) (b : But3 d w H' H'') (t : LamX.Tabs [(Pt, qL)] H'') : LSt d w c Pt ps H'' m := ⟨D, b _ _ g.some_ g.ne.1 g.ne.2 (fun ps z => nomatch z), t⟩
/-- a new list that is changed and not of these -/
theorem LSt.mut {d w c Pt ps p : Addr} {H' : Hp} {n : Nat} {o : HO} {xs : List V} (g : LSt d w c Pt ps H' n) (e : H' p = some (.lst xs)) (h1 : p ≠ d) (h2 : p ≠ w) (h3 : p ≠ c) (h4 : p ≠ ps) : LSt d w c Pt ps (upd H' p o) n := by
  obtain ⟨⟨⟨r, t, a1, a2, e1⟩, ⟨ws, e2⟩, ⟨cs, e3⟩, ne⟩, h, tb⟩ := g
  refine ⟨⟨⟨r, t, a1, a2, by rw [upd_ne h1.symm]; exact e1⟩, ⟨ws, by rw [upd_ne h2.symm]; exact e2⟩, ⟨cs, by rw [upd_ne h3.symm]; exact e3⟩, ne⟩, by rw [upd_ne h4.symm]; exact h, fun q hq => ?_⟩
  obtain ⟨vs, q1, q2, q3⟩ := tb q hq
  refine ⟨vs, by rw [upd_ne (ne_of q1 e (fun z => nomatch z))]; exact q1, q2, fun pos cv hc => ?_⟩
  obtain ⟨c', z1, z2⟩ := q3 pos cv hc
  have z3 : H' c' = some (LamX.CodeO c' q.2) := z2
  exact ⟨c', z1, by rw [upd_ne (ne_of z3 e (fun z => nomatch z))]; exact z2⟩
/-- all that the law's def calls -/
structure Defs (P : Program) (w0 : World) (K : PySem.W.Frag) (mg : Str → Option Value) (base : Heap) (kA sA BT BW Pt : Addr) : Prop where
  begun : ∃ f fd, Fun K "_law_begun" "_law_begun" sBegun f fd ∧ FnOk P w0 K mg base CX0 1 f fd ["script"] (spBegun K) ∧ L2.Binds K fd ["script"] [] ∧ mg "_law_begun" = some (.ref f)
  take : ∃ f fd, Fun K "_law_take" "_law_take" sTake f fd ∧ FnOk P w0 K mg base CX0 2 f fd ["draw", "many"] spTake ∧ L2.Binds K fd ["draw", "many"] [] ∧ mg "_law_take" = some (.ref f)
  pick : ∃ f fd, Fun K "_law_pick" "_law_pick" sPick f fd ∧ FnOk P w0 K mg base CX0 3 f fd ["draw", "some"] (spPick K) ∧ L2.Binds K fd ["draw", "some"] [] ∧ mg "_law_pick" = some (.ref f)
  kept : ∃ f fd, Fun K "_law_kept" "_law_kept" sKept f fd ∧ FnOk P w0 K mg base CX0 1 f fd [] spKept ∧ L2.Binds K fd [] [] ∧ mg "_law_kept" = some (.ref f)
  lname : ∃ f fd, Fun K "_law_is_name" "_law_is_name" sLIsName f fd ∧ FnOk P w0 K mg base CX0 2 f fd ["matter"] (spLIsName K) ∧ L2.Binds K fd ["matter"] [] ∧ mg "_law_is_name" = some (.ref f)
  lsort : ∃ f fd, Fun K "_law_sort" "_law_sort" sLSort f fd ∧ FnOk P w0 K mg base CX0 3 f fd ["word"] spSortTold ∧ L2.Binds K fd ["word"] [] ∧ mg "_law_sort" = some (.ref f)
  lcut : ∃ f fd, Fun K "_law_cut" "_law_cut" sCut f fd ∧ FnOk P w0 K mg base CX0 3 f fd ["text"] spCut ∧ L2.Binds K fd ["text"] [] ∧ mg "_law_cut" = some (.ref f)
  words : ∃ f fd, Fun K "words_of" "words_of" sWordsOf f fd ∧ FnOk P w0 K mg base (L2.CX P w0) 4 f fd ["text"] (spScan K BT) ∧ L2.Binds K fd ["text"] [] ∧ KBinds K fd ["text"] ["text"] cat1 cat1 ∧ mg "words_of" = some (.ref f)
  sort : ∃ f fd, Fun K "sort_of" "sort_of" sSortOf f fd ∧ FnOk P w0 K mg base (L2.CX P w0) 3 f fd ["word"] (spSortOf K BW) ∧ L2.Binds K fd ["word"] [] ∧ KBinds K fd ["word"] ["word"] cat1 cat1 ∧ mg "sort_of" = some (.ref f)
  name : ∃ f fd, Fun K "is_name" "is_name" sIsName f fd ∧ FnOk P w0 K mg base CX0 1 f fd ["thing"] (spIsName K) ∧ L2.Binds K fd ["thing"] [] ∧ KBinds K fd ["thing"] ["thing"] cat1 cat1 ∧ mg "is_name" = some (.ref f)
  ref : ∃ f fd, Fun K "_law_refused_right" "_law_refused_right" sRef f fd ∧ FnOk P w0 K mg base CX0 7 f fd ["draw", "words"] (spRef Pt) ∧ L2.Binds K fd ["draw", "words"] [] ∧ mg "_law_refused_right" = some (.ref f)
structure Frees (mg : Str → Option Value) : Prop where
  len : mg "len" = none
  repr : mg "repr" = none
  tuple : mg "tuple" = none
  range : mg "range" = none
  min : mg "min" = none
def keptD : PyData := .tuple (keptS.map PyData.str)
theorem kept_good : keptD.showable = true ∧ keptD.shown.length ≤ sizeLine ∧ keptD.depth ≤ 60 := by
  have h : keptD.showable = true ∧ keptD.shown.length ≤ 4096 ∧ keptD.depth ≤ 60 := by decide +kernel
  exact ⟨h.1, Nat.le_trans h.2.1 (by decide), h.2.2⟩
theorem dx_strs {K : PySem.W.Frag} {H : Hp} : ∀ ws : List Str, DxAll K H (ws.map V.str) (ws.map PyData.str)
  | [] => .nil
  | w :: ws => .cons (.str w) (dx_strs ws)
abbrev SG (a d ps : Addr) (y3 y4 y5 y6 y7 y8 y9 y10 y11 : Option V) : L2.St := [some (.ref a), some (.ref d), some (.ref ps), y3, y4, y5, y6, y7, y8, y9, y10, y11]
/-- pieces of texts -/
def PcOk (zs : List Str) : Prop := ∀ z ∈ zs, z.length ≤ 8 ∧ ∀ c ∈ tl z, okc c = true
theorem joined (zs : List Str) (h : PcOk zs) : (Txt.join "" zs).length ≤ 8 * zs.length ∧ ∀ c ∈ tl (Txt.join "" zs), okc c = true := by
  have e : ∀ zs : List Str, PcOk zs → (tl (Str.join "" zs)).length ≤ 8 * zs.length ∧ ∀ c ∈ tl (Str.join "" zs), okc c = true := by
    intro zs
    induction zs with
    | nil => intro _; exact ⟨Nat.zero_le _, fun c hc => by cases hc⟩
    | cons z zs ih =>
      intro h
      obtain ⟨h1, h2⟩ := h z (List.mem_cons_self ..)
      obtain ⟨i1, i2⟩ := ih fun y hy => h y (List.mem_cons_of_mem _ hy)
      have e1 : tl (Str.join "" (z :: zs)) = tl z ++ tl (Str.join "" zs) := by
        cases zs with
        | nil =>
          show tl z = tl z ++ tl Str.empty
          simp [Str.empty]
        | cons y r =>
          show tl (z ++ "" ++ Str.join "" (y :: r)) = _
          have e2 : ∀ a b : Str, tl (a ++ b) = tl a ++ tl b := fun a b => by
            show (a.cps ++ b.cps).toList = _
            simp
          rw [e2, e2, tl_empty, List.append_nil]
      rw [e1]
      refine ⟨?_, fun c hc => ?_⟩
      · rw [List.length_append, List.length_cons]
        have := len_tl z
        omega
      · rcases List.mem_append.mp hc with hc | hc
        · exact h2 c hc
        · exact i2 c hc
  have q : Txt.join "" zs = Str.join "" zs := TL.join_eq "" zs
  rw [q]
  exact e zs h
section
variable {P : Program} {w0 : World} {K : PySem.W.Frag} {mg : Str → Option Value} {base : Heap} {kA sA BT BW Pt : Addr}
theorem law_body {fa : Addr} {cdv : Value} {s : Shared} {H : Hp} {a : Addr} {ns : List Int} (hr : Room 7 (callerA.deeper (envOfC "law" (defScope sLaw) s.heap.objs.size fa cdv))) (hS : SqL K H a (ns.map V.int)) (hn : ns.length ≤ 63) (hTb : LamX.Tabs [(Pt, qL)] H)
    (T : Top1 K mg kA sA) (SK : SysK K) (DF : Defs P w0 K mg base kA sA BT BW Pt) (FR : Frees mg) :
    ∃ t, PSs (cxOf CX0 P w0 K mg base nLaw "law" (defScope sLaw) fa cdv callerA [] s H E0).nox (defBody sLaw) t ∧ t { nx := fun _ _ => V.non = V.bl true, rt := fun v _ => v = .bl true } (start nLaw [.ref a]) H := by
  have hu := hu_of hr
  obtain ⟨fB, fdB, FB, GB, bB, gB⟩ := DF.begun
  obtain ⟨fT, fdT, FT, GT, bT, gT⟩ := DF.take
  obtain ⟨fP, fdP, FP, GP, bP, gP⟩ := DF.pick
  obtain ⟨fK, fdK, FK, GK, bK, gK⟩ := DF.kept
  obtain ⟨fN, fdN, FN, GN, bN, gN⟩ := DF.lname
  obtain ⟨fL, fdL, FL, GL, bL, gL⟩ := DF.lsort
  obtain ⟨fC, fdC, FC, GC, bC, gC⟩ := DF.lcut
  obtain ⟨fW, fdW, FW, GW, bW, kW, gW⟩ := DF.words
  obtain ⟨fS, fdS, FS, GS, bS, kS, gS⟩ := DF.sort
  obtain ⟨fI, fdI, FI, GI, bI, kI, gI⟩ := DF.name
  obtain ⟨fR, fdR, FR', GR, bR, gR⟩ := DF.ref
  have hr1 := hr.mono (by decide : 1 ≤ 7)
  have hr2 := hr.mono (by decide : 2 ≤ 7)
  have hr3 := hr.mono (by decide : 3 ≤ 7)
  have hr4 := hr.mono (by decide : 4 ≤ 7)
  refine ⟨_, Evl.pss_cut (ps_set (i := 1) scLaw.nd rfl (by first | exact .inl rfl | exact .inr rfl) (pe_call GB hr1 (by rfl) gB FB.kp bB .nil pass0 (pa_cons (pv 0) pa_nil)))
    (Evl.pss_cut (ps_if (pt_cmpR op_ne (pe_callB (call_repr SK rfl hr.units) (by rfl) FR.repr (by decide +kernel) (pa_cons (pe_glob (v := .ref kA) (by rfl) T.kept rfl) pa_nil))
        (pe_callB (call_repr SK rfl hr.units) (by rfl) FR.repr (by decide +kernel) (pa_cons (pe_callTy call_tuple_of (by rfl) FR.tuple (by decide +kernel) (pa_cons (pe_call0 GK hr1 (by rfl) gK FK.kp bK .nil pass0) pa_nil)) pa_nil)) (nomark _)) (pss_one (ps_ret pe_bl)) pss_nil)
    (Evl.pss_cut (ps_set (i := 2) scLaw.nd rfl (by first | exact .inl rfl | exact .inr rfl) (pe_lst (pa_cons pe_str (pa_cons pe_str (pa_cons pe_str (pa_cons pe_str (pa_cons pe_str (pa_cons pe_str (pa_cons pe_str (pa_cons pe_str (pa_cons pe_str (pa_cons pe_str (pa_cons pe_str (pa_cons pe_str (pa_cons pe_str (pa_cons pe_str (pa_cons pe_str (pa_cons pe_str (pa_cons pe_str (pa_cons pe_str (pa_cons pe_str (pa_cons pe_str (pa_cons pe_str (pa_cons pe_str (pa_cons pe_str (pa_cons pe_str (pa_cons pe_str (pa_cons pe_str (pa_cons pe_str (pa_cons pe_str pa_nil))))))))))))))))))))))))))))))
    (Evl.pss_cut (ps_for PassesOwn.never rfl (pi_range1 (by rfl) FR.range (pa_cons (pe_op op_add pe_int (pe_callB (call_min2 rfl) (by rfl) FR.min (by decide +kernel) (pa_cons (pe_callB call_len_seq (by rfl) FR.len PySem.boot_len (pa_cons (pv 0) pa_nil)) (pa_cons pe_int pa_nil)))) pa_nil)) (pg_name (i := 3) scLaw.nd rfl (Or.inl rfl))
      (Evl.pss_cut (ps_setLc (i := 4) (own := [("k", 11)]) (g := gName 11) (tt := tYes) (te := tCall (spPick K) [] E0 (tCons (tVar 1) (tCons (tOp rCat (tVar 2) (tLst (tCons (tC (.str " ")) (tCons (tC (.str " ")) (tCons (tC (.str "\n")) (tCons (tC (.str "  ")) (tCons (tC (.str "\n\n")) (tCons (tC (.str "abcdefgh")) (tCons (tC (.str "number")) tNil)))))))) ) tNil))) (by rfl) scLaw.nd rfl rfl (sw_true rfl rfl rfl (by decide +kernel))
          (pi_range1 (by rfl) FR.range (pa_cons (pe_call GT hr2 (by rfl) gT FT.kp bT .nil pass0 (pa_cons (pv 1) (pa_cons pe_int pa_nil))) pa_nil)) (blkOk_by (N := nLaw) (sc := defScope sLaw) (by decide +kernel)) (fun _ _ _ _ _ => pg_name (i := 11) scLaw.nd rfl (Or.inl rfl)) (fun _ _ _ _ _ => pts_nil)
          (fun _ _ _ _ _ => pe_call GP hr3 (by rfl) gP FP.kp bP .nil pass0 (pa_cons (pv 1) (pa_cons (pe_op op_cat (pv 2) (pe_lst (pa_cons pe_str (pa_cons pe_str (pa_cons pe_str (pa_cons pe_str (pa_cons pe_str (pa_cons pe_str (pa_cons pe_str pa_nil))))))))) pa_nil))))
      (Evl.pss_cut (ps_set (i := 5) scLaw.nd rfl (.inl rfl) (pe_join pe_str (pv 4)))
      (Evl.pss_cut (ps_set (i := 6) scLaw.nd rfl (.inl rfl) (pe_call GC hr3 (by rfl) gC FC.kp bC .nil pass0 (pa_cons (pv 5) pa_nil)))
      (Evl.pss_cut (ps_if (pt_cmpR (op_neD hr.units)
          (pe_lc (own := [("word", 8), ("line", 9), ("column", 10)]) (g := gTup K 3 (gCons (gName 8) (gCons (gName 9) (gCons (gName 10) gNil)))) (tt := tAnd (tTest (tOp (rI0 fun i j => .bl (decide (j < i))) (tCB (fun xs H Q => ∃ z, xs = [.str z] ∧ z.length ≤ sizeLine ∧ Q (.int z.length) H) (tCons (tVar 8) tNil)) (tC (.int 12)))) (tTest (tOp rEq (tCall spSortTold [] E0 (tCons (tVar 8) tNil)) (tC (.str "figures"))))) (te := tC (.int 1)) (by rfl) scLaw.nd (pi_list (pv 6))
            (blkOk_by (N := nLaw) (sc := defScope sLaw) (by decide +kernel)) (fun _ _ _ _ _ => pg_tup rfl (pgs_cons (pg_name (i := 8) scLaw.nd rfl (Or.inl rfl)) (pgs_cons (pg_name (i := 9) scLaw.nd rfl (Or.inl rfl)) (pgs_cons (pg_name (i := 10) scLaw.nd rfl (Or.inl rfl)) pgs_nil))))
            (fun _ _ _ _ _ => pts_one (PW.pt (pw_and (pt_cmpR op_gt (pe_callB call_len_str (by rfl) FR.len PySem.boot_len (pa_cons (pv 8) pa_nil)) pe_int (nomark _)) (pw_and1 (pt_cmpR op_eq (pe_call GL hr3 (by rfl) gL FL.kp bL .nil pass0 (pa_cons (pv 8) pa_nil)) pe_str (nomark _)))))) (fun _ _ _ _ _ => pe_int))
          (pe_lst pa_nil) (nomark _)) (pss_one ps_continue) pss_nil)
      (Evl.pss_cut (ps_set (i := 7) scLaw.nd rfl (.inl rfl) (pe_call (E := E0) GW hr4 (by rfl) gW FW.kp bW .nil passL (pa_cons (pv 5) pa_nil)))
      (Evl.pss_cut (ps_if (pt_cmpR (op_neD hr.units) (pv 7) (pv 6) (nomark _)) (pss_one (ps_ret pe_bl)) pss_nil)
      (Evl.pss_cut (ps_expr (pe_bm PySem.F.plainAttrs_list PySem.F.slot_list_append PySem.F.type_list_append mt_append (pv 7) (pa_cons pe_non pa_nil)))
      (Evl.pss_cut (ps_if (pt_cmpR (op_neD hr.units) (pe_kw0 (E := E0) GW hr4 (by rfl) gW FW.kp kW passL (pk_cons (pv 5) pk_nil)) (pv 6) (nomark _)) (pss_one (ps_ret pe_bl)) pss_nil)
      (Evl.pss_cut (ps_for PassesOwn.never rfl (pi_list (pv 6)) (pg_tup rfl (pgs_cons (pg_name (i := 8) scLaw.nd rfl (Or.inl rfl)) (pgs_cons (pg_name (i := 9) scLaw.nd rfl (Or.inl rfl)) (pgs_cons (pg_name (i := 10) scLaw.nd rfl (Or.inl rfl)) pgs_nil))))
        (pss_one (ps_if (PW.pt (pw_or (pt_cmpR op_ne (pe_call (E := E0) GS hr3 (by rfl) gS FS.kp bS .nil passL (pa_cons (pv 8) pa_nil)) (pe_call GL hr3 (by rfl) gL FL.kp bL .nil pass0 (pa_cons (pv 8) pa_nil)) (nomark _))
          (pw_or (pt_cmpR op_ne (pe_kw0 (E := E0) GS hr3 (by rfl) gS FS.kp kS passL (pk_cons (pv 8) pk_nil)) (pe_call GL hr3 (by rfl) gL FL.kp bL .nil pass0 (pa_cons (pv 8) pa_nil)) (nomark _))
          (pw_or1 (pt_cmpR op_ne (pe_call GI hr1 (by rfl) gI FI.kp bI .nil pass0 (pa_cons (pv 8) pa_nil)) (pe_call GN hr2 (by rfl) gN FN.kp bN .nil pass0 (pa_cons (pv 8) pa_nil)) (nomark _)))))) (pss_one (ps_ret pe_bl)) pss_nil)))
      (pss_one (ps_if (pt_not (pt_val (pe_call GR hr (by rfl) gR FR'.kp bR .nil pass0 (pa_cons (pv 1) (pa_cons (pv 6) pa_nil))))) (pss_one (ps_ret pe_bl)) pss_nil)))))))))))) 
    (pss_one (ps_ret (pe_cmpR op_is_bl (pe_kw0 GI hr1 (by rfl) gI FI.kp kI pass0 (pk_cons (pe_call GP hr3 (by rfl) gP FP.kp bP .nil pass0 (pa_cons (pv 1) (pa_cons (pe_lst (pa_cons pe_non (pa_cons pe_int (pa_cons pe_bl (pa_cons (pe_lst (pa_cons pe_str pa_nil)) (pa_cons pe_str (pa_cons pe_str (pa_cons pe_str (pa_cons pe_str pa_nil))))))))) pa_nil))) pk_nil)) pe_bl (nomark _))))))), ?_⟩
  refine ⟨fun σ H' => ∃ d w c, σ = [some (.ref a), some (.ref d), none, none, none, none, none, none, none, none, none, none] ∧ DrawAt H' d w c 0 ∧ LamX.Tabs [(Pt, qL)] H' ∧ SqL K H' a (ns.map V.int), ?_, ?_⟩
  · exact ⟨_, rfl, a, ns, rfl, hS, hn, fun d w c H1 nd nw nc hD s1 => ⟨d, w, c, rfl, hD, tabs_same hTb s1, s1.seq hS⟩⟩
  rintro σ H1 ⟨d, w, c, rfl, D1, T1, S1⟩
  refine ⟨fun σ H' => σ = [some (.ref a), some (.ref d), none, none, none, none, none, none, none, none, none, none] ∧ DrawAt H' d w c 0 ∧ LamX.Tabs [(Pt, qL)] H' ∧ SqL K H' a (ns.map V.int), ?_, ?_⟩
  · obtain ⟨g1, g2, g3⟩ := kept_good
    have dk : ∀ H', Dx K H' (.ref kA) keptD := fun H' => .tup (T.keptT H') (dx_strs _)
    refine ⟨kA, keptD, rfl, dk _, g1, g2, g3, rfl, fun p H2 hp s2 e2 => ⟨p, _, rfl, .inl ⟨SqL.of e2, fun q hq => ?_⟩⟩⟩
    refine ⟨q, keptD, rfl, .tup (SqT.of upd_same) (dx_strs _), g1, g2, g3, rfl, _, rfl, iteNS rfl ?_⟩
    have s3 := s2.trans (Same.new (o := HO.tup (keptS.map V.str)) hq)
    exact ⟨rfl, D1.same s3, tabs_same T1 s3, s3.seq S1⟩
  rintro σ H2 ⟨rfl, D2, T2, S2⟩
  refine ⟨fun σ H' => ∃ ps, σ = SG a d ps none none none none none none none none none ∧ LSt d w c Pt ps H' 0 ∧ SqL K H' a (ns.map V.int), ?_, ?_⟩
  · refine ⟨by show 28 ≤ sizeLine; decide, fun p hp => ?_⟩
    have s3 : Same H2 (upd H2 p (.lst (some28.map V.str))) := Same.new hp
    exact ⟨p, rfl, ⟨D2.same s3, upd_same, tabs_same T2 s3⟩, s3.seq S2⟩
  rintro σ H3 ⟨ps, rfl, L3, S3⟩
  refine ⟨fun σ H' => ∃ y3 y4 y5 y6 y7 y8 y9 y10 y11 n, σ = SG a d ps y3 y4 y5 y6 y7 y8 y9 y10 y11 ∧ LSt d w c Pt ps H' n ∧ n < 2 ^ 30, ?_, ?_⟩
  · refine ⟨_, rfl, a, _, rfl, .inl S3, _, _, rfl, _, _, rfl, rfl, _, rfl, ?_, ?_, ?_⟩
    · split <;> omega
    · have h62 : (100 : Int) < 2 ^ 62 := by decide
      rw [List.length_map]
      split <;> omega
    have hN : (4 + (if (20 : Int) < ((ns.map V.int).length : Int) then (20 : Int) else ((ns.map V.int).length : Int))).toNat ≤ 24 := by
      split <;> omega
    generalize (4 + (if (20 : Int) < ((ns.map V.int).length : Int) then (20 : Int) else ((ns.map V.int).length : Int))).toNat = N at hN
    refine for_range (lo := 0) (n := N) (fun i σ H' => ∃ y3 y4 y5 y6 y7 y8 y9 y10 y11 n, σ = SG a d ps y3 y4 y5 y6 y7 y8 y9 y10 y11 ∧ LSt d w c Pt ps H' n ∧ n ≤ i * 2100) ⟨_, _, _, _, _, _, _, _, _, 0, rfl, L3, Nat.zero_le _⟩ ?_ ?_
    · rintro i σ H4 hi ⟨y3, y4, y5, y6, y7, y8, y9, y10, y11, n, rfl, L4, hn4⟩
      have big : i * 2100 + 4000 < 2 ^ 29 := by
        have : (24 * 2100 + 4000 : Nat) < 2 ^ 29 := by decide
        omega
      have big40 : (2 : Nat) ^ 29 < 2 ^ 40 := by decide
      refine ⟨fun σ H' => ∃ y3 y5 y6 y7 y8 y9 y10 y11 n' pp zs, σ = SG a d ps y3 (some (.ref pp)) y5 y6 y7 y8 y9 y10 y11 ∧ LSt d w c Pt ps H' n' ∧ n' ≤ i * 2100 + 41 ∧ H' pp = some (.lst (zs.map V.str)) ∧ PcOk zs ∧ zs.length ≤ 40, ?_, ?_⟩
      · refine ⟨_, rfl, d, w, c, n, 40, rfl, L4.draw, by omega, by decide, by decide, fun v H5 v0 v40 D5 b5 => ?_⟩
        have L5 := L4.pick D5 b5
        have h62 : (100 : Int) < 2 ^ 62 := by decide
        refine ⟨v, rfl, by omega, by omega, fun dd hdd => ?_⟩
        have hne := L5.ne
        have kd := L5.draw.knowD hdd
        have kc : dd ≠ c := fun z => by
          obtain ⟨_, _, ⟨cs, e⟩, _⟩ := L5.draw
          rw [z, e] at hdd
          cases hdd
        have kps : dd ≠ ps := fun z => by
          have e := L5.some_
          rw [← z, hdd] at e
          cases e
        refine lc_range (lo := 0) (n := v.toNat) (fun j H' => ∃ zs : List Str, H' dd = some (.lst (zs.map V.str)) ∧ zs.length = j ∧ PcOk zs ∧ LSt d w c Pt ps H' (n + 1 + j)) ⟨[], upd_same, rfl, (fun z hz => by cases hz), L5.same (Same.new hdd)⟩ ?_ ?_
        · rintro j H6 hj ⟨zs, ez, lz, oz, L6⟩
          refine ⟨rfl, yes ?_⟩
          refine ⟨_, rfl, _, rfl, by show 7 ≤ sizeLine; decide, fun q hq => ?_⟩
          have s6 : Same H6 (upd H6 q (.lst (more7.map V.str))) := Same.new hq
          have L7 := L6.same s6
          refine ⟨ps, q, some28.map V.str, more7.map V.str, rfl, rfl, L7.some_, upd_same, by decide, fun r hr' => ?_⟩
          have s7 : Same (upd H6 q (.lst (more7.map V.str))) (upd (upd H6 q (.lst (more7.map V.str))) r (.lst (some28.map V.str ++ more7.map V.str))) := Same.new hr'
          have L8 := L7.same s7
          have kr := L7.draw.knowD hr'
          refine ⟨d, w, c, r, n + 1 + j, some28.map V.str ++ more7.map V.str, rfl, L8.draw, by omega, kr.1, kr.2, SqL.of upd_same, by simp [some28], by decide, fun y H9 hy D9 b9 => ?_⟩
          have L9 := L8.pick D9 b9
          have ez9 := b9 _ _ ((s6.trans s7) _ _ ez) kd.1 kd.2
          rw [← List.map_append] at hy
          obtain ⟨m, hm, rfl⟩ := List.mem_map.mp hy
          refine ⟨zs.map V.str, ez9, ?_, zs ++ [m], ?_, ?_, ?_, ?_⟩
          · rw [List.length_map, lz]
            exact Nat.lt_of_le_of_lt (by omega : j ≤ 100) (by decide)
          · rw [upd_same, List.map_append]
            rfl
          · rw [List.length_append, List.length_singleton, lz]
          · intro z hz
            rcases List.mem_append.mp hz with hz | hz
            · exact oz z hz
            · rw [List.mem_singleton.mp hz]
              exact some35_ok m hm
          · exact L9.mut ez9 kd.1 kd.2 kc kps
        · rintro H6 ⟨zs, ez, lz, oz, L6⟩
          exact ⟨_, _, _, _, _, _, _, _, _, dd, zs, rfl, L6, by omega, ez, oz, by omega⟩
      rintro σ H5 ⟨y3, y5, y6, y7, y8, y9, y10, y11, n5, pp, zs, rfl, L5, hn5, epp, ozs, lzs⟩
      clear hn4 L4
      refine ⟨fun σ H' => ∃ t : Str, σ = SG a d ps y3 (some (.ref pp)) (some (.str t)) y6 y7 y8 y9 y10 y11 ∧ H' = H5 ∧ t.length ≤ 320 ∧ ∀ ch ∈ tl t, okc ch = true, ?_, ?_⟩
      · obtain ⟨j1, j2⟩ := joined zs ozs
        refine ⟨⟨_, rfl⟩, _, rfl, _, pp, zs, rfl, rfl, .inl (SqL.of epp), ?_, _, rfl, rfl, by omega, j2⟩
        have hs : ∀ l : List Str, PcOk l → (l.map (·.length)).sum ≤ 8 * l.length := by
          intro l
          induction l with
          | nil => intro _; exact Nat.le_refl _
          | cons z l ih =>
            intro h
            have h1 := (h z (List.mem_cons_self ..)).1
            have h2 := ih fun y hy => h y (List.mem_cons_of_mem _ hy)
            simp only [List.map_cons, List.sum_cons, List.length_cons]
            omega
        have e0 : (Str.ofString "").length = 0 := by decide +kernel
        have := hs zs ozs
        rw [e0]
        omega
      rintro σ H6 ⟨t, rfl, rfl, lt, ot⟩
      have tok : TokOk (cut (tl t) 1 1) := fun y hy ch hch => ok_lt (ot ch ((cut_word _ _ _ y hy).1 ch hch))
      have itx : isText t = true := List.all_eq_true.mpr ot
      have wd : ∀ y ∈ cut (tl t) 1 1, Wd (mk y.1) ∧ isWord (mk y.1) = true := fun y hy => by
        obtain ⟨h1, ch, r, h2, h3, h4⟩ := cut_word _ _ _ y hy
        have hl := cut_len _ _ _ y hy
        refine ⟨⟨?_, ?_, ?_⟩, ?_⟩
        · rw [len_mk]
          have := len_tl t
          omega
        · rw [tl_mk]
          exact fun c hc => ok_lt (ot c (h1 c hc))
        · rw [tl_mk, h2]
          simp
        · unfold isWord
          rw [tl_mk, h2]
          have : (ch :: r).all okc = true := List.all_eq_true.mpr fun c hc => ot c (h1 c (h2 ▸ hc))
          rw [this]
          show (true && (!blank ch && decide (wl (ch :: r) = (ch :: r).length))) = true
          rw [h3, decide_eq_true h4]
          rfl
      -- due
      refine ⟨fun σ H' => ∃ pd ts, σ = SG a d ps y3 (some (.ref pp)) (some (.str t)) (some (.ref pd)) y7 y8 y9 y10 y11 ∧ Same H6 H' ∧ H6 pd = none ∧ H' pd = some (.lst (ts.map V.ref)) ∧ Toks H' ts (cut (tl t) 1 1), ?_, ?_⟩
      · exact ⟨_, rfl, t, rfl, by omega, fun p ts H' hp s e tk => ⟨p, ts, rfl, s, hp, e, tk⟩⟩
      rintro σ H7 ⟨pd, ts, rfl, s7, npd, epd, tks⟩
      have L7 := L5.same s7
      have kpd := L5.draw.knowD npd
      have ltl : ts.length = (cut (tl t) 1 1).length := Paired.length tks
      have lcc : (cut (tl t) 1 1).length ≤ 320 := Nat.le_trans (cut_count _ _ _) (by have := len_tl t; omega)
      have npc : ∀ (p : Addr) (H' : Hp) (n : Nat), LSt d w c Pt ps H' n → H' p = none → p ≠ c ∧ p ≠ ps := fun p H' n g h => by
        refine ⟨fun z => ?_, fun z => ?_⟩
        · obtain ⟨_, _, ⟨cs, e⟩, _⟩ := g.draw
          rw [z, e] at h
          cases h
        · have e := g.some_
          rw [← z, h] at e
          cases e
      -- numbers of many figures
      refine ⟨fun σ H' => σ = SG a d ps y3 (some (.ref pp)) (some (.str t)) (some (.ref pd)) y7 y8 y9 y10 y11 ∧ Same H7 H', ?_, ?_⟩
      · refine ⟨_, rfl, pd, rfl, ⟨_, SqL.of epd⟩, fun dd hdd => ?_⟩
        refine lc_list (K := K) (a := pd) (xs := ts.map V.ref) (fun j H' => Same H7 H' ∧ ∃ ks : List Int, H' dd = some (.lst (ks.map V.int)) ∧ ks.length ≤ j) ⟨Same.new hdd, [], upd_same, Nat.le_refl _⟩ (fun j H' _ z => SqL.of (z.1 _ _ epd)) ?_ ?_
        · rintro j x H8 hx ⟨s8, ks, eks, lks⟩
          obtain ⟨tt, ht, rfl⟩ : ∃ tt, ts[j]? = some tt ∧ x = .ref tt := by
            rw [List.getElem?_map] at hx
            cases e : ts[j]? with
            | none =>
              rw [e] at hx
              cases hx
            | some t =>
              rw [e] at hx
              exact ⟨t, rfl, (Option.some.inj hx).symm⟩
          have hjl : j < ts.length := (List.getElem?_eq_some_iff.mp ht).1
          obtain ⟨tk, htk, e1⟩ := pget tks ht
          have e1 : H7 tt = some (.tup [.str (mk tk.1), .int tk.2.1, .int tk.2.2]) := e1
          obtain ⟨hW, hIs⟩ := wd tk (List.mem_of_getElem? htk)
          refine ⟨tt, _, rfl, SqT.of (s8 _ _ e1), rfl, _, _, rfl, _, _, rfl, _, _, rfl, rfl, rfl, ?_⟩
          have no : ∀ H9, Same H7 H9 → H9 dd = some (.lst (ks.map V.int)) → Same H7 H9 ∧ ∃ ks : List Int, H9 dd = some (.lst (ks.map V.int)) ∧ ks.length ≤ j + 1 := fun H9 s9 e9 => ⟨s9, ks, e9, by omega⟩
          refine ⟨_, rfl, mk tk.1, rfl, Nat.le_trans hW.1 (by decide), _, _, rfl, rfl, _, rfl, ite2 (fun h1 => ?_) (fun h1 => ?_)⟩
          · refine ⟨_, rfl, mk tk.1, rfl, hW, fun H9 s9 => ⟨rfl, _, rfl, ite2 (fun h2 => ?_) (fun h2 => ?_)⟩⟩
            · refine ⟨ks.map V.int, s9 _ _ eks, ?_, Same.mut (s8.trans s9) hdd, ks ++ [1], ?_, ?_⟩
              · rw [List.length_map]
                exact Nat.lt_of_le_of_lt (by omega : ks.length ≤ 1000) (by decide)
              · rw [upd_same, List.map_append]
                rfl
              · rw [List.length_append, List.length_singleton]
                omega
            · exact no H9 (s8.trans s9) (s9 _ _ eks)
          · exact iteF (no H8 s8 eks)
        · rintro H8 ⟨s8, ks, eks, lks⟩
          refine ⟨Nat.zero_le _, fun q hq => ?_⟩
          have s9 : Same H8 (upd H8 q (.lst [])) := Same.new hq
          refine ⟨.list (ks.map PyData.int), .list [], .lst (SqL.of (s9 _ _ eks)) (dp_ints ks), .lst (SqL.of upd_same) .nil, shaped_ints ks, rfl, _, rfl, ?_⟩
          have L9 := L7.same (s8.trans s9)
          cases ks with
          | nil => exact iteF ⟨rfl, s8.trans s9⟩
          | cons k ks => exact iteT ⟨_, _, _, _, _, _, _, _, _, n5, rfl, L9, by omega⟩
      rintro σ H8 ⟨rfl, s8⟩
      -- found
      refine ⟨fun σ H' => ∃ pf fs, σ = SG a d ps y3 (some (.ref pp)) (some (.str t)) (some (.ref pd)) (some (.ref pf)) y8 y9 y10 y11 ∧ Same H8 H' ∧ H8 pf = none ∧ H' pf = some (.lst (fs.map V.ref)) ∧ Toks H' fs (cut (tl t) 1 1), ?_, ?_⟩
      · exact ⟨_, rfl, .str t, rfl, .inl ⟨t, rfl, by omega, fun _ p fs H' hp s e tk => ⟨p, fs, rfl, s, hp, e, tk⟩, fun z => absurd (z.symm.trans itx) (by simp)⟩⟩
      rintro σ H9 ⟨pf, fs, rfl, s9, npf, epf, tkf⟩
      have L8 := L7.same s8
      have L9 := L8.same s9
      have epd9 := (s8.trans s9) _ _ epd
      have tks9 := tks.same (s8.trans s9)
      refine ⟨fun σ H' => σ = SG a d ps y3 (some (.ref pp)) (some (.str t)) (some (.ref pd)) (some (.ref pf)) y8 y9 y10 y11 ∧ H' = H9, ?_, ?_⟩
      · refine ⟨_, rfl, _, rfl, .list ((cut (tl t) 1 1).map tokD), .list ((cut (tl t) 1 1).map tokD), .lst (SqL.of epf) (dp_toks tkf), .lst (SqL.of epd9) (dp_toks tks9), shaped_toks _ tok, shaped_toks _ tok, _, rfl, ?_⟩
        rw [toksL_eqv]
        exact iteNS rfl ⟨rfl, rfl⟩
      rintro σ H' ⟨rfl, rfl⟩
      -- found.append(None)
      have kpf := L8.draw.knowD npf
      have kpc := npc pf H8 n5 L8 npf
      have npdf : pd ≠ pf := ne_of_none (s8 _ _ epd) npf
      refine ⟨fun σ H' => σ = SG a d ps y3 (some (.ref pp)) (some (.str t)) (some (.ref pd)) (some (.ref pf)) y8 y9 y10 y11 ∧ LSt d w c Pt ps H' n5 ∧ H' pd = some (.lst (ts.map V.ref)) ∧ Toks H' ts (cut (tl t) 1 1), ?_, ?_⟩
      · refine ⟨_, rfl, Or.inl ⟨rfl, _, Or.inl (Or.inl epf)⟩, pf, _, _, rfl, rfl, epf, ?_, rfl, L9.mut epf kpf.1 kpf.2 kpc.1 kpc.2, ?_, tks9.upd epf⟩
        · rw [List.length_map, Paired.length tkf]
          exact Nat.lt_of_le_of_lt lcc (by decide)
        · rw [upd_ne npdf]
          exact epd9
      rintro σ H10 ⟨rfl, L10, epd10, tks10⟩
      -- words_of(text=text)
      refine ⟨fun σ H' => σ = SG a d ps y3 (some (.ref pp)) (some (.str t)) (some (.ref pd)) (some (.ref pf)) y8 y9 y10 y11 ∧ Same H10 H', ?_, ?_⟩
      · refine ⟨_, rfl, .str t, rfl, .inl ⟨t, rfl, by omega, fun _ p gs H' hp s e tk => ?_, fun z => absurd (z.symm.trans itx) (by simp)⟩⟩
        refine ⟨_, rfl, .list ((cut (tl t) 1 1).map tokD), .list ((cut (tl t) 1 1).map tokD), .lst (SqL.of e) (dp_toks tk), .lst (SqL.of (s _ _ epd10)) (dp_toks (tks10.same s)), shaped_toks _ tok, shaped_toks _ tok, _, rfl, ?_⟩
        rw [toksL_eqv]
        exact iteNS rfl ⟨rfl, s⟩
      rintro σ H11 ⟨rfl, s11⟩
      have L11 := L10.same s11
      have epd11 := s11 _ _ epd10
      have tks11 := tks10.same s11
      -- the sorts
      refine ⟨fun σ H' => ∃ y8 y9 y10, σ = SG a d ps y3 (some (.ref pp)) (some (.str t)) (some (.ref pd)) (some (.ref pf)) y8 y9 y10 y11 ∧ Same H11 H', ?_, ?_⟩
      · refine ⟨_, rfl, pd, rfl, ⟨_, SqL.of epd11⟩, for_list (K := K) (a := pd) (xs := ts.map V.ref) (fun j σ H' => ∃ y8 y9 y10, σ = SG a d ps y3 (some (.ref pp)) (some (.str t)) (some (.ref pd)) (some (.ref pf)) y8 y9 y10 y11 ∧ Same H11 H')
          ⟨_, _, _, rfl, Same.refl H11⟩ (fun j σ H' _ ⟨_, _, _, _, s⟩ => SqL.of (s _ _ epd11)) ?_ ?_⟩
        · rintro j x σ H12 hx ⟨z8, z9, z10, rfl, s12⟩
          obtain ⟨tt, ht, rfl⟩ : ∃ tt, ts[j]? = some tt ∧ x = .ref tt := by
            rw [List.getElem?_map] at hx
            cases e : ts[j]? with
            | none =>
              rw [e] at hx
              cases hx
            | some t =>
              rw [e] at hx
              exact ⟨t, rfl, (Option.some.inj hx).symm⟩
          obtain ⟨tk, htk, e1⟩ := pget tks11 ht
          have e1 : H11 tt = some (.tup [.str (mk tk.1), .int tk.2.1, .int tk.2.2]) := e1
          obtain ⟨hW, hIs⟩ := wd tk (List.mem_of_getElem? htk)
          refine ⟨tt, _, rfl, SqT.of (s12 _ _ e1), rfl, _, _, rfl, _, _, rfl, _, _, rfl, rfl, ?_⟩
          have bad : isWord (mk tk.1) = false → False := fun z => by
            rw [hIs] at z
            cases z
          refine ⟨_, rfl, .str (mk tk.1), rfl, .inl ⟨mk tk.1, rfl, hW.1, fun _ H13 s13 => ?_, fun z => (bad z).elim⟩⟩
          refine ⟨_, rfl, mk tk.1, rfl, hW, fun H14 s14 => ⟨rfl, _, rfl, iteNS rfl ?_⟩⟩
          refine ⟨_, rfl, .str (mk tk.1), rfl, .inl ⟨mk tk.1, rfl, hW.1, fun _ H15 s15 => ?_, fun z => (bad z).elim⟩⟩
          refine ⟨_, rfl, mk tk.1, rfl, hW, fun H16 s16 => ⟨rfl, _, rfl, iteNS rfl ?_⟩⟩
          refine ⟨_, rfl, .str (mk tk.1), rfl, .inl ⟨mk tk.1, rfl, hW.1, fun H17 s17 => ?_⟩⟩
          refine ⟨_, rfl, mk tk.1, rfl, hW.1, hW.2.1, fun H18 s18 => ⟨rfl, _, rfl, iteNS rfl ?_⟩⟩
          exact ⟨_, _, _, rfl, s12.trans (s13.trans (s14.trans (s15.trans (s16.trans (s17.trans s18)))))⟩
        · rintro σ H12 h
          exact h
      rintro σ H12 ⟨z8, z9, z10, rfl, s12⟩
      -- what is refused
      have L12 := L11.same s12
      have kpd2 : pd ≠ d ∧ pd ≠ w := kpd
      refine ⟨_, rfl, _, rfl, d, w, c, pd, n5, ts, cut (tl t) 1 1, rfl, L12.draw, ?_, s12 _ _ epd11, tks11.same s12, kpd2.1, kpd2.2, fun y hy => ⟨?_, fun ch hch => ot ch ((cut_word _ _ _ y hy).1 ch hch)⟩, by omega, L12.tabs, fun H13 n' D' hn' b' t' => ⟨true, rfl, iteF ⟨_, _, _, _, _, _, _, _, _, n', rfl, L12.but D' b' t', by omega⟩⟩⟩
      · have : (2 : Nat) ^ 29 < 2 ^ 30 := by decide
        omega
      · have := cut_len _ _ _ y hy
        have := len_tl t
        omega
    · rintro σ H4 ⟨y3, y4, y5, y6, y7, y8, y9, y10, y11, n, rfl, L4, hn4⟩
      have : (24 * 2100 : Nat) < 2 ^ 30 := by decide
      exact ⟨_, _, _, _, _, _, _, _, _, n, rfl, L4, by omega⟩
  rintro σ H4 ⟨y3, y4, y5, y6, y7, y8, y9, y10, y11, n, rfl, L4, hn4⟩
  refine ⟨_, rfl, by show 1 ≤ sizeLine; decide, fun p1 hp1 => ⟨by show 8 ≤ sizeLine; decide, fun p2 hp2 => ?_⟩⟩
  have s1 : Same H4 (upd H4 p1 (.lst [V.str "a"])) := Same.new hp1
  have s2 : Same (upd H4 p1 (.lst [V.str "a"])) (upd (upd H4 p1 (.lst [V.str "a"])) p2 (.lst [V.non, V.int 5, V.bl true, V.ref p1, V.str "", V.str "abcdefghi", V.str "Z", V.str "a b"])) := Same.new hp2
  have L5 := L4.same (s1.trans s2)
  have k1 := L4.draw.knowD hp1
  have k2 := L4.draw.knowD (s1.free hp2)
  have big40 : (2 : Nat) ^ 30 < 2 ^ 40 := by decide
  refine ⟨d, w, c, p2, n, _, rfl, L5.draw, by omega, k2.1, k2.2, SqL.of upd_same, by simp, by show 8 < 2 ^ 29; decide, fun y H5 hy D5 b5 => ?_⟩
  have z1 := b5 _ _ (s2 _ _ upd_same) k1.1 k1.2
  simp only [List.mem_cons, List.not_mem_nil, or_false] at hy
  have no : isName "" = false ∧ isName "abcdefghi" = false ∧ isName "Z" = false ∧ isName "a b" = false := by decide +kernel
  rcases hy with rfl | rfl | rfl | rfl | rfl | rfl | rfl | rfl
  · exact ⟨_, rfl, .inr ⟨(show NotD d w H5 _ from .inl rfl).notS, false, false, rfl, rfl, rfl⟩⟩
  · exact ⟨_, rfl, .inr ⟨(show NotD d w H5 _ from .inr (.inl ⟨5, rfl⟩)).notS, false, false, rfl, rfl, rfl⟩⟩
  · exact ⟨_, rfl, .inr ⟨(show NotD d w H5 _ from .inr (.inr (.inl ⟨true, rfl⟩))).notS, false, false, rfl, rfl, rfl⟩⟩
  · exact ⟨_, rfl, .inr ⟨(show NotD d w H5 _ from .inr (.inr (.inr ⟨p1, rfl, k1.1, k1.2, .inl ⟨_, z1⟩⟩))).notS, false, false, rfl, rfl, rfl⟩⟩
  · exact ⟨_, rfl, .inl ⟨_, rfl, by decide +kernel, fun H6 s6 => ⟨_, false, rfl, rfl, by rw [no.1]; rfl⟩⟩⟩
  · exact ⟨_, rfl, .inl ⟨_, rfl, by decide +kernel, fun H6 s6 => ⟨_, false, rfl, rfl, by rw [no.2.1]; rfl⟩⟩⟩
  · exact ⟨_, rfl, .inl ⟨_, rfl, by decide +kernel, fun H6 s6 => ⟨_, false, rfl, rfl, by rw [no.2.2.1]; rfl⟩⟩⟩
  · exact ⟨_, rfl, .inl ⟨_, rfl, by decide +kernel, fun H6 s6 => ⟨_, false, rfl, rfl, by rw [no.2.2.2]; rfl⟩⟩⟩
end
end SA
set_option Elab.async false
set_option linter.all false
set_option maxRecDepth 100000
set_option maxHeartbeats 4000000
/-! ### the law's def, one of whose callees has a table of code objects -/
namespace SA
open PySem PySem.Spec PyProof.Rows L2
/-- what the law's def does when the claim's caller calls it, the table at Pt being empty -/
def LawRunT (P : Program) (w : World) (K : PySem.W.Frag) (mg : Str → Option Value) (base : Heap) (fa : Addr) (n : Nat) (Pt : Addr) : Prop :=
  ∀ (s : Shared) (H : Hp) (a : Addr) (ns : List Int), Env0 P w K mg base callerA [] s H → H Pt = some (.tbl #[]) → SqL K H a (ns.map V.int) → ns.length ≤ n →
    codeAny (model P w) callerA (.call (.ref fa) ⟨[.ref a], []⟩) (CR CX0 [] P w H s (fun v _ => v = .bl true) E0) s
abbrev noTab : Obj := { cls := .none, data := .fields #[] }
section
variable {P : Program} {w : World} {K : PySem.W.Frag} {mg mb : Str → Option Value} {fa a cc Pt : Addr} {s : Shared} {vs : List Value} {ns : List Int} {n : Nat}
theorem lawT_from (KX : K.In s.heap) (hns : s.heap.Ns mainGlobals mg) (hb : s.heap.Ns builtinsNs mb) (hbb : ∀ x : Str, x ≠ "__name__" → mb x = bootBuiltins x) (hlim : s.heap.NoLimit) (hg : s.gens = #[])
    (hT : s.heap.get? Pt = some noTab) (nT : K.lookup Pt = none) (C : PySem.W.CodeHd s.heap cc Pt)
    (hbm : ∃ (bm : Addr) (ob : Obj), mg "__builtins__" = some (.ref bm) ∧ bm ≠ builtinsNs ∧ s.heap.get? bm = some ob ∧ ob.cls = .type "module" ∧ ob.dict = some builtinsNs ∧ ob.data = .plain)
    (ha : s.heap.get? a = some { cls := .type "list", data := .seq vs.toArray }) (hn : ns.length ≤ n) (F : ∀ base : Heap, K.In base → base.Ns mainGlobals mg → LamX.TabB base mg cc Pt → LawRunT P w K mg base fa n Pt)
    (H : Hp) (hP : H Pt = some (.tbl #[])) (hO : ∀ b, H b = none ∨ b = Pt ∨ ∃ ob xs, H b = some (.frz ob (.lst xs))) (hS : SqL K H a (ns.map V.int)) (hok : HOk P w H s.heap) (hA : ∀ b, H b ≠ none → b = a ∨ b = Pt) (hK : H a ≠ none → K.lookup a = none) :
    codeAny (model P w) callerA (.call (.ref fa) ⟨[.ref a], []⟩) (Done s) s := by
  -- what is neither the script nor the table is not tracked
  have un : ∀ {b : Addr} {o : Obj}, s.heap.get? b = some o → (∀ v k, o.data ≠ .seq v k) → o.data ≠ .fields #[] → H b = none := fun {b o} e h1 h2 => by
    cases q : H b with
    | none => rfl
    | some u =>
      rcases hA b (by rw [q]; simp) with z | z
      · cases e.symm.trans (z ▸ ha)
        exact (h1 _ _ rfl).elim
      · cases e.symm.trans (z ▸ hT)
        exact (h2 rfl).elim
  have stay : ∀ {b : Addr} {o : Obj}, s.heap.get? b = some o → H b = none → (hidT s.heap H).get? b = some o := fun e q => hidT_get e q
  have nsd : ∀ {b : Addr} {m : Str → Option Value}, s.heap.Ns b m → (hidT s.heap H).Ns b m := fun {b m} ⟨o, es, ep, e, d, r⟩ =>
    ⟨o, es, ep, stay e (un e (fun v k z => by rw [d] at z; cases z) fun z => by rw [d] at z; cases z), d, r⟩
  have kin : K.In (hidT s.heap H) := fun b o e => stay (KX b o e) (by
    cases q : H b with
    | none => rfl
    | some u =>
      rcases hA b (by rw [q]; simp) with z | z
      · cases (hK (by rw [← z, q]; simp)).symm.trans (z ▸ e)
      · cases nT.symm.trans (z ▸ e))
  have tb : LamX.TabB (hidT s.heap H) mg cc Pt := by
    refine ⟨?_, ?_, fun z => ?_⟩
    · obtain ⟨o, us, f, tf, fl, tg, iF, tx, tt, e1, r1, r2, r3, r4⟩ := C
      refine ⟨o, us, f, tf, fl, tg, iF, tx, tt, stay e1 (un e1 (fun v k z => by rw [r2] at z; cases z) fun z => ?_), r1, r2, r3, r4⟩
      rw [r2] at z
      cases z
      simp at r3
    · obtain ⟨bm, ob, b1, b2, b3, b4, b5, b6⟩ := hbm
      refine ⟨bm, ob, b1, b2, fun z => ?_, fun z => ?_, stay b3 (un b3 (fun v k z => by rw [b6] at z; cases z) fun z => by rw [b6] at z; cases z), b4, b5, b6⟩
      · obtain ⟨o, es, ep, e, d, _⟩ := hns
        cases e.symm.trans (z ▸ b3)
        rw [b6] at d
        cases d
      · cases hT.symm.trans (z ▸ b3)
        cases b6
    · obtain ⟨o, es, ep, e, d, _⟩ := hns
      cases hT.symm.trans (z ▸ e)
      cases d
  have env : Env0 P w K mg (hidT s.heap H) callerA [] s H :=
    ⟨rfl, ⟨kin, nsd hns, ⟨mb, nsd hb, hbb⟩, let ⟨mc, h1, h2⟩ := hlim; ⟨mc, nsd h1, h2⟩⟩, fun b o e => of_hidT e, Nat.le_of_eq (hidT_size _ _), trivial, fun b z => absurd (show b ∈ ([] : List Addr) from z) (by simp), hok, .of_eq hg⟩
  refine codeAny_mono (F _ kin (nsd hns) tb s H a ns env hP hS hn) fun r t h => ?_
  match r, h with
  | .error _, h => exact h.elim
  | .ok .next, h => exact h.elim
  | .ok .brk, h => exact h.elim
  | .ok .cont, h => exact h.elim
  | .ok (.ret u), ⟨v, H', os, bare, ux, hok', rv, q⟩ =>
    cases (show v = .bl true from q)
    obtain rfl : u = Value.bool true := rv
    have other : ∀ b o, b ≠ Pt → s.heap.get? b = some o → t.heap.get? b = some o := fun b o nb e => by
      rcases hO b with z | z | ⟨ob, xs, z⟩
      · exact ux.keep b o e z (fun y => absurd (show b ∈ ([] : List Addr) from y) (by simp)) (by simp)
      · exact absurd z nb
      · obtain ⟨q1, _⟩ := hok b _ z
        obtain ⟨q2, _⟩ := hok' b _ (ux.frzs b ob _ z)
        rw [Option.some.inj (e.symm.trans q1)]
        exact q2
    obtain ⟨more, z⟩ := ux.tbls Pt #[] hP
    have grown : t.heap.get? Pt = some { cls := .none, data := .fields (#[] ++ more) } := hok' Pt _ z
    refine ⟨rfl, ⟨fun b o e => ?_, fun b o e => ?_⟩, os, bare⟩
    · by_cases nb : b = Pt
      · subst nb
        cases hT.symm.trans e
        exact .inr (.inl ⟨(C.tab hT).isCodeTable, rfl, #[], more, rfl, grown⟩)
      · exact .inl (other b o nb e)
    · by_cases nb : b = Pt
      · subst nb
        exact ⟨_, grown⟩
      · exact ⟨o, other b o nb e⟩
theorem lawT_call (KX : K.In s.heap) (hns : s.heap.Ns mainGlobals mg) (hb : s.heap.Ns builtinsNs mb) (hbb : ∀ x : Str, x ≠ "__name__" → mb x = bootBuiltins x) (hlim : s.heap.NoLimit) (hg : s.gens = #[])
    (hT : s.heap.get? Pt = some noTab) (nT : K.lookup Pt = none) (C : PySem.W.CodeHd s.heap cc Pt)
    (hbm : ∃ (bm : Addr) (ob : Obj), mg "__builtins__" = some (.ref bm) ∧ bm ≠ builtinsNs ∧ s.heap.get? bm = some ob ∧ ob.cls = .type "module" ∧ ob.dict = some builtinsNs ∧ ob.data = .plain)
    (ha : s.heap.get? a = some { cls := .type "list", data := .seq vs.toArray }) (hi : IntsAre vs ns) (hl : ns.length ≤ sizeLine) (hn : ns.length ≤ n) (F : ∀ base : Heap, K.In base → base.Ns mainGlobals mg → LamX.TabB base mg cc Pt → LawRunT P w K mg base fa n Pt) :
    codeAny (model P w) callerA (.call (.ref fa) ⟨[.ref a], []⟩) (Done s) s := by
  have rv := vals_ints hi
  have aP : a ≠ Pt := fun z => by
    cases hT.symm.trans (z ▸ ha)
  by_cases hk : K.lookup a = none
  · let H : Hp := fun b => if b = Pt then some (.tbl #[]) else if b = a then some (.frz { cls := .type "list", data := .seq vs.toArray } (.lst (ns.map V.int))) else none
    have eP : H Pt = some (.tbl #[]) := if_pos rfl
    have ea : H a = some (.frz { cls := .type "list", data := .seq vs.toArray } (.lst (ns.map V.int))) := (if_neg aP).trans (if_pos rfl)
    have en : ∀ b, b ≠ Pt → b ≠ a → H b = none := fun b h1 h2 => (if_neg h1).trans (if_neg h2)
    refine lawT_from KX hns hb hbb hlim hg hT nT C hbm ha hn F H eP (fun b => ?_) (.inl (.inr ⟨_, ea⟩)) (fun b u z => ?_) (fun b z => ?_) fun _ => hk
    · by_cases h1 : b = Pt
      · exact .inr (.inl h1)
      · by_cases h2 : b = a
        · exact .inr (.inr ⟨_, _, h2 ▸ ea⟩)
        · exact .inl (en b h1 h2)
    · by_cases h1 : b = Pt
      · subst h1
        cases eP.symm.trans z
        exact hT
      · by_cases h2 : b = a
        · subst h2
          cases ea.symm.trans z
          exact ⟨ha, by rw [List.length_map]; exact hl, vs, _, rv, ha⟩
        · cases (en b h1 h2).symm.trans z
    · by_cases h1 : b = Pt
      · exact .inr h1
      · by_cases h2 : b = a
        · exact .inl h2
        · exact absurd (en b h1 h2) z
  · obtain ⟨o, ho⟩ := Option.ne_none_iff_exists'.mp hk
    have e := KX a o ho
    rw [ha] at e
    cases e
    let H : Hp := fun b => if b = Pt then some (.tbl #[]) else none
    have eP : H Pt = some (.tbl #[]) := if_pos rfl
    have en : ∀ b, b ≠ Pt → H b = none := fun b h1 => if_neg h1
    refine lawT_from KX hns hb hbb hlim hg hT nT C hbm ha hn F H eP (fun b => ?_) (.inr ⟨_, vs.toArray, _, ho, rfl, rfl, rfl, by rw [List.size_toArray, hi.length]; exact hl, by simpa using rv⟩) (fun b u z => ?_) (fun b z => ?_) fun z => absurd (en a aP) z
    · by_cases h1 : b = Pt
      · exact .inr (.inl h1)
      · exact .inl (en b h1)
    · by_cases h1 : b = Pt
      · subst h1
        cases eP.symm.trans z
        exact hT
      · cases (en b h1).symm.trans z
    · by_cases h1 : b = Pt
      · exact .inr h1
      · exact absurd (en b h1) z
end
/-- the goal that the head leaves, from what the law's def does -/
theorem walk_T {l : PySem.W.OpenLaw} {n : Nat} {q : Program} {loose : List Str} {XP : (Str → Option Value) → Heap → Prop} {YP : World → Heap → Prop} {d : DefRec} (hn : l.most = some n) (hn2 : n ≤ sizeLine) (hdf : d.params.defaults = [])
    (F : ∀ (w : World) (mg : Str → Option Value) (fa : Addr) (h : Heap), YP w h → h.Ns mainGlobals mg → mg d.name = some (.ref fa) →
      ∃ (K : PySem.W.Frag) (cc Pt : Addr), K.In h ∧ h.get? Pt = some noTab ∧ K.lookup Pt = none ∧ PySem.W.CodeHd h cc Pt ∧ ∀ base : Heap, K.In base → base.Ns mainGlobals mg → LamX.TabB base mg cc Pt → LawRunT l.prog w K mg base fa n Pt) :
    PySem.W.WalkO q loose XP YP l.row.toRowW d [] (fun f vs => PySem.call f vs) := by
  refine Att.attach_call hn hdf fun w s₀ s₁ mg mb fa o pm cd doc a vs ns G Y ho hd hcd hmg hobj hints hlen hg => ?_
  obtain ⟨K, cc, Pt, KX, hT, nT, C, hF⟩ := F w mg fa _ Y G.T.g hmg
  exact lawT_call KX G.T.g G.T.b G.T.builtins G.T.nolimit hg hT nT C G.T.bmain hobj hints (Nat.le_trans hlen hn2) hlen hF
/-- LawRunT from the body of the law's def -/
theorem lawT_run {P : Program} {w : World} {K : PySem.W.Frag} {mg : Str → Option Value} {base : Heap} {fa Pt : Addr} {fd : FuncData} {st : Stmt} {N : List Str} {x : Str} {n k : Nat} (F : Fun K "law" "law" st fa fd) (S : FnScope N [x] (defScope st))
    (hb : ∀ (s : Shared) (u : Value), BindsTo s fd ⟨[u], []⟩ [(x, u)]) (hr : Room (k + 1) callerA)
    (body : ∀ (cdv : Value) (s : Shared) (H : Hp) (a : Addr) (ns : List Int), Room k (callerA.deeper (envOfC "law" (defScope st) s.heap.objs.size fa cdv)) → H Pt = some (.tbl #[]) → SqL K H a (ns.map V.int) → ns.length ≤ n →
      ∃ t, PSs (cxOf CX0 P w K mg base N "law" (defScope st) fa cdv callerA [] s H E0).nox (defBody st) t ∧ t { nx := fun _ _ => V.non = V.bl true, rt := fun v _ => v = .bl true } (start N [.ref a]) H) :
    LawRunT P w K mg base fa n Pt := by
  intro s H a ns env hP hS hn
  obtain ⟨oc, od, kV, doc, pm, an, cdv, ct, osl, rfl, lk, hcd⟩ := F.ex
  refine LamX.run_ofS (k := k) (N := N) (ps := [x]) (us := [.ref a]) (vs := [.ref a]) (Q := fun v _ => v = .bl true) (E := E0) lk hcd S hr env (hb s (.ref a)) (.cons rfl .nil) rfl fun hr' => ?_
  obtain ⟨t, h1, h2⟩ := body cdv s H a ns hr' hP hS hn
  exact ⟨t, h1.nox, h2⟩
end SA
set_option Elab.async false
set_option linter.all false
set_option maxRecDepth 100000
set_option maxHeartbeats 0
namespace SA
open PySem PySem.Spec PyProof.Rows L2 K1
/-! ### what the top has left -/
abbrev fIs (K : PySem.W.Frag) (C : Addr) (x : Str) (v : Option Value) : Bool := decide (PySem.W.findIn K (.ref C) x = some v)
def excB (K : PySem.W.Frag) (C : Addr) : Bool :=
  fIs K C "__getattribute__" (some (.builtin "BaseException.__getattribute__")) && (fIs K C "__getattr__" none && (decide (PySem.W.subIn K (.ref C) (.type "BaseException") = some true) && (PySem.W.hasDictIn K C && (fIs K C "__class__" (some (.builtin "object.__class__")) &&
    (decide (PySem.W.specialIn K (.builtin "object.__class__") "__get__" = some (some (.builtin "getset_descriptor.__get__"))) && (decide (PySem.W.takesIn K (.builtin "object.__class__") = some true) && decide (PySem.W.mroIn K C (.type "object") = some true)))))))
theorem excB_ok {K : PySem.W.Frag} {C : Addr} (h : excB K C = true) : ExcC K C ∧ XfC K C := by
  unfold excB at h
  simp only [Bool.and_eq_true, decide_eq_true_eq] at h
  obtain ⟨h1, h2, h3, h4, h5, h6, h7, h8⟩ := h
  exact ⟨⟨h1, h2, h3, h4, h5, h6, h7, h8⟩, ⟨h1, h2, h3, h4⟩⟩
/-- an exception class whose objects have a dict and its own or a base's __init__ -/
def oexB (K : PySem.W.Frag) (C : Addr) : Bool := match K.lookup C with
  | some ⟨.type t, _, .cls cd, sl⟩ => (match cd.mro, sl.toList with
    | .ref C' :: bm, [_, _, _, _, some (.builtin n), _] => decide (t = "type") && (decide (C' = C) && (decide (n = "ValueError.__new__") && (!cd.hasDel && (cd.hasDict && PySem.HandSPX.refsVE bm))))
    | _, _ => false)
  | _ => false
def oexB2 (K : PySem.W.Frag) (C : Addr) : Bool := oexB K C && (fIs K C "__setattr__" (some (.builtin "object.__setattr__")) && (decide (PySem.W.subIn K (.ref C) (.type "BaseException") = some true) && (decide (PySem.W.typeIn K (.ref C) = some (.type "type")) && PySem.W.keepIn K (.ref C))))
theorem oexB_ok {K : PySem.W.Frag} {C : Addr} (h : oexB2 K C = true) : OexC K C := by
  unfold oexB2 at h
  simp only [Bool.and_eq_true, decide_eq_true_eq] at h
  obtain ⟨h0, h1, h2, h3, h4⟩ := h
  refine ⟨?_, h1, h2, h3, h4⟩
  unfold oexB at h0
  split at h0
  · rename_i t dd cd sl e
    split at h0
    · rename_i C' bm k0 k1 k2 k3 n k5 hm hs
      simp only [Bool.and_eq_true, decide_eq_true_eq, Bool.not_eq_true'] at h0
      obtain ⟨rfl, rfl, rfl, hd, hh, hr⟩ := h0
      obtain ⟨nm, bs, mro, ns, qn, hdct, sn, sub, ab, col, del⟩ := cd
      dsimp only at hm hd hh
      subst hm hd hh
      obtain ⟨l⟩ := sl
      dsimp only at hs
      subst hs
      exact ⟨nm, qn, ns, bs, bm, sn, sub, ab, col, dd, k0, k1, k2, k3, k5, e, hr⟩
    · cases h0
  · cases h0
def ownB (K : PySem.W.Frag) (C : Addr) (fs : List Str) : Bool := oexB2 K C && (fIs K C "__init__" (some (.ref (He.ma K C "__init__"))) && (decide (PySem.W.typeIn K (.ref (He.ma K C "__init__")) = some (.type "function")) && fs.all fun x => fIs K C x none))
theorem ownB_ok {K : PySem.W.Frag} {C : Addr} {fs : List Str} (h : ownB K C fs = true) : Own24 K C (He.ma K C "__init__") fs := by
  unfold ownB at h
  simp only [Bool.and_eq_true, decide_eq_true_eq, List.all_eq_true] at h
  obtain ⟨h1, h2, h3, h4⟩ := h
  exact ⟨oexB_ok h1, h2, h3, h4⟩
def sysB (K : PySem.W.Frag) : Bool := match K.lookup sysModules with
  | some o => decide (o.cls = .type "dict")
  | none => false
theorem sysB_ok {K : PySem.W.Frag} (h : sysB K = true) : SysK K := by
  unfold sysB at h
  split at h
  · rename_i o e
    exact ⟨o, e, of_decide_eq_true h⟩
  · cases h
theorem FunD_fun {K : PySem.W.Frag} {x qual : Str} {st : Stmt} {f : Addr} (h : ∃ fd, FunD K x qual (defArgs st) (defBody st) (defScope st) [] [] f fd) : ∃ fd, Fun K x qual st f fd := by
  obtain ⟨fd, F⟩ := h
  exact ⟨fd, SA.FunD.toFun F⟩
def dLawBegunL : He.DefD := ⟨("_law_begun", none), "_law_begun", "_law_begun", defArgs sBegun, defBody sBegun, defScope sBegun, [], []⟩
def dLawMixedL : He.DefD := ⟨("_law_mixed", none), "_law_mixed", "_law_mixed", defArgs sMixed, defBody sMixed, defScope sMixed, [], []⟩
def dLawTakeL : He.DefD := ⟨("_law_take", none), "_law_take", "_law_take", defArgs sTake, defBody sTake, defScope sTake, [], []⟩
def dLawPickL : He.DefD := ⟨("_law_pick", none), "_law_pick", "_law_pick", defArgs sPick, defBody sPick, defScope sPick, [], []⟩
def dLawKeptL : He.DefD := ⟨("_law_kept", none), "_law_kept", "_law_kept", defArgs sKept, defBody sKept, defScope sKept, [], []⟩
def dLawIsSmallL : He.DefD := ⟨("_law_is_small", none), "_law_is_small", "_law_is_small", defArgs sIsSmall, defBody sIsSmall, defScope sIsSmall, [], []⟩
def dLawIsNameL : He.DefD := ⟨("_law_is_name", none), "_law_is_name", "_law_is_name", defArgs sLIsName, defBody sLIsName, defScope sLIsName, [], []⟩
def dLawSortL : He.DefD := ⟨("_law_sort", none), "_law_sort", "_law_sort", defArgs sLSort, defBody sLSort, defScope sLSort, [], []⟩
def dLawCaughtL : He.DefD := ⟨("_law_caught", none), "_law_caught", "_law_caught", defArgs sCaught, defBody sCaught, defScope sCaught, [], []⟩
def dLawInnerL : He.DefD := ⟨("_law_inner", none), "_law_inner", "_law_inner", defArgs sLInner, defBody sLInner, defScope sLInner, [], []⟩
def dLawWordAtL : He.DefD := ⟨("_law_word_at", none), "_law_word_at", "_law_word_at", defArgs sWordAt, defBody sWordAt, defScope sWordAt, [], []⟩
def dLawCutL : He.DefD := ⟨("_law_cut", none), "_law_cut", "_law_cut", defArgs sCut, defBody sCut, defScope sCut, [], []⟩
def dLawRefusedRightL : He.DefD := ⟨("_law_refused_right", none), "_law_refused_right", "_law_refused_right", defArgs sRef, defBody sRef, defScope sRef, [], []⟩
def dLaw : He.DefD := ⟨("law", none), "law", "law", defArgs sLaw, defBody sLaw, defScope sLaw, [], []⟩
def dIsName : He.DefD := ⟨("is_name", none), "is_name", "is_name", defArgs sIsName, defBody sIsName, defScope sIsName, [], []⟩
def dIsText : He.DefD := ⟨("is_text", none), "is_text", "is_text", defArgs sIsText, defBody sIsText, defScope sIsText, [], []⟩
def dWordEnd : He.DefD := ⟨("word_end", none), "word_end", "word_end", defArgs sWordEnd, defBody sWordEnd, defScope sWordEnd, [], []⟩
def dInnerEnd : He.DefD := ⟨("_inner_end", none), "_inner_end", "_inner_end", defArgs sInner, defBody sInner, defScope sInner, [], []⟩
def dSortOf : He.DefD := ⟨("sort_of", none), "sort_of", "sort_of", defArgs sSortOf, defBody sSortOf, defScope sSortOf, [], []⟩
def dSortTold : He.DefD := ⟨("sort_told", none), "sort_told", "sort_told", defArgs sSortTold, defBody sSortTold, defScope sSortTold, [], []⟩
def dIsFigures : He.DefD := ⟨("_is_figures", none), "_is_figures", "_is_figures", defArgs sFigures, defBody sFigures, defScope sFigures, [], []⟩
def dScanned : He.DefD := ⟨("scanned", none), "scanned", "scanned", defArgs sScanned, defBody sScanned, defScope sScanned, [], []⟩
def dWordsOf : He.DefD := ⟨("words_of", none), "words_of", "words_of", defArgs sWordsOf, defBody sWordsOf, defScope sWordsOf, [], []⟩
def dBadTextInit : He.DefD := ⟨("BadText", some "__init__"), "__init__", "BadText.__init__", defArgs sI_BadText, defBody sI_BadText, defScope sI_BadText, [], []⟩
def fn01 : List He.DefD := [dLawBegunL, dLawMixedL, dLawTakeL, dLawPickL, dLawKeptL, dLawIsSmallL, dLawIsNameL, dLawSortL, dLawCaughtL, dLawInnerL, dLawWordAtL, dLawCutL, dLawRefusedRightL, dLaw, dIsName, dIsText, dWordEnd, dInnerEnd, dSortOf, dSortTold, dIsFigures, dScanned, dWordsOf, dBadTextInit]
def fa01 : List He.Fa := [.glo "_law_begun", .glo "_law_mixed", .glo "_law_take", .glo "_law_pick", .glo "_law_kept", .glo "_law_is_small", .glo "_law_is_name", .glo "_law_sort", .glo "_law_caught", .glo "_law_inner", .glo "_law_word_at", .glo "_law_cut", .glo "_law_refused_right", .glo "law", .glo "is_name", .glo "is_text", .glo "word_end", .glo "_inner_end", .glo "sort_of", .glo "sort_told", .glo "_is_figures", .glo "scanned", .glo "words_of", .glo "KEPT", .glo "SIGNS", .str "LETTERS" lettersS, .str "INNER" innerS, .int "PERCENT" 37, .glo "StopError", .glo "BadWord", .glo "BadText", .exc "BadWord", .exm "BadText" "StopError" true, .exm "BadWord" "StopError" true, .free "int", .free "abs", .free "len", .free "isinstance", .free "str", .free "ord", .free "all", .free "repr", .free "tuple", .free "range", .free "min", .free "ValueError"]
def ex01 (K : PySem.W.Frag) : Bool := sysB K && (He.tupB K "KEPT" (keptS.map He.Dv.str) && (He.tupB K "SIGNS" (signsS.map He.Dv.str) && (excB K (He.ga K "BadText") && (excB K (He.ga K "BadWord") && (ownB K (He.ga K "BadText") ["line", "column", "wanted"] &&
  (decide (PySem.W.subIn K (.ref (He.ga K "BadText")) (.type "BaseException") = some true) && (decide (PySem.W.typeIn K (.ref (He.ga K "BadText")) = some (.type "type")) && (decide (PySem.W.kitOne K (.ref (He.ga K "BadText")) (.ref (He.ga K "BadText")) = some true) &&
  (decide (PySem.W.kitOne K (.ref (He.ga K "BadText")) (.type "ValueError") = some true) && decide (PySem.W.kitOne K (.ref (He.ga K "BadWord")) (.ref (He.ga K "BadWord")) = some true))))))))))
def tf01 : List He.Defn := [("_law_refused_right", none)]
abbrev Al : Type := He.AlD × Bool
def frag01 (g : Addr → Option Obj) : PySem.W.Frag := He.frT g (sysModules :: He.asD g 4)
def obs01 (g : Addr → Option Obj) : Al := (He.obsD fa01 fn01 (frag01 g), ex01 (frag01 g) && He.tabsB g tf01 (frag01 g))
def val01 : Al := (He.valD fn01, true)
/-- what the end leans on -/
structure Says01 (h : Heap) (K : PySem.W.Frag) : Prop where
  d : He.SaysD fa01 fn01 K
  more : ex01 K = true
  hd : PySem.W.codeHdIn K (He.cT K ("_law_refused_right", none)).1 (He.cT K ("_law_refused_right", none)).2 = true
  out : K.lookup (He.cT K ("_law_refused_right", none)).2 = none
  empty : h.get? (He.cT K ("_law_refused_right", none)).2 = some noTab
theorem says_of {h : Heap} (e : obs01 h.get? = val01) : Says01 h (frag01 h.get?) := by
  have e1 : He.obsD fa01 fn01 (frag01 h.get?) = He.valD fn01 := congrArg (fun z : Al => z.1) e
  have e2 : (ex01 (frag01 h.get?) && He.tabsB h.get? tf01 (frag01 h.get?)) = true := congrArg (fun z : Al => z.2) e
  obtain ⟨h1, h2⟩ := Bool.and_eq_true_iff.mp e2
  obtain ⟨h3, h4⟩ := Bool.and_eq_true_iff.mp (List.all_eq_true.mp h2 ("_law_refused_right", none) (List.mem_singleton.mpr rfl))
  match q : h.get? (He.cT (frag01 h.get?) ("_law_refused_right", none)).2 with
  | none =>
    rw [q] at h4
    cases h4
  | some u =>
    rw [q] at h4
    exact ⟨e1, h1, h3, He.frT_none q h4, by rw [q, He.emptyTab_eq h4]⟩
def hk01 : PySem.W.Hook where
  α := Al
  obs := fun s => obs01 s.heap.get?
  val := fun _ => val01
  says := fun _ h => ∃ K : PySem.W.Frag, K.In h ∧ Says01 h K
  of := fun _ _ e => ⟨_, He.frT_in, says_of e⟩
  keeps := fun _ _ _ ⟨K, hK, c⟩ k => ⟨K, PySem.W.Frag.In.keeps hK k, ⟨c.d, c.more, c.hd, c.out, k _ _ c.empty⟩⟩
abbrev R : PySem.W.OpenRow := PySem.W.OpenLaw.row PySem.Challenge.rw_stopanywhere_k01_words_of_texts
def ob01 (s : PySem.W.SharedT) : Al := obs01 (HandSHeadRun.getT s)
theorem ob_eq (s : PySem.W.SharedT) : ob01 s = hk01.obs s.abs := by
  have e : HandSHeadRun.getT s = s.abs.heap.get? := funext (HandSHeadRun.getT_eq s)
  unfold ob01
  rw [e] <;> rfl
theorem kb1 {K : PySem.W.Frag} {x qual p : Str} {st : Stmt} {f : Addr} {fd : FuncData} (F : Fun K x qual st f fd)
    (h1 : ∀ (kV doc pm : Value) (an : Option Addr) (cdv ct u : Value), bindArgs (PySem.W.fnOf x qual (defArgs st) (defBody st) (defScope st) .none kV doc pm an cdv ct) ⟨[u], []⟩ = pure [(p, u)])
    (h2 : ∀ (kV doc pm : Value) (an : Option Addr) (cdv ct u : Value), bindArgs (PySem.W.fnOf x qual (defArgs st) (defBody st) (defScope st) .none kV doc pm an cdv ct) ⟨[], [(p, u)]⟩ = pure [(p, u)]) : KBinds K fd [p] [p] cat1 cat1 := by
  obtain ⟨oc, od, kV, doc, pm, an, cdv, ct, osl, rfl, _, _⟩ := F.ex
  refine ⟨fun s us ws _ hl => ?_, fun r rz => r.append rz⟩
  match us, ws, hl with
  | [u], [], _ => exact .of_eq (h1 kV doc pm an cdv ct u)
  | [], [u], _ => exact .of_eq (h2 kV doc pm an cdv ct u)
  | [], [], hl => cases hl
  | [], _ :: _ :: _, hl => simp at hl
  | _ :: _ :: _, _, hl => simp at hl
  | [_], _ :: _, hl => simp at hl
section
variable {P : Program} {w0 : World} {K : PySem.W.Frag} {h : Heap} {mg : Str → Option Value} {fL : Addr}
theorem law_of (X : K.In h) (G : h.Ns mainGlobals mg) (hfa : mg ("law" : Str) = some (.ref fL)) (c : Says01 h K) (base : Heap) (TB : LamX.TabB base mg (He.cT K ("_law_refused_right", none)).1 (He.cT K ("_law_refused_right", none)).2) :
    LawRunT P w0 K mg base fL 63 (He.cT K ("_law_refused_right", none)).2 := by
  have c2 := c.d
  obtain ⟨fd0, F0⟩ := FunD_fun (st := sBegun) (c2.def_ 0 (d := dLawBegunL) rfl)
  have g0 := He.glo_ok X G (c2.fact 0 (f := .glo "_law_begun") rfl)
  have b0 := F0.binds (ps := ["script"]) fun _ _ _ _ _ _ us hl => match us, hl with | [_], _ => rfl
  obtain ⟨fd1, F1⟩ := FunD_fun (st := sMixed) (c2.def_ 1 (d := dLawMixedL) rfl)
  have g1 := He.glo_ok X G (c2.fact 1 (f := .glo "_law_mixed") rfl)
  have b1 := F1.binds (ps := ["draw"]) fun _ _ _ _ _ _ us hl => match us, hl with | [_], _ => rfl
  obtain ⟨fd2, F2⟩ := FunD_fun (st := sTake) (c2.def_ 2 (d := dLawTakeL) rfl)
  have g2 := He.glo_ok X G (c2.fact 2 (f := .glo "_law_take") rfl)
  have b2 := F2.binds (ps := ["draw", "many"]) fun _ _ _ _ _ _ us hl => match us, hl with | [_, _], _ => rfl
  obtain ⟨fd3, F3⟩ := FunD_fun (st := sPick) (c2.def_ 3 (d := dLawPickL) rfl)
  have g3 := He.glo_ok X G (c2.fact 3 (f := .glo "_law_pick") rfl)
  have b3 := F3.binds (ps := ["draw", "some"]) fun _ _ _ _ _ _ us hl => match us, hl with | [_, _], _ => rfl
  obtain ⟨fd4, F4⟩ := FunD_fun (st := sKept) (c2.def_ 4 (d := dLawKeptL) rfl)
  have g4 := He.glo_ok X G (c2.fact 4 (f := .glo "_law_kept") rfl)
  have b4 := F4.binds (ps := []) fun _ _ _ _ _ _ us hl => match us, hl with | [], _ => rfl
  obtain ⟨fd5, F5⟩ := FunD_fun (st := sIsSmall) (c2.def_ 5 (d := dLawIsSmallL) rfl)
  have g5 := He.glo_ok X G (c2.fact 5 (f := .glo "_law_is_small") rfl)
  have b5 := F5.binds (ps := ["word"]) fun _ _ _ _ _ _ us hl => match us, hl with | [_], _ => rfl
  obtain ⟨fd6, F6⟩ := FunD_fun (st := sLIsName) (c2.def_ 6 (d := dLawIsNameL) rfl)
  have g6 := He.glo_ok X G (c2.fact 6 (f := .glo "_law_is_name") rfl)
  have b6 := F6.binds (ps := ["matter"]) fun _ _ _ _ _ _ us hl => match us, hl with | [_], _ => rfl
  obtain ⟨fd7, F7⟩ := FunD_fun (st := sLSort) (c2.def_ 7 (d := dLawSortL) rfl)
  have g7 := He.glo_ok X G (c2.fact 7 (f := .glo "_law_sort") rfl)
  have b7 := F7.binds (ps := ["word"]) fun _ _ _ _ _ _ us hl => match us, hl with | [_], _ => rfl
  obtain ⟨fd8, F8⟩ := FunD_fun (st := sCaught) (c2.def_ 8 (d := dLawCaughtL) rfl)
  have g8 := He.glo_ok X G (c2.fact 8 (f := .glo "_law_caught") rfl)
  have b8 := F8.binds (ps := ["work"]) fun _ _ _ _ _ _ us hl => match us, hl with | [_], _ => rfl
  obtain ⟨fd9, F9⟩ := FunD_fun (st := sLInner) (c2.def_ 9 (d := dLawInnerL) rfl)
  have g9 := He.glo_ok X G (c2.fact 9 (f := .glo "_law_inner") rfl)
  have b9 := F9.binds (ps := ["sign"]) fun _ _ _ _ _ _ us hl => match us, hl with | [_], _ => rfl
  obtain ⟨fd10, F10⟩ := FunD_fun (st := sWordAt) (c2.def_ 10 (d := dLawWordAtL) rfl)
  have g10 := He.glo_ok X G (c2.fact 10 (f := .glo "_law_word_at") rfl)
  have b10 := F10.binds (ps := ["text", "at"]) fun _ _ _ _ _ _ us hl => match us, hl with | [_, _], _ => rfl
  obtain ⟨fd11, F11⟩ := FunD_fun (st := sCut) (c2.def_ 11 (d := dLawCutL) rfl)
  have g11 := He.glo_ok X G (c2.fact 11 (f := .glo "_law_cut") rfl)
  have b11 := F11.binds (ps := ["text"]) fun _ _ _ _ _ _ us hl => match us, hl with | [_], _ => rfl
  obtain ⟨fd12, F12⟩ := FunD_fun (st := sRef) (c2.def_ 12 (d := dLawRefusedRightL) rfl)
  have g12 := He.glo_ok X G (c2.fact 12 (f := .glo "_law_refused_right") rfl)
  have b12 := F12.binds (ps := ["draw", "words"]) fun _ _ _ _ _ _ us hl => match us, hl with | [_, _], _ => rfl
  obtain ⟨fd13, F13⟩ := FunD_fun (st := sLaw) (c2.def_ 13 (d := dLaw) rfl)
  have g13 := He.glo_ok X G (c2.fact 13 (f := .glo "law") rfl)
  have b13 := F13.binds (ps := ["script"]) fun _ _ _ _ _ _ us hl => match us, hl with | [_], _ => rfl
  obtain ⟨fd14, F14⟩ := FunD_fun (st := sIsName) (c2.def_ 14 (d := dIsName) rfl)
  have g14 := He.glo_ok X G (c2.fact 14 (f := .glo "is_name") rfl)
  have b14 := F14.binds (ps := ["thing"]) fun _ _ _ _ _ _ us hl => match us, hl with | [_], _ => rfl
  obtain ⟨fd15, F15⟩ := FunD_fun (st := sIsText) (c2.def_ 15 (d := dIsText) rfl)
  have g15 := He.glo_ok X G (c2.fact 15 (f := .glo "is_text") rfl)
  have b15 := F15.binds (ps := ["thing"]) fun _ _ _ _ _ _ us hl => match us, hl with | [_], _ => rfl
  obtain ⟨fd16, F16⟩ := FunD_fun (st := sWordEnd) (c2.def_ 16 (d := dWordEnd) rfl)
  have g16 := He.glo_ok X G (c2.fact 16 (f := .glo "word_end") rfl)
  have b16 := F16.binds (ps := ["text", "at"]) fun _ _ _ _ _ _ us hl => match us, hl with | [_, _], _ => rfl
  obtain ⟨fd17, F17⟩ := FunD_fun (st := sInner) (c2.def_ 17 (d := dInnerEnd) rfl)
  have g17 := He.glo_ok X G (c2.fact 17 (f := .glo "_inner_end") rfl)
  have b17 := F17.binds (ps := ["text", "at"]) fun _ _ _ _ _ _ us hl => match us, hl with | [_, _], _ => rfl
  obtain ⟨fd18, F18⟩ := FunD_fun (st := sSortOf) (c2.def_ 18 (d := dSortOf) rfl)
  have g18 := He.glo_ok X G (c2.fact 18 (f := .glo "sort_of") rfl)
  have b18 := F18.binds (ps := ["word"]) fun _ _ _ _ _ _ us hl => match us, hl with | [_], _ => rfl
  obtain ⟨fd19, F19⟩ := FunD_fun (st := sSortTold) (c2.def_ 19 (d := dSortTold) rfl)
  have g19 := He.glo_ok X G (c2.fact 19 (f := .glo "sort_told") rfl)
  have b19 := F19.binds (ps := ["word"]) fun _ _ _ _ _ _ us hl => match us, hl with | [_], _ => rfl
  obtain ⟨fd20, F20⟩ := FunD_fun (st := sFigures) (c2.def_ 20 (d := dIsFigures) rfl)
  have g20 := He.glo_ok X G (c2.fact 20 (f := .glo "_is_figures") rfl)
  have b20 := F20.binds (ps := ["word"]) fun _ _ _ _ _ _ us hl => match us, hl with | [_], _ => rfl
  obtain ⟨fd21, F21⟩ := FunD_fun (st := sScanned) (c2.def_ 21 (d := dScanned) rfl)
  have g21 := He.glo_ok X G (c2.fact 21 (f := .glo "scanned") rfl)
  have b21 := F21.binds (ps := ["text"]) fun _ _ _ _ _ _ us hl => match us, hl with | [_], _ => rfl
  obtain ⟨fd22, F22⟩ := FunD_fun (st := sWordsOf) (c2.def_ 22 (d := dWordsOf) rfl)
  have g22 := He.glo_ok X G (c2.fact 22 (f := .glo "words_of") rfl)
  have b22 := F22.binds (ps := ["text"]) fun _ _ _ _ _ _ us hl => match us, hl with | [_], _ => rfl
  obtain ⟨fd23, F23⟩ := FunD_fun (st := sI_BadText) (c2.def_ 23 (d := dBadTextInit) rfl)
  have b23 := F23.binds (ps := ["self", "line", "column", "wanted"]) fun _ _ _ _ _ _ us hl => match us, hl with | [_, _, _, _], _ => rfl
  have z_int := He.free_ok X G (c2.fact 34 (f := .free "int") rfl)
  have z_abs := He.free_ok X G (c2.fact 35 (f := .free "abs") rfl)
  have z_len := He.free_ok X G (c2.fact 36 (f := .free "len") rfl)
  have z_isinstance := He.free_ok X G (c2.fact 37 (f := .free "isinstance") rfl)
  have z_str := He.free_ok X G (c2.fact 38 (f := .free "str") rfl)
  have z_ord := He.free_ok X G (c2.fact 39 (f := .free "ord") rfl)
  have z_all := He.free_ok X G (c2.fact 40 (f := .free "all") rfl)
  have z_repr := He.free_ok X G (c2.fact 41 (f := .free "repr") rfl)
  have z_tuple := He.free_ok X G (c2.fact 42 (f := .free "tuple") rfl)
  have z_range := He.free_ok X G (c2.fact 43 (f := .free "range") rfl)
  have z_min := He.free_ok X G (c2.fact 44 (f := .free "min") rfl)
  have z_ValueError := He.free_ok X G (c2.fact 45 (f := .free "ValueError") rfl)
  have g_KEPT := He.glo_ok X G (c2.fact 23 (f := .glo "KEPT") rfl)
  have g_SIGNS := He.glo_ok X G (c2.fact 24 (f := .glo "SIGNS") rfl)
  have g_StopError := He.glo_ok X G (c2.fact 28 (f := .glo "StopError") rfl)
  have g_BadWord := He.glo_ok X G (c2.fact 29 (f := .glo "BadWord") rfl)
  have g_BadText := He.glo_ok X G (c2.fact 30 (f := .glo "BadText") rfl)
  have s_L := He.str_ok X G (c2.fact 25 (f := .str "LETTERS" lettersS) rfl)
  have s_I := He.str_ok X G (c2.fact 26 (f := .str "INNER" innerS) rfl)
  have s_P := He.int_ok X G (c2.fact 27 (f := .int "PERCENT" 37) rfl)
  obtain ⟨xW, kW, bW, tW⟩ := He.exc_ok (c2.fact 31 (f := .exc "BadWord") rfl)
  have mT := He.exm_ok (c2.fact 32 (f := .exm "BadText" "StopError" true) rfl)
  have mW := He.exm_ok (c2.fact 33 (f := .exm "BadWord" "StopError" true) rfl)
  have m := c.more
  unfold ex01 at m
  simp only [Bool.and_eq_true, decide_eq_true_eq] at m
  obtain ⟨m1, m2, m3, m4, m5, m6, m7, m8, m9, m10, m11⟩ := m
  have mapE : ∀ l : List Str, (l.map He.Dv.str).map (He.Dv.v K) = l.map V.str := fun l => by
    rw [List.map_map]
    rfl
  have T : Top1 K mg (He.ga K "KEPT") (He.ga K "SIGNS") := ⟨g_KEPT, fun H => mapE keptS ▸ He.tupB_ok m2 H, g_SIGNS, fun H => mapE signsS ▸ He.tupB_ok m3 H, s_L, s_I, s_P⟩
  have OW := ownB_ok m6
  have ET : ErrT K mg (He.ga K "BadText") (He.ga K "BadWord") (He.ga K "StopError") (He.ma K (He.ga K "BadText") "__init__") := ⟨g_BadText, g_BadWord, g_StopError, (excB_ok m4).1, (excB_ok m5).1, (excB_ok m4).2, OW, mT, mW, m9, m10, m11⟩
  have cl : Cl0 K mg "BadWord" (He.ga K "BadWord") := ⟨g_BadWord, xW, kW, bW, tW⟩
  have hcc : fd12.code = .ref (He.cT K ("_law_refused_right", none)).1 := by
    obtain ⟨oc, od, kV, doc, pm, an, cdv, ct, osl, rfl, lk, hcd⟩ := F12.ex
    obtain ⟨c0, rfl⟩ := He.codeIn_ref hcd
    have e := He.codeOf_eq (K := K) (p := ("_law_refused_right", none)) (c := c0) lk rfl
    show Value.ref c0 = .ref (He.codeOf K ("_law_refused_right", none))
    rw [e]
  have e := hfa.symm.trans g13
  cases e
  have G1 : FnOk P w0 K mg base CX0 1 _ fd1 ["draw"] spMixed := ok_mixed F1 z_int
  have G0 : FnOk P w0 K mg base CX0 1 _ fd0 ["script"] (spBegun K) := ok_begun F0 z_int z_abs
  have G2 : FnOk P w0 K mg base CX0 2 _ fd2 ["draw", "many"] spTake := ok_take F2 F1 b1 g1 z_int G1
  have G3 : FnOk P w0 K mg base CX0 3 _ fd3 ["draw", "some"] (spPick K) := ok_pick F3 F2 b2 g2 z_len G2
  have G4 : FnOk P w0 K mg base CX0 1 _ fd4 [] spKept := ok_kept F4
  have G5 : FnOk P w0 K mg base CX0 1 _ fd5 ["word"] spSmall := ok_isSmall F5
  have G6 : FnOk P w0 K mg base CX0 2 _ fd6 ["matter"] (spLIsName K) := ok_lisName F6 z_isinstance z_str z_len F5 b5 g5 G5 F4 b4 g4 G4
  have G7 : FnOk P w0 K mg base CX0 3 _ fd7 ["word"] spSortTold := ok_lsort F7 F6 b6 g6 G6 F4 b4 g4 G4
  have G9 : FnOk P w0 K mg base CX0 1 _ fd9 ["sign"] spLInner := ok_linner F9
  have G10 : FnOk P w0 K mg base CX0 2 _ fd10 ["text", "at"] spWordAt := ok_wordAt F10 z_len F9 b9 g9 G9
  have G11 : FnOk P w0 K mg base CX0 3 _ fd11 ["text"] spCut := ok_cut F11 z_len z_int F10 b10 g10 G10
  have G14 : FnOk P w0 K mg base CX0 1 _ fd14 ["thing"] (spIsName K) := ok_isName F14 T z_isinstance z_str z_len z_all
  have G15 : FnOk P w0 K mg base CX0 1 _ fd15 ["thing"] (spIsText K) := ok_isText F15 T z_isinstance z_str z_ord z_all
  have G17 : FnOk P w0 K mg base CX0 1 _ fd17 ["text", "at"] spInner := ok_inner F17 T z_len
  have G16 : FnOk P w0 K mg base CX0 2 _ fd16 ["text", "at"] spWordEnd := ok_wordEnd F16 T F17 b17 g17 G17
  have G20 : FnOk P w0 K mg base CX0 1 _ fd20 ["word"] spFigures := ok_figures F20
  have G19 : FnOk P w0 K mg base CX0 2 _ fd19 ["word"] spSortTold := ok_sortTold F19 T F14 b14 g14 G14 F20 b20 g20 G20
  have G18 : FnOk P w0 K mg base (L2.CX P w0) 3 _ fd18 ["word"] (spSortOf K (He.ga K "BadWord")) := ok_sortOf F18 cl z_len F15 b15 g15 G15 F16 b16 g16 G16 F19 b19 g19 G19
  have G23 : FnOk P w0 K mg base CX0 1 _ fd23 ["self", "line", "column", "wanted"] (spInit (He.ga K "BadText") ["line", "column", "wanted"]) := okI_BadText F23 OW
  have G21 : FnOk P w0 K mg base (L2.CX P w0) 3 _ fd21 ["text"] (spScan K (He.ga K "BadText")) := ok_scanned F21 z_len g_BadText OW (fun X e => by subst e; exact raises_own m7 m8) G23 b23 F15 b15 g15 G15 F16 b16 g16 G16
  have G22 : FnOk P w0 K mg base (L2.CX P w0) 4 _ fd22 ["text"] (spScan K (He.ga K "BadText")) := ok_wordsOf F22 F21 b21 g21 G21
  have k22 : KBinds K fd22 ["text"] ["text"] cat1 cat1 := kb1 F22 (fun _ _ _ _ _ _ _ => rfl) (fun _ _ _ _ _ _ _ => rfl)
  have k18 : KBinds K fd18 ["word"] ["word"] cat1 cat1 := kb1 F18 (fun _ _ _ _ _ _ _ => rfl) (fun _ _ _ _ _ _ _ => rfl)
  have k14 : KBinds K fd14 ["thing"] ["thing"] cat1 cat1 := kb1 F14 (fun _ _ _ _ _ _ _ => rfl) (fun _ _ _ _ _ _ _ => rfl)
  have G12 : FnOk P w0 K mg base CX0 7 _ fd12 ["draw", "words"] (spRef (He.cT K ("_law_refused_right", none)).2) := ok_ref F12 hcc TB ET F3 b3 g3 G3 F8 b8 g8 F22 b22 k22 g22 G22 F18 b18 g18 G18 F11 b11 g11 G11 z_isinstance z_str z_ValueError
  have DF : Defs P w0 K mg base (He.ga K "KEPT") (He.ga K "SIGNS") (He.ga K "BadText") (He.ga K "BadWord") (He.cT K ("_law_refused_right", none)).2 :=
    ⟨⟨_, _, F0, G0, b0, g0⟩, ⟨_, _, F2, G2, b2, g2⟩, ⟨_, _, F3, G3, b3, g3⟩, ⟨_, _, F4, G4, b4, g4⟩, ⟨_, _, F6, G6, b6, g6⟩, ⟨_, _, F7, G7, b7, g7⟩, ⟨_, _, F11, G11, b11, g11⟩, ⟨_, _, F22, G22, b22, k22, g22⟩, ⟨_, _, F18, G18, b18, k18, g18⟩, ⟨_, _, F14, G14, b14, k14, g14⟩, ⟨_, _, F12, G12, b12, g12⟩⟩
  refine lawT_run (k := 7) F13 scLaw (fun s u => ?_) ⟨by decide, by decide, by decide⟩ fun cdv s H a ns hr hP hS hn => ?_
  · obtain ⟨oc, od, kV, doc, pm, an, cdv, ct, osl, rfl, _, _⟩ := F13.ex
    exact .of_eq rfl
  · exact law_body hr hS hn (fun p hp => by rw [List.mem_singleton.mp hp]; exact LamX.TabS.nil hP) T (sysB_ok m1) DF ⟨z_len, z_repr, z_tuple, z_range, z_min⟩
end
end SA
set_option Elab.async false
set_option linter.all false
set_option maxRecDepth 100000
set_option maxHeartbeats 0
namespace SA
open PySem PySem.W PySem.Calls PyProof.Rows
def names : List PySem.Str := ["StopError", "BadWord", "BadText", "KEPT", "SIGNS", "LETTERS", "INNER", "PERCENT", "is_name", "is_text", "word_end", "_inner_end", "sort_of", "sort_told", "_is_figures", "scanned", "words_of", "_law_begun", "_law_mixed", "_law_take", "_law_pick", "_law_kept", "_law_is_small", "_law_is_name", "_law_sort", "_law_caught", "_law_inner", "_law_word_at", "_law_cut", "_law_refused_right"]
theorem run (w : World) : HandSHeadRun.RunEq R (view R.prog [35]) hk01 ob01 3000 names w := by
  intro os
  kernel_rfl
end SA
open PySem PySem.W PySem.Calls PyProof.Rows
theorem PySem.Challenge.cw_stopanywhere_k01_words_of_texts_holds : PySem.Challenge.rw_stopanywhere_k01_words_of_texts.Holds := by
  w_on; o_law
  refine HandSHeadRun.head_any (r := SA.R) (q := view SA.R.prog [35]) (H := SA.hk01) (ob := SA.ob01) (M := 3000) (loose := SA.names) (d := HandSHeadRun.topDef SA.R.prog 35) (kwd := []) SA.ob_eq
    (by kernel_rfl) (fun s => by kernel_rfl) SA.run (by kernel_rfl) (by kernel_rfl) (by kernel_rfl) (by rfl) (by first | assumption | decide +kernel) (by decide +kernel) ⟨rfl, rfl, rfl, rfl, rfl, by decide +kernel⟩ ?hw ?hc
  case hw => w_witness2
  case hc =>
    refine SA.walk_T (l := PySem.Challenge.rw_stopanywhere_k01_words_of_texts) (n := 63) rfl (by decide) (by kernel_rfl) ?F
    intro w mg fa h Y G hmg0
    obtain ⟨K, KX, c⟩ := Y
    have hmg : mg ("law" : PySem.Str) = some (.ref fa) := by
      have e : (HandSHeadRun.topDef SA.R.prog 35).name = ("law" : PySem.Str) := by kernel_rfl
      rw [← e]
      exact hmg0
    exact ⟨K, _, _, KX, c.empty, c.out, PySem.W.codeHd_of_K KX c.hd, fun base _ _ TB => SA.law_of KX G hmg c base TB⟩
#print axioms PySem.Challenge.cw_stopanywhere_k01_words_of_texts_holds
