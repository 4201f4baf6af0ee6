import PyProof.Rows.All
import Wide.All
import OpenK.AllK
import Wide.FinOn
import HandS.ForMost
import HandS.Evl
import HandS.ExcInit
import HandS.ExcValue
import HandS.ExcIs
import HandS.ExcField
import HandS.IsInst
import PyProof.ReprRoads
import HandS.Head0
import HandS.Head1
import HandS.Head2
import HandS.HeadEnd
import HandS.HeadHook1
import HandS.HeadHook2
import HandS.Lambda
import HandS.Zip
import HandS.Walk
import PySem.Challenge.RW_stopanywhere_k24_errors_made_and_bases
set_option Elab.async false
set_option linter.all false
set_option maxRecDepth 100000
set_option maxHeartbeats 4000000
/-! ### exceptions held as values: isinstance, fields, made with their own __init__; repr of data -/
namespace SA
section
open PySem PySem.Spec PySem.Calls PyProof.Rows PySem.W
variable {prog : Program} {w : World} {A : Around} {E : Value → Shared → Prop} {s : Shared} {K : Frag} {x D : Addr} {ox : Obj} {od : Option Obj}
/-- a data descriptor of the class is found first, whatever the object's own dict holds -/
theorem find_data {name : Str} {a g : Value} (hc : (clsIn K D).isSome = true) (ha : findIn K (.ref D) name = some (some a)) (hg : specialIn K a "__get__" = some (some g))
    (ht : takesIn K a = some true) : findObj K D od name = some (.bind g a) := by
  obtain ⟨cd, e⟩ := Option.isSome_iff_exists.mp hc
  unfold findObj
  rw [e, Option.bind_some, ha, Option.bind_some]
  simp [hg, ht]
/-- e.__class__ of an exception object of the class at D -/
theorem exc_class {Q : Option Value → Shared → Prop} (C : L2.ExcC K D) (X : K.In s.heap) (I : InstAt s.heap x ox D od) (h : Q (some (.ref D)) { s with toks := s.toks + 1 }) :
    wpAny (model prog w) A (getAttr? (.ref x) "__class__") Q E s := by
  have hcd : (clsIn K D).isSome = true := by
    obtain ⟨cd, hc, _⟩ := any_some C.hd
    rw [hc] <;> rfl
  have hf : findObj K D od "__class__" = some (.bind (.builtin "getset_descriptor.__get__") (.builtin "object.__class__")) := find_data hcd C.ha C.hn C.ht
  obtain ⟨hp, g, d, t, os⟩ := s
  have t0 := I.type (M := model prog w)
  have t1 := looks_findIn (M := model prog w) X C.hg
  have t2 := looks_findIn (M := model prog w) X C.hk
  have t3 := looks_find (M := model prog w) X I hf
  have sub : Looks (model prog w) hp (isInstance (.ref x) (.type "BaseException")) true := t0.andThen (looks_subIn X C.hs)
  have n0 : (false && onTheHeap (Value.builtin "BaseException.__getattribute__")) = false := rfl
  have n2 : (Value.builtin "BaseException.__getattribute__" == Value.builtin "object.__getattribute__") = false := by decide +kernel
  have n1 : (onTheHeap (Value.ref D) && Value.builtin "BaseException.__getattribute__" == Value.builtin "object.__getattribute__") = false := by rw [n2] <;> rfl
  unfold getAttr? getAttrBy? getAttrBy
  refine wpAny_bind (wpAny_mkText (wpAny_bind (wpAny_attempt (wpAny_holding (wpAny_bind (t0.at (wpAny_bind (t1.at ?_))))))))
  show wpAny _ _ (if (onTheHeap (Value.ref D) && Value.builtin "BaseException.__getattribute__" == Value.builtin "object.__getattribute__") = true then _ else _) _ _ _
  rw [n1, if_neg Bool.false_ne_true]
  unfold getAttrByItsOwn hookBefore
  refine wpAny_bind ?_
  rw [if_pos (show onTheHeap (Value.ref D) = true from rfl)]
  refine t2.at ?_
  refine wpAny_bind (wpAny_attempt (wpAny_holding ?_))
  unfold callGetattribute
  rw [n0, if_neg Bool.false_ne_true]
  unfold boundAndCalled
  rw [PySem.F.excAttr_ValueError.ga.bind (.ref x)]
  refine wpAny_bind (wpAny_pure ?_)
  show wpAny _ _ (call (.builtin "BaseException.__getattribute__") [.ref x, .str "__class__" t]) _ _ _
  refine wpAny_call (codeAny_call_builtin PySem.F.excAttr_ValueError.ga.plain PySem.F.entry_bexc_ga ?_)
  refine @check_slot (model prog w) _ _ ⟨hp, g, d, t + 1, os⟩ "BaseException.__getattribute__" "BaseException" "__getattribute__" (.ref x) [.str "__class__" t] [] _ (by decide +kernel) (by decide +kernel) sub (PySem.F.args_bexc_ga (.ref x) (.str "__class__" t)) ?_
  unfold Builtin.«object.__getattribute__»
  refine wpAny_bind (wpAny_of_eq (a := ((Value.ref x : Value), [Value.str "__class__" t])) (by first | rfl | (simp only [slotArgs]; rfl)) ?_)
  refine wpAny_bind (wpAny_pure (wpAny_bind (t0.at (wpAny_bind (t3.at ?_)))))
  show wpAny _ _ (holding [Value.builtin "object.__class__"] (call (.builtin "getset_descriptor.__get__") [.builtin "object.__class__", .ref x, .ref D]) >>= ret) _ _ _
  refine wpAny_bind (wpAny_holding (wpAny_call (class_get (s := ⟨hp, g, d, t + 1, os⟩) (ox := ox) (od := od) X I C.hm ?_)))
  refine wpAny_pure ?_
  show wpAny _ _ (handedOut (.ref D)) _ _ _
  rw [handedOut_of (v := .ref D) rfl]
  first
    | exact wpAny_pure (wpAny_pure h)
    | exact wpAny_pure h
    | exact wpAny_pure (wpAny_bind (wpAny_pure (wpAny_pure h)))
theorem is_class {c : Addr} (h : hasDictIn K c = true) : ∃ oc od cd sl, K.lookup c = some ⟨oc, od, .cls cd, sl⟩ := by
  obtain ⟨cd, hc, _⟩ := any_some h
  unfold clsIn at hc
  split at hc
  · rename_i c' d' cd' sl' ho
    exact ⟨_, _, _, _, ho⟩
  · cases hc
theorem kit_exc (C : L2.ExcC K D) : KitX K (.ref x) (.ref D) (fun h => InstAt h x ox D od) where
  ty := fun _ _ _ I => I.type
  it := fun _ _ X _ => by
    obtain ⟨oc, dd, cd, sl, ho⟩ := is_class C.hd
    intro A' Q' E' s' k q
    unfold isType loadHead
    exact wpAny_bind (wpAny_loadPart (k _ _ (X _ _ ho)) (wpAny_pure q))
  ne := fun h tp dd its n sl X htp => Bool.eq_false_iff.mpr fun q => by
    obtain ⟨oc, d2, cd, sl2, ho⟩ := is_class C.hd
    have e : D = tp := Value.ref.inj (beq_iff_eq.mp q)
    subst e
    have z := (X _ _ ho).symm.trans htp
    cases z
  ca := fun X I k => exc_class C X I k
end
section
open PySem PySem.Spec PyProof.Rows L2
/-- at a stands an exception of the class at C, not raised: without a dict | with its dict at d -/
def XAt (H : Hp) (a C : Addr) : Prop := H a = some (ExO (.ref C) a) ∨ ∃ (d : Addr) (fs : List (Str × V)), H a = some (exo a C (some d)) ∧ H d = some (exd d fs)
variable {X : Cx}
theorem XAt.inst {pins : List (Addr × Obj)} {σ : L2.St} {H : Hp} {s : Shared} {a C : Addr} (I : Inv X pins σ H s) (h : XAt H a C) : ∃ ox od, PySem.W.InstAt s.heap a ox C od := by
  rcases h with h | ⟨d, fs, h1, h2⟩
  · obtain ⟨⟨oe, vs, e, z, dt, _⟩, _⟩ := I.hok a _ h
    refine ⟨oe, none, e, z.1, ?_, ?_⟩
    · unfold PySem.W.notCls
      rw [dt] <;> rfl
    · rw [z.2]
      trivial
  · obtain ⟨t1, e⟩ := exo_at I.hok h1
    obtain ⟨mA, hn, _⟩ := exd_at I.hok h2
    obtain ⟨od, ho, _⟩ := lookIn_ns hn
    exact ⟨_, some od, e, rfl, rfl, ho⟩
/-- isinstance(e, c), e an exception held as a value -/
def rIsX (K : PySem.W.Frag) : List V → Hp → VK → Prop := fun xs H Q => ∃ (a D : Addr) (c : V) (cv : Value) (b : Bool), xs = [.ref a, c] ∧ ClsV c cv ∧ XAt H a D ∧ ExcC K D ∧ PySem.W.kitOne K (.ref D) cv = some b ∧ Q (.bl b) H
theorem call_isX : CallR X (.builtin "isinstance") (rIsX X.K) := by
  intro pins s σ H xs us Q I r h
  obtain ⟨a, D, c, cv, b, rfl, k, hx, hC, e, q⟩ := h
  obtain ⟨u1, u2, rfl, r1, r2⟩ := vals2 r
  have e2 := k.eq r2
  subst e2
  obtain rfl : u1 = Value.ref a := r1
  obtain ⟨ox, od, J⟩ := hx.inst I
  exact PySem.W.kia_one (kit_exc hC) I.kIn J e (fun z => nomatch z) fun tk => ⟨.bl b, H, I.kept (t' := tk) fun _ _ z => z, rfl, q⟩
/-- e.f, e an exception held as a value -/
def tXfld (K : PySem.W.Frag) (te : TE) (f : Str) : TE := fun σ H Q => te σ H fun x H1 => ∃ (a C d : Addr) (fs : List (Str × V)) (v : V), x = .ref a ∧ H1 a = some (exo a C (some d)) ∧ H1 d = some (exd d fs) ∧ XfC K C ∧
  PySem.W.findIn K (.ref C) f = some none ∧ fs.lookup f = some v ∧ Q v H1
theorem pe_xfld {e : Expr} {te : TE} {f : Str} {pos : Pos} (he : PE X e te) (hb : attributeBase e f X.env (eval e X.env) = eval e X.env := by rfl) : PE X (.Attribute e f pos) (tXfld X.K te f) := by
  refine ⟨fun pins s σ H Q I h => ?_⟩
  refine attr_of hb (thn (he.run pins s σ H _ I h) fun u s1 hh => ?_)
  obtain ⟨x, H1, I1, rx, a, C, d, fs, v, ex, h1, h2, T, hno, hl, q⟩ := hh
  subst ex
  obtain rfl : u = Value.ref a := rx
  obtain ⟨t1, ha⟩ := exo_at I1.hok h1
  obtain ⟨mA, hns, hr⟩ := exd_at I1.hok h2
  obtain ⟨od, ho, hlk⟩ := lookIn_ns hns
  obtain ⟨u, hu, ru⟩ := RelO.some_of (v := v) (o := mA f) (by rw [← hl]; exact hr f)
  have J : PySem.W.InstAt s1.heap a _ C (some od) := ⟨ha, rfl, rfl, ho⟩
  exact HandSPX.exc_get I1.kIn J T.ga T.gg T.exC (PySem.W.findObj_own T.hdC hno rfl (by rw [hlk, hu])) (handed_of ru) ⟨v, H1, I1.tok _, ru, q⟩
end
end SA

set_option Elab.async false
set_option linter.all false
set_option maxRecDepth 100000
set_option maxHeartbeats 4000000
namespace SA
open PySem PySem.Spec PyProof.Rows L2
/-! ### data of any depth, dicts too, and its repr -/
def keyD : Key → PyData
  | .inl i => .int i
  | .inr x => .str x
mutual
inductive Dx (K : PySem.W.Frag) (H : Hp) : V → PyData → Prop
  | non : Dx K H .non .none
  | bl (b : Bool) : Dx K H (.bl b) (.bool b)
  | int (i : Int) : Dx K H (.int i) (.int i)
  | str (x : Str) : Dx K H (.str x) (.str x)
  | lst {a : Addr} {xs : List V} {ds : List PyData} : SqL K H a xs → DxAll K H xs ds → Dx K H (.ref a) (.list ds)
  | tup {a : Addr} {xs : List V} {ds : List PyData} : SqT K H a xs → DxAll K H xs ds → Dx K H (.ref a) (.tuple ds)
  | dct {a : Addr} {kvs : List (Key × V)} {ds : List (PyData × PyData)} : H a = some (.dK kvs) → kvs.map (fun p => keyD p.1) = ds.map (·.1) → DxAll K H (kvs.map (·.2)) (ds.map (·.2)) → Dx K H (.ref a) (.dict ds)
inductive DxAll (K : PySem.W.Frag) (H : Hp) : List V → List PyData → Prop
  | nil : DxAll K H [] []
  | cons {v : V} {vs : List V} {d : PyData} {ds : List PyData} : Dx K H v d → DxAll K H vs ds → DxAll K H (v :: vs) (d :: ds)
end
/-- the written part knows sys.modules, a dict -/
def SysK (K : PySem.W.Frag) : Prop := ∃ o, K.lookup sysModules = some o ∧ o.cls = .type "dict"
section
variable {X : Cx} {pins : List (Addr × Obj)} {σ : L2.St} {H : Hp} {s : Shared}
theorem SysK.trk (S : SysK X.K) (I : Inv X pins σ H s) {a : Addr} {o : HO} (h : H a = some o) : sysModules ≠ a := fun e => by
  obtain ⟨ob, h1, _⟩ := S
  obtain ⟨_, z⟩ := I.bs sysModules ob (I.mod.kin _ _ h1)
  rw [e, h] at z
  cases z
theorem SysK.seqL (S : SysK X.K) (I : Inv X pins σ H s) {a : Addr} {xs : List V} (h : SqL X.K H a xs) : sysModules ≠ a := by
  rcases h with (h | ⟨o, h⟩) | ⟨o, its, n, h, hc, _⟩
  · exact S.trk I h
  · exact S.trk I h
  · intro e
    obtain ⟨ob, h1, h2⟩ := S
    rw [e, h] at h1
    cases h1
    rw [hc] at h2
    exact absurd (Value.type.inj h2) (by decide)
theorem pairs_keys {P : Program} {w : World} : ∀ {es : List DictEntry} {vs : List (Key × Value)}, Pairs (mixKind P w) es vs → ∃ as, ReadsAll s.heap (es.map (·.key)) (vs.map fun p => keyD p.1) as ∧ as = []
  | _, _, .nil => ⟨[], .nil, rfl⟩
  | _, _, .cons (e := e) (kv := kv) h1 h2 t => by
    obtain ⟨as, r, rfl⟩ := pairs_keys t
    have hk : Reads s.heap e.key (keyD kv.1) [] := by
      rcases keyIs_shape (k := kv.1) (v := e.key) h1 with ⟨i, t, e1, e2⟩ | ⟨x, t, e1, e2⟩
      · rw [e1, e2]
        exact .int i t
      · rw [e1, e2]
        exact .str x t
    exact ⟨[] ++ [], .cons hk r, rfl⟩
theorem pairs_vals {P : Program} {w : World} : ∀ {es : List DictEntry} {vs : List (Key × Value)}, Pairs (mixKind P w) es vs → es.map (·.val) = vs.map (·.2)
  | _, _, .nil => rfl
  | _, _, .cons h1 h2 t => by
    rw [List.map_cons, List.map_cons, pairs_vals t, h2]
theorem kv_keys : ∀ {kvs : List (Key × V)} {vs : List (Key × Value)}, KV kvs vs → kvs.map (fun p => keyD p.1) = vs.map (fun p => keyD p.1) ∧ Vals (kvs.map (·.2)) (vs.map (·.2))
  | _, _, .nil => ⟨rfl, .nil⟩
  | _, _, .cons r t => by
    obtain ⟨h1, h2⟩ := kv_keys t
    obtain ⟨q1, q2⟩ := r
    exact ⟨by rw [List.map_cons, List.map_cons, h1, q1], .cons q2 h2⟩
mutual
theorem Dx.reads (S : SysK X.K) (I : Inv X pins σ H s) : ∀ {d : PyData} {v : V} {u : Value}, Dx X.K H v d → RelV v u → ∃ as, Reads s.heap u d as ∧ sysModules ∉ as
  | _, _, u, .non, r => ⟨[], by obtain rfl : u = Value.none := r; exact .none, by simp⟩
  | _, _, u, .bl b, r => ⟨[], by obtain rfl : u = Value.bool b := r; exact .bool b, by simp⟩
  | _, _, u, .int i, r => by
    obtain ⟨t, rfl⟩ := r
    exact ⟨[], .int i t, by simp⟩
  | _, _, u, .str x, r => by
    obtain ⟨t, rfl⟩ := r
    exact ⟨[], .str x t, by simp⟩
  | _, _, u, .lst (a := a) hs ha, r => by
    obtain rfl : u = Value.ref a := r
    obtain ⟨its, rv, ⟨o, n, ho, hc, _, hd⟩, _⟩ := I.list hs
    obtain ⟨as, hr, hn⟩ := DxAll.reads S I ha rv
    exact ⟨_, .list ho hc hd hr, fun m => (List.mem_cons.mp m).elim (S.seqL I hs) hn⟩
  | _, _, u, .tup (a := a) hs ha, r => by
    obtain rfl : u = Value.ref a := r
    obtain ⟨its, rv, ⟨o, ho, hc, n, hd⟩, _⟩ := I.tuple hs
    obtain ⟨as, hr, hn⟩ := DxAll.reads S I ha rv
    exact ⟨_, .tuple ho hc hd hr, hn⟩
  | _, _, u, .dct (a := a) (kvs := kvs) (ds := ds) h1 hk ha, r => by
    obtain rfl : u = Value.ref a := r
    obtain ⟨_, hsm, vs, kv, o, es, ep, ho, hx, hd, _, hp, _⟩ := (show ObjOk X.prog X.w H s.heap a (.dK kvs) from I.hok a _ h1)
    obtain ⟨e1, e2⟩ := kv_keys kv
    obtain ⟨bs, hr, hn⟩ := DxAll.reads S I ha e2
    obtain ⟨as, hr2, rfl⟩ := pairs_keys (s := s) hp
    refine ⟨a :: [] ++ bs, .dict ho hx.1 hd (by rw [← hk, e1]; exact hr2) (by rw [pairs_vals hp]; exact hr), fun m => ?_⟩
    have m2 : sysModules ∈ a :: bs := m
    exact (List.mem_cons.mp m2).elim (S.trk I h1) hn
theorem DxAll.reads (S : SysK X.K) (I : Inv X pins σ H s) : ∀ {ds : List PyData} {vs : List V} {us : List Value}, DxAll X.K H vs ds → Vals vs us → ∃ as, ReadsAll s.heap us ds as ∧ sysModules ∉ as
  | _, _, _, .nil, .nil => ⟨[], .nil, by simp⟩
  | _, _, _, .cons h1 h2, .cons r1 r2 => by
    obtain ⟨as, q1, n1⟩ := Dx.reads S I h1 r1
    obtain ⟨bs, q2, n2⟩ := DxAll.reads S I h2 r2
    exact ⟨_, .cons q1 q2, fun m => (List.mem_append.mp m).elim n1 n2⟩
end
end
/-- repr of a list, a tuple, a dict -/
def rRepr (K : PySem.W.Frag) : List V → Hp → VK → Prop := fun xs H Q => ∃ (a : Addr) (d : PyData), xs = [.ref a] ∧ Dx K H (.ref a) d ∧ d.showable = true ∧ d.shown.length ≤ sizeLine ∧ d.depth ≤ 60 ∧ Q (.str d.shown) H
theorem call_repr {X : Cx} (S : SysK X.K) (hg : X.A.guards = some []) (hu : X.A.units + 64 < cLine) : CallR X (.builtin "repr") (rRepr X.K) := by
  intro pins s σ H xs us Q I r h
  obtain ⟨a, d, rfl, hd, hs, hz, hp, q⟩ := h
  obtain ⟨u, rfl, ru⟩ := vals1 r
  obtain rfl : u = Value.ref a := ru
  obtain ⟨as, hr, hn⟩ := Dx.reads S I hd (u := .ref a) rfl
  exact repr_of_reads' hr hs (fun _ => hn) hg (by omega) (fun _ _ e => e) (fun h' u tk hk => ⟨.str d.shown, H, I.kept (t' := tk) hk, ⟨u, rfl⟩, q⟩) hz
/-! ### X(e, ..) by its own __init__, as a value -/
def tOex (C : Addr) (sp : Sp) (dvs : List V) (ta : TA) : TE := fun σ H Q => ta σ H fun vs H1 => vs.length ≤ 1000 ∧ ∀ a, H1 a = none → sp (.ref a :: (vs ++ dvs)) (upd H1 a (exo a C none)) (fun v H2 => v = .non ∧ Q (.ref a) H2) (fun _ _ _ => False)
theorem pe_oex {X : Cx} {CX : CXT} {x : Str} {C fI : Addr} {k : Nat} {fd : FuncData} {ps : List Str} {sp : Sp} {ds : List Value} {dvs : List V} {e : Expr} {es : List Expr} {ta : TA} {p pos : Pos}
    (T : OexC X.K C) (iC : PySem.W.findIn X.K (.ref C) "__init__" = some (some (.ref fI))) (tI : PySem.W.typeIn X.K (.ref fI) = some (.type "function"))
    (F1 : FnOk X.prog X.w X.K X.mg X.base CX k fI fd ps sp) (hr : Room (k + 1) X.A) (hb : L2.Binds X.K fd ps ds) (hd : Vals dvs ds) (hx : Passes CX X (fun _ _ _ => False)) (hg : Gl X x) (hm : X.mg x = some (.ref C)) (ha : PA X (e :: es) ta)
    (hdb : (x == ("__debug__" : Str)) = false := by decide) (he : starEach (e :: es) X.env = (false, eval e X.env) :: starEach es X.env := by rfl) (hpl : (backTo pos (starEach es X.env)).any (·.1) = false := by rfl) :
    PE X (.Call (.Name x p) (e :: es) [] pos) (tOex C sp dvs ta) := by
  refine ⟨fun pins s σ H Q I h => ?_⟩
  obtain ⟨nm, q, N, bs, bm, sn, sub, ab, col, dd, k0, k1, k2, k3, k5, hC, hbm⟩ := T.cls
  refine wpAny_Call_Name_kw (ld_glob I hg hm ?_ hdb)
  refine PySem.W.callWith_K (h₀ := X.base) I.ok.mod.kin T.kC (thn (ha.run pos pins s σ H _ I h) fun us s1 ⟨vs, H1, I1, r1, hz, q1⟩ => ⟨I1.kIn, ?_⟩) he hpl
  show wpAny _ _ (call (.ref C) us) _ _ _
  obtain ⟨hp, g, dr, tk, os⟩ := s1
  have hsz : hp.objs.size ≤ hp.objs.size + 1 := Nat.le_succ _
  have hn : H1 (hp.objs.size + 1) = none := I1.hok.fresh hsz
  have hq := q1 (hp.objs.size + 1) hn
  have hget : ((hp.push (PySem.W.kdv_tup us)).push (PySem.HandSPX.excO C hp.objs.size)).get? (hp.objs.size + 1) = some (PySem.HandSPX.excO C hp.objs.size) := by heap_get
  have I2 : Inv X pins σ (upd H1 (hp.objs.size + 1) (exo (hp.objs.size + 1) C none)) ⟨(hp.push (PySem.W.kdv_tup us)).push (PySem.HandSPX.excO C hp.objs.size), g, dr, tk, os⟩ :=
    I1.laid (t' := tk) (fun b o z => Heap.get?_push_of_some _ (Heap.get?_push_of_some _ z)) hsz (exo_ok hget)
  have r2 : Vals (V.ref (hp.objs.size + 1) :: (vs ++ dvs)) (Value.ref (hp.objs.size + 1) :: (us ++ ds)) := .cons rfl (r1.append hd)
  have hl : (Value.ref (hp.objs.size + 1) :: us ++ ds).length = ps.length := r2.length.symm.trans (F1.len _ _ _ _ hq)
  have hus : us.length ≤ sizeLine := by
    have z := Paired.length r1
    rw [sizeLine_eq]
    omega
  refine wpAny_call (PySem.HandSPX.call_own F.excBase_ValueError (fun Y => PySem.HandSPX.refsVE_contains Y bm hbm) (I1.kIn _ _ hC) (PySem.W.looks_findIn I1.kIn iC) (fun self => PySem.W.bind_fn I1.kIn self tI) hus
    (codeAny_mono (F1.run _ X.stack _ _ ⟨Value.ref (hp.objs.size + 1) :: us, []⟩ (Value.ref (hp.objs.size + 1) :: (us ++ ds)) _ _ (fun _ _ _ => False) (hr.make C us []) (I2.env0.make C us []) (hb _ (Value.ref (hp.objs.size + 1) :: us) I2.kIn hl) r2 hq) fun r s' hq' => ?_))
  cases r with
  | error er => exact hx pins σ _ _ er s' I2 hq'
  | ok fl =>
    cases fl with
    | ret u =>
      obtain ⟨v, H2, J, rv, ev, q2⟩ := I2.after hq'
      subst ev
      exact ⟨rv, .ref (hp.objs.size + 1), H2, J, rfl, q2⟩
    | next => exact False.elim hq'
    | brk => exact False.elim hq'
    | cont => exact False.elim hq'
end SA

set_option Elab.async false
set_option linter.all false
set_option maxRecDepth 100000
set_option maxHeartbeats 4000000
namespace SA
open PySem PySem.Spec PyProof.Rows L2
/-! ### the law's def, entered where no repr is under way -/
/-- what the law's def does when the claim's caller calls it -/
def LawRun (P : Program) (w : World) (K : PySem.W.Frag) (mg : Str → Option Value) (base : Heap) (fa : Addr) (n : Nat) : Prop :=
  ∀ (s : Shared) (H : Hp) (a : Addr) (ns : List Int), Env0 P w K mg base callerA [] s H → SqL K H a (ns.map V.int) → ns.length ≤ n →
    codeAny (model P w) callerA (.call (.ref fa) ⟨[.ref a], []⟩) (CR CX0 [] P w H s (fun v _ => v = .bl true) E0) s
section
variable {P : Program} {w : World} {K : PySem.W.Frag} {mg mb : Str → Option Value} {fa a : Addr} {s : Shared} {vs : List Value} {ns : List Int} {n : Nat}
abbrev Done (s : Shared) : Result → Shared → Prop := fun r s' => r = .ok (.ret (.bool true)) ∧ OldK s.heap s'.heap ∧ s'.os = s.os ∧ AllBare s'.gens
/-- from an abstract heap in which at most the script is tracked -/
theorem law_from (KX : K.In s.heap) (hns : s.heap.Ns mainGlobals mg) (hb : s.heap.Ns builtinsNs mb) (hbb : ∀ x : Str, x ≠ "__name__" → mb x = bootBuiltins x) (hlim : s.heap.NoLimit) (hg : s.gens = #[])
    (ha : s.heap.get? a = some { cls := .type "list", data := .seq vs.toArray }) (hn : ns.length ≤ n) (F : ∀ base : Heap, K.In base → base.Ns mainGlobals mg → LawRun P w K mg base fa n)
    (H : Hp) (hO : Only H) (hS : SqL K H a (ns.map V.int)) (hok : HOk P w H s.heap) (hA : ∀ b, H b ≠ none → b = a) (hK : H a ≠ none → K.lookup a = none) : codeAny (model P w) callerA (.call (.ref fa) ⟨[.ref a], []⟩) (Done s) s := by
  have only : ∀ {b : Addr}, b ≠ a → H b = none := fun {b} nb => by
    cases q : H b with
    | none => rfl
    | some u => exact absurd (hA b (by rw [q]; simp)) nb
  have nsd : ∀ {b : Addr} {m : Str → Option Value}, s.heap.Ns b m → (hidT s.heap H).Ns b m := fun {b m} z => by
    obtain ⟨o, es, ep, e, d, r⟩ := z
    refine ⟨o, es, ep, hidT_get e (only fun eb => ?_), d, r⟩
    rw [eb, ha] at e
    cases e
    cases d
  have kin : K.In (hidT s.heap H) := fun b o e => hidT_get (KX b o e) (by
    by_cases eb : b = a
    · cases q : H b with
      | none => rfl
      | some u =>
        have z := hK (by rw [← eb, q]; simp)
        rw [← eb, e] at z
        cases z
    · exact only eb)
  have env : Env0 P w K mg (hidT s.heap H) callerA [] s H :=
    ⟨rfl, ⟨kin, nsd hns, ⟨mb, nsd hb, hbb⟩, let ⟨mc, h1, h2⟩ := hlim; ⟨mc, nsd h1, h2⟩⟩, fun b o e => of_hidT e, Nat.le_of_eq (hidT_size _ _), trivial, fun b z => absurd (show b ∈ ([] : List Addr) from z) (by simp), hok, .of_eq hg⟩
  refine codeAny_mono (F _ kin (nsd hns) s H a ns env hS hn) fun r s' h => ?_
  match r, h with
  | .error _, h => exact False.elim h
  | .ok .next, h => exact False.elim h
  | .ok .brk, h => exact False.elim h
  | .ok .cont, h => exact False.elim h
  | .ok (.ret u), ⟨v, H', os, bare, un, hok', rv, q⟩ =>
    have ev : v = .bl true := q
    subst ev
    obtain rfl : u = Value.bool true := rv
    refine ⟨rfl, OldK.of_keep fun b o e => ?_, os, bare⟩
    rcases hO b with z | ⟨ob, xs, z⟩
    · exact un.keep b o e z (fun y => absurd (show b ∈ ([] : List Addr) from y) (by simp)) (by simp)
    · obtain ⟨e1, _⟩ := hok b _ z
      obtain ⟨e2, _⟩ := hok' b _ (un.frzs b ob _ z)
      rw [e] at e1
      cases e1
      exact e2
theorem law_callG (KX : K.In s.heap) (hns : s.heap.Ns mainGlobals mg) (hb : s.heap.Ns builtinsNs mb) (hbb : ∀ x : Str, x ≠ "__name__" → mb x = bootBuiltins x) (hlim : s.heap.NoLimit) (hg : s.gens = #[])
    (ha : s.heap.get? a = some { cls := .type "list", data := .seq vs.toArray }) (hi : IntsAre vs ns) (hl : ns.length ≤ sizeLine) (hn : ns.length ≤ n) (F : ∀ base : Heap, K.In base → base.Ns mainGlobals mg → LawRun P w K mg base fa n) :
    codeAny (model P w) callerA (.call (.ref fa) ⟨[.ref a], []⟩) (Done s) s := by
  have rv := vals_ints hi
  cases hk : K.lookup a with
  | some o =>
    have e := KX a o hk
    rw [ha] at e
    cases e
    exact law_from KX hns hb hbb hlim hg ha hn F (fun _ => none) (fun _ => .inl rfl) (.inr ⟨_, vs.toArray, _, hk, rfl, rfl, rfl, by rw [List.size_toArray, hi.length]; exact hl, by simpa using rv⟩)
      (fun b u z => absurd (show (none : Option HO) = some u from z) (by simp)) (fun b z => absurd rfl z) fun z => absurd rfl z
  | none =>
    have at_ : ∀ b, (fun b => if b = a then some (HO.frz { cls := .type "list", data := .seq vs.toArray } (.lst (ns.map V.int))) else none : Hp) b ≠ none → b = a := fun b z => by
      by_cases hb : b = a
      · exact hb
      · exact absurd (if_neg hb) z
    refine law_from KX hns hb hbb hlim hg ha hn F (fun b => if b = a then some (.frz { cls := .type "list", data := .seq vs.toArray } (.lst (ns.map V.int))) else none) (fun b => ?_) (.inl (.inr ⟨_, if_pos rfl⟩)) (fun b u z => ?_) at_ fun _ => hk
    · by_cases hb : b = a
      · exact .inr ⟨_, _, if_pos hb⟩
      · exact .inl (if_neg hb)
    · have eb := at_ b (by rw [z]; simp)
      subst eb
      have z2 := (if_pos rfl).symm.trans z
      cases z2
      exact ⟨ha, by rw [List.length_map]; exact hl, vs, _, rv, ha⟩
end
/-- the goal that the head leaves, from what the law's def does -/
theorem walk_G {l : PySem.W.OpenLaw} {n : Nat} {q : Program} {loose : List Str} {XP : (Str → Option Value) → Heap → Prop} {YP : World → Heap → Prop} {d : DefRec} (hn : l.most = some n) (hn2 : n ≤ sizeLine) (hdf : d.params.defaults = [])
    (F : ∀ (w : World) (mg : Str → Option Value) (fa : Addr) (h : Heap), YP w h → h.Ns mainGlobals mg → mg d.name = some (.ref fa) →
      ∃ K : PySem.W.Frag, K.In h ∧ ∀ base : Heap, K.In base → base.Ns mainGlobals mg → LawRun l.prog w K mg base fa n) :
    PySem.W.WalkO q loose XP YP l.row.toRowW d [] (fun f vs => PySem.call f vs) := by
  refine Att.attach_call hn hdf fun w s₀ s₁ mg mb fa o pm cd doc a vs ns G Y ho hd hcd hmg hobj hints hlen hg => ?_
  obtain ⟨K, KX, hF⟩ := F w mg fa _ Y G.T.g hmg
  exact law_callG KX G.T.g G.T.b G.T.builtins G.T.nolimit hg hobj hints (Nat.le_trans hlen hn2) hlen hF
/-- LawRun from the body of the law's def -/
theorem law_run {P : Program} {w : World} {K : PySem.W.Frag} {mg : Str → Option Value} {base : Heap} {fa : Addr} {fd : FuncData} {st : Stmt} {N : List Str} {x : Str} {n k : Nat} (F : Fun K "law" "law" st fa fd) (S : FnScope N [x] (defScope st))
    (hb : ∀ (s : Shared) (u : Value), BindsTo s fd ⟨[u], []⟩ [(x, u)]) (hr : Room (k + 1) callerA)
    (body : ∀ (cdv : Value) (s : Shared) (H : Hp) (a : Addr) (ns : List Int), Room k (callerA.deeper (envOfC "law" (defScope st) s.heap.objs.size fa cdv)) → SqL K H a (ns.map V.int) → ns.length ≤ n →
      ∃ t, PSs (cxOf CX0 P w K mg base N "law" (defScope st) fa cdv callerA [] s H E0).nox (defBody st) t ∧ t { nx := fun _ _ => V.non = V.bl true, rt := fun v _ => v = .bl true } (start N [.ref a]) H) :
    LawRun P w K mg base fa n := by
  intro s H a ns env hS hn
  obtain ⟨oc, od, kV, doc, pm, an, cdv, ct, osl, rfl, lk, hcd⟩ := F.ex
  refine LamX.run_ofS (k := k) (N := N) (ps := [x]) (us := [.ref a]) (vs := [.ref a]) (Q := fun v _ => v = .bl true) (E := E0) lk hcd S hr env (hb s (.ref a)) (.cons rfl .nil) rfl fun hr' => ?_
  obtain ⟨t, h1, h2⟩ := body cdv s H a ns hr' hS hn
  exact ⟨t, h1.nox, h2⟩
theorem FunD.toFun {K : PySem.W.Frag} {x qual : Str} {st : Stmt} {f : Addr} {fd : FuncData} (F : FunD K x qual (defArgs st) (defBody st) (defScope st) [] [] f fd) : Fun K x qual st f fd := by
  obtain ⟨⟨oc, od, dV, kV, doc, pm, an, cdv, ct, osl, e, l, c, hD, hK⟩, kp⟩ := F
  rcases hD with ⟨_, rfl⟩ | ⟨z, _⟩
  · exact ⟨⟨oc, od, kV, doc, pm, an, cdv, ct, osl, e, l, c⟩, kp⟩
  · exact absurd rfl z
end SA

set_option Elab.async false
set_option linter.all false
set_option maxRecDepth 100000
set_option maxHeartbeats 4000000
namespace SA
open PySem PySem.Spec PyProof.Rows L2
def topS (i : Nat) : Stmt := PySem.Challenge.pw_stopanywhere_k24_errors_made_and_bases.main.body.getD i (.Pass ⟨0, 0, 0, 0⟩)
abbrev sBegun : Stmt := topS 75
abbrev sMixed : Stmt := topS 76
abbrev sTake : Stmt := topS 77
abbrev sPick : Stmt := topS 78
/-! ### the draw -/
abbrev kW : Key := Sum.inr "wide"
abbrev kC : Key := Sum.inr "cells"
abbrev kR : Key := Sum.inr "rest"
abbrev kT : Key := Sum.inr "turn"
theorem kWC : ¬ kW = kC := by decide +kernel
theorem kWR : ¬ kW = kR := by decide +kernel
theorem kWT : ¬ kW = kT := by decide +kernel
theorem kCR : ¬ kC = kR := by decide +kernel
theorem kCT : ¬ kC = kT := by decide +kernel
theorem kRT : ¬ kR = kT := by decide +kernel
def dkv (w c : Addr) (r t : Int) : List (Key × V) := [(kW, .ref w), (kC, .ref c), (kR, .int r), (kT, .int t)]
theorem dkv_w (w c : Addr) (r t : Int) : valV (dkv w c r t) kW = some (.ref w) := valV_pos rfl
theorem dkv_c (w c : Addr) (r t : Int) : valV (dkv w c r t) kC = some (.ref c) := (valV_neg kWC).trans (valV_pos rfl)
theorem dkv_r (w c : Addr) (r t : Int) : valV (dkv w c r t) kR = some (.int r) := (valV_neg kWR).trans ((valV_neg kCR).trans (valV_pos rfl))
theorem dkv_t (w c : Addr) (r t : Int) : valV (dkv w c r t) kT = some (.int t) := (valV_neg kWT).trans ((valV_neg kCT).trans ((valV_neg kRT).trans (valV_pos rfl)))
theorem get_w {H : Hp} {d w c : Addr} {r t : Int} (e : H d = some (.dK (dkv w c r t))) : DGet H d (.str "wide") (some (.ref w)) := dkv_w w c r t ▸ DGet.k (k := kW) e
theorem get_c {H : Hp} {d w c : Addr} {r t : Int} (e : H d = some (.dK (dkv w c r t))) : DGet H d (.str "cells") (some (.ref c)) := dkv_c w c r t ▸ DGet.k (k := kC) e
theorem get_r {H : Hp} {d w c : Addr} {r t : Int} (e : H d = some (.dK (dkv w c r t))) : DGet H d (.str "rest") (some (.int r)) := dkv_r w c r t ▸ DGet.k (k := kR) e
theorem get_t {H : Hp} {d w c : Addr} {r t : Int} (e : H d = some (.dK (dkv w c r t))) : DGet H d (.str "turn") (some (.int t)) := dkv_t w c r t ▸ DGet.k (k := kT) e
theorem put3 {a b c d : Key} {va vb vc vd x : V} (h1 : ¬ a = c) (h2 : ¬ b = c) (h3 : ¬ c = d) : putK [(a, va), (b, vb), (c, vc), (d, vd)] c x = [(a, va), (b, vb), (c, x), (d, vd)] := by
  have h4 : ¬ d = c := fun e => h3 e.symm
  simp [putK, h1, h2, h4]
theorem put4 {a b c d : Key} {va vb vc vd x : V} (h1 : ¬ a = d) (h2 : ¬ b = d) (h3 : ¬ c = d) : putK [(a, va), (b, vb), (c, vc), (d, vd)] d x = [(a, va), (b, vb), (c, vc), (d, x)] := by
  simp [putK, h1, h2, h3]
theorem dkv_putR (w c : Addr) (r t x : Int) : putK (dkv w c r t) kR (.int x) = dkv w c x t := put3 kWR kCR kRT
theorem dkv_putT (w c : Addr) (r t x : Int) : putK (dkv w c r t) kT (.int x) = dkv w c r x := put4 kWT kCT kRT
theorem merge4 (a b c d : V) : mergeK [] [(kW, a), (kC, b), (kR, c), (kT, d)] = [(kW, a), (kC, b), (kR, c), (kT, d)] := by
  have h1 := kWC
  have h2 := kWR
  have h3 := kWT
  have h4 := kCR
  have h5 := kCT
  have h6 := kRT
  generalize kW = k1 at *
  generalize kC = k2 at *
  generalize kR = k3 at *
  generalize kT = k4 at *
  simp [mergeK, putK, h1, h2, h3, h4, h5, h6]
/-- the draw's dict at d, its lists at w and c; at most n turns so far -/
structure DrawAt (H : Hp) (d w c : Addr) (n : Nat) : Prop where
  dict : ∃ r t : Int, 0 ≤ t ∧ t ≤ n ∧ H d = some (.dK (dkv w c r t))
  wide : ∃ ws : List Int, H w = some (.lst (ws.map V.int))
  cells : ∃ cs : List Int, H c = some (.lst (cs.map V.int))
  ne : w ≠ c
theorem Same.new {H : Hp} {p : Addr} {o : HO} (h : H p = none) : Same H (upd H p o) := fun b x e => by
  rw [upd_ne (ne_of_none e h)]
  exact e
/-- a comprehension without an if -/
theorem yes {σ : L2.St} {H : Hp} {A B : Hp → Prop} (h : A H) : tYes σ H fun b H' => if b = true then A H' else B H' := by
  show (if true = true then A H else B H)
  rw [if_pos rfl]
  exact h
/-- all but d and w stand as they stood -/
def But2 (d w : Addr) (H H' : Hp) : Prop := ∀ b o, H b = some o → b ≠ d → b ≠ w → H' b = some o
theorem But2.refl (d w : Addr) (H : Hp) : But2 d w H H := fun _ _ e _ _ => e
theorem But2.trans {d w : Addr} {H H1 H2 : Hp} (a : But2 d w H H1) (b : But2 d w H1 H2) : But2 d w H H2 := fun x o e h1 h2 => b x o (a x o e h1 h2) h1 h2
theorem But2.d {d w : Addr} {H H' : Hp} {o : HO} (a : But2 d w H H') : But2 d w H (upd H' d o) := fun x u e h1 h2 => by rw [upd_ne h1]; exact a x u e h1 h2
theorem But2.w {d w : Addr} {H H' : Hp} {o : HO} (a : But2 d w H H') : But2 d w H (upd H' w o) := fun x u e h1 h2 => by rw [upd_ne h2]; exact a x u e h1 h2
theorem But2.new {d w p : Addr} {H H' : Hp} {o : HO} (a : But2 d w H H') (h : H' p = none) : But2 d w H (upd H' p o) := fun x u e h1 h2 => by
  have q := a x u e h1 h2
  rw [upd_ne (ne_of_none q h)]; exact q
theorem DrawAt.dw {H : Hp} {d w c : Addr} {n : Nat} (h : DrawAt H d w c n) : d ≠ w := by
  obtain ⟨⟨r, t, _, _, e⟩, ⟨ws, e2⟩, _, _⟩ := h
  exact ne_of e e2 (by intro z; cases z)
theorem DrawAt.dc {H : Hp} {d w c : Addr} {n : Nat} (h : DrawAt H d w c n) : d ≠ c := by
  obtain ⟨⟨r, t, _, _, e⟩, _, ⟨cs, e2⟩, _⟩ := h
  exact ne_of e e2 (by intro z; cases z)
/-- what is new is none of the three -/
theorem DrawAt.new {H : Hp} {d w c p : Addr} {n : Nat} {o : HO} (h : DrawAt H d w c n) (hp : H p = none) : DrawAt (upd H p o) d w c n := by
  obtain ⟨⟨r, t, a1, a2, e⟩, ⟨ws, e2⟩, ⟨cs, e3⟩, ne⟩ := h
  exact ⟨⟨r, t, a1, a2, by rw [upd_ne (ne_of_none e hp)]; exact e⟩, ⟨ws, by rw [upd_ne (ne_of_none e2 hp)]; exact e2⟩, ⟨cs, by rw [upd_ne (ne_of_none e3 hp)]; exact e3⟩, ne⟩
theorem DrawAt.mono {H : Hp} {d w c : Addr} {n m : Nat} (h : DrawAt H d w c n) (hn : n ≤ m) : DrawAt H d w c m := by
  obtain ⟨⟨r, t, a1, a2, e⟩, h2, h3, ne⟩ := h
  exact ⟨⟨r, t, a1, by omega, e⟩, h2, h3, ne⟩
theorem dp_ints {K : PySem.W.Frag} {H : Hp} : ∀ ns : List Int, DpAll K H (ns.map V.int) (ns.map PyData.int)
  | [] => .nil
  | n :: ns => .cons (.int n) (dp_ints ns)
theorem canLay_ints : ∀ ns : List Int, PyData.canLayAll0 (ns.map PyData.int) = true
  | [] => rfl
  | n :: ns => by
    rw [List.map_cons]
    simp only [PyData.canLayAll0, PyData.canLay0, canLay_ints ns, Bool.and_self]
theorem depth_ints : ∀ ns : List Int, (PyData.list (ns.map PyData.int)).depth ≤ 2 := by
  intro ns
  have h : ∀ l : List Int, PyData.depthAll (l.map PyData.int) = 0 := by
    intro l
    induction l with
    | nil => rfl
    | cons n l ih => rw [List.map_cons]; simp only [PyData.depthAll, PyData.depth, ih]; rfl
  simp only [PyData.depth, h]
  decide
theorem shaped_ints (ns : List Int) : SeqAt.shaped (.list (ns.map PyData.int)) = true := by
  show (PyData.canLay0 _ && decide _) = true
  rw [Bool.and_eq_true]
  refine ⟨?_, decide_eq_true (Nat.le_trans (depth_ints ns) (by decide))⟩
  simp only [PyData.canLay0, canLay_ints]
theorem seq0 {α : Type} (x : α) (xs : List α) : seqIndex? 0 (x :: xs).length = some 0 := by
  unfold seqIndex?
  simp
theorem DrawAt.setR {H : Hp} {d w c : Addr} {n : Nat} {r t x : Int} (h : DrawAt H d w c n) (e : H d = some (.dK (dkv w c r t))) : DrawAt (upd H d (.dK (dkv w c x t))) d w c n := by
  have h1 := h.dw
  have h2 := h.dc
  obtain ⟨⟨r', t', a1, a2, e'⟩, ⟨ws, e2⟩, ⟨cs, e3⟩, ne⟩ := h
  have et : t = t' := by
    rw [e] at e'
    injection e' with e'
    injection e' with e'
    have := congrArg (fun l => valV l kT) e'
    simp only [dkv_t] at this
    injection this with this
    injection this
  exact ⟨⟨x, t, by omega, by omega, upd_same⟩, ⟨ws, by rw [upd_ne h1.symm]; exact e2⟩, ⟨cs, by rw [upd_ne h2.symm]; exact e3⟩, ne⟩
/-- one more long number -/
def spMixed : Sp := fun vs H Q _ => ∃ (d w c : Addr) (n : Nat), vs = [.ref d] ∧ DrawAt H d w c n ∧ n < 2 ^ 40 ∧ ∀ (i : Int) (H' : Hp), DrawAt H' d w c (n + 1) → But2 d w H H' → Q (.int i) H'
/-- a number from 0 to many - 1 -/
def spTake : Sp := fun vs H Q _ => ∃ (d w c : Addr) (n : Nat) (m : Int), vs = [.ref d, .int m] ∧ DrawAt H d w c n ∧ n < 2 ^ 40 ∧ 0 < m ∧ m < 2 ^ 29 ∧ ∀ (i : Int) (H' : Hp), 0 ≤ i → i < m → DrawAt H' d w c (n + 1) → But2 d w H H' → Q (.int i) H'
section
variable {P : Program} {w0 : World} {K : PySem.W.Frag} {mg : Str → Option Value} {base : Heap}
theorem scTake : FnScope ["draw", "many", "found"] ["draw", "many"] (defScope sTake) := ⟨rfl, rfl, rfl, by decide +kernel, rfl, by decide +kernel, by decide +kernel⟩
theorem ok_take {f fM : Addr} {fd fdM : FuncData} (F : Fun K "_law_take" "_law_take" sTake f fd) (FM : Fun K "_law_mixed" "_law_mixed" sMixed fM fdM) (bM : Binds K fdM ["draw"] []) (gM : mg "_law_mixed" = some (.ref fM)) (gi : mg "int" = none)
    (GM : FnOk P w0 K mg base CX0 1 fM fdM ["draw"] spMixed) : FnOk P w0 K mg base CX0 2 f fd ["draw", "many"] spTake := by
  refine F.ok scTake (fun vs H Q E h => ?_) (fun cdv A outer s H vs Q E hr h => ?_)
  · obtain ⟨d, w, c, n, m, rfl, _⟩ := h
    rfl
  · obtain ⟨d, w, c, n, m, rfl, hD, hn, hm0, hm, k⟩ := h
    have hu := hu_of hr
    refine ⟨_, Evl.pss_cut (ps_if (pt_cmpR op_eq (pe_dget hu (pv 0) pe_str (fun _ _ => rfl)) pe_int (nomark _))
        (pss_one (ps_dput hu (pv 0) pe_str (pe_ifExp (pt_cmpR (op_neD hr.units) (pe_dget hu (pv 0) pe_str (fun _ _ => rfl)) (pe_lst pa_nil) (nomark _))
          (pe_bm PySem.F.plainAttrs_list PySem.F.slot_list_pop PySem.F.type_list_pop mt_popAt (pe_dget hu (pv 0) pe_str (fun _ _ => rfl)) (pa_cons pe_int pa_nil))
          (pe_call GM hr (by rfl) gM FM.kp bM .nil pass0 (pa_cons (pv 0) pa_nil))) rfl)) pss_nil)
      (pss_cons (ps_set (i := 2) scTake.nd rfl (.inl rfl) (pe_op op_mod (pe_callTy call_int1 (by rfl) gi PySem.Pv.boot_int (pa_cons (pe_dget hu (pv 0) pe_str (fun _ _ => rfl)) pa_nil)) (pv 1)))
      (pss_cons (ps_dput hu (pv 0) pe_str (pe_op op_fdiv (pe_dget hu (pv 0) pe_str (fun _ _ => rfl)) (pv 1)) rfl)
      (pss_one (ps_ret (pv 2))))), ?_⟩
    obtain ⟨⟨r, t, ht0, htn, hd⟩, ⟨ws, hw⟩, ⟨cs, hc⟩, ne⟩ := id hD
    have hdw : d ≠ w := hD.dw
    refine ⟨fun σ H1 => σ = [some (.ref d), some (.int m), none] ∧ DrawAt H1 d w c (n + 1) ∧ But2 d w H H1, ?_, ?_⟩
    · refine ⟨_, rfl, d, _, rfl, get_r hd, rfl, _, rfl, ?_⟩
      refine ite2 (fun _ => ?_) (fun _ => ?_)
      · -- draw['wide'] != []
        refine ⟨_, rfl, d, _, rfl, get_w hd, Nat.zero_le _, fun p hp => ?_⟩
        have hd1 : (upd H p (.lst [])) d = some (.dK (dkv w c r t)) := by rw [upd_ne (ne_of_none hd hp)]; exact hd
        have hw1 : (upd H p (.lst [])) w = some (.lst (ws.map V.int)) := by rw [upd_ne (ne_of_none hw hp)]; exact hw
        have hD1 : DrawAt (upd H p (.lst [])) d w c n := hD.new hp
        refine ⟨_, _, .lst (SqL.of hw1) (dp_ints ws), .lst (SqL.of upd_same) .nil, shaped_ints ws, rfl, _, rfl, ?_⟩
        cases ws with
        | nil =>
          refine iteF ?_
          refine ⟨_, rfl, d, w, c, n, rfl, hD1, hn, fun i H2 hD2 b2 => ?_⟩
          obtain ⟨⟨r2, t2, a1, a2, e2⟩, q2, q3, q4⟩ := id hD2
          refine ⟨_, rfl, d, _, rfl, DPut.k (k := kR) e2 (by show 4 < sizeLine; decide), ?_⟩
          rw [dkv_putR]
          exact ⟨rfl, hD2.setR e2, ((But2.refl d w H).new hp |>.trans b2).d⟩
        | cons x ws =>
          refine iteT ?_
          refine ⟨_, rfl, d, _, rfl, get_w hd1, Or.inl ⟨rfl, _, SqL.of hw1⟩, w, _, 0, 0, _, rfl, rfl, hw1, by decide, by decide, seq0 _ _, rfl, ?_⟩
          have hd2 : ∀ o, (upd (upd H p (.lst [])) w o) d = some (.dK (dkv w c r t)) := fun o => by rw [upd_ne hdw]; exact hd1
          refine ⟨_, rfl, d, _, rfl, DPut.k (k := kR) (hd2 _) (by show 4 < sizeLine; decide), ?_⟩
          rw [dkv_putR]
          refine ⟨rfl, ⟨⟨x, t, ht0, by omega, upd_same⟩, ⟨ws, ?_⟩, ⟨cs, ?_⟩, ne⟩, (((But2.refl d w H).new hp).w).d⟩
          · rw [upd_ne hdw.symm, upd_same]
            rfl
          · rw [upd_ne hD.dc.symm, upd_ne ne.symm, upd_ne (ne_of_none hc hp)]
            exact hc
      · exact ⟨rfl, hD.mono (Nat.le_succ n), But2.refl d w H⟩
    · rintro σ H1 ⟨rfl, hD1, b1⟩
      obtain ⟨⟨r1, t1, a1, a2, e1⟩, q2, q3, q4⟩ := id hD1
      refine ⟨_, rfl, d, _, rfl, get_r e1, .inl ⟨r1, rfl, _, rfl, r1, m, rfl, rfl, hm0, ?_⟩⟩
      refine ⟨_, rfl, d, _, rfl, get_r e1, _, rfl, r1, m, rfl, rfl, ⟨hm0, by omega⟩, _, rfl, d, _, rfl, DPut.k (k := kR) e1 (by show 4 < sizeLine; decide), ?_⟩
      rw [dkv_putR]
      exact ⟨_, rfl, k _ _ (Int.emod_nonneg _ (by omega)) (Int.emod_lt_of_pos _ hm0) (hD1.setR e1) b1.d⟩
abbrev nMixed : List Str := ["draw", "turn", "found", "prime", "blend", "cell"]
theorem scMixed : FnScope nMixed ["draw"] (defScope sMixed) := ⟨rfl, rfl, rfl, by decide +kernel, rfl, by decide +kernel, by decide +kernel⟩
def primes : List Int := [2147483629, 2147483587, 2147483579, 2147483563]
theorem prime_bd {i : Nat} {x : V} (h : (primes.map V.int)[i]? = some x) : ∃ p : Int, x = .int p ∧ 2147483563 ≤ p ∧ p ≤ 2147483629 := by
  have hx : x ∈ primes.map V.int := List.mem_of_getElem? h
  obtain ⟨p, hp, rfl⟩ := List.mem_map.mp hx
  refine ⟨p, rfl, ?_⟩
  simp [primes] at hp
  omega
theorem ok_mixed {f : Addr} {fd : FuncData} (F : Fun K "_law_mixed" "_law_mixed" sMixed f fd) (gi : mg "int" = none) : FnOk P w0 K mg base CX0 1 f fd ["draw"] spMixed := by
  refine F.ok scMixed (fun vs H Q E h => ?_) (fun cdv A outer s H vs Q E hr h => ?_)
  · obtain ⟨d, w, c, n, rfl, _⟩ := h
    rfl
  · obtain ⟨d, w, c, n, rfl, hD, hn, k⟩ := h
    have hu := hu_of hr
    refine ⟨_, pss_cons (ps_par (i := 1) (j := 2) rfl scMixed.nd rfl rfl (by decide) rfl rfl (pa_cons (pe_op op_add (pe_dget hu (pv 0) pe_str (fun _ _ => rfl)) pe_int) (pa_cons pe_int pa_nil)) rfl)
      (pss_cons (ps_dput hu (pv 0) pe_str (pv 1) rfl)
      (pss_cons (ps_for PassesOwn.never rfl (pi_list (pe_lst (pa_cons pe_int (pa_cons pe_int (pa_cons pe_int (pa_cons pe_int pa_nil)))))) (pg_name (i := 3) scMixed.nd rfl (.inl rfl))
        (pss_cons (ps_set (i := 4) scMixed.nd rfl (.inl rfl) (pe_op op_add (pe_op op_mul pe_int (pv 1)) (pe_op op_fdiv (pv 3) pe_int)))
        (pss_cons (ps_for PassesOwn.never rfl (pi_list (pe_dget hu (pv 0) pe_str (fun _ _ => rfl))) (pg_name (i := 5) scMixed.nd rfl (.inl rfl))
          (pss_one (ps_set (i := 4) scMixed.nd rfl (.inl rfl) (pe_op op_mod (pe_callTy call_int1 (by rfl) gi PySem.Pv.boot_int (pa_cons (pe_op op_add (pe_op op_add (pe_op op_mul (pv 4) pe_int) (pv 5)) (pv 1)) pa_nil)) (pv 3)))))
        (pss_one (ps_set (i := 2) scMixed.nd rfl (.inl rfl) (pe_op op_add (pe_op op_mul (pv 2) pe_int) (pe_op op_mod (pe_callTy call_int1 (by rfl) gi PySem.Pv.boot_int (pa_cons (pe_op op_pow (pv 4) pe_int) pa_nil)) (pv 3))))))))
      (pss_one (ps_ret (pv 2))))), ?_⟩
    obtain ⟨⟨r, t, ht0, htn, hd⟩, ⟨ws, hw⟩, ⟨cs, hc⟩, ne⟩ := id hD
    refine ⟨_, rfl, d, _, rfl, get_t hd, _, _, rfl, rfl, _, _, rfl, ?_⟩
    refine ⟨_, rfl, _, rfl, d, _, rfl, DPut.k (k := kT) hd (by show 4 < sizeLine; decide), ?_⟩
    rw [dkv_putT]
    have hD1 : DrawAt (upd H d (.dK (dkv w c r (t + 1)))) d w c (n + 1) := ⟨⟨r, t + 1, by omega, by omega, upd_same⟩, ⟨ws, by rw [upd_ne hD.dw.symm]; exact hw⟩, ⟨cs, by rw [upd_ne hD.dc.symm]; exact hc⟩, ne⟩
    have b1 : But2 d w H (upd H d (.dK (dkv w c r (t + 1)))) := (But2.refl d w H).d
    refine ⟨by show 4 ≤ sizeLine; decide, fun p hp => ?_⟩
    have hD2 := hD1.new (o := HO.lst (primes.map V.int)) hp
    have b2 := b1.new (o := HO.lst (primes.map V.int)) hp
    have hd2 : (upd (upd H d (.dK (dkv w c r (t + 1)))) p (.lst (primes.map V.int))) d = some (.dK (dkv w c r (t + 1))) := by
      rw [upd_ne (ne_of_none (upd_same (o := HO.dK (dkv w c r (t + 1)))) hp), upd_same]
    have hc2 : (upd (upd H d (.dK (dkv w c r (t + 1)))) p (.lst (primes.map V.int))) c = some (.lst (cs.map V.int)) := by
      have hc1 : (upd H d (.dK (dkv w c r (t + 1)))) c = some (.lst (cs.map V.int)) := by rw [upd_ne hD.dc.symm]; exact hc
      rw [upd_ne (ne_of_none hc1 hp)]
      exact hc1
    have hp2 : (upd (upd H d (.dK (dkv w c r (t + 1)))) p (.lst (primes.map V.int))) p = some (.lst (primes.map V.int)) := upd_same
    refine ⟨p, rfl, ⟨_, SqL.of hp2⟩, for_list (K := K) (a := p) (xs := primes.map V.int) (fun i σ H' => H' = upd (upd H d (.dK (dkv w c r (t + 1)))) p (.lst (primes.map V.int)) ∧ ∃ (f : Int) (x y z : Option V), σ = [some (.ref d), some (.int (t + 1)), some (.int f), x, y, z])
      ⟨rfl, 0, none, none, none, rfl⟩ (fun i σ H' _ ⟨e, _⟩ => e ▸ SqL.of hp2) ?_ ?_⟩
    · rintro i x σ H' hx ⟨rfl, f, y3, y4, y5, rfl⟩
      obtain ⟨q, rfl, q1, q2⟩ := prime_bd hx
      refine ⟨_, rfl, _, _, rfl, rfl, .inl ⟨by decide, by decide⟩, _, rfl, _, _, rfl, rfl, ⟨by decide, by decide⟩, _, _, rfl, rfl, ?_⟩
      -- the inner loop: blend is never far
      refine ⟨_, rfl, d, _, rfl, get_c hd2, c, rfl, ⟨_, SqL.of hc2⟩, for_list (K := K) (a := c) (xs := cs.map V.int) (fun i σ H' => H' = upd (upd H d (.dK (dkv w c r (t + 1)))) p (.lst (primes.map V.int)) ∧ ∃ (b : Int) (z : Option V), 0 ≤ b ∧ b < 2 ^ 62 ∧ σ = [some (.ref d), some (.int (t + 1)), some (.int f), some (.int q), some (.int b), z])
        ⟨rfl, _, y5, ?_, ?_, rfl⟩ (fun i σ H' _ ⟨e, _⟩ => e ▸ SqL.of hc2) ?_ ?_⟩
      · omega
      · omega
      · rintro i x σ H' hx ⟨rfl, b, z, hb0, hb, rfl⟩
        obtain ⟨v, hv⟩ : ∃ v : Int, x = .int v := by
          have hm : x ∈ cs.map V.int := List.mem_of_getElem? hx
          obtain ⟨v, _, e⟩ := List.mem_map.mp hm
          exact ⟨v, e.symm⟩
        subst hv
        refine ⟨_, rfl, _, _, rfl, rfl, .inr ⟨by decide, by decide⟩, _, rfl, _, _, rfl, rfl, _, rfl, _, _, rfl, rfl, .inl ⟨_, rfl, _, rfl, _, _, rfl, rfl, (show (0 : Int) < q by omega), ?_⟩⟩
        exact ⟨rfl, _, _, Int.emod_nonneg _ (by omega), Int.lt_of_lt_of_le (Int.emod_lt_of_pos _ (by omega)) (by omega), rfl⟩
      · rintro σ H' ⟨rfl, b, z, hb0, hb, rfl⟩
        refine ⟨_, rfl, _, _, rfl, rfl, .inr ⟨by decide, by decide⟩, _, rfl, _, _, rfl, rfl, ⟨by decide, by decide, by omega⟩, .inl ⟨_, rfl, _, rfl, _, _, rfl, rfl, (show (0 : Int) < q by omega), _, _, rfl, rfl, ?_⟩⟩
        exact ⟨rfl, _, _, _, _, rfl⟩
    · rintro σ H' ⟨rfl, f, x, y, z, rfl⟩
      exact ⟨_, rfl, k _ _ hD2 b2⟩
/-- one of a list's items -/
def spPick (K : PySem.W.Frag) : Sp := fun vs H Q _ => ∃ (d w c a : Addr) (n : Nat) (xs : List V), vs = [.ref d, .ref a] ∧ DrawAt H d w c n ∧ n < 2 ^ 40 ∧ a ≠ d ∧ a ≠ w ∧ SqL K H a xs ∧ xs ≠ [] ∧ xs.length < 2 ^ 29 ∧
  ∀ (x : V) (H' : Hp), x ∈ xs → DrawAt H' d w c (n + 1) → But2 d w H H' → Q x H'
theorem But2.seq {d w a : Addr} {H H' : Hp} {xs : List V} (b : But2 d w H H') (h1 : a ≠ d) (h2 : a ≠ w) (h : SqL K H a xs) : SqL K H' a xs := by
  rcases h with (h | ⟨o, h⟩) | h
  · exact .inl (.inl (b _ _ h h1 h2))
  · exact .inl (.inr ⟨o, b _ _ h h1 h2⟩)
  · exact .inr h
theorem scPick : FnScope ["draw", "some"] ["draw", "some"] (defScope sPick) := ⟨rfl, rfl, rfl, by decide +kernel, rfl, by decide +kernel, by decide +kernel⟩
theorem ok_pick {f fT : Addr} {fd fdT : FuncData} (F : Fun K "_law_pick" "_law_pick" sPick f fd) (FT : Fun K "_law_take" "_law_take" sTake fT fdT) (bT : Binds K fdT ["draw", "many"] []) (gT : mg "_law_take" = some (.ref fT)) (gl : mg "len" = none)
    (GT : FnOk P w0 K mg base CX0 2 fT fdT ["draw", "many"] spTake) : FnOk P w0 K mg base CX0 3 f fd ["draw", "some"] (spPick K) := by
  refine F.ok scPick (fun vs H Q E h => ?_) (fun cdv A outer s H vs Q E hr h => ?_)
  · obtain ⟨d, w, c, a, n, xs, rfl, _⟩ := h
    rfl
  · obtain ⟨d, w, c, a, n, xs, rfl, hD, hn, ad, aw, hS, hx, hl, k⟩ := h
    refine ⟨_, pss_one (ps_ret (pe_ix ix_list (pv 1) (pe_call GT hr (by rfl) gT FT.kp bT .nil pass0 (pa_cons (pv 0) (pa_cons (pe_callB call_len_seq (by rfl) gl PySem.boot_len (pa_cons (pv 1) pa_nil)) pa_nil))) (fun _ _ => rfl))), ?_⟩
    have h0 : 0 < xs.length := List.length_pos_iff.mpr hx
    refine ⟨_, rfl, _, rfl, _, rfl, a, xs, rfl, .inl hS, d, w, c, n, xs.length, rfl, hD, hn, by omega, by omega, fun i H1 i0 i1 hD1 b1 => ?_⟩
    have hi : i.toNat < xs.length := by omega
    refine ⟨a, xs, i, xs[i.toNat], rfl, rfl, b1.seq ad aw hS, ?_, k _ _ (List.getElem_mem hi) hD1 b1⟩
    obtain ⟨j, rfl⟩ := Int.eq_ofNat_of_zero_le i0
    exact atI_nat (List.getElem?_eq_getElem (by omega))
/-- the state of all draws -/
def spBegun (K : PySem.W.Frag) : Sp := fun vs H Q _ => ∃ (a : Addr) (ns : List Int), vs = [.ref a] ∧ SqL K H a (ns.map V.int) ∧ ns.length ≤ 63 ∧ ∀ (d w c : Addr) (H' : Hp), H d = none → H w = none → H c = none → DrawAt H' d w c 0 → Same H H' → Q (.ref d) H'
abbrev nBegun : List Str := ["script", "wide", "cell"]
theorem scBegun : FnScope nBegun ["script"] (defScope sBegun) := ⟨rfl, rfl, rfl, by decide +kernel, rfl, by decide +kernel, by decide +kernel⟩
theorem ok_begun {f : Addr} {fd : FuncData} (F : Fun K "_law_begun" "_law_begun" sBegun f fd) (gi : mg "int" = none) (ga : mg "abs" = none) : FnOk P w0 K mg base CX0 1 f fd ["script"] (spBegun K) := by
  refine F.ok scBegun (fun vs H Q E h => ?_) (fun cdv A outer s H vs Q E hr h => ?_)
  · obtain ⟨a, ns, rfl, _⟩ := h
    rfl
  · obtain ⟨a, ns, rfl, hS, hl, k⟩ := h
    have hu := hu_of hr
    refine ⟨_, pss_cons (ps_setLc (i := 1) (own := [("cell", 2)]) (g := gName 2) (tt := _) (by rfl) scBegun.nd rfl rfl (sw_true rfl rfl rfl (by decide +kernel)) (pi_list (pv 0)) (blkOk_by (N := nBegun) (sc := defScope sBegun) (by decide +kernel))
        (fun _ _ _ _ _ => pg_name (i := 2) scBegun.nd rfl (Or.inl rfl))
        (fun _ _ _ _ _ => pts_one (pt_cmpR op_ge (pe_callB call_abs (by rfl) ga (by decide +kernel) (pa_cons (pv 2) pa_nil)) (pe_op op_pow pe_int pe_int) (nomark _)))
        (fun _ _ _ _ _ => pe_op op_sub (pe_callB call_abs (by rfl) ga (by decide +kernel) (pa_cons (pv 2) pa_nil)) (pe_op op_pow pe_int pe_int)))
      (pss_one (ps_ret (pe_disp (pps_cons pe_str (pv 1) (pps_cons pe_str (pe_lc (own := [("cell", 2)]) (g := gName 2) (tt := tYes) (by rfl) scBegun.nd (pi_list (pv 0)) (blkOk_by (N := nBegun) (sc := defScope sBegun) (by decide +kernel))
          (fun _ _ _ _ _ => pg_name (i := 2) scBegun.nd rfl (Or.inl rfl)) (fun _ _ _ _ _ => pts_nil)
          (fun _ _ _ _ _ => pe_op op_mod (pe_callTy call_int1 (by rfl) gi PySem.Pv.boot_int (pa_cons (pe_callB call_abs (by rfl) ga (by decide +kernel) (pa_cons (pv 2) pa_nil)) pa_nil)) pe_int))
        (pps_cons pe_str pe_int (pps_cons pe_str pe_int pps_nil)))) (by rfl) (by rfl) (fun z => by cases z) (by decide)))), ?_⟩
    have h18 : CPow 10 18 := ⟨by decide, by decide, by decide⟩
    have hint : ∀ (i : Nat) (x : V), (ns.map V.int)[i]? = some x → ∃ v : Int, x = .int v := fun i x hx => by
      obtain ⟨v, _, e⟩ := List.mem_map.mp (List.mem_of_getElem? hx)
      exact ⟨v, e.symm⟩
    refine ⟨_, rfl, a, rfl, ⟨_, hS⟩, fun w hw => lc_list (K := K) (a := a) (xs := ns.map V.int) (fun i H' => Same H H' ∧ ∃ ws : List Int, H' w = some (.lst (ws.map V.int)) ∧ ws.length ≤ i)
      ⟨Same.new hw, [], upd_same, Nat.le_refl _⟩ (fun i H' _ ⟨e, _⟩ => e.seq hS) ?_ ?_⟩
    · rintro i x H' hx ⟨s1, ws, hw1, hwl⟩
      obtain ⟨v, rfl⟩ := hint i x hx
      have hi : i < ns.length := by
        have := (List.getElem?_eq_some_iff.mp hx).1
        rw [List.length_map] at this
        exact this
      refine ⟨rfl, _, rfl, _, rfl, _, _, rfl, rfl, h18, _, _, rfl, rfl, _, rfl, ite2 (fun _ => ?_) (fun _ => ?_)⟩
      · refine ⟨_, rfl, _, rfl, _, _, rfl, rfl, h18, _, _, rfl, rfl, _, hw1, small1000 (by rw [List.length_map]; omega), fun b o e => ?_, ws ++ [(if v < 0 then -v else v) - 10 ^ 18], ?_, ?_⟩
        · rw [upd_ne (ne_of_none e hw)]
          exact s1 b o e
        · rw [upd_same, List.map_append]
          rfl
        · rw [List.length_append, List.length_singleton]
          omega
      · exact ⟨s1, ws, hw1, by omega⟩
    · rintro H1 ⟨s1, ws, hw1, hwl⟩
      intro d hd
      have nd : d ≠ w := fun z => by rw [z, hw1] at hd; cases hd
      have s2 : Same H (upd H1 d (.dK [])) := s1.trans (Same.new hd)
      have hw2 : (upd H1 d (.dK [])) w = some (.lst (ws.map V.int)) := by rw [upd_ne nd.symm]; exact hw1
      refine ⟨_, rfl, _, rfl, a, rfl, ⟨_, s2.seq hS⟩, fun c hc => lc_list (K := K) (a := a) (xs := ns.map V.int) (fun i H' => Same (upd H1 d (.dK [])) H' ∧ ∃ cs : List Int, H' c = some (.lst (cs.map V.int)) ∧ cs.length ≤ i)
        ⟨Same.new hc, [], upd_same, Nat.le_refl _⟩ (fun i H' _ ⟨e, _⟩ => e.seq (s2.seq hS)) ?_ ?_⟩
      · rintro i x H' hx ⟨s3, cs, hc1, hcl⟩
        obtain ⟨v, rfl⟩ := hint i x hx
        have hi : i < ns.length := by
          have := (List.getElem?_eq_some_iff.mp hx).1
          rw [List.length_map] at this
          exact this
        refine ⟨rfl, yes ?_⟩
        refine ⟨_, rfl, _, rfl, .inl ⟨_, rfl, _, _, rfl, rfl, (by show (0 : Int) < 2147483629; decide), _, hc1, small1000 (by rw [List.length_map]; omega), fun b o e => ?_, cs ++ [(if v < 0 then -v else v) % 2147483629], ?_, ?_⟩⟩
        · rw [upd_ne (ne_of_none e hc)]
          exact s3 b o e
        · rw [upd_same, List.map_append]
          rfl
        · rw [List.length_append, List.length_singleton]
          omega
      · rintro H3 ⟨s3, cs, hc3, hcl⟩
        have hd3 : H3 d = some (.dK []) := s3 _ _ upd_same
        have hw3 : H3 w = some (.lst (ws.map V.int)) := s3 _ _ hw2
        have ndc : c ≠ d := fun z => by rw [z, upd_same] at hc; cases hc
        have nwc : w ≠ c := fun z => by rw [← z, hw2] at hc; cases hc
        refine ⟨hd3, [(kW, .ref w), (kC, .ref c), (kR, .int 0), (kT, .int 0)], rfl, (by show 4 ≤ 15; decide), ?_⟩
        rw [merge4]
        refine k d w c _ (s1.free hd) hw ?_ ⟨⟨0, 0, by decide, by decide, upd_same⟩, ⟨ws, ?_⟩, ⟨cs, ?_⟩, nwc⟩ fun b o e => ?_
        · exact s2.free hc
        · rw [upd_ne nd.symm]
          exact hw3
        · rw [upd_ne ndc]
          exact hc3
        · rw [upd_ne (ne_of_none e (s1.free hd))]
          exact s3 _ _ (s2 _ _ e)
end
end SA

set_option Elab.async false
set_option linter.all false
set_option maxRecDepth 100000
set_option maxHeartbeats 4000000
namespace SA
open PySem PySem.Spec PyProof.Rows L2

def cn0 : List Str := ["BadTree", "BadWord", "BadText", "BadPlace", "BadNames", "BadTexts", "BadName", "BadCount", "BadUnit", "BadUnits", "NoUnit", "UsesRing", "BadFaces", "BadPoint", "BadPath", "NoFunction", "Faulty", "KindClash"]
def cn1 : List Str := ["TwoNames", "BadProgram", "BadArguments", "BadMost", "NotNow", "BadMoment", "BadChosen", "BadScope", "BadKinds", "BadFunctions", "Unknown", "BadCode", "BadCodes", "BadSpot", "BadState", "BadWalk", "BadBlock", "BadStep"]
def cn2 : List Str := ["Refused", "BadRows", "BadSlots", "BadSpans", "BadRoom", "BadPrices", "NotStraight", "BadPairs", "BadHelpers", "BadPlaces", "BadPaper", "BadChanges", "BadWaiting", "BadHeap", "BadWords", "BadAddresses", "BadDepth", "NotTold"]
def cn3 : List Str := ["BadRegisters", "BadObject", "BadObjects", "TwoUnits", "BadOrder", "OtherRegisters", "Missing", "OtherFace", "BadBundle", "BadNumber", "BadBits", "BadInstruction", "BadOrders", "BadLong", "BadLeap", "BadLayout", "BadImage", "BadAddress"]
def cn : List Str := cn0 ++ cn1 ++ cn2 ++ cn3
/-- where the k-th class stands -/
abbrev cAt (ca : Nat → Addr) (mg : Str → Option Value) : Prop := ∀ k x, cn[k]? = some x → mg x = some (.ref (ca k))
/-- what the written part says of the classes: ca their addresses, SE that of the base of all -/
structure Cls24 (K : PySem.W.Frag) (mg : Str → Option Value) (ca : Nat → Addr) (SE : Addr) : Prop where
  at_ : ∀ k x, cn[k]? = some x → mg x = some (.ref (ca k))
  se : mg "StopError" = some (.ref SE)
  exc : ∀ k, k < 72 → ExcC K (ca k)
  xf : ∀ k, k < 72 → XfC K (ca k)
  one : ∀ i j, i < 72 → j < 72 → PySem.W.kitOne K (.ref (ca i)) (.ref (ca j)) = some (decide (i = j))
  base : ∀ i, i < 72 → PySem.W.kitOne K (.ref (ca i)) (.ref SE) = some true
  ve : ∀ i, i < 72 → PySem.W.kitOne K (.ref (ca i)) (.type "ValueError") = some true
  keep : ∀ i, i < 72 → PySem.W.keepIn K (.ref (ca i)) = true

def plainI : List Nat := [0, 1, 3, 4, 5, 6, 8, 12, 13, 14, 19, 20, 21, 23, 24, 25, 26, 29, 31, 32, 33, 34, 35, 38, 40, 41, 42, 44, 45, 46, 48, 49, 50, 51, 52, 54, 58, 59, 62, 63, 66, 67, 68, 69, 70, 71]
def toldI : List Nat := [2, 7, 9, 10, 11, 15, 16, 17, 18, 22, 27, 28, 30, 36, 37, 39, 43, 47, 53, 55, 56, 57, 60, 61, 64, 65]
/-- a class without an __init__ of its own | with one -/
structure Plain24 (K : PySem.W.Frag) (ca : Nat → Addr) : Prop where
  exc : ∀ i ∈ plainI, PySem.W.excIn K (ca i) [.type "ValueError", .type "Exception", .type "BaseException", .type "object"] "ValueError.__new__" = true
/-- the class C has an own __init__ at f, and the fields of these names are no names of the class -/
structure Own24 (K : PySem.W.Frag) (C f : Addr) (fs : List Str) : Prop where
  oex : OexC K C
  init : PySem.W.findIn K (.ref C) "__init__" = some (some (.ref f))
  fn : PySem.W.typeIn K (.ref f) = some (.type "function")
  no : ∀ x ∈ fs, PySem.W.findIn K (.ref C) x = some none
/-- __init__'s promise: the fields hold the arguments -/
def spInit (C : Addr) (fs : List Str) : Sp := fun vs H Q _ => ∃ (a : Addr) (xs : List V), vs = .ref a :: xs ∧ xs.length = fs.length ∧ H a = some (exo a C none) ∧
  ∀ (dx : Addr) (H' : Hp), H dx = none → dx ≠ a → H' a = some (exo a C (some dx)) → H' dx = some (exd dx (fs.zip xs).reverse) → (∀ b o, H b = some o → b ≠ a → H' b = some o) → Q .non H'
/-- self.f = e, the first field -/
theorem st_first {K : PySem.W.Frag} {C a : Addr} {f : Str} {i j : Nat} {D : Ends} {σ : L2.St} {H : Hp} {v : V} (T : OexC K C) (no : PySem.W.findIn K (.ref C) f = some none) (hi : σ[i]? = some (some (.ref a))) (hj : σ[j]? = some (some v))
    (ha : H a = some (exo a C none)) (k : ∀ dx, H dx = none → dx ≠ a → D.nx σ (upd (upd H dx (exd dx [(f, v)])) a (exo a C (some dx)))) : tOst K f (tVar i) (tVar j) D σ H :=
  ⟨v, hj, .ref a, hi, a, C, rfl, T, no, .inl ⟨ha, k⟩⟩
theorem st_next {K : PySem.W.Frag} {C a dx : Addr} {f : Str} {i j : Nat} {D : Ends} {σ : L2.St} {H : Hp} {v : V} {fs : List (Str × V)} (T : OexC K C) (no : PySem.W.findIn K (.ref C) f = some none) (hi : σ[i]? = some (some (.ref a))) (hj : σ[j]? = some (some v))
    (ha : H a = some (exo a C (some dx))) (hd : H dx = some (exd dx fs)) (hl : fs.length ≤ 900) (k : D.nx σ (upd H dx (exd dx ((f, v) :: fs)))) : tOst K f (tVar i) (tVar j) D σ H :=
  ⟨v, hj, .ref a, hi, a, C, rfl, T, no, .inr ⟨dx, fs, ha, hd, hl, k⟩⟩
theorem exo_exd {a C dx : Addr} {d : Option Addr} {H : Hp} {fs : List (Str × V)} : True := trivial
section
variable {P : Program} {w0 : World} {K : PySem.W.Frag} {mg : Str → Option Value} {base : Heap} {C f : Addr} {fd : FuncData}

abbrev sI_BadText : Stmt := inClass (topS 4) 0
theorem scI_BadText : FnScope ["self", "line", "column", "wanted"] ["self", "line", "column", "wanted"] (defScope sI_BadText) := ⟨rfl, rfl, rfl, by decide +kernel, rfl, by decide +kernel, by decide +kernel⟩
theorem okI_BadText (F : Fun K "__init__" "BadText.__init__" sI_BadText f fd) (T : Own24 K C f ["line", "column", "wanted"]) : FnOk P w0 K mg base CX0 1 f fd ["self", "line", "column", "wanted"] (spInit C ["line", "column", "wanted"]) := by
  refine F.ok scI_BadText (fun vs H Q E h => ?_) (fun cdv A outer s H vs Q E hr h => ?_)
  · obtain ⟨a, xs, rfl, hl, _⟩ := h
    exact congrArg (· + 1) hl
  · obtain ⟨a, xs, rfl, hl, ha, k⟩ := h
    match xs, hl with
    | [x0, x1, x2], _ =>
      refine ⟨_, pss_cons (ps_ost (pv 0) (pv 1)) (pss_cons (ps_ost (pv 0) (pv 2)) (pss_one (ps_ost (pv 0) (pv 3)))), ?_⟩
      refine st_first T.oex (T.no _ (by simp)) rfl rfl ha fun dx hd ne => ?_
      have h1 : ∀ o, (upd (upd H dx o) a (exo a C (some dx))) a = some (exo a C (some dx)) := fun _ => upd_same
      have h2 : ∀ o, (upd (upd H dx o) a (exo a C (some dx))) dx = some o := fun _ => by rw [upd_ne ne, upd_same]
      have ha1 : ∀ (H1 : Hp) o, H1 a = some (exo a C (some dx)) → (upd H1 dx o) a = some (exo a C (some dx)) := fun H1 o e => by rw [upd_ne ne.symm]; exact e
      refine st_next T.oex (T.no _ (by simp)) rfl rfl (h1 _) (h2 _) (by simp) ?_
      refine st_next T.oex (T.no _ (by simp)) rfl rfl (ha1 _ _ (h1 _)) upd_same (by simp) ?_
      exact k dx _ hd ne (ha1 _ _ (ha1 _ _ (h1 _))) upd_same fun b o e hb => by rw [upd_ne (ne_of_none e hd), upd_ne (ne_of_none e hd), upd_ne hb, upd_ne (ne_of_none e hd)]; exact e
abbrev sI_BadCount : Stmt := inClass (topS 9) 0
theorem scI_BadCount : FnScope ["self", "count"] ["self", "count"] (defScope sI_BadCount) := ⟨rfl, rfl, rfl, by decide +kernel, rfl, by decide +kernel, by decide +kernel⟩
theorem okI_BadCount (F : Fun K "__init__" "BadCount.__init__" sI_BadCount f fd) (T : Own24 K C f ["count"]) : FnOk P w0 K mg base CX0 1 f fd ["self", "count"] (spInit C ["count"]) := by
  refine F.ok scI_BadCount (fun vs H Q E h => ?_) (fun cdv A outer s H vs Q E hr h => ?_)
  · obtain ⟨a, xs, rfl, hl, _⟩ := h
    exact congrArg (· + 1) hl
  · obtain ⟨a, xs, rfl, hl, ha, k⟩ := h
    match xs, hl with
    | [x0], _ =>
      refine ⟨_, pss_one (ps_ost (pv 0) (pv 1)), ?_⟩
      exact st_first T.oex (T.no _ (by simp)) rfl rfl ha fun dx hd ne => k dx _ hd ne upd_same (by rw [upd_ne ne, upd_same] <;> rfl) fun b o e hb => by rw [upd_ne hb, upd_ne (ne_of_none e hd)]; exact e
abbrev sI_BadUnits : Stmt := inClass (topS 11) 0
theorem scI_BadUnits : FnScope ["self", "at"] ["self", "at"] (defScope sI_BadUnits) := ⟨rfl, rfl, rfl, by decide +kernel, rfl, by decide +kernel, by decide +kernel⟩
theorem okI_BadUnits (F : Fun K "__init__" "BadUnits.__init__" sI_BadUnits f fd) (T : Own24 K C f ["at"]) : FnOk P w0 K mg base CX0 1 f fd ["self", "at"] (spInit C ["at"]) := by
  refine F.ok scI_BadUnits (fun vs H Q E h => ?_) (fun cdv A outer s H vs Q E hr h => ?_)
  · obtain ⟨a, xs, rfl, hl, _⟩ := h
    exact congrArg (· + 1) hl
  · obtain ⟨a, xs, rfl, hl, ha, k⟩ := h
    match xs, hl with
    | [x0], _ =>
      refine ⟨_, pss_one (ps_ost (pv 0) (pv 1)), ?_⟩
      exact st_first T.oex (T.no _ (by simp)) rfl rfl ha fun dx hd ne => k dx _ hd ne upd_same (by rw [upd_ne ne, upd_same] <;> rfl) fun b o e hb => by rw [upd_ne hb, upd_ne (ne_of_none e hd)]; exact e
abbrev sI_NoUnit : Stmt := inClass (topS 12) 0
theorem scI_NoUnit : FnScope ["self", "name"] ["self", "name"] (defScope sI_NoUnit) := ⟨rfl, rfl, rfl, by decide +kernel, rfl, by decide +kernel, by decide +kernel⟩
theorem okI_NoUnit (F : Fun K "__init__" "NoUnit.__init__" sI_NoUnit f fd) (T : Own24 K C f ["name"]) : FnOk P w0 K mg base CX0 1 f fd ["self", "name"] (spInit C ["name"]) := by
  refine F.ok scI_NoUnit (fun vs H Q E h => ?_) (fun cdv A outer s H vs Q E hr h => ?_)
  · obtain ⟨a, xs, rfl, hl, _⟩ := h
    exact congrArg (· + 1) hl
  · obtain ⟨a, xs, rfl, hl, ha, k⟩ := h
    match xs, hl with
    | [x0], _ =>
      refine ⟨_, pss_one (ps_ost (pv 0) (pv 1)), ?_⟩
      exact st_first T.oex (T.no _ (by simp)) rfl rfl ha fun dx hd ne => k dx _ hd ne upd_same (by rw [upd_ne ne, upd_same] <;> rfl) fun b o e hb => by rw [upd_ne hb, upd_ne (ne_of_none e hd)]; exact e
abbrev sI_UsesRing : Stmt := inClass (topS 13) 0
theorem scI_UsesRing : FnScope ["self", "ring"] ["self", "ring"] (defScope sI_UsesRing) := ⟨rfl, rfl, rfl, by decide +kernel, rfl, by decide +kernel, by decide +kernel⟩
theorem okI_UsesRing (F : Fun K "__init__" "UsesRing.__init__" sI_UsesRing f fd) (T : Own24 K C f ["ring"]) : FnOk P w0 K mg base CX0 1 f fd ["self", "ring"] (spInit C ["ring"]) := by
  refine F.ok scI_UsesRing (fun vs H Q E h => ?_) (fun cdv A outer s H vs Q E hr h => ?_)
  · obtain ⟨a, xs, rfl, hl, _⟩ := h
    exact congrArg (· + 1) hl
  · obtain ⟨a, xs, rfl, hl, ha, k⟩ := h
    match xs, hl with
    | [x0], _ =>
      refine ⟨_, pss_one (ps_ost (pv 0) (pv 1)), ?_⟩
      exact st_first T.oex (T.no _ (by simp)) rfl rfl ha fun dx hd ne => k dx _ hd ne upd_same (by rw [upd_ne ne, upd_same] <;> rfl) fun b o e hb => by rw [upd_ne hb, upd_ne (ne_of_none e hd)]; exact e
abbrev sI_NoFunction : Stmt := inClass (topS 17) 0
theorem scI_NoFunction : FnScope ["self", "name"] ["self", "name"] (defScope sI_NoFunction) := ⟨rfl, rfl, rfl, by decide +kernel, rfl, by decide +kernel, by decide +kernel⟩
theorem okI_NoFunction (F : Fun K "__init__" "NoFunction.__init__" sI_NoFunction f fd) (T : Own24 K C f ["name"]) : FnOk P w0 K mg base CX0 1 f fd ["self", "name"] (spInit C ["name"]) := by
  refine F.ok scI_NoFunction (fun vs H Q E h => ?_) (fun cdv A outer s H vs Q E hr h => ?_)
  · obtain ⟨a, xs, rfl, hl, _⟩ := h
    exact congrArg (· + 1) hl
  · obtain ⟨a, xs, rfl, hl, ha, k⟩ := h
    match xs, hl with
    | [x0], _ =>
      refine ⟨_, pss_one (ps_ost (pv 0) (pv 1)), ?_⟩
      exact st_first T.oex (T.no _ (by simp)) rfl rfl ha fun dx hd ne => k dx _ hd ne upd_same (by rw [upd_ne ne, upd_same] <;> rfl) fun b o e hb => by rw [upd_ne hb, upd_ne (ne_of_none e hd)]; exact e
abbrev sI_Faulty : Stmt := inClass (topS 18) 0
theorem scI_Faulty : FnScope ["self", "fault", "unit"] ["self", "fault", "unit"] (defScope sI_Faulty) := ⟨rfl, rfl, rfl, by decide +kernel, rfl, by decide +kernel, by decide +kernel⟩
theorem okI_Faulty (F : Fun K "__init__" "Faulty.__init__" sI_Faulty f fd) (T : Own24 K C f ["fault", "unit"]) : FnOk P w0 K mg base CX0 1 f fd ["self", "fault", "unit"] (spInit C ["fault", "unit"]) := by
  refine F.ok scI_Faulty (fun vs H Q E h => ?_) (fun cdv A outer s H vs Q E hr h => ?_)
  · obtain ⟨a, xs, rfl, hl, _⟩ := h
    exact congrArg (· + 1) hl
  · obtain ⟨a, xs, rfl, hl, ha, k⟩ := h
    match xs, hl with
    | [x0, x1], _ =>
      refine ⟨_, pss_cons (ps_ost (pv 0) (pv 1)) (pss_one (ps_ost (pv 0) (pv 2))), ?_⟩
      refine st_first T.oex (T.no _ (by simp)) rfl rfl ha fun dx hd ne => ?_
      have h1 : ∀ o, (upd (upd H dx o) a (exo a C (some dx))) a = some (exo a C (some dx)) := fun _ => upd_same
      have h2 : ∀ o, (upd (upd H dx o) a (exo a C (some dx))) dx = some o := fun _ => by rw [upd_ne ne, upd_same]
      have ha1 : ∀ (H1 : Hp) o, H1 a = some (exo a C (some dx)) → (upd H1 dx o) a = some (exo a C (some dx)) := fun H1 o e => by rw [upd_ne ne.symm]; exact e
      refine st_next T.oex (T.no _ (by simp)) rfl rfl (h1 _) (h2 _) (by simp) ?_
      exact k dx _ hd ne (ha1 _ _ (h1 _)) upd_same fun b o e hb => by rw [upd_ne (ne_of_none e hd), upd_ne hb, upd_ne (ne_of_none e hd)]; exact e
abbrev sI_KindClash : Stmt := inClass (topS 19) 0
theorem scI_KindClash : FnScope ["self", "clash", "unit"] ["self", "clash", "unit"] (defScope sI_KindClash) := ⟨rfl, rfl, rfl, by decide +kernel, rfl, by decide +kernel, by decide +kernel⟩
theorem okI_KindClash (F : Fun K "__init__" "KindClash.__init__" sI_KindClash f fd) (T : Own24 K C f ["clash", "unit"]) : FnOk P w0 K mg base CX0 1 f fd ["self", "clash", "unit"] (spInit C ["clash", "unit"]) := by
  refine F.ok scI_KindClash (fun vs H Q E h => ?_) (fun cdv A outer s H vs Q E hr h => ?_)
  · obtain ⟨a, xs, rfl, hl, _⟩ := h
    exact congrArg (· + 1) hl
  · obtain ⟨a, xs, rfl, hl, ha, k⟩ := h
    match xs, hl with
    | [x0, x1], _ =>
      refine ⟨_, pss_cons (ps_ost (pv 0) (pv 1)) (pss_one (ps_ost (pv 0) (pv 2))), ?_⟩
      refine st_first T.oex (T.no _ (by simp)) rfl rfl ha fun dx hd ne => ?_
      have h1 : ∀ o, (upd (upd H dx o) a (exo a C (some dx))) a = some (exo a C (some dx)) := fun _ => upd_same
      have h2 : ∀ o, (upd (upd H dx o) a (exo a C (some dx))) dx = some o := fun _ => by rw [upd_ne ne, upd_same]
      have ha1 : ∀ (H1 : Hp) o, H1 a = some (exo a C (some dx)) → (upd H1 dx o) a = some (exo a C (some dx)) := fun H1 o e => by rw [upd_ne ne.symm]; exact e
      refine st_next T.oex (T.no _ (by simp)) rfl rfl (h1 _) (h2 _) (by simp) ?_
      exact k dx _ hd ne (ha1 _ _ (h1 _)) upd_same fun b o e hb => by rw [upd_ne (ne_of_none e hd), upd_ne hb, upd_ne (ne_of_none e hd)]; exact e
abbrev sI_TwoNames : Stmt := inClass (topS 20) 0
theorem scI_TwoNames : FnScope ["self", "name"] ["self", "name"] (defScope sI_TwoNames) := ⟨rfl, rfl, rfl, by decide +kernel, rfl, by decide +kernel, by decide +kernel⟩
theorem okI_TwoNames (F : Fun K "__init__" "TwoNames.__init__" sI_TwoNames f fd) (T : Own24 K C f ["name"]) : FnOk P w0 K mg base CX0 1 f fd ["self", "name"] (spInit C ["name"]) := by
  refine F.ok scI_TwoNames (fun vs H Q E h => ?_) (fun cdv A outer s H vs Q E hr h => ?_)
  · obtain ⟨a, xs, rfl, hl, _⟩ := h
    exact congrArg (· + 1) hl
  · obtain ⟨a, xs, rfl, hl, ha, k⟩ := h
    match xs, hl with
    | [x0], _ =>
      refine ⟨_, pss_one (ps_ost (pv 0) (pv 1)), ?_⟩
      exact st_first T.oex (T.no _ (by simp)) rfl rfl ha fun dx hd ne => k dx _ hd ne upd_same (by rw [upd_ne ne, upd_same] <;> rfl) fun b o e hb => by rw [upd_ne hb, upd_ne (ne_of_none e hd)]; exact e
abbrev sI_NotNow : Stmt := inClass (topS 24) 0
theorem scI_NotNow : FnScope ["self", "word"] ["self", "word"] (defScope sI_NotNow) := ⟨rfl, rfl, rfl, by decide +kernel, rfl, by decide +kernel, by decide +kernel⟩
theorem okI_NotNow (F : Fun K "__init__" "NotNow.__init__" sI_NotNow f fd) (T : Own24 K C f ["word"]) : FnOk P w0 K mg base CX0 1 f fd ["self", "word"] (spInit C ["word"]) := by
  refine F.ok scI_NotNow (fun vs H Q E h => ?_) (fun cdv A outer s H vs Q E hr h => ?_)
  · obtain ⟨a, xs, rfl, hl, _⟩ := h
    exact congrArg (· + 1) hl
  · obtain ⟨a, xs, rfl, hl, ha, k⟩ := h
    match xs, hl with
    | [x0], _ =>
      refine ⟨_, pss_one (ps_ost (pv 0) (pv 1)), ?_⟩
      exact st_first T.oex (T.no _ (by simp)) rfl rfl ha fun dx hd ne => k dx _ hd ne upd_same (by rw [upd_ne ne, upd_same] <;> rfl) fun b o e hb => by rw [upd_ne hb, upd_ne (ne_of_none e hd)]; exact e
abbrev sI_BadFunctions : Stmt := inClass (topS 29) 0
theorem scI_BadFunctions : FnScope ["self", "name"] ["self", "name"] (defScope sI_BadFunctions) := ⟨rfl, rfl, rfl, by decide +kernel, rfl, by decide +kernel, by decide +kernel⟩
theorem okI_BadFunctions (F : Fun K "__init__" "BadFunctions.__init__" sI_BadFunctions f fd) (T : Own24 K C f ["name"]) : FnOk P w0 K mg base CX0 1 f fd ["self", "name"] (spInit C ["name"]) := by
  refine F.ok scI_BadFunctions (fun vs H Q E h => ?_) (fun cdv A outer s H vs Q E hr h => ?_)
  · obtain ⟨a, xs, rfl, hl, _⟩ := h
    exact congrArg (· + 1) hl
  · obtain ⟨a, xs, rfl, hl, ha, k⟩ := h
    match xs, hl with
    | [x0], _ =>
      refine ⟨_, pss_one (ps_ost (pv 0) (pv 1)), ?_⟩
      exact st_first T.oex (T.no _ (by simp)) rfl rfl ha fun dx hd ne => k dx _ hd ne upd_same (by rw [upd_ne ne, upd_same] <;> rfl) fun b o e hb => by rw [upd_ne hb, upd_ne (ne_of_none e hd)]; exact e
abbrev sI_Unknown : Stmt := inClass (topS 30) 0
theorem scI_Unknown : FnScope ["self", "name"] ["self", "name"] (defScope sI_Unknown) := ⟨rfl, rfl, rfl, by decide +kernel, rfl, by decide +kernel, by decide +kernel⟩
theorem okI_Unknown (F : Fun K "__init__" "Unknown.__init__" sI_Unknown f fd) (T : Own24 K C f ["name"]) : FnOk P w0 K mg base CX0 1 f fd ["self", "name"] (spInit C ["name"]) := by
  refine F.ok scI_Unknown (fun vs H Q E h => ?_) (fun cdv A outer s H vs Q E hr h => ?_)
  · obtain ⟨a, xs, rfl, hl, _⟩ := h
    exact congrArg (· + 1) hl
  · obtain ⟨a, xs, rfl, hl, ha, k⟩ := h
    match xs, hl with
    | [x0], _ =>
      refine ⟨_, pss_one (ps_ost (pv 0) (pv 1)), ?_⟩
      exact st_first T.oex (T.no _ (by simp)) rfl rfl ha fun dx hd ne => k dx _ hd ne upd_same (by rw [upd_ne ne, upd_same] <;> rfl) fun b o e hb => by rw [upd_ne hb, upd_ne (ne_of_none e hd)]; exact e
abbrev sI_BadCodes : Stmt := inClass (topS 32) 0
theorem scI_BadCodes : FnScope ["self", "at"] ["self", "at"] (defScope sI_BadCodes) := ⟨rfl, rfl, rfl, by decide +kernel, rfl, by decide +kernel, by decide +kernel⟩
theorem okI_BadCodes (F : Fun K "__init__" "BadCodes.__init__" sI_BadCodes f fd) (T : Own24 K C f ["at"]) : FnOk P w0 K mg base CX0 1 f fd ["self", "at"] (spInit C ["at"]) := by
  refine F.ok scI_BadCodes (fun vs H Q E h => ?_) (fun cdv A outer s H vs Q E hr h => ?_)
  · obtain ⟨a, xs, rfl, hl, _⟩ := h
    exact congrArg (· + 1) hl
  · obtain ⟨a, xs, rfl, hl, ha, k⟩ := h
    match xs, hl with
    | [x0], _ =>
      refine ⟨_, pss_one (ps_ost (pv 0) (pv 1)), ?_⟩
      exact st_first T.oex (T.no _ (by simp)) rfl rfl ha fun dx hd ne => k dx _ hd ne upd_same (by rw [upd_ne ne, upd_same] <;> rfl) fun b o e hb => by rw [upd_ne hb, upd_ne (ne_of_none e hd)]; exact e
abbrev sI_Refused : Stmt := inClass (topS 38) 0
theorem scI_Refused : FnScope ["self", "why"] ["self", "why"] (defScope sI_Refused) := ⟨rfl, rfl, rfl, by decide +kernel, rfl, by decide +kernel, by decide +kernel⟩
theorem okI_Refused (F : Fun K "__init__" "Refused.__init__" sI_Refused f fd) (T : Own24 K C f ["why"]) : FnOk P w0 K mg base CX0 1 f fd ["self", "why"] (spInit C ["why"]) := by
  refine F.ok scI_Refused (fun vs H Q E h => ?_) (fun cdv A outer s H vs Q E hr h => ?_)
  · obtain ⟨a, xs, rfl, hl, _⟩ := h
    exact congrArg (· + 1) hl
  · obtain ⟨a, xs, rfl, hl, ha, k⟩ := h
    match xs, hl with
    | [x0], _ =>
      refine ⟨_, pss_one (ps_ost (pv 0) (pv 1)), ?_⟩
      exact st_first T.oex (T.no _ (by simp)) rfl rfl ha fun dx hd ne => k dx _ hd ne upd_same (by rw [upd_ne ne, upd_same] <;> rfl) fun b o e hb => by rw [upd_ne hb, upd_ne (ne_of_none e hd)]; exact e
abbrev sI_BadRows : Stmt := inClass (topS 39) 0
theorem scI_BadRows : FnScope ["self", "at"] ["self", "at"] (defScope sI_BadRows) := ⟨rfl, rfl, rfl, by decide +kernel, rfl, by decide +kernel, by decide +kernel⟩
theorem okI_BadRows (F : Fun K "__init__" "BadRows.__init__" sI_BadRows f fd) (T : Own24 K C f ["at"]) : FnOk P w0 K mg base CX0 1 f fd ["self", "at"] (spInit C ["at"]) := by
  refine F.ok scI_BadRows (fun vs H Q E h => ?_) (fun cdv A outer s H vs Q E hr h => ?_)
  · obtain ⟨a, xs, rfl, hl, _⟩ := h
    exact congrArg (· + 1) hl
  · obtain ⟨a, xs, rfl, hl, ha, k⟩ := h
    match xs, hl with
    | [x0], _ =>
      refine ⟨_, pss_one (ps_ost (pv 0) (pv 1)), ?_⟩
      exact st_first T.oex (T.no _ (by simp)) rfl rfl ha fun dx hd ne => k dx _ hd ne upd_same (by rw [upd_ne ne, upd_same] <;> rfl) fun b o e hb => by rw [upd_ne hb, upd_ne (ne_of_none e hd)]; exact e
abbrev sI_BadSpans : Stmt := inClass (topS 41) 0
theorem scI_BadSpans : FnScope ["self", "at"] ["self", "at"] (defScope sI_BadSpans) := ⟨rfl, rfl, rfl, by decide +kernel, rfl, by decide +kernel, by decide +kernel⟩
theorem okI_BadSpans (F : Fun K "__init__" "BadSpans.__init__" sI_BadSpans f fd) (T : Own24 K C f ["at"]) : FnOk P w0 K mg base CX0 1 f fd ["self", "at"] (spInit C ["at"]) := by
  refine F.ok scI_BadSpans (fun vs H Q E h => ?_) (fun cdv A outer s H vs Q E hr h => ?_)
  · obtain ⟨a, xs, rfl, hl, _⟩ := h
    exact congrArg (· + 1) hl
  · obtain ⟨a, xs, rfl, hl, ha, k⟩ := h
    match xs, hl with
    | [x0], _ =>
      refine ⟨_, pss_one (ps_ost (pv 0) (pv 1)), ?_⟩
      exact st_first T.oex (T.no _ (by simp)) rfl rfl ha fun dx hd ne => k dx _ hd ne upd_same (by rw [upd_ne ne, upd_same] <;> rfl) fun b o e hb => by rw [upd_ne hb, upd_ne (ne_of_none e hd)]; exact e
abbrev sI_BadPairs : Stmt := inClass (topS 45) 0
theorem scI_BadPairs : FnScope ["self", "at"] ["self", "at"] (defScope sI_BadPairs) := ⟨rfl, rfl, rfl, by decide +kernel, rfl, by decide +kernel, by decide +kernel⟩
theorem okI_BadPairs (F : Fun K "__init__" "BadPairs.__init__" sI_BadPairs f fd) (T : Own24 K C f ["at"]) : FnOk P w0 K mg base CX0 1 f fd ["self", "at"] (spInit C ["at"]) := by
  refine F.ok scI_BadPairs (fun vs H Q E h => ?_) (fun cdv A outer s H vs Q E hr h => ?_)
  · obtain ⟨a, xs, rfl, hl, _⟩ := h
    exact congrArg (· + 1) hl
  · obtain ⟨a, xs, rfl, hl, ha, k⟩ := h
    match xs, hl with
    | [x0], _ =>
      refine ⟨_, pss_one (ps_ost (pv 0) (pv 1)), ?_⟩
      exact st_first T.oex (T.no _ (by simp)) rfl rfl ha fun dx hd ne => k dx _ hd ne upd_same (by rw [upd_ne ne, upd_same] <;> rfl) fun b o e hb => by rw [upd_ne hb, upd_ne (ne_of_none e hd)]; exact e
abbrev sI_BadChanges : Stmt := inClass (topS 49) 0
theorem scI_BadChanges : FnScope ["self", "at"] ["self", "at"] (defScope sI_BadChanges) := ⟨rfl, rfl, rfl, by decide +kernel, rfl, by decide +kernel, by decide +kernel⟩
theorem okI_BadChanges (F : Fun K "__init__" "BadChanges.__init__" sI_BadChanges f fd) (T : Own24 K C f ["at"]) : FnOk P w0 K mg base CX0 1 f fd ["self", "at"] (spInit C ["at"]) := by
  refine F.ok scI_BadChanges (fun vs H Q E h => ?_) (fun cdv A outer s H vs Q E hr h => ?_)
  · obtain ⟨a, xs, rfl, hl, _⟩ := h
    exact congrArg (· + 1) hl
  · obtain ⟨a, xs, rfl, hl, ha, k⟩ := h
    match xs, hl with
    | [x0], _ =>
      refine ⟨_, pss_one (ps_ost (pv 0) (pv 1)), ?_⟩
      exact st_first T.oex (T.no _ (by simp)) rfl rfl ha fun dx hd ne => k dx _ hd ne upd_same (by rw [upd_ne ne, upd_same] <;> rfl) fun b o e hb => by rw [upd_ne hb, upd_ne (ne_of_none e hd)]; exact e
abbrev sI_NotTold : Stmt := inClass (topS 55) 0
theorem scI_NotTold : FnScope ["self", "name"] ["self", "name"] (defScope sI_NotTold) := ⟨rfl, rfl, rfl, by decide +kernel, rfl, by decide +kernel, by decide +kernel⟩
theorem okI_NotTold (F : Fun K "__init__" "NotTold.__init__" sI_NotTold f fd) (T : Own24 K C f ["name"]) : FnOk P w0 K mg base CX0 1 f fd ["self", "name"] (spInit C ["name"]) := by
  refine F.ok scI_NotTold (fun vs H Q E h => ?_) (fun cdv A outer s H vs Q E hr h => ?_)
  · obtain ⟨a, xs, rfl, hl, _⟩ := h
    exact congrArg (· + 1) hl
  · obtain ⟨a, xs, rfl, hl, ha, k⟩ := h
    match xs, hl with
    | [x0], _ =>
      refine ⟨_, pss_one (ps_ost (pv 0) (pv 1)), ?_⟩
      exact st_first T.oex (T.no _ (by simp)) rfl rfl ha fun dx hd ne => k dx _ hd ne upd_same (by rw [upd_ne ne, upd_same] <;> rfl) fun b o e hb => by rw [upd_ne hb, upd_ne (ne_of_none e hd)]; exact e
abbrev sI_BadObject : Stmt := inClass (topS 57) 0
theorem scI_BadObject : FnScope ["self", "at"] ["self", "at"] (defScope sI_BadObject) := ⟨rfl, rfl, rfl, by decide +kernel, rfl, by decide +kernel, by decide +kernel⟩
theorem okI_BadObject (F : Fun K "__init__" "BadObject.__init__" sI_BadObject f fd) (T : Own24 K C f ["at"]) : FnOk P w0 K mg base CX0 1 f fd ["self", "at"] (spInit C ["at"]) := by
  refine F.ok scI_BadObject (fun vs H Q E h => ?_) (fun cdv A outer s H vs Q E hr h => ?_)
  · obtain ⟨a, xs, rfl, hl, _⟩ := h
    exact congrArg (· + 1) hl
  · obtain ⟨a, xs, rfl, hl, ha, k⟩ := h
    match xs, hl with
    | [x0], _ =>
      refine ⟨_, pss_one (ps_ost (pv 0) (pv 1)), ?_⟩
      exact st_first T.oex (T.no _ (by simp)) rfl rfl ha fun dx hd ne => k dx _ hd ne upd_same (by rw [upd_ne ne, upd_same] <;> rfl) fun b o e hb => by rw [upd_ne hb, upd_ne (ne_of_none e hd)]; exact e
abbrev sI_BadObjects : Stmt := inClass (topS 58) 0
theorem scI_BadObjects : FnScope ["self", "name"] ["self", "name"] (defScope sI_BadObjects) := ⟨rfl, rfl, rfl, by decide +kernel, rfl, by decide +kernel, by decide +kernel⟩
theorem okI_BadObjects (F : Fun K "__init__" "BadObjects.__init__" sI_BadObjects f fd) (T : Own24 K C f ["name"]) : FnOk P w0 K mg base CX0 1 f fd ["self", "name"] (spInit C ["name"]) := by
  refine F.ok scI_BadObjects (fun vs H Q E h => ?_) (fun cdv A outer s H vs Q E hr h => ?_)
  · obtain ⟨a, xs, rfl, hl, _⟩ := h
    exact congrArg (· + 1) hl
  · obtain ⟨a, xs, rfl, hl, ha, k⟩ := h
    match xs, hl with
    | [x0], _ =>
      refine ⟨_, pss_one (ps_ost (pv 0) (pv 1)), ?_⟩
      exact st_first T.oex (T.no _ (by simp)) rfl rfl ha fun dx hd ne => k dx _ hd ne upd_same (by rw [upd_ne ne, upd_same] <;> rfl) fun b o e hb => by rw [upd_ne hb, upd_ne (ne_of_none e hd)]; exact e
abbrev sI_TwoUnits : Stmt := inClass (topS 59) 0
theorem scI_TwoUnits : FnScope ["self", "name"] ["self", "name"] (defScope sI_TwoUnits) := ⟨rfl, rfl, rfl, by decide +kernel, rfl, by decide +kernel, by decide +kernel⟩
theorem okI_TwoUnits (F : Fun K "__init__" "TwoUnits.__init__" sI_TwoUnits f fd) (T : Own24 K C f ["name"]) : FnOk P w0 K mg base CX0 1 f fd ["self", "name"] (spInit C ["name"]) := by
  refine F.ok scI_TwoUnits (fun vs H Q E h => ?_) (fun cdv A outer s H vs Q E hr h => ?_)
  · obtain ⟨a, xs, rfl, hl, _⟩ := h
    exact congrArg (· + 1) hl
  · obtain ⟨a, xs, rfl, hl, ha, k⟩ := h
    match xs, hl with
    | [x0], _ =>
      refine ⟨_, pss_one (ps_ost (pv 0) (pv 1)), ?_⟩
      exact st_first T.oex (T.no _ (by simp)) rfl rfl ha fun dx hd ne => k dx _ hd ne upd_same (by rw [upd_ne ne, upd_same] <;> rfl) fun b o e hb => by rw [upd_ne hb, upd_ne (ne_of_none e hd)]; exact e
abbrev sI_Missing : Stmt := inClass (topS 62) 0
theorem scI_Missing : FnScope ["self", "unit"] ["self", "unit"] (defScope sI_Missing) := ⟨rfl, rfl, rfl, by decide +kernel, rfl, by decide +kernel, by decide +kernel⟩
theorem okI_Missing (F : Fun K "__init__" "Missing.__init__" sI_Missing f fd) (T : Own24 K C f ["unit"]) : FnOk P w0 K mg base CX0 1 f fd ["self", "unit"] (spInit C ["unit"]) := by
  refine F.ok scI_Missing (fun vs H Q E h => ?_) (fun cdv A outer s H vs Q E hr h => ?_)
  · obtain ⟨a, xs, rfl, hl, _⟩ := h
    exact congrArg (· + 1) hl
  · obtain ⟨a, xs, rfl, hl, ha, k⟩ := h
    match xs, hl with
    | [x0], _ =>
      refine ⟨_, pss_one (ps_ost (pv 0) (pv 1)), ?_⟩
      exact st_first T.oex (T.no _ (by simp)) rfl rfl ha fun dx hd ne => k dx _ hd ne upd_same (by rw [upd_ne ne, upd_same] <;> rfl) fun b o e hb => by rw [upd_ne hb, upd_ne (ne_of_none e hd)]; exact e
abbrev sI_OtherFace : Stmt := inClass (topS 63) 0
theorem scI_OtherFace : FnScope ["self", "unit"] ["self", "unit"] (defScope sI_OtherFace) := ⟨rfl, rfl, rfl, by decide +kernel, rfl, by decide +kernel, by decide +kernel⟩
theorem okI_OtherFace (F : Fun K "__init__" "OtherFace.__init__" sI_OtherFace f fd) (T : Own24 K C f ["unit"]) : FnOk P w0 K mg base CX0 1 f fd ["self", "unit"] (spInit C ["unit"]) := by
  refine F.ok scI_OtherFace (fun vs H Q E h => ?_) (fun cdv A outer s H vs Q E hr h => ?_)
  · obtain ⟨a, xs, rfl, hl, _⟩ := h
    exact congrArg (· + 1) hl
  · obtain ⟨a, xs, rfl, hl, ha, k⟩ := h
    match xs, hl with
    | [x0], _ =>
      refine ⟨_, pss_one (ps_ost (pv 0) (pv 1)), ?_⟩
      exact st_first T.oex (T.no _ (by simp)) rfl rfl ha fun dx hd ne => k dx _ hd ne upd_same (by rw [upd_ne ne, upd_same] <;> rfl) fun b o e hb => by rw [upd_ne hb, upd_ne (ne_of_none e hd)]; exact e
abbrev sI_BadBits : Stmt := inClass (topS 66) 0
theorem scI_BadBits : FnScope ["self", "at"] ["self", "at"] (defScope sI_BadBits) := ⟨rfl, rfl, rfl, by decide +kernel, rfl, by decide +kernel, by decide +kernel⟩
theorem okI_BadBits (F : Fun K "__init__" "BadBits.__init__" sI_BadBits f fd) (T : Own24 K C f ["at"]) : FnOk P w0 K mg base CX0 1 f fd ["self", "at"] (spInit C ["at"]) := by
  refine F.ok scI_BadBits (fun vs H Q E h => ?_) (fun cdv A outer s H vs Q E hr h => ?_)
  · obtain ⟨a, xs, rfl, hl, _⟩ := h
    exact congrArg (· + 1) hl
  · obtain ⟨a, xs, rfl, hl, ha, k⟩ := h
    match xs, hl with
    | [x0], _ =>
      refine ⟨_, pss_one (ps_ost (pv 0) (pv 1)), ?_⟩
      exact st_first T.oex (T.no _ (by simp)) rfl rfl ha fun dx hd ne => k dx _ hd ne upd_same (by rw [upd_ne ne, upd_same] <;> rfl) fun b o e hb => by rw [upd_ne hb, upd_ne (ne_of_none e hd)]; exact e
abbrev sI_BadInstruction : Stmt := inClass (topS 67) 0
theorem scI_BadInstruction : FnScope ["self", "at"] ["self", "at"] (defScope sI_BadInstruction) := ⟨rfl, rfl, rfl, by decide +kernel, rfl, by decide +kernel, by decide +kernel⟩
theorem okI_BadInstruction (F : Fun K "__init__" "BadInstruction.__init__" sI_BadInstruction f fd) (T : Own24 K C f ["at"]) : FnOk P w0 K mg base CX0 1 f fd ["self", "at"] (spInit C ["at"]) := by
  refine F.ok scI_BadInstruction (fun vs H Q E h => ?_) (fun cdv A outer s H vs Q E hr h => ?_)
  · obtain ⟨a, xs, rfl, hl, _⟩ := h
    exact congrArg (· + 1) hl
  · obtain ⟨a, xs, rfl, hl, ha, k⟩ := h
    match xs, hl with
    | [x0], _ =>
      refine ⟨_, pss_one (ps_ost (pv 0) (pv 1)), ?_⟩
      exact st_first T.oex (T.no _ (by simp)) rfl rfl ha fun dx hd ne => k dx _ hd ne upd_same (by rw [upd_ne ne, upd_same] <;> rfl) fun b o e hb => by rw [upd_ne hb, upd_ne (ne_of_none e hd)]; exact e
end
end SA

set_option Elab.async false
set_option linter.all false
set_option maxRecDepth 100000
set_option maxHeartbeats 4000000
namespace SA
open PySem PySem.Spec PyProof.Rows L2
abbrev sClasses : Stmt := topS 81
abbrev sPlain : Stmt := topS 79
abbrev sTold : Stmt := topS 80
theorem pget {A B : Type} {F : A → B → Prop} : ∀ {l : List A} {m : List B} {k : Nat} {a : A}, Paired F l m → l[k]? = some a → ∃ b, m[k]? = some b ∧ F a b
  | _, _, k, a, .nil, h => by simp at h
  | _, _, 0, a, .cons (b := b) r _, h => ⟨b, rfl, by simp at h; exact h ▸ r⟩
  | _, _, k + 1, a, .cons _ t, h => by
    obtain ⟨b, h1, h2⟩ := pget (k := k) t (by simpa using h)
    exact ⟨b, by simpa using h1, h2⟩
theorem papp {A B : Type} {F : A → B → Prop} : ∀ {l : List A} {m : List B} {l2 : List A} {m2 : List B}, Paired F l m → Paired F l2 m2 → Paired F (l ++ l2) (m ++ m2)
  | _, _, _, _, .nil, h => h
  | _, _, _, _, .cons r t, h => .cons r (papp t h)
theorem pmono {A B : Type} {F G : A → B → Prop} (f : ∀ a b, F a b → G a b) : ∀ {l : List A} {m : List B}, Paired F l m → Paired G l m
  | _, _, .nil => .nil
  | _, _, .cons r t => .cons (f _ _ r) (pmono f t)
theorem XAt.same {H H' : Hp} {a C : Addr} (e : Same H H') (h : XAt H a C) : XAt H' a C := by
  rcases h with h | ⟨d, fs, h1, h2⟩
  · exact .inl (e _ _ h)
  · exact .inr ⟨d, fs, e _ _ h1, e _ _ h2⟩
/-! ### _law_classes -/
def bits (i : Nat) (js : List Nat) : List V := js.map fun j => V.bl (decide (i = j))
def isE (K : PySem.W.Frag) (C : Addr) : TE := tCB (rIsX K) (tCons (tVar 0) (tCons (tC (.ref C)) tNil))
def isL (K : PySem.W.Frag) (ca : Nat → Addr) : List Nat → TA
  | [] => tNil
  | j :: js => tCons (isE K (ca j)) (isL K ca js)
section
variable {P : Program} {w0 : World} {K : PySem.W.Frag} {mg : Str → Option Value} {base : Heap} {ca : Nat → Addr} {SE : Addr}
theorem isL_run (T : Cls24 K mg ca SE) {a : Addr} {i : Nat} (hi : i < 72) {σ : L2.St} {H : Hp} (h0 : σ[0]? = some (some (.ref a))) (hx : XAt H a (ca i)) : ∀ (js : List Nat) (Q : List V → Hp → Prop), (∀ j ∈ js, j < 72) → Q (bits i js) H → isL K ca js σ H Q
  | [], Q, _, q => q
  | j :: js, Q, hj, q => by
    refine ⟨_, h0, a, ca i, .ref (ca j), .ref (ca j), _, rfl, .own _, hx, T.exc i hi, T.one i j hi (hj j (by simp)), ?_⟩
    exact isL_run T hi h0 hx js (fun xs H2 => Q (V.bl (decide (i = j)) :: xs) H2) (fun k hk => hj k (by simp [hk])) q
theorem cls_first (T : Cls24 K mg ca SE) {a : Addr} {i : Nat} (hi : i < 72) {σ : L2.St} {H : Hp} {D : Ends} {u : TS} {js : List Nat} (h0 : σ[0]? = some (some (.ref a))) (hx : XAt H a (ca i)) (hj : ∀ j ∈ js, j < 72) (hl : js.length ≤ 72)
    (k : ∀ (p : Addr) (H' : Hp), H p = none → Same H H' → H' p = some (.lst (bits i js)) → u D (σ.set 1 (some (.ref p))) H') : tSeq (tAsg (tLst (isL K ca js)) (gName 1)) u D σ H := by
  refine isL_run T hi h0 hx js _ hj ⟨?_, fun p hp => k p _ hp (Same.new hp) upd_same⟩
  unfold bits
  rw [List.length_map]
  exact Nat.le_trans hl (by decide)
theorem cls_more (T : Cls24 K mg ca SE) {a p : Addr} {i : Nat} (hi : i < 72) {σ : L2.St} {H : Hp} {D : Ends} {u : TS} {js0 js : List Nat} (h0 : σ[0]? = some (some (.ref a))) (h1 : σ[1]? = some (some (.ref p))) (hx : XAt H a (ca i)) (hp : H p = some (.lst (bits i js0))) (hj : ∀ j ∈ js, j < 72)
    (hl : js0.length + js.length ≤ 72) (k : ∀ (p : Addr) (H' : Hp), H p = none → Same H H' → H' p = some (.lst (bits i (js0 ++ js))) → u D (σ.set 1 (some (.ref p))) H') : tSeq (tAsg (tOp rCat (tVar 1) (tLst (isL K ca js))) (gName 1)) u D σ H := by
  refine ⟨_, h1, isL_run T hi h0 hx js _ hj ⟨?_, fun q hq => ?_⟩⟩
  · unfold bits
    rw [List.length_map]
    exact Nat.le_trans (by omega : js.length ≤ 72) (by decide)
  · have hp2 : (upd H q (.lst (bits i js))) p = some (.lst (bits i js0)) := by
      rw [upd_ne (ne_of_none hp hq)]
      exact hp
    refine ⟨p, q, _, _, rfl, rfl, hp2, upd_same, ?_, fun r hr => k r _ ((Same.new hq).free hr) ((Same.new hq).trans (Same.new hr)) ?_⟩
    · unfold bits
      rw [List.length_map, List.length_map]
      exact Nat.le_trans hl (by decide)
    · rw [upd_same]
      unfold bits
      rw [List.map_append]
theorem boot_isinstance : bootBuiltins "isinstance" = some (.builtin "isinstance") := by decide +kernel
theorem boot_enumerate : True := trivial
/-- the list of the classes' numbers: just the one -/
def spClasses (ca : Nat → Addr) : Sp := fun vs H Q _ => ∃ (a : Addr) (i : Nat), vs = [.ref a] ∧ i < 72 ∧ XAt H a (ca i) ∧ ∀ (p : Addr) (H' : Hp), H p = none → Same H H' → H' p = some (.lst [.int (i : Nat)]) → Q (.ref p) H'
abbrev nClasses : List Str := ["error", "found", "k", "is_one"]
theorem scClasses : FnScope nClasses ["error"] (defScope sClasses) := ⟨rfl, rfl, rfl, by decide +kernel, rfl, by decide +kernel, by decide +kernel⟩

def t_comp (K : PySem.W.Frag) : TS := tRet (tLc (iEnum K (tCons (tVar 1) tNil)) (gTup K 2 (gCons (gName 2) (gCons (gName 3) gNil))) (tB (tVar 3)) (tVar 2) [2, 3])
def t_classes (K : PySem.W.Frag) (ca : Nat → Addr) : TS := tSeq (tAsg (tLst (isL K ca [0, 1, 2, 3, 4])) (gName 1)) (tSeq (tAsg (tOp rCat (tVar 1) (tLst (isL K ca [5, 6, 7, 8, 9]))) (gName 1)) (tSeq (tAsg (tOp rCat (tVar 1) (tLst (isL K ca [10, 11, 12, 13, 14]))) (gName 1)) (tSeq (tAsg (tOp rCat (tVar 1) (tLst (isL K ca [15, 16, 17, 18, 19]))) (gName 1)) (tSeq (tAsg (tOp rCat (tVar 1) (tLst (isL K ca [20, 21, 22, 23, 24]))) (gName 1)) (tSeq (tAsg (tOp rCat (tVar 1) (tLst (isL K ca [25, 26, 27, 28, 29]))) (gName 1)) (tSeq (tAsg (tOp rCat (tVar 1) (tLst (isL K ca [30, 31, 32, 33, 34]))) (gName 1)) (tSeq (tAsg (tOp rCat (tVar 1) (tLst (isL K ca [35, 36, 37, 38, 39]))) (gName 1)) (tSeq (tAsg (tOp rCat (tVar 1) (tLst (isL K ca [40, 41, 42, 43, 44]))) (gName 1)) (tSeq (tAsg (tOp rCat (tVar 1) (tLst (isL K ca [45, 46, 47, 48, 49]))) (gName 1)) (tSeq (tAsg (tOp rCat (tVar 1) (tLst (isL K ca [50, 51, 52, 53, 54]))) (gName 1)) (tSeq (tAsg (tOp rCat (tVar 1) (tLst (isL K ca [55, 56, 57, 58, 59]))) (gName 1)) (tSeq (tAsg (tOp rCat (tVar 1) (tLst (isL K ca [60, 61, 62, 63, 64]))) (gName 1)) (tSeq (tAsg (tOp rCat (tVar 1) (tLst (isL K ca [65, 66, 67, 68, 69]))) (gName 1)) (tSeq (tAsg (tOp rCat (tVar 1) (tLst (isL K ca [70, 71]))) (gName 1)) (t_comp K)))))))))))))))
theorem comp_run {i n : Nat} {a p : Addr} {H : Hp} {D : Ends} (hi : i < 72) (hp : H p = some (.lst (bits i (List.range 72)))) (k : ∀ (q : Addr) (H' : Hp), H q = none → Same H H' → H' q = some (.lst [.int (i : Nat)]) → D.rt (.ref q) H') :
    t_comp K D [some (.ref a), some (.ref p), none, none] H := by
  have hlen : (bits i (List.range 72)).length = 72 := by
    unfold bits
    rw [List.length_map, List.length_range]
  refine ⟨_, rfl, p, _, rfl, SqL.of hp, fun q hq => lc_it walk_enum (fun m H' => Same H H' ∧ H' q = some (.lst (if i < m then [V.int (i : Nat)] else []))) ⟨Same.new hq, ?_⟩ (fun m H' _ h => h.1.seq (SqL.of hp)) ?_ ?_⟩
  · rw [upd_same, if_neg (Nat.not_lt_zero i)]
  · rintro m x H1 H2 hm ⟨s1, h1⟩ ⟨t, x1, x2, rfl, ht, rfl, e1, e2⟩
    rw [hlen] at hm
    have e3 : x1 = V.int (m : Nat) := (Option.some.inj e1).symm
    have e4 : x2 = V.bl (decide (i = m)) := by
      have e5 : (bits i (List.range 72))[m]? = some x2 := e2
      unfold bits at e5
      rw [List.getElem?_map, List.getElem?_range hm] at e5
      exact (Option.some.inj e5).symm
    subst e3 e4
    refine ⟨t, _, rfl, SqT.of upd_same, rfl, _, _, rfl, _, _, rfl, rfl, rfl, _, rfl, _, rfl, ?_⟩
    have hqt : q ≠ t := ne_of_none h1 ht
    by_cases e : i = m
    · subst e
      rw [decide_eq_true rfl]
      refine iteT ?_
      refine ⟨_, rfl, [], ?_, by decide, fun b o z => ?_, ?_⟩
      · rw [upd_ne hqt, h1, if_neg (Nat.lt_irrefl i)]
      · rw [upd_ne (ne_of_none z hq)]
        exact Same.new ht _ _ (s1 b o z)
      · rw [upd_same, if_pos (Nat.lt_succ_self i)]
        rfl
    · rw [decide_eq_false e]
      refine iteF ?_
      refine ⟨fun b o z => Same.new ht _ _ (s1 b o z), ?_⟩
      rw [upd_ne hqt, h1]
      by_cases c : i < m
      · rw [if_pos c, if_pos (by omega)]
      · rw [if_neg c, if_neg (by omega)]
  · rintro H1 ⟨s1, h1⟩
    rw [hlen, if_pos hi] at h1
    exact k q H1 hq s1 h1
theorem ok_classes {f : Addr} {fd : FuncData} (F : Fun K "_law_classes" "_law_classes" sClasses f fd) (T : Cls24 K mg ca SE) (gI : mg "isinstance" = none) (gE : mg "enumerate" = none) : FnOk P w0 K mg base CX0 1 f fd ["error"] (spClasses ca) := by
  refine F.ok scClasses (fun vs H Q E h => ?_) (fun cdv A outer s H vs Q E hr h => ?_)
  · obtain ⟨a, i, rfl, _⟩ := h
    rfl
  · obtain ⟨a, i, rfl, hi, hx, k⟩ := h
    refine ⟨t_classes K ca, 
      (pss_cons (ps_set (i := 1) scClasses.nd rfl (.inl rfl) (pe_lst (pa_cons (pe_callB call_isX (by rfl) gI boot_isinstance (pa_cons (pv 0) (pa_cons (pe_glob (by rfl) (T.at_ 0 _ rfl) rfl) pa_nil))) (pa_cons (pe_callB call_isX (by rfl) gI boot_isinstance (pa_cons (pv 0) (pa_cons (pe_glob (by rfl) (T.at_ 1 _ rfl) rfl) pa_nil))) (pa_cons (pe_callB call_isX (by rfl) gI boot_isinstance (pa_cons (pv 0) (pa_cons (pe_glob (by rfl) (T.at_ 2 _ rfl) rfl) pa_nil))) (pa_cons (pe_callB call_isX (by rfl) gI boot_isinstance (pa_cons (pv 0) (pa_cons (pe_glob (by rfl) (T.at_ 3 _ rfl) rfl) pa_nil))) (pa_cons (pe_callB call_isX (by rfl) gI boot_isinstance (pa_cons (pv 0) (pa_cons (pe_glob (by rfl) (T.at_ 4 _ rfl) rfl) pa_nil))) pa_nil)))))))
      (pss_cons (ps_set (i := 1) scClasses.nd rfl (.inl rfl) (pe_op op_cat (pv 1) (pe_lst (pa_cons (pe_callB call_isX (by rfl) gI boot_isinstance (pa_cons (pv 0) (pa_cons (pe_glob (by rfl) (T.at_ 5 _ rfl) rfl) pa_nil))) (pa_cons (pe_callB call_isX (by rfl) gI boot_isinstance (pa_cons (pv 0) (pa_cons (pe_glob (by rfl) (T.at_ 6 _ rfl) rfl) pa_nil))) (pa_cons (pe_callB call_isX (by rfl) gI boot_isinstance (pa_cons (pv 0) (pa_cons (pe_glob (by rfl) (T.at_ 7 _ rfl) rfl) pa_nil))) (pa_cons (pe_callB call_isX (by rfl) gI boot_isinstance (pa_cons (pv 0) (pa_cons (pe_glob (by rfl) (T.at_ 8 _ rfl) rfl) pa_nil))) (pa_cons (pe_callB call_isX (by rfl) gI boot_isinstance (pa_cons (pv 0) (pa_cons (pe_glob (by rfl) (T.at_ 9 _ rfl) rfl) pa_nil))) pa_nil))))))))
      (pss_cons (ps_set (i := 1) scClasses.nd rfl (.inl rfl) (pe_op op_cat (pv 1) (pe_lst (pa_cons (pe_callB call_isX (by rfl) gI boot_isinstance (pa_cons (pv 0) (pa_cons (pe_glob (by rfl) (T.at_ 10 _ rfl) rfl) pa_nil))) (pa_cons (pe_callB call_isX (by rfl) gI boot_isinstance (pa_cons (pv 0) (pa_cons (pe_glob (by rfl) (T.at_ 11 _ rfl) rfl) pa_nil))) (pa_cons (pe_callB call_isX (by rfl) gI boot_isinstance (pa_cons (pv 0) (pa_cons (pe_glob (by rfl) (T.at_ 12 _ rfl) rfl) pa_nil))) (pa_cons (pe_callB call_isX (by rfl) gI boot_isinstance (pa_cons (pv 0) (pa_cons (pe_glob (by rfl) (T.at_ 13 _ rfl) rfl) pa_nil))) (pa_cons (pe_callB call_isX (by rfl) gI boot_isinstance (pa_cons (pv 0) (pa_cons (pe_glob (by rfl) (T.at_ 14 _ rfl) rfl) pa_nil))) pa_nil))))))))
      (pss_cons (ps_set (i := 1) scClasses.nd rfl (.inl rfl) (pe_op op_cat (pv 1) (pe_lst (pa_cons (pe_callB call_isX (by rfl) gI boot_isinstance (pa_cons (pv 0) (pa_cons (pe_glob (by rfl) (T.at_ 15 _ rfl) rfl) pa_nil))) (pa_cons (pe_callB call_isX (by rfl) gI boot_isinstance (pa_cons (pv 0) (pa_cons (pe_glob (by rfl) (T.at_ 16 _ rfl) rfl) pa_nil))) (pa_cons (pe_callB call_isX (by rfl) gI boot_isinstance (pa_cons (pv 0) (pa_cons (pe_glob (by rfl) (T.at_ 17 _ rfl) rfl) pa_nil))) (pa_cons (pe_callB call_isX (by rfl) gI boot_isinstance (pa_cons (pv 0) (pa_cons (pe_glob (by rfl) (T.at_ 18 _ rfl) rfl) pa_nil))) (pa_cons (pe_callB call_isX (by rfl) gI boot_isinstance (pa_cons (pv 0) (pa_cons (pe_glob (by rfl) (T.at_ 19 _ rfl) rfl) pa_nil))) pa_nil))))))))
      (pss_cons (ps_set (i := 1) scClasses.nd rfl (.inl rfl) (pe_op op_cat (pv 1) (pe_lst (pa_cons (pe_callB call_isX (by rfl) gI boot_isinstance (pa_cons (pv 0) (pa_cons (pe_glob (by rfl) (T.at_ 20 _ rfl) rfl) pa_nil))) (pa_cons (pe_callB call_isX (by rfl) gI boot_isinstance (pa_cons (pv 0) (pa_cons (pe_glob (by rfl) (T.at_ 21 _ rfl) rfl) pa_nil))) (pa_cons (pe_callB call_isX (by rfl) gI boot_isinstance (pa_cons (pv 0) (pa_cons (pe_glob (by rfl) (T.at_ 22 _ rfl) rfl) pa_nil))) (pa_cons (pe_callB call_isX (by rfl) gI boot_isinstance (pa_cons (pv 0) (pa_cons (pe_glob (by rfl) (T.at_ 23 _ rfl) rfl) pa_nil))) (pa_cons (pe_callB call_isX (by rfl) gI boot_isinstance (pa_cons (pv 0) (pa_cons (pe_glob (by rfl) (T.at_ 24 _ rfl) rfl) pa_nil))) pa_nil))))))))
      (pss_cons (ps_set (i := 1) scClasses.nd rfl (.inl rfl) (pe_op op_cat (pv 1) (pe_lst (pa_cons (pe_callB call_isX (by rfl) gI boot_isinstance (pa_cons (pv 0) (pa_cons (pe_glob (by rfl) (T.at_ 25 _ rfl) rfl) pa_nil))) (pa_cons (pe_callB call_isX (by rfl) gI boot_isinstance (pa_cons (pv 0) (pa_cons (pe_glob (by rfl) (T.at_ 26 _ rfl) rfl) pa_nil))) (pa_cons (pe_callB call_isX (by rfl) gI boot_isinstance (pa_cons (pv 0) (pa_cons (pe_glob (by rfl) (T.at_ 27 _ rfl) rfl) pa_nil))) (pa_cons (pe_callB call_isX (by rfl) gI boot_isinstance (pa_cons (pv 0) (pa_cons (pe_glob (by rfl) (T.at_ 28 _ rfl) rfl) pa_nil))) (pa_cons (pe_callB call_isX (by rfl) gI boot_isinstance (pa_cons (pv 0) (pa_cons (pe_glob (by rfl) (T.at_ 29 _ rfl) rfl) pa_nil))) pa_nil))))))))
      (pss_cons (ps_set (i := 1) scClasses.nd rfl (.inl rfl) (pe_op op_cat (pv 1) (pe_lst (pa_cons (pe_callB call_isX (by rfl) gI boot_isinstance (pa_cons (pv 0) (pa_cons (pe_glob (by rfl) (T.at_ 30 _ rfl) rfl) pa_nil))) (pa_cons (pe_callB call_isX (by rfl) gI boot_isinstance (pa_cons (pv 0) (pa_cons (pe_glob (by rfl) (T.at_ 31 _ rfl) rfl) pa_nil))) (pa_cons (pe_callB call_isX (by rfl) gI boot_isinstance (pa_cons (pv 0) (pa_cons (pe_glob (by rfl) (T.at_ 32 _ rfl) rfl) pa_nil))) (pa_cons (pe_callB call_isX (by rfl) gI boot_isinstance (pa_cons (pv 0) (pa_cons (pe_glob (by rfl) (T.at_ 33 _ rfl) rfl) pa_nil))) (pa_cons (pe_callB call_isX (by rfl) gI boot_isinstance (pa_cons (pv 0) (pa_cons (pe_glob (by rfl) (T.at_ 34 _ rfl) rfl) pa_nil))) pa_nil))))))))
      (pss_cons (ps_set (i := 1) scClasses.nd rfl (.inl rfl) (pe_op op_cat (pv 1) (pe_lst (pa_cons (pe_callB call_isX (by rfl) gI boot_isinstance (pa_cons (pv 0) (pa_cons (pe_glob (by rfl) (T.at_ 35 _ rfl) rfl) pa_nil))) (pa_cons (pe_callB call_isX (by rfl) gI boot_isinstance (pa_cons (pv 0) (pa_cons (pe_glob (by rfl) (T.at_ 36 _ rfl) rfl) pa_nil))) (pa_cons (pe_callB call_isX (by rfl) gI boot_isinstance (pa_cons (pv 0) (pa_cons (pe_glob (by rfl) (T.at_ 37 _ rfl) rfl) pa_nil))) (pa_cons (pe_callB call_isX (by rfl) gI boot_isinstance (pa_cons (pv 0) (pa_cons (pe_glob (by rfl) (T.at_ 38 _ rfl) rfl) pa_nil))) (pa_cons (pe_callB call_isX (by rfl) gI boot_isinstance (pa_cons (pv 0) (pa_cons (pe_glob (by rfl) (T.at_ 39 _ rfl) rfl) pa_nil))) pa_nil))))))))
      (pss_cons (ps_set (i := 1) scClasses.nd rfl (.inl rfl) (pe_op op_cat (pv 1) (pe_lst (pa_cons (pe_callB call_isX (by rfl) gI boot_isinstance (pa_cons (pv 0) (pa_cons (pe_glob (by rfl) (T.at_ 40 _ rfl) rfl) pa_nil))) (pa_cons (pe_callB call_isX (by rfl) gI boot_isinstance (pa_cons (pv 0) (pa_cons (pe_glob (by rfl) (T.at_ 41 _ rfl) rfl) pa_nil))) (pa_cons (pe_callB call_isX (by rfl) gI boot_isinstance (pa_cons (pv 0) (pa_cons (pe_glob (by rfl) (T.at_ 42 _ rfl) rfl) pa_nil))) (pa_cons (pe_callB call_isX (by rfl) gI boot_isinstance (pa_cons (pv 0) (pa_cons (pe_glob (by rfl) (T.at_ 43 _ rfl) rfl) pa_nil))) (pa_cons (pe_callB call_isX (by rfl) gI boot_isinstance (pa_cons (pv 0) (pa_cons (pe_glob (by rfl) (T.at_ 44 _ rfl) rfl) pa_nil))) pa_nil))))))))
      (pss_cons (ps_set (i := 1) scClasses.nd rfl (.inl rfl) (pe_op op_cat (pv 1) (pe_lst (pa_cons (pe_callB call_isX (by rfl) gI boot_isinstance (pa_cons (pv 0) (pa_cons (pe_glob (by rfl) (T.at_ 45 _ rfl) rfl) pa_nil))) (pa_cons (pe_callB call_isX (by rfl) gI boot_isinstance (pa_cons (pv 0) (pa_cons (pe_glob (by rfl) (T.at_ 46 _ rfl) rfl) pa_nil))) (pa_cons (pe_callB call_isX (by rfl) gI boot_isinstance (pa_cons (pv 0) (pa_cons (pe_glob (by rfl) (T.at_ 47 _ rfl) rfl) pa_nil))) (pa_cons (pe_callB call_isX (by rfl) gI boot_isinstance (pa_cons (pv 0) (pa_cons (pe_glob (by rfl) (T.at_ 48 _ rfl) rfl) pa_nil))) (pa_cons (pe_callB call_isX (by rfl) gI boot_isinstance (pa_cons (pv 0) (pa_cons (pe_glob (by rfl) (T.at_ 49 _ rfl) rfl) pa_nil))) pa_nil))))))))
      (pss_cons (ps_set (i := 1) scClasses.nd rfl (.inl rfl) (pe_op op_cat (pv 1) (pe_lst (pa_cons (pe_callB call_isX (by rfl) gI boot_isinstance (pa_cons (pv 0) (pa_cons (pe_glob (by rfl) (T.at_ 50 _ rfl) rfl) pa_nil))) (pa_cons (pe_callB call_isX (by rfl) gI boot_isinstance (pa_cons (pv 0) (pa_cons (pe_glob (by rfl) (T.at_ 51 _ rfl) rfl) pa_nil))) (pa_cons (pe_callB call_isX (by rfl) gI boot_isinstance (pa_cons (pv 0) (pa_cons (pe_glob (by rfl) (T.at_ 52 _ rfl) rfl) pa_nil))) (pa_cons (pe_callB call_isX (by rfl) gI boot_isinstance (pa_cons (pv 0) (pa_cons (pe_glob (by rfl) (T.at_ 53 _ rfl) rfl) pa_nil))) (pa_cons (pe_callB call_isX (by rfl) gI boot_isinstance (pa_cons (pv 0) (pa_cons (pe_glob (by rfl) (T.at_ 54 _ rfl) rfl) pa_nil))) pa_nil))))))))
      (pss_cons (ps_set (i := 1) scClasses.nd rfl (.inl rfl) (pe_op op_cat (pv 1) (pe_lst (pa_cons (pe_callB call_isX (by rfl) gI boot_isinstance (pa_cons (pv 0) (pa_cons (pe_glob (by rfl) (T.at_ 55 _ rfl) rfl) pa_nil))) (pa_cons (pe_callB call_isX (by rfl) gI boot_isinstance (pa_cons (pv 0) (pa_cons (pe_glob (by rfl) (T.at_ 56 _ rfl) rfl) pa_nil))) (pa_cons (pe_callB call_isX (by rfl) gI boot_isinstance (pa_cons (pv 0) (pa_cons (pe_glob (by rfl) (T.at_ 57 _ rfl) rfl) pa_nil))) (pa_cons (pe_callB call_isX (by rfl) gI boot_isinstance (pa_cons (pv 0) (pa_cons (pe_glob (by rfl) (T.at_ 58 _ rfl) rfl) pa_nil))) (pa_cons (pe_callB call_isX (by rfl) gI boot_isinstance (pa_cons (pv 0) (pa_cons (pe_glob (by rfl) (T.at_ 59 _ rfl) rfl) pa_nil))) pa_nil))))))))
      (pss_cons (ps_set (i := 1) scClasses.nd rfl (.inl rfl) (pe_op op_cat (pv 1) (pe_lst (pa_cons (pe_callB call_isX (by rfl) gI boot_isinstance (pa_cons (pv 0) (pa_cons (pe_glob (by rfl) (T.at_ 60 _ rfl) rfl) pa_nil))) (pa_cons (pe_callB call_isX (by rfl) gI boot_isinstance (pa_cons (pv 0) (pa_cons (pe_glob (by rfl) (T.at_ 61 _ rfl) rfl) pa_nil))) (pa_cons (pe_callB call_isX (by rfl) gI boot_isinstance (pa_cons (pv 0) (pa_cons (pe_glob (by rfl) (T.at_ 62 _ rfl) rfl) pa_nil))) (pa_cons (pe_callB call_isX (by rfl) gI boot_isinstance (pa_cons (pv 0) (pa_cons (pe_glob (by rfl) (T.at_ 63 _ rfl) rfl) pa_nil))) (pa_cons (pe_callB call_isX (by rfl) gI boot_isinstance (pa_cons (pv 0) (pa_cons (pe_glob (by rfl) (T.at_ 64 _ rfl) rfl) pa_nil))) pa_nil))))))))
      (pss_cons (ps_set (i := 1) scClasses.nd rfl (.inl rfl) (pe_op op_cat (pv 1) (pe_lst (pa_cons (pe_callB call_isX (by rfl) gI boot_isinstance (pa_cons (pv 0) (pa_cons (pe_glob (by rfl) (T.at_ 65 _ rfl) rfl) pa_nil))) (pa_cons (pe_callB call_isX (by rfl) gI boot_isinstance (pa_cons (pv 0) (pa_cons (pe_glob (by rfl) (T.at_ 66 _ rfl) rfl) pa_nil))) (pa_cons (pe_callB call_isX (by rfl) gI boot_isinstance (pa_cons (pv 0) (pa_cons (pe_glob (by rfl) (T.at_ 67 _ rfl) rfl) pa_nil))) (pa_cons (pe_callB call_isX (by rfl) gI boot_isinstance (pa_cons (pv 0) (pa_cons (pe_glob (by rfl) (T.at_ 68 _ rfl) rfl) pa_nil))) (pa_cons (pe_callB call_isX (by rfl) gI boot_isinstance (pa_cons (pv 0) (pa_cons (pe_glob (by rfl) (T.at_ 69 _ rfl) rfl) pa_nil))) pa_nil))))))))
      (pss_cons (ps_set (i := 1) scClasses.nd rfl (.inl rfl) (pe_op op_cat (pv 1) (pe_lst (pa_cons (pe_callB call_isX (by rfl) gI boot_isinstance (pa_cons (pv 0) (pa_cons (pe_glob (by rfl) (T.at_ 70 _ rfl) rfl) pa_nil))) (pa_cons (pe_callB call_isX (by rfl) gI boot_isinstance (pa_cons (pv 0) (pa_cons (pe_glob (by rfl) (T.at_ 71 _ rfl) rfl) pa_nil))) pa_nil)))))
      (pss_one (ps_ret (pe_lc (own := [("k", 2), ("is_one", 3)]) (by rfl) scClasses.nd (pi_enum (by rfl) gE (pa_cons (pv 1) pa_nil)) (blkOk_by (N := nClasses) (sc := defScope sClasses) (by decide +kernel)) (fun _ _ _ _ _ => pg_tup rfl (pgs_cons (pg_name (i := 2) scClasses.nd rfl (Or.inl rfl)) (pgs_cons (pg_name (i := 3) scClasses.nd rfl (Or.inl rfl)) pgs_nil))) (fun _ _ _ _ _ => pts_one (pt_val (pv 3))) (fun _ _ _ _ _ => pv 2))))))))))))))))))), ?_⟩
    refine cls_first T hi rfl hx (by decide) (by decide) fun p0 H0 hp0 s0 e0 => ?_
    refine cls_more T hi rfl rfl (hx.same s0) e0 (by decide) (by decide) fun p1 H1 hp1 q1 e1 => ?_
    have s1 := (s0).trans q1
    refine cls_more T hi rfl rfl (hx.same s1) e1 (by decide) (by decide) fun p2 H2 hp2 q2 e2 => ?_
    have s2 := (s1).trans q2
    refine cls_more T hi rfl rfl (hx.same s2) e2 (by decide) (by decide) fun p3 H3 hp3 q3 e3 => ?_
    have s3 := (s2).trans q3
    refine cls_more T hi rfl rfl (hx.same s3) e3 (by decide) (by decide) fun p4 H4 hp4 q4 e4 => ?_
    have s4 := (s3).trans q4
    refine cls_more T hi rfl rfl (hx.same s4) e4 (by decide) (by decide) fun p5 H5 hp5 q5 e5 => ?_
    have s5 := (s4).trans q5
    refine cls_more T hi rfl rfl (hx.same s5) e5 (by decide) (by decide) fun p6 H6 hp6 q6 e6 => ?_
    have s6 := (s5).trans q6
    refine cls_more T hi rfl rfl (hx.same s6) e6 (by decide) (by decide) fun p7 H7 hp7 q7 e7 => ?_
    have s7 := (s6).trans q7
    refine cls_more T hi rfl rfl (hx.same s7) e7 (by decide) (by decide) fun p8 H8 hp8 q8 e8 => ?_
    have s8 := (s7).trans q8
    refine cls_more T hi rfl rfl (hx.same s8) e8 (by decide) (by decide) fun p9 H9 hp9 q9 e9 => ?_
    have s9 := (s8).trans q9
    refine cls_more T hi rfl rfl (hx.same s9) e9 (by decide) (by decide) fun p10 H10 hp10 q10 e10 => ?_
    have s10 := (s9).trans q10
    refine cls_more T hi rfl rfl (hx.same s10) e10 (by decide) (by decide) fun p11 H11 hp11 q11 e11 => ?_
    have s11 := (s10).trans q11
    refine cls_more T hi rfl rfl (hx.same s11) e11 (by decide) (by decide) fun p12 H12 hp12 q12 e12 => ?_
    have s12 := (s11).trans q12
    refine cls_more T hi rfl rfl (hx.same s12) e12 (by decide) (by decide) fun p13 H13 hp13 q13 e13 => ?_
    have s13 := (s12).trans q13
    refine cls_more T hi rfl rfl (hx.same s13) e13 (by decide) (by decide) fun p14 H14 hp14 q14 e14 => ?_
    have s14 := (s13).trans q14
    refine comp_run (n := 72) (a := a) hi (p := p14) ?_ fun q H' hq sq eq => k q H' (s14.free hq) (s14.trans sq) eq
    rw [e14]
    exact congrArg (fun l => some (HO.lst (bits i l))) (by decide)
end
end SA

set_option Elab.async false
set_option linter.all false
set_option maxRecDepth 100000
set_option maxHeartbeats 4000000
namespace SA
open PySem PySem.Spec PyProof.Rows L2
/-! ### _law_plain_errors -/
def exE (C : Addr) : TE := fun σ H Q => tC (.str "a") σ H fun _ H1 => ∀ a, H1 a = none → Q (.ref a) (upd H1 a (ExO (.ref C) a))
def exL (ca : Nat → Addr) : List Nat → TA
  | [] => tNil
  | j :: js => tCons (exE (ca j)) (exL ca js)
def XsAt (H : Hp) (ca : Nat → Addr) (as : List Addr) (js : List Nat) : Prop := Paired (fun a j => XAt H a (ca j)) as js
theorem XsAt.same {H H' : Hp} {ca : Nat → Addr} {as : List Addr} {js : List Nat} (e : Same H H') (h : XsAt H ca as js) : XsAt H' ca as js := pmono (fun _ _ z => XAt.same e z) h
theorem exL_run {ca : Nat → Addr} {σ : L2.St} : ∀ (js : List Nat) (H : Hp) (Q : List V → Hp → Prop), (∀ (as : List Addr) (H' : Hp), Same H H' → XsAt H' ca as js → as.length = js.length → Q (as.map V.ref) H') → exL ca js σ H Q
  | [], H, Q, k => k [] H (Same.refl H) .nil rfl
  | j :: js, H, Q, k => by
    intro a ha
    refine exL_run js _ _ fun as H' e hx hl => ?_
    exact k (a :: as) H' ((Same.new ha).trans e) (.cons (.inl (e _ _ upd_same)) hx) (congrArg (· + 1) hl)
theorem pl_first {ca : Nat → Addr} {σ : L2.St} {H : Hp} {D : Ends} {u : TS} {js : List Nat} (hl : js.length ≤ 72)
    (k : ∀ (p : Addr) (as : List Addr) (H' : Hp), H p = none → Same H H' → H' p = some (.lst (as.map V.ref)) → XsAt H' ca as js → u D (σ.set 0 (some (.ref p))) H') : tSeq (tAsg (tLst (exL ca js)) (gName 0)) u D σ H := by
  refine exL_run js H _ fun as H1 e hx hn => ⟨?_, fun p hp => ?_⟩
  · rw [List.length_map, hn]
    exact Nat.le_trans hl (by decide)
  · exact k p as _ (e.free hp) (e.trans (Same.new hp)) upd_same (hx.same (Same.new hp))
theorem pl_more {ca : Nat → Addr} {p : Addr} {σ : L2.St} {H : Hp} {D : Ends} {u : TS} {as0 : List Addr} {js0 js : List Nat} (h0 : σ[0]? = some (some (.ref p))) (hp : H p = some (.lst (as0.map V.ref))) (hx0 : XsAt H ca as0 js0) (hl : js0.length + js.length ≤ 72)
    (k : ∀ (q : Addr) (as : List Addr) (H' : Hp), H q = none → Same H H' → H' q = some (.lst (as.map V.ref)) → XsAt H' ca as (js0 ++ js) → u D (σ.set 0 (some (.ref q))) H') : tSeq (tAsg (tOp rCat (tVar 0) (tLst (exL ca js))) (gName 0)) u D σ H := by
  have hn0 := Paired.length hx0
  refine ⟨_, h0, exL_run js H _ fun as H1 e hx hn => ⟨?_, fun q hq => ?_⟩⟩
  · rw [List.length_map, hn]
    exact Nat.le_trans (by omega : js.length ≤ 72) (by decide)
  · have s1 : Same H1 (upd H1 q (.lst (as.map V.ref))) := Same.new hq
    refine ⟨p, q, _, _, rfl, rfl, s1 _ _ (e _ _ hp), upd_same, ?_, fun r hr => ?_⟩
    · rw [List.length_map, List.length_map, hn, hn0]
      exact Nat.le_trans hl (by decide)
    · have s2 := s1.trans (Same.new (o := HO.lst (as0.map V.ref ++ as.map V.ref)) hr)
      refine k r (as0 ++ as) _ (e.free (s1.free hr)) (e.trans s2) ?_ (papp (hx0.same (e.trans s2)) (hx.same s2))
      rw [upd_same, List.map_append]
def spPlain (ca : Nat → Addr) : Sp := fun vs H Q _ => vs = [] ∧ ∀ (p : Addr) (as : List Addr) (H' : Hp), H p = none → Same H H' → H' p = some (.lst (as.map V.ref)) → XsAt H' ca as plainI → Q (.ref p) H'
section
variable {P : Program} {w0 : World} {K : PySem.W.Frag} {mg : Str → Option Value} {base : Heap} {ca : Nat → Addr} {SE : Addr}
theorem scPlain : FnScope ["found"] [] (defScope sPlain) := ⟨rfl, rfl, rfl, by decide +kernel, rfl, by decide +kernel, by decide +kernel⟩

def t_plain (ca : Nat → Addr) : TS := tSeq (tAsg (tLst (exL ca [0, 1, 3, 4, 5, 6, 8, 12, 13, 14])) (gName 0)) (tSeq (tAsg (tOp rCat (tVar 0) (tLst (exL ca [19, 20, 21, 23, 24, 25, 26, 29, 31]))) (gName 0)) (tSeq (tAsg (tOp rCat (tVar 0) (tLst (exL ca [32, 33, 34, 35, 38, 40, 41, 42, 44, 45]))) (gName 0)) (tSeq (tAsg (tOp rCat (tVar 0) (tLst (exL ca [46, 48, 49, 50, 51, 52, 54, 58, 59]))) (gName 0)) (tSeq (tAsg (tOp rCat (tVar 0) (tLst (exL ca [62, 63, 66, 67, 68, 69, 70, 71]))) (gName 0)) (tRet (tVar 0))))))
theorem ok_plain {f : Addr} {fd : FuncData} (F : Fun K "_law_plain_errors" "_law_plain_errors" sPlain f fd) (T : Cls24 K mg ca SE) (T2 : Plain24 K ca) : FnOk P w0 K mg base CX0 1 f fd [] (spPlain ca) := by
  refine F.ok scPlain (fun vs H Q E h => ?_) (fun cdv A outer s H vs Q E hr h => ?_)
  · obtain ⟨rfl, _⟩ := h
    rfl
  · obtain ⟨rfl, k⟩ := h
    refine ⟨t_plain ca, 
      (pss_cons (ps_set (i := 0) scPlain.nd rfl (.inl rfl) (pe_lst (pa_cons (pe_exc1 PySem.F.excBase_ValueError (T2.exc 0 (by decide)) (T.at_ 0 _ rfl) (T.keep 0 (by decide)) (by rfl) pe_str) (pa_cons (pe_exc1 PySem.F.excBase_ValueError (T2.exc 1 (by decide)) (T.at_ 1 _ rfl) (T.keep 1 (by decide)) (by rfl) pe_str) (pa_cons (pe_exc1 PySem.F.excBase_ValueError (T2.exc 3 (by decide)) (T.at_ 3 _ rfl) (T.keep 3 (by decide)) (by rfl) pe_str) (pa_cons (pe_exc1 PySem.F.excBase_ValueError (T2.exc 4 (by decide)) (T.at_ 4 _ rfl) (T.keep 4 (by decide)) (by rfl) pe_str) (pa_cons (pe_exc1 PySem.F.excBase_ValueError (T2.exc 5 (by decide)) (T.at_ 5 _ rfl) (T.keep 5 (by decide)) (by rfl) pe_str) (pa_cons (pe_exc1 PySem.F.excBase_ValueError (T2.exc 6 (by decide)) (T.at_ 6 _ rfl) (T.keep 6 (by decide)) (by rfl) pe_str) (pa_cons (pe_exc1 PySem.F.excBase_ValueError (T2.exc 8 (by decide)) (T.at_ 8 _ rfl) (T.keep 8 (by decide)) (by rfl) pe_str) (pa_cons (pe_exc1 PySem.F.excBase_ValueError (T2.exc 12 (by decide)) (T.at_ 12 _ rfl) (T.keep 12 (by decide)) (by rfl) pe_str) (pa_cons (pe_exc1 PySem.F.excBase_ValueError (T2.exc 13 (by decide)) (T.at_ 13 _ rfl) (T.keep 13 (by decide)) (by rfl) pe_str) (pa_cons (pe_exc1 PySem.F.excBase_ValueError (T2.exc 14 (by decide)) (T.at_ 14 _ rfl) (T.keep 14 (by decide)) (by rfl) pe_str) pa_nil))))))))))))
      (pss_cons (ps_set (i := 0) scPlain.nd rfl (.inl rfl) (pe_op op_cat (pv 0) (pe_lst (pa_cons (pe_exc1 PySem.F.excBase_ValueError (T2.exc 19 (by decide)) (T.at_ 19 _ rfl) (T.keep 19 (by decide)) (by rfl) pe_str) (pa_cons (pe_exc1 PySem.F.excBase_ValueError (T2.exc 20 (by decide)) (T.at_ 20 _ rfl) (T.keep 20 (by decide)) (by rfl) pe_str) (pa_cons (pe_exc1 PySem.F.excBase_ValueError (T2.exc 21 (by decide)) (T.at_ 21 _ rfl) (T.keep 21 (by decide)) (by rfl) pe_str) (pa_cons (pe_exc1 PySem.F.excBase_ValueError (T2.exc 23 (by decide)) (T.at_ 23 _ rfl) (T.keep 23 (by decide)) (by rfl) pe_str) (pa_cons (pe_exc1 PySem.F.excBase_ValueError (T2.exc 24 (by decide)) (T.at_ 24 _ rfl) (T.keep 24 (by decide)) (by rfl) pe_str) (pa_cons (pe_exc1 PySem.F.excBase_ValueError (T2.exc 25 (by decide)) (T.at_ 25 _ rfl) (T.keep 25 (by decide)) (by rfl) pe_str) (pa_cons (pe_exc1 PySem.F.excBase_ValueError (T2.exc 26 (by decide)) (T.at_ 26 _ rfl) (T.keep 26 (by decide)) (by rfl) pe_str) (pa_cons (pe_exc1 PySem.F.excBase_ValueError (T2.exc 29 (by decide)) (T.at_ 29 _ rfl) (T.keep 29 (by decide)) (by rfl) pe_str) (pa_cons (pe_exc1 PySem.F.excBase_ValueError (T2.exc 31 (by decide)) (T.at_ 31 _ rfl) (T.keep 31 (by decide)) (by rfl) pe_str) pa_nil))))))))))))
      (pss_cons (ps_set (i := 0) scPlain.nd rfl (.inl rfl) (pe_op op_cat (pv 0) (pe_lst (pa_cons (pe_exc1 PySem.F.excBase_ValueError (T2.exc 32 (by decide)) (T.at_ 32 _ rfl) (T.keep 32 (by decide)) (by rfl) pe_str) (pa_cons (pe_exc1 PySem.F.excBase_ValueError (T2.exc 33 (by decide)) (T.at_ 33 _ rfl) (T.keep 33 (by decide)) (by rfl) pe_str) (pa_cons (pe_exc1 PySem.F.excBase_ValueError (T2.exc 34 (by decide)) (T.at_ 34 _ rfl) (T.keep 34 (by decide)) (by rfl) pe_str) (pa_cons (pe_exc1 PySem.F.excBase_ValueError (T2.exc 35 (by decide)) (T.at_ 35 _ rfl) (T.keep 35 (by decide)) (by rfl) pe_str) (pa_cons (pe_exc1 PySem.F.excBase_ValueError (T2.exc 38 (by decide)) (T.at_ 38 _ rfl) (T.keep 38 (by decide)) (by rfl) pe_str) (pa_cons (pe_exc1 PySem.F.excBase_ValueError (T2.exc 40 (by decide)) (T.at_ 40 _ rfl) (T.keep 40 (by decide)) (by rfl) pe_str) (pa_cons (pe_exc1 PySem.F.excBase_ValueError (T2.exc 41 (by decide)) (T.at_ 41 _ rfl) (T.keep 41 (by decide)) (by rfl) pe_str) (pa_cons (pe_exc1 PySem.F.excBase_ValueError (T2.exc 42 (by decide)) (T.at_ 42 _ rfl) (T.keep 42 (by decide)) (by rfl) pe_str) (pa_cons (pe_exc1 PySem.F.excBase_ValueError (T2.exc 44 (by decide)) (T.at_ 44 _ rfl) (T.keep 44 (by decide)) (by rfl) pe_str) (pa_cons (pe_exc1 PySem.F.excBase_ValueError (T2.exc 45 (by decide)) (T.at_ 45 _ rfl) (T.keep 45 (by decide)) (by rfl) pe_str) pa_nil)))))))))))))
      (pss_cons (ps_set (i := 0) scPlain.nd rfl (.inl rfl) (pe_op op_cat (pv 0) (pe_lst (pa_cons (pe_exc1 PySem.F.excBase_ValueError (T2.exc 46 (by decide)) (T.at_ 46 _ rfl) (T.keep 46 (by decide)) (by rfl) pe_str) (pa_cons (pe_exc1 PySem.F.excBase_ValueError (T2.exc 48 (by decide)) (T.at_ 48 _ rfl) (T.keep 48 (by decide)) (by rfl) pe_str) (pa_cons (pe_exc1 PySem.F.excBase_ValueError (T2.exc 49 (by decide)) (T.at_ 49 _ rfl) (T.keep 49 (by decide)) (by rfl) pe_str) (pa_cons (pe_exc1 PySem.F.excBase_ValueError (T2.exc 50 (by decide)) (T.at_ 50 _ rfl) (T.keep 50 (by decide)) (by rfl) pe_str) (pa_cons (pe_exc1 PySem.F.excBase_ValueError (T2.exc 51 (by decide)) (T.at_ 51 _ rfl) (T.keep 51 (by decide)) (by rfl) pe_str) (pa_cons (pe_exc1 PySem.F.excBase_ValueError (T2.exc 52 (by decide)) (T.at_ 52 _ rfl) (T.keep 52 (by decide)) (by rfl) pe_str) (pa_cons (pe_exc1 PySem.F.excBase_ValueError (T2.exc 54 (by decide)) (T.at_ 54 _ rfl) (T.keep 54 (by decide)) (by rfl) pe_str) (pa_cons (pe_exc1 PySem.F.excBase_ValueError (T2.exc 58 (by decide)) (T.at_ 58 _ rfl) (T.keep 58 (by decide)) (by rfl) pe_str) (pa_cons (pe_exc1 PySem.F.excBase_ValueError (T2.exc 59 (by decide)) (T.at_ 59 _ rfl) (T.keep 59 (by decide)) (by rfl) pe_str) pa_nil))))))))))))
      (pss_cons (ps_set (i := 0) scPlain.nd rfl (.inl rfl) (pe_op op_cat (pv 0) (pe_lst (pa_cons (pe_exc1 PySem.F.excBase_ValueError (T2.exc 62 (by decide)) (T.at_ 62 _ rfl) (T.keep 62 (by decide)) (by rfl) pe_str) (pa_cons (pe_exc1 PySem.F.excBase_ValueError (T2.exc 63 (by decide)) (T.at_ 63 _ rfl) (T.keep 63 (by decide)) (by rfl) pe_str) (pa_cons (pe_exc1 PySem.F.excBase_ValueError (T2.exc 66 (by decide)) (T.at_ 66 _ rfl) (T.keep 66 (by decide)) (by rfl) pe_str) (pa_cons (pe_exc1 PySem.F.excBase_ValueError (T2.exc 67 (by decide)) (T.at_ 67 _ rfl) (T.keep 67 (by decide)) (by rfl) pe_str) (pa_cons (pe_exc1 PySem.F.excBase_ValueError (T2.exc 68 (by decide)) (T.at_ 68 _ rfl) (T.keep 68 (by decide)) (by rfl) pe_str) (pa_cons (pe_exc1 PySem.F.excBase_ValueError (T2.exc 69 (by decide)) (T.at_ 69 _ rfl) (T.keep 69 (by decide)) (by rfl) pe_str) (pa_cons (pe_exc1 PySem.F.excBase_ValueError (T2.exc 70 (by decide)) (T.at_ 70 _ rfl) (T.keep 70 (by decide)) (by rfl) pe_str) (pa_cons (pe_exc1 PySem.F.excBase_ValueError (T2.exc 71 (by decide)) (T.at_ 71 _ rfl) (T.keep 71 (by decide)) (by rfl) pe_str) pa_nil)))))))))))
      (pss_one (ps_ret (pv 0)))))))), ?_⟩
    refine pl_first (by decide) fun p0 as0 H0 hp0 s0 e0 x0 => ?_
    refine pl_more rfl e0 x0 (by decide) fun p1 as1 H1 hp1 q1 e1 x1 => ?_
    have s1 := (s0).trans q1
    refine pl_more rfl e1 x1 (by decide) fun p2 as2 H2 hp2 q2 e2 x2 => ?_
    have s2 := (s1).trans q2
    refine pl_more rfl e2 x2 (by decide) fun p3 as3 H3 hp3 q3 e3 x3 => ?_
    have s3 := (s2).trans q3
    refine pl_more rfl e3 x3 (by decide) fun p4 as4 H4 hp4 q4 e4 x4 => ?_
    have s4 := (s3).trans q4
    exact ⟨_, rfl, k p4 as4 H4 (s3.free hp4) s4 e4 x4⟩
end
end SA

set_option Elab.async false
set_option linter.all false
set_option maxRecDepth 100000
set_option maxHeartbeats 4000000
namespace SA
open PySem PySem.Spec PyProof.Rows L2
/-! ### the heap but for p -/
def rm (p : Addr) (H : Hp) : Hp := fun b => if b = p then none else H b
theorem rm_at {p b : Addr} {H : Hp} (h : b ≠ p) : rm p H b = H b := if_neg h
theorem rm_p {p : Addr} {H : Hp} : rm p H p = none := if_pos rfl
theorem rm_sub {p : Addr} {H : Hp} : Same (rm p H) H := fun b o e => by
  by_cases h : b = p
  · rw [h, rm_p] at e
    cases e
  · rw [rm_at h] at e
    exact e
theorem rm_same {p : Addr} {H H' : Hp} (s : Same H H') : Same (rm p H) (rm p H') := fun b o e => by
  by_cases h : b = p
  · rw [h, rm_p] at e
    cases e
  · rw [rm_at h] at e ⊢
    exact s b o e
theorem rm_upd {p : Addr} {H : Hp} {o : HO} : rm p (upd H p o) = rm p H := by
  funext b
  by_cases h : b = p
  · rw [h, rm_p, rm_p]
  · rw [rm_at h, rm_at h, upd_ne h]
mutual
theorem Dx.same {K : PySem.W.Frag} {H H' : Hp} (e : Same H H') : ∀ {v : V} {d : PyData}, Dx K H v d → Dx K H' v d
  | _, _, .non => .non
  | _, _, .bl b => .bl b
  | _, _, .int i => .int i
  | _, _, .str x => .str x
  | _, _, .lst h a => .lst (Evl.ex_l e h) (DxAll.same e a)
  | _, _, .tup h a => .tup (Evl.ex_t e h) (DxAll.same e a)
  | _, _, .dct h k a => .dct (e _ _ h) k (DxAll.same e a)
theorem DxAll.same {K : PySem.W.Frag} {H H' : Hp} (e : Same H H') : ∀ {vs : List V} {ds : List PyData}, DxAll K H vs ds → DxAll K H' vs ds
  | _, _, .nil => .nil
  | _, _, .cons a b => .cons (Dx.same e a) (DxAll.same e b)
end
def good (d : PyData) : Bool := d.showable && (decide (d.shown.length ≤ 4096) && decide (d.depth ≤ 60))
/-- an error, its fields as they are, as they were given -/
def RowAt (K : PySem.W.Frag) (ca : Nat → Addr) (H : Hp) (t : Addr) (j : Nat) : Prop := ∃ (e m u : Addr) (dd : List PyData), H t = some (.tup [.ref e, .ref m, .ref u]) ∧ XAt H e (ca j) ∧ Dx K H (.ref m) (.list dd) ∧ Dx K H (.ref u) (.list dd) ∧ good (.list dd) = true
theorem RowAt.same {K : PySem.W.Frag} {ca : Nat → Addr} {H H' : Hp} {t : Addr} {j : Nat} (s : Same H H') (h : RowAt K ca H t j) : RowAt K ca H' t j := by
  obtain ⟨e, m, u, dd, h1, h2, h3, h4, h5⟩ := h
  exact ⟨e, m, u, dd, s _ _ h1, h2.same s, h3.same s, h4.same s, h5⟩
/-- the class C with its own __init__ of these fields -/
def InitOk (P : Program) (w0 : World) (K : PySem.W.Frag) (mg : Str → Option Value) (base : Heap) (C : Addr) (fs : List Str) : Prop :=
  ∃ (f : Addr) (fd : FuncData) (ps : List Str), Own24 K C f fs ∧ FnOk P w0 K mg base CX0 1 f fd ps (spInit C fs) ∧ L2.Binds K fd ps []
theorem pe_ini {X : Cx} {C : Addr} {fs : List Str} {x : Str} {e : Expr} {es : List Expr} {ta : TA} {p pos : Pos} (O : InitOk X.prog X.w X.K X.mg X.base C fs) (hr : Room 2 X.A) (hg : Gl X x) (hm : X.mg x = some (.ref C)) (ha : PA X (e :: es) ta)
    (hdb : (x == ("__debug__" : Str)) = false := by decide) (he : starEach (e :: es) X.env = (false, eval e X.env) :: starEach es X.env := by rfl) (hpl : (backTo pos (starEach es X.env)).any (·.1) = false := by rfl) :
    PE X (.Call (.Name x p) (e :: es) [] pos) (tOex C (spInit C fs) [] ta) := by
  obtain ⟨f, fd, ps, o, F, B⟩ := O
  exact pe_oex o.oex o.init o.fn F hr B .nil pass0 hg hm ha hdb he hpl
def fldL (K : PySem.W.Frag) : List Str → TA
  | [] => tNil
  | f :: fs => tCons (tXfld K (tVar 3) f) (fldL K fs)
section
variable {P : Program} {w0 : World} {K : PySem.W.Frag} {mg : Str → Option Value} {base : Heap} {ca : Nat → Addr} {SE : Addr}
theorem fldL_run {C e dx : Addr} {L : List (Str × V)} {σ : L2.St} {H : Hp} (X : XfC K C) (h3 : σ[3]? = some (some (.ref e))) (h1 : H e = some (exo e C (some dx))) (h2 : H dx = some (exd dx L)) :
    ∀ (fs : List Str) (xs : List V) (Q : List V → Hp → Prop), (∀ f ∈ fs, PySem.W.findIn K (.ref C) f = some none) → Paired (fun f x => L.lookup f = some x) fs xs → Q xs H → fldL K fs σ H Q
  | _, _, Q, _, .nil, q => q
  | f :: fs, x :: xs, Q, no, .cons r t, q => by
    refine ⟨_, h3, e, C, dx, L, x, rfl, h1, h2, X, no f (by simp), r, ?_⟩
    exact fldL_run X h3 h1 h2 fs xs (fun ys H2 => Q (x :: ys) H2) (fun g hg => no g (by simp [hg])) t q
theorem look_app {f : Str} {l m : List (Str × V)} : (l ++ m).lookup f = (l.lookup f).or (m.lookup f) := by
  induction l with
  | nil => simp
  | cons p l ih =>
    obtain ⟨g, v⟩ := p
    by_cases h : f = g
    · subst h
      simp [List.lookup]
    · have e : (f == g) = false := by simpa using h
      simp [List.lookup, e, ih]
theorem look_not {f : Str} : ∀ {fs : List Str} {xs : List V}, f ∉ fs → (fs.zip xs).reverse.lookup f = none
  | [], xs, _ => by simp
  | g :: fs, [], _ => by simp
  | g :: fs, x :: xs, h => by
    have h1 : ¬ f = g := fun e => h (by simp [e])
    have e : (f == g) = false := by simpa using h1
    rw [List.zip_cons_cons, List.reverse_cons, look_app, look_not (fun z => h (by simp [z]))]
    simp [List.lookup, e]
theorem look_rev : ∀ {fs : List Str} {xs : List V}, fs.Nodup → xs.length = fs.length → Paired (fun f x => (fs.zip xs).reverse.lookup f = some x) fs xs
  | [], [], _, _ => .nil
  | f :: fs, x :: xs, nd, hl => by
    have nd2 := List.nodup_cons.mp nd
    refine .cons ?_ (pmono (fun g y z => ?_) (look_rev nd2.2 (by simpa using hl)))
    · rw [List.zip_cons_cons, List.reverse_cons, look_app, look_not nd2.1]
      simp [List.lookup]
    · rw [List.zip_cons_cons, List.reverse_cons, look_app, z]
      rfl
def ArgsOk (K : PySem.W.Frag) (p : Addr) (one other : V) (d1 d2 : PyData) (n : Nat) (dd : List PyData) (t : TA) : Prop := ∀ (y : Option V) (H1 : Hp) (Q : List V → Hp → Prop), (∃ o, H1 p = some o) → Dx K (rm p H1) one d1 → Dx K (rm p H1) other d2 →
  (∀ (xs : List V) (H2 : Hp), Same H1 H2 → DxAll K (rm p H2) xs dd → xs.length = n → Q xs H2) → t [some one, some other, some (.ref p), y] H1 Q
abbrev tA1 : TA := tCons (tVar 0) tNil
abbrev tA2 : TA := tCons (tVar 0) (tCons (tVar 1) tNil)
abbrev tA3 : TA := tCons (tVar 0) (tCons (tVar 1) (tCons (tTup (tCons (tVar 0) (tCons (tVar 1) tNil))) tNil))
theorem args1 {p : Addr} {one other : V} {d1 d2 : PyData} : ArgsOk K p one other d1 d2 1 [d1] tA1 := fun y H1 Q _ a b k => ⟨_, rfl, k [one] H1 (Same.refl _) (.cons a .nil) rfl⟩
theorem args2 {p : Addr} {one other : V} {d1 d2 : PyData} : ArgsOk K p one other d1 d2 2 [d1, d2] tA2 := fun y H1 Q _ a b k => ⟨_, rfl, _, rfl, k [one, other] H1 (Same.refl _) (.cons a (.cons b .nil)) rfl⟩
theorem args3 {p : Addr} {one other : V} {d1 d2 : PyData} : ArgsOk K p one other d1 d2 3 [d1, d2, .tuple [d1, d2]] tA3 := fun y H1 Q hp a b k => by
  refine ⟨_, rfl, _, rfl, _, rfl, _, rfl, (by show 2 ≤ sizeLine; decide), fun q hq => ?_⟩
  obtain ⟨o, hp⟩ := hp
  have nq : q ≠ p := fun e => by
    rw [e, hp] at hq
    cases hq
  have s : Same H1 (upd H1 q (.tup [one, other])) := Same.new hq
  have a2 := a.same (rm_same (p := p) s)
  have b2 := b.same (rm_same (p := p) s)
  exact k [one, other, .ref q] _ s (.cons a2 (.cons b2 (.cons (.tup (SqT.of (by rw [rm_at nq, upd_same])) (.cons a2 (.cons b2 .nil))) .nil))) rfl
/-- the list at p holds rows of these classes -/
def Told (K : PySem.W.Frag) (ca : Nat → Addr) (H0 : Hp) (p : Addr) (H : Hp) (js : List Nat) : Prop :=
  ∃ ts : List Addr, H p = some (.lst (ts.map V.ref)) ∧ Paired (RowAt K ca (rm p H)) ts js ∧ Same H0 (rm p H) ∧ js.length ≤ 30
theorem pairN {j n : Nat} {fs : List Str} {tA tD : TA} {dd : List PyData} {one other : V} {d1 d2 : PyData} {p : Addr} {y : Option V} {H0 H : Hp} {js : List Nat} {D : Ends} {u : TS} (hj : j < 72) (T : Cls24 K mg ca SE) (O : ∀ f ∈ fs, PySem.W.findIn K (.ref (ca j)) f = some none)
    (nd : fs.Nodup) (hn : fs.length = n) (hn3 : n ≤ 3) (hA : ArgsOk K p one other d1 d2 n dd tA) (hD : ArgsOk K p one other d1 d2 n dd tD) (hg : good (.list dd) = true) (a1 : Dx K H0 one d1) (a2 : Dx K H0 other d2) (hT : Told K ca H0 p H js) (hl : js.length < 30)
    (k : ∀ (y' : Option V) (H' : Hp), Told K ca H0 p H' (js ++ [j]) → u D [some one, some other, some (.ref p), y'] H') :
    tSeq (tAsg (tOex (ca j) (spInit (ca j) fs) [] tA) (gName 3)) (tSeq (tDrop (tBM K "list" rAppend (tVar 2) (tCons (tTup (tCons (tVar 3) (tCons (tLst (fldL K fs)) (tCons (tLst tD) tNil)))) tNil))) u) D [some one, some other, some (.ref p), y] H := by
  obtain ⟨ts, hp, hr, s0, _⟩ := hT
  refine hA y H _ ⟨_, hp⟩ (a1.same s0) (a2.same s0) fun xs H1 s1 dA hxl => ⟨by omega, fun e he => ⟨e, xs, by rw [List.append_nil], hxl.trans hn.symm, upd_same, fun dx H2 hdx ne h1 h2 hk => ⟨rfl, ?_⟩⟩⟩
  have hp1 : H1 p = some (.lst (ts.map V.ref)) := s1 _ _ hp
  have nep : e ≠ p := fun z => by
    rw [z, hp1] at he
    cases he
  have ndp : dx ≠ p := fun z => by
    rw [z, upd_ne nep.symm, hp1] at hdx
    cases hdx
  have s2 : Same H1 H2 := fun b o z => hk b o (by rw [upd_ne (ne_of_none z he)]; exact z) (ne_of_none z he)
  have s12 := s1.trans s2
  refine ⟨_, rfl, Or.inl ⟨rfl, _, SqL.of (s2 _ _ hp1)⟩, _, rfl, ?_⟩
  refine fldL_run (C := ca j) (T.xf j hj) rfl h1 h2 fs xs _ O (look_rev nd (hxl.trans hn.symm)) ⟨?_, fun m hm => ?_⟩
  · rw [hxl]
    exact Nat.le_trans hn3 (by decide)
  have s3 : Same H2 (upd H2 m (.lst xs)) := Same.new hm
  have s13 := s12.trans s3
  refine hD (some (.ref e)) _ _ ⟨_, s13 _ _ hp⟩ ((a1.same s0).same (rm_same s13)) ((a2.same s0).same (rm_same s13)) fun ys H4 s4 dD hyl => ⟨?_, fun v hv => ⟨(by show 3 ≤ sizeLine; decide), fun t ht => ?_⟩⟩
  · rw [hyl]
    exact Nat.le_trans hn3 (by decide)
  have s5 : Same H4 (upd H4 v (.lst ys)) := Same.new hv
  have s6 : Same (upd H4 v (.lst ys)) (upd (upd H4 v (.lst ys)) t (.tup [.ref e, .ref m, .ref v])) := Same.new ht
  have s14 := s13.trans s4
  have s16 := s14.trans (s5.trans s6)
  have hl2 := Paired.length hr
  refine ⟨p, _, .ref t, rfl, rfl, s16 _ _ hp, ?_, ?_⟩
  · rw [List.length_map, hl2]
    exact Nat.lt_of_lt_of_le hl (by decide)
  have hpm : m ≠ p := fun z => by
    rw [z, s12 _ _ hp] at hm
    cases hm
  have hpv : v ≠ p := fun z => by
    rw [z, s14 _ _ hp] at hv
    cases hv
  have hpt : t ≠ p := fun z => by
    rw [z, (s14.trans s5) _ _ hp] at ht
    cases ht
  have s26 := (s3.trans s4).trans (s5.trans s6)
  refine k _ _ ⟨ts ++ [t], ?_, ?_, ?_, ?_⟩
  · rw [upd_same, List.map_append]
    rfl
  · rw [rm_upd]
    refine papp (pmono (fun a b z => z.same (rm_same s16)) hr) (.cons ⟨e, m, v, dd, ?_, ?_, ?_, ?_, hg⟩ .nil)
    · rw [rm_at hpt, upd_same]
    · exact .inr ⟨dx, _, by rw [rm_at nep]; exact s26 _ _ h1, by rw [rm_at ndp]; exact s26 _ _ h2⟩
    · exact .lst (SqL.of (by rw [rm_at hpm]; exact (s4.trans (s5.trans s6)) _ _ upd_same)) (dA.same (rm_same (s2.trans s26)))
    · exact .lst (SqL.of (by rw [rm_at hpv]; exact s6 _ _ upd_same)) (dD.same (rm_same (s5.trans s6)))
  · rw [rm_upd]
    exact s0.trans (rm_same s16)
  · rw [List.length_append]
    exact hl
def Good3 (d1 d2 : PyData) : Prop := good (.list [d1]) = true ∧ good (.list [d1, d2]) = true ∧ good (.list [d1, d2, .tuple [d1, d2]]) = true
def spTold (K : PySem.W.Frag) (ca : Nat → Addr) : Sp := fun vs H Q _ => ∃ (one other : V) (d1 d2 : PyData), vs = [one, other] ∧ Dx K H one d1 ∧ Dx K H other d2 ∧ Good3 d1 d2 ∧
  ∀ (p : Addr) (ts : List Addr) (H' : Hp), H p = none → Same H H' → H' p = some (.lst (ts.map V.ref)) → Paired (RowAt K ca H') ts toldI → Q (.ref p) H'
abbrev nTold : List Str := ["one", "other", "found", "error"]
theorem scTold : FnScope nTold ["one", "other"] (defScope sTold) := ⟨rfl, rfl, rfl, by decide +kernel, rfl, by decide +kernel, by decide +kernel⟩

def toldF : List (Nat × List Str) := [(2, ["line", "column", "wanted"]), (7, ["count"]), (9, ["at"]), (10, ["name"]), (11, ["ring"]), (15, ["name"]), (16, ["fault", "unit"]), (17, ["clash", "unit"]), (18, ["name"]), (22, ["word"]), (27, ["name"]), (28, ["name"]), (30, ["at"]), (36, ["why"]), (37, ["at"]), (39, ["at"]), (43, ["at"]), (47, ["at"]), (53, ["name"]), (55, ["at"]), (56, ["name"]), (57, ["name"]), (60, ["unit"]), (61, ["unit"]), (64, ["at"]), (65, ["at"])]
def t_told (K : PySem.W.Frag) (ca : Nat → Addr) : TS := tSeq (tAsg (tLst tNil) (gName 2)) (tSeq (tAsg (tOex (ca 2) (spInit (ca 2) ["line", "column", "wanted"]) [] tA3) (gName 3)) (tSeq (tDrop (tBM K "list" rAppend (tVar 2) (tCons (tTup (tCons (tVar 3) (tCons (tLst (fldL K ["line", "column", "wanted"])) (tCons (tLst tA3) tNil)))) tNil))) (
  tSeq (tAsg (tOex (ca 7) (spInit (ca 7) ["count"]) [] tA1) (gName 3)) (tSeq (tDrop (tBM K "list" rAppend (tVar 2) (tCons (tTup (tCons (tVar 3) (tCons (tLst (fldL K ["count"])) (tCons (tLst tA1) tNil)))) tNil))) (
  tSeq (tAsg (tOex (ca 9) (spInit (ca 9) ["at"]) [] tA1) (gName 3)) (tSeq (tDrop (tBM K "list" rAppend (tVar 2) (tCons (tTup (tCons (tVar 3) (tCons (tLst (fldL K ["at"])) (tCons (tLst tA1) tNil)))) tNil))) (
  tSeq (tAsg (tOex (ca 10) (spInit (ca 10) ["name"]) [] tA1) (gName 3)) (tSeq (tDrop (tBM K "list" rAppend (tVar 2) (tCons (tTup (tCons (tVar 3) (tCons (tLst (fldL K ["name"])) (tCons (tLst tA1) tNil)))) tNil))) (
  tSeq (tAsg (tOex (ca 11) (spInit (ca 11) ["ring"]) [] tA1) (gName 3)) (tSeq (tDrop (tBM K "list" rAppend (tVar 2) (tCons (tTup (tCons (tVar 3) (tCons (tLst (fldL K ["ring"])) (tCons (tLst tA1) tNil)))) tNil))) (
  tSeq (tAsg (tOex (ca 15) (spInit (ca 15) ["name"]) [] tA1) (gName 3)) (tSeq (tDrop (tBM K "list" rAppend (tVar 2) (tCons (tTup (tCons (tVar 3) (tCons (tLst (fldL K ["name"])) (tCons (tLst tA1) tNil)))) tNil))) (
  tSeq (tAsg (tOex (ca 16) (spInit (ca 16) ["fault", "unit"]) [] tA2) (gName 3)) (tSeq (tDrop (tBM K "list" rAppend (tVar 2) (tCons (tTup (tCons (tVar 3) (tCons (tLst (fldL K ["fault", "unit"])) (tCons (tLst tA2) tNil)))) tNil))) (
  tSeq (tAsg (tOex (ca 17) (spInit (ca 17) ["clash", "unit"]) [] tA2) (gName 3)) (tSeq (tDrop (tBM K "list" rAppend (tVar 2) (tCons (tTup (tCons (tVar 3) (tCons (tLst (fldL K ["clash", "unit"])) (tCons (tLst tA2) tNil)))) tNil))) (
  tSeq (tAsg (tOex (ca 18) (spInit (ca 18) ["name"]) [] tA1) (gName 3)) (tSeq (tDrop (tBM K "list" rAppend (tVar 2) (tCons (tTup (tCons (tVar 3) (tCons (tLst (fldL K ["name"])) (tCons (tLst tA1) tNil)))) tNil))) (
  tSeq (tAsg (tOex (ca 22) (spInit (ca 22) ["word"]) [] tA1) (gName 3)) (tSeq (tDrop (tBM K "list" rAppend (tVar 2) (tCons (tTup (tCons (tVar 3) (tCons (tLst (fldL K ["word"])) (tCons (tLst tA1) tNil)))) tNil))) (
  tSeq (tAsg (tOex (ca 27) (spInit (ca 27) ["name"]) [] tA1) (gName 3)) (tSeq (tDrop (tBM K "list" rAppend (tVar 2) (tCons (tTup (tCons (tVar 3) (tCons (tLst (fldL K ["name"])) (tCons (tLst tA1) tNil)))) tNil))) (
  tSeq (tAsg (tOex (ca 28) (spInit (ca 28) ["name"]) [] tA1) (gName 3)) (tSeq (tDrop (tBM K "list" rAppend (tVar 2) (tCons (tTup (tCons (tVar 3) (tCons (tLst (fldL K ["name"])) (tCons (tLst tA1) tNil)))) tNil))) (
  tSeq (tAsg (tOex (ca 30) (spInit (ca 30) ["at"]) [] tA1) (gName 3)) (tSeq (tDrop (tBM K "list" rAppend (tVar 2) (tCons (tTup (tCons (tVar 3) (tCons (tLst (fldL K ["at"])) (tCons (tLst tA1) tNil)))) tNil))) (
  tSeq (tAsg (tOex (ca 36) (spInit (ca 36) ["why"]) [] tA1) (gName 3)) (tSeq (tDrop (tBM K "list" rAppend (tVar 2) (tCons (tTup (tCons (tVar 3) (tCons (tLst (fldL K ["why"])) (tCons (tLst tA1) tNil)))) tNil))) (
  tSeq (tAsg (tOex (ca 37) (spInit (ca 37) ["at"]) [] tA1) (gName 3)) (tSeq (tDrop (tBM K "list" rAppend (tVar 2) (tCons (tTup (tCons (tVar 3) (tCons (tLst (fldL K ["at"])) (tCons (tLst tA1) tNil)))) tNil))) (
  tSeq (tAsg (tOex (ca 39) (spInit (ca 39) ["at"]) [] tA1) (gName 3)) (tSeq (tDrop (tBM K "list" rAppend (tVar 2) (tCons (tTup (tCons (tVar 3) (tCons (tLst (fldL K ["at"])) (tCons (tLst tA1) tNil)))) tNil))) (
  tSeq (tAsg (tOex (ca 43) (spInit (ca 43) ["at"]) [] tA1) (gName 3)) (tSeq (tDrop (tBM K "list" rAppend (tVar 2) (tCons (tTup (tCons (tVar 3) (tCons (tLst (fldL K ["at"])) (tCons (tLst tA1) tNil)))) tNil))) (
  tSeq (tAsg (tOex (ca 47) (spInit (ca 47) ["at"]) [] tA1) (gName 3)) (tSeq (tDrop (tBM K "list" rAppend (tVar 2) (tCons (tTup (tCons (tVar 3) (tCons (tLst (fldL K ["at"])) (tCons (tLst tA1) tNil)))) tNil))) (
  tSeq (tAsg (tOex (ca 53) (spInit (ca 53) ["name"]) [] tA1) (gName 3)) (tSeq (tDrop (tBM K "list" rAppend (tVar 2) (tCons (tTup (tCons (tVar 3) (tCons (tLst (fldL K ["name"])) (tCons (tLst tA1) tNil)))) tNil))) (
  tSeq (tAsg (tOex (ca 55) (spInit (ca 55) ["at"]) [] tA1) (gName 3)) (tSeq (tDrop (tBM K "list" rAppend (tVar 2) (tCons (tTup (tCons (tVar 3) (tCons (tLst (fldL K ["at"])) (tCons (tLst tA1) tNil)))) tNil))) (
  tSeq (tAsg (tOex (ca 56) (spInit (ca 56) ["name"]) [] tA1) (gName 3)) (tSeq (tDrop (tBM K "list" rAppend (tVar 2) (tCons (tTup (tCons (tVar 3) (tCons (tLst (fldL K ["name"])) (tCons (tLst tA1) tNil)))) tNil))) (
  tSeq (tAsg (tOex (ca 57) (spInit (ca 57) ["name"]) [] tA1) (gName 3)) (tSeq (tDrop (tBM K "list" rAppend (tVar 2) (tCons (tTup (tCons (tVar 3) (tCons (tLst (fldL K ["name"])) (tCons (tLst tA1) tNil)))) tNil))) (
  tSeq (tAsg (tOex (ca 60) (spInit (ca 60) ["unit"]) [] tA1) (gName 3)) (tSeq (tDrop (tBM K "list" rAppend (tVar 2) (tCons (tTup (tCons (tVar 3) (tCons (tLst (fldL K ["unit"])) (tCons (tLst tA1) tNil)))) tNil))) (
  tSeq (tAsg (tOex (ca 61) (spInit (ca 61) ["unit"]) [] tA1) (gName 3)) (tSeq (tDrop (tBM K "list" rAppend (tVar 2) (tCons (tTup (tCons (tVar 3) (tCons (tLst (fldL K ["unit"])) (tCons (tLst tA1) tNil)))) tNil))) (
  tSeq (tAsg (tOex (ca 64) (spInit (ca 64) ["at"]) [] tA1) (gName 3)) (tSeq (tDrop (tBM K "list" rAppend (tVar 2) (tCons (tTup (tCons (tVar 3) (tCons (tLst (fldL K ["at"])) (tCons (tLst tA1) tNil)))) tNil))) (
  tSeq (tAsg (tOex (ca 65) (spInit (ca 65) ["at"]) [] tA1) (gName 3)) (tSeq (tDrop (tBM K "list" rAppend (tVar 2) (tCons (tTup (tCons (tVar 3) (tCons (tLst (fldL K ["at"])) (tCons (tLst tA1) tNil)))) tNil))) (
  tRet (tVar 2))))))))))))))))))))))))))))))))))))))))))))))))))))))
theorem ok_told {f : Addr} {fd : FuncData} (F : Fun K "_law_told_errors" "_law_told_errors" sTold f fd) (T : Cls24 K mg ca SE) (O : ∀ q ∈ toldF, InitOk P w0 K mg base (ca q.1) q.2) : FnOk P w0 K mg base CX0 3 f fd ["one", "other"] (spTold K ca) := by
  refine F.ok scTold (fun vs H Q E h => ?_) (fun cdv A outer s H vs Q E hr h => ?_)
  · obtain ⟨one, other, d1, d2, rfl, _⟩ := h
    rfl
  · obtain ⟨one, other, d1, d2, rfl, a1, a2, ⟨g1, g2, g3⟩, k⟩ := h
    have o2 : InitOk P w0 K mg base (ca 2) ["line", "column", "wanted"] := O (2, ["line", "column", "wanted"]) (by simp [toldF])
    have o7 : InitOk P w0 K mg base (ca 7) ["count"] := O (7, ["count"]) (by simp [toldF])
    have o9 : InitOk P w0 K mg base (ca 9) ["at"] := O (9, ["at"]) (by simp [toldF])
    have o10 : InitOk P w0 K mg base (ca 10) ["name"] := O (10, ["name"]) (by simp [toldF])
    have o11 : InitOk P w0 K mg base (ca 11) ["ring"] := O (11, ["ring"]) (by simp [toldF])
    have o15 : InitOk P w0 K mg base (ca 15) ["name"] := O (15, ["name"]) (by simp [toldF])
    have o16 : InitOk P w0 K mg base (ca 16) ["fault", "unit"] := O (16, ["fault", "unit"]) (by simp [toldF])
    have o17 : InitOk P w0 K mg base (ca 17) ["clash", "unit"] := O (17, ["clash", "unit"]) (by simp [toldF])
    have o18 : InitOk P w0 K mg base (ca 18) ["name"] := O (18, ["name"]) (by simp [toldF])
    have o22 : InitOk P w0 K mg base (ca 22) ["word"] := O (22, ["word"]) (by simp [toldF])
    have o27 : InitOk P w0 K mg base (ca 27) ["name"] := O (27, ["name"]) (by simp [toldF])
    have o28 : InitOk P w0 K mg base (ca 28) ["name"] := O (28, ["name"]) (by simp [toldF])
    have o30 : InitOk P w0 K mg base (ca 30) ["at"] := O (30, ["at"]) (by simp [toldF])
    have o36 : InitOk P w0 K mg base (ca 36) ["why"] := O (36, ["why"]) (by simp [toldF])
    have o37 : InitOk P w0 K mg base (ca 37) ["at"] := O (37, ["at"]) (by simp [toldF])
    have o39 : InitOk P w0 K mg base (ca 39) ["at"] := O (39, ["at"]) (by simp [toldF])
    have o43 : InitOk P w0 K mg base (ca 43) ["at"] := O (43, ["at"]) (by simp [toldF])
    have o47 : InitOk P w0 K mg base (ca 47) ["at"] := O (47, ["at"]) (by simp [toldF])
    have o53 : InitOk P w0 K mg base (ca 53) ["name"] := O (53, ["name"]) (by simp [toldF])
    have o55 : InitOk P w0 K mg base (ca 55) ["at"] := O (55, ["at"]) (by simp [toldF])
    have o56 : InitOk P w0 K mg base (ca 56) ["name"] := O (56, ["name"]) (by simp [toldF])
    have o57 : InitOk P w0 K mg base (ca 57) ["name"] := O (57, ["name"]) (by simp [toldF])
    have o60 : InitOk P w0 K mg base (ca 60) ["unit"] := O (60, ["unit"]) (by simp [toldF])
    have o61 : InitOk P w0 K mg base (ca 61) ["unit"] := O (61, ["unit"]) (by simp [toldF])
    have o64 : InitOk P w0 K mg base (ca 64) ["at"] := O (64, ["at"]) (by simp [toldF])
    have o65 : InitOk P w0 K mg base (ca 65) ["at"] := O (65, ["at"]) (by simp [toldF])
    refine ⟨t_told K ca, 
      (pss_cons (ps_set (i := 2) scTold.nd rfl (.inl rfl) (pe_lst pa_nil)) (pss_cons (ps_set (i := 3) scTold.nd rfl (.inl rfl) (pe_ini o2 hr (by rfl) (T.at_ 2 _ rfl) (pa_cons (pv 0) (pa_cons (pv 1) (pa_cons (pe_tup (pa_cons (pv 0) (pa_cons (pv 1) pa_nil))) pa_nil)))))
      (pss_cons (ps_expr (pe_bm PySem.F.plainAttrs_list PySem.F.slot_list_append PySem.F.type_list_append mt_append (pv 2) (pa_cons (pe_tup (pa_cons (pv 3) (pa_cons (pe_lst (pa_cons (pe_xfld (pv 3)) (pa_cons (pe_xfld (pv 3)) (pa_cons (pe_xfld (pv 3)) pa_nil)))) (pa_cons (pe_lst (pa_cons (pv 0) (pa_cons (pv 1) (pa_cons (pe_tup (pa_cons (pv 0) (pa_cons (pv 1) pa_nil))) pa_nil)))) pa_nil)))) pa_nil)))
      (pss_cons (ps_set (i := 3) scTold.nd rfl (.inl rfl) (pe_ini o7 hr (by rfl) (T.at_ 7 _ rfl) (pa_cons (pv 0) pa_nil)))
      (pss_cons (ps_expr (pe_bm PySem.F.plainAttrs_list PySem.F.slot_list_append PySem.F.type_list_append mt_append (pv 2) (pa_cons (pe_tup (pa_cons (pv 3) (pa_cons (pe_lst (pa_cons (pe_xfld (pv 3)) pa_nil)) (pa_cons (pe_lst (pa_cons (pv 0) pa_nil)) pa_nil)))) pa_nil)))
      (pss_cons (ps_set (i := 3) scTold.nd rfl (.inl rfl) (pe_ini o9 hr (by rfl) (T.at_ 9 _ rfl) (pa_cons (pv 0) pa_nil)))
      (pss_cons (ps_expr (pe_bm PySem.F.plainAttrs_list PySem.F.slot_list_append PySem.F.type_list_append mt_append (pv 2) (pa_cons (pe_tup (pa_cons (pv 3) (pa_cons (pe_lst (pa_cons (pe_xfld (pv 3)) pa_nil)) (pa_cons (pe_lst (pa_cons (pv 0) pa_nil)) pa_nil)))) pa_nil)))
      (pss_cons (ps_set (i := 3) scTold.nd rfl (.inl rfl) (pe_ini o10 hr (by rfl) (T.at_ 10 _ rfl) (pa_cons (pv 0) pa_nil)))
      (pss_cons (ps_expr (pe_bm PySem.F.plainAttrs_list PySem.F.slot_list_append PySem.F.type_list_append mt_append (pv 2) (pa_cons (pe_tup (pa_cons (pv 3) (pa_cons (pe_lst (pa_cons (pe_xfld (pv 3)) pa_nil)) (pa_cons (pe_lst (pa_cons (pv 0) pa_nil)) pa_nil)))) pa_nil)))
      (pss_cons (ps_set (i := 3) scTold.nd rfl (.inl rfl) (pe_ini o11 hr (by rfl) (T.at_ 11 _ rfl) (pa_cons (pv 0) pa_nil)))
      (pss_cons (ps_expr (pe_bm PySem.F.plainAttrs_list PySem.F.slot_list_append PySem.F.type_list_append mt_append (pv 2) (pa_cons (pe_tup (pa_cons (pv 3) (pa_cons (pe_lst (pa_cons (pe_xfld (pv 3)) pa_nil)) (pa_cons (pe_lst (pa_cons (pv 0) pa_nil)) pa_nil)))) pa_nil)))
      (pss_cons (ps_set (i := 3) scTold.nd rfl (.inl rfl) (pe_ini o15 hr (by rfl) (T.at_ 15 _ rfl) (pa_cons (pv 0) pa_nil)))
      (pss_cons (ps_expr (pe_bm PySem.F.plainAttrs_list PySem.F.slot_list_append PySem.F.type_list_append mt_append (pv 2) (pa_cons (pe_tup (pa_cons (pv 3) (pa_cons (pe_lst (pa_cons (pe_xfld (pv 3)) pa_nil)) (pa_cons (pe_lst (pa_cons (pv 0) pa_nil)) pa_nil)))) pa_nil)))
      (pss_cons (ps_set (i := 3) scTold.nd rfl (.inl rfl) (pe_ini o16 hr (by rfl) (T.at_ 16 _ rfl) (pa_cons (pv 0) (pa_cons (pv 1) pa_nil))))
      (pss_cons (ps_expr (pe_bm PySem.F.plainAttrs_list PySem.F.slot_list_append PySem.F.type_list_append mt_append (pv 2) (pa_cons (pe_tup (pa_cons (pv 3) (pa_cons (pe_lst (pa_cons (pe_xfld (pv 3)) (pa_cons (pe_xfld (pv 3)) pa_nil))) (pa_cons (pe_lst (pa_cons (pv 0) (pa_cons (pv 1) pa_nil))) pa_nil)))) pa_nil)))
      (pss_cons (ps_set (i := 3) scTold.nd rfl (.inl rfl) (pe_ini o17 hr (by rfl) (T.at_ 17 _ rfl) (pa_cons (pv 0) (pa_cons (pv 1) pa_nil))))
      (pss_cons (ps_expr (pe_bm PySem.F.plainAttrs_list PySem.F.slot_list_append PySem.F.type_list_append mt_append (pv 2) (pa_cons (pe_tup (pa_cons (pv 3) (pa_cons (pe_lst (pa_cons (pe_xfld (pv 3)) (pa_cons (pe_xfld (pv 3)) pa_nil))) (pa_cons (pe_lst (pa_cons (pv 0) (pa_cons (pv 1) pa_nil))) pa_nil)))) pa_nil)))
      (pss_cons (ps_set (i := 3) scTold.nd rfl (.inl rfl) (pe_ini o18 hr (by rfl) (T.at_ 18 _ rfl) (pa_cons (pv 0) pa_nil)))
      (pss_cons (ps_expr (pe_bm PySem.F.plainAttrs_list PySem.F.slot_list_append PySem.F.type_list_append mt_append (pv 2) (pa_cons (pe_tup (pa_cons (pv 3) (pa_cons (pe_lst (pa_cons (pe_xfld (pv 3)) pa_nil)) (pa_cons (pe_lst (pa_cons (pv 0) pa_nil)) pa_nil)))) pa_nil)))
      (pss_cons (ps_set (i := 3) scTold.nd rfl (.inl rfl) (pe_ini o22 hr (by rfl) (T.at_ 22 _ rfl) (pa_cons (pv 0) pa_nil)))
      (pss_cons (ps_expr (pe_bm PySem.F.plainAttrs_list PySem.F.slot_list_append PySem.F.type_list_append mt_append (pv 2) (pa_cons (pe_tup (pa_cons (pv 3) (pa_cons (pe_lst (pa_cons (pe_xfld (pv 3)) pa_nil)) (pa_cons (pe_lst (pa_cons (pv 0) pa_nil)) pa_nil)))) pa_nil)))
      (pss_cons (ps_set (i := 3) scTold.nd rfl (.inl rfl) (pe_ini o27 hr (by rfl) (T.at_ 27 _ rfl) (pa_cons (pv 0) pa_nil)))
      (pss_cons (ps_expr (pe_bm PySem.F.plainAttrs_list PySem.F.slot_list_append PySem.F.type_list_append mt_append (pv 2) (pa_cons (pe_tup (pa_cons (pv 3) (pa_cons (pe_lst (pa_cons (pe_xfld (pv 3)) pa_nil)) (pa_cons (pe_lst (pa_cons (pv 0) pa_nil)) pa_nil)))) pa_nil)))
      (pss_cons (ps_set (i := 3) scTold.nd rfl (.inl rfl) (pe_ini o28 hr (by rfl) (T.at_ 28 _ rfl) (pa_cons (pv 0) pa_nil)))
      (pss_cons (ps_expr (pe_bm PySem.F.plainAttrs_list PySem.F.slot_list_append PySem.F.type_list_append mt_append (pv 2) (pa_cons (pe_tup (pa_cons (pv 3) (pa_cons (pe_lst (pa_cons (pe_xfld (pv 3)) pa_nil)) (pa_cons (pe_lst (pa_cons (pv 0) pa_nil)) pa_nil)))) pa_nil)))
      (pss_cons (ps_set (i := 3) scTold.nd rfl (.inl rfl) (pe_ini o30 hr (by rfl) (T.at_ 30 _ rfl) (pa_cons (pv 0) pa_nil)))
      (pss_cons (ps_expr (pe_bm PySem.F.plainAttrs_list PySem.F.slot_list_append PySem.F.type_list_append mt_append (pv 2) (pa_cons (pe_tup (pa_cons (pv 3) (pa_cons (pe_lst (pa_cons (pe_xfld (pv 3)) pa_nil)) (pa_cons (pe_lst (pa_cons (pv 0) pa_nil)) pa_nil)))) pa_nil)))
      (pss_cons (ps_set (i := 3) scTold.nd rfl (.inl rfl) (pe_ini o36 hr (by rfl) (T.at_ 36 _ rfl) (pa_cons (pv 0) pa_nil)))
      (pss_cons (ps_expr (pe_bm PySem.F.plainAttrs_list PySem.F.slot_list_append PySem.F.type_list_append mt_append (pv 2) (pa_cons (pe_tup (pa_cons (pv 3) (pa_cons (pe_lst (pa_cons (pe_xfld (pv 3)) pa_nil)) (pa_cons (pe_lst (pa_cons (pv 0) pa_nil)) pa_nil)))) pa_nil)))
      (pss_cons (ps_set (i := 3) scTold.nd rfl (.inl rfl) (pe_ini o37 hr (by rfl) (T.at_ 37 _ rfl) (pa_cons (pv 0) pa_nil)))
      (pss_cons (ps_expr (pe_bm PySem.F.plainAttrs_list PySem.F.slot_list_append PySem.F.type_list_append mt_append (pv 2) (pa_cons (pe_tup (pa_cons (pv 3) (pa_cons (pe_lst (pa_cons (pe_xfld (pv 3)) pa_nil)) (pa_cons (pe_lst (pa_cons (pv 0) pa_nil)) pa_nil)))) pa_nil)))
      (pss_cons (ps_set (i := 3) scTold.nd rfl (.inl rfl) (pe_ini o39 hr (by rfl) (T.at_ 39 _ rfl) (pa_cons (pv 0) pa_nil)))
      (pss_cons (ps_expr (pe_bm PySem.F.plainAttrs_list PySem.F.slot_list_append PySem.F.type_list_append mt_append (pv 2) (pa_cons (pe_tup (pa_cons (pv 3) (pa_cons (pe_lst (pa_cons (pe_xfld (pv 3)) pa_nil)) (pa_cons (pe_lst (pa_cons (pv 0) pa_nil)) pa_nil)))) pa_nil)))
      (pss_cons (ps_set (i := 3) scTold.nd rfl (.inl rfl) (pe_ini o43 hr (by rfl) (T.at_ 43 _ rfl) (pa_cons (pv 0) pa_nil)))
      (pss_cons (ps_expr (pe_bm PySem.F.plainAttrs_list PySem.F.slot_list_append PySem.F.type_list_append mt_append (pv 2) (pa_cons (pe_tup (pa_cons (pv 3) (pa_cons (pe_lst (pa_cons (pe_xfld (pv 3)) pa_nil)) (pa_cons (pe_lst (pa_cons (pv 0) pa_nil)) pa_nil)))) pa_nil)))
      (pss_cons (ps_set (i := 3) scTold.nd rfl (.inl rfl) (pe_ini o47 hr (by rfl) (T.at_ 47 _ rfl) (pa_cons (pv 0) pa_nil)))
      (pss_cons (ps_expr (pe_bm PySem.F.plainAttrs_list PySem.F.slot_list_append PySem.F.type_list_append mt_append (pv 2) (pa_cons (pe_tup (pa_cons (pv 3) (pa_cons (pe_lst (pa_cons (pe_xfld (pv 3)) pa_nil)) (pa_cons (pe_lst (pa_cons (pv 0) pa_nil)) pa_nil)))) pa_nil)))
      (pss_cons (ps_set (i := 3) scTold.nd rfl (.inl rfl) (pe_ini o53 hr (by rfl) (T.at_ 53 _ rfl) (pa_cons (pv 0) pa_nil)))
      (pss_cons (ps_expr (pe_bm PySem.F.plainAttrs_list PySem.F.slot_list_append PySem.F.type_list_append mt_append (pv 2) (pa_cons (pe_tup (pa_cons (pv 3) (pa_cons (pe_lst (pa_cons (pe_xfld (pv 3)) pa_nil)) (pa_cons (pe_lst (pa_cons (pv 0) pa_nil)) pa_nil)))) pa_nil)))
      (pss_cons (ps_set (i := 3) scTold.nd rfl (.inl rfl) (pe_ini o55 hr (by rfl) (T.at_ 55 _ rfl) (pa_cons (pv 0) pa_nil)))
      (pss_cons (ps_expr (pe_bm PySem.F.plainAttrs_list PySem.F.slot_list_append PySem.F.type_list_append mt_append (pv 2) (pa_cons (pe_tup (pa_cons (pv 3) (pa_cons (pe_lst (pa_cons (pe_xfld (pv 3)) pa_nil)) (pa_cons (pe_lst (pa_cons (pv 0) pa_nil)) pa_nil)))) pa_nil)))
      (pss_cons (ps_set (i := 3) scTold.nd rfl (.inl rfl) (pe_ini o56 hr (by rfl) (T.at_ 56 _ rfl) (pa_cons (pv 0) pa_nil)))
      (pss_cons (ps_expr (pe_bm PySem.F.plainAttrs_list PySem.F.slot_list_append PySem.F.type_list_append mt_append (pv 2) (pa_cons (pe_tup (pa_cons (pv 3) (pa_cons (pe_lst (pa_cons (pe_xfld (pv 3)) pa_nil)) (pa_cons (pe_lst (pa_cons (pv 0) pa_nil)) pa_nil)))) pa_nil)))
      (pss_cons (ps_set (i := 3) scTold.nd rfl (.inl rfl) (pe_ini o57 hr (by rfl) (T.at_ 57 _ rfl) (pa_cons (pv 0) pa_nil)))
      (pss_cons (ps_expr (pe_bm PySem.F.plainAttrs_list PySem.F.slot_list_append PySem.F.type_list_append mt_append (pv 2) (pa_cons (pe_tup (pa_cons (pv 3) (pa_cons (pe_lst (pa_cons (pe_xfld (pv 3)) pa_nil)) (pa_cons (pe_lst (pa_cons (pv 0) pa_nil)) pa_nil)))) pa_nil)))
      (pss_cons (ps_set (i := 3) scTold.nd rfl (.inl rfl) (pe_ini o60 hr (by rfl) (T.at_ 60 _ rfl) (pa_cons (pv 0) pa_nil)))
      (pss_cons (ps_expr (pe_bm PySem.F.plainAttrs_list PySem.F.slot_list_append PySem.F.type_list_append mt_append (pv 2) (pa_cons (pe_tup (pa_cons (pv 3) (pa_cons (pe_lst (pa_cons (pe_xfld (pv 3)) pa_nil)) (pa_cons (pe_lst (pa_cons (pv 0) pa_nil)) pa_nil)))) pa_nil)))
      (pss_cons (ps_set (i := 3) scTold.nd rfl (.inl rfl) (pe_ini o61 hr (by rfl) (T.at_ 61 _ rfl) (pa_cons (pv 0) pa_nil)))
      (pss_cons (ps_expr (pe_bm PySem.F.plainAttrs_list PySem.F.slot_list_append PySem.F.type_list_append mt_append (pv 2) (pa_cons (pe_tup (pa_cons (pv 3) (pa_cons (pe_lst (pa_cons (pe_xfld (pv 3)) pa_nil)) (pa_cons (pe_lst (pa_cons (pv 0) pa_nil)) pa_nil)))) pa_nil)))
      (pss_cons (ps_set (i := 3) scTold.nd rfl (.inl rfl) (pe_ini o64 hr (by rfl) (T.at_ 64 _ rfl) (pa_cons (pv 0) pa_nil)))
      (pss_cons (ps_expr (pe_bm PySem.F.plainAttrs_list PySem.F.slot_list_append PySem.F.type_list_append mt_append (pv 2) (pa_cons (pe_tup (pa_cons (pv 3) (pa_cons (pe_lst (pa_cons (pe_xfld (pv 3)) pa_nil)) (pa_cons (pe_lst (pa_cons (pv 0) pa_nil)) pa_nil)))) pa_nil)))
      (pss_cons (ps_set (i := 3) scTold.nd rfl (.inl rfl) (pe_ini o65 hr (by rfl) (T.at_ 65 _ rfl) (pa_cons (pv 0) pa_nil)))
      (pss_cons (ps_expr (pe_bm PySem.F.plainAttrs_list PySem.F.slot_list_append PySem.F.type_list_append mt_append (pv 2) (pa_cons (pe_tup (pa_cons (pv 3) (pa_cons (pe_lst (pa_cons (pe_xfld (pv 3)) pa_nil)) (pa_cons (pe_lst (pa_cons (pv 0) pa_nil)) pa_nil)))) pa_nil)))
      (pss_one (ps_ret (pv 2)))))))))))))))))))))))))))))))))))))))))))))))))))))))), ?_⟩
    refine ⟨Nat.zero_le _, fun p hp => ?_⟩
    have t0 : Told K ca H p (upd H p (.lst [])) [] := ⟨[], upd_same, .nil, fun b o e => by rw [rm_at (ne_of_none e hp), upd_ne (ne_of_none e hp)]; exact e, Nat.zero_le _⟩
    have f0 := o2
    obtain ⟨_, _, _, w0, _⟩ := f0
    refine pairN (by decide) T w0.no (by decide +kernel) rfl (by decide) args3 args3 g3 a1 a2 t0 (by decide) fun y0 H0 t1 => ?_
    have f1 := o7
    obtain ⟨_, _, _, w1, _⟩ := f1
    refine pairN (by decide) T w1.no (by decide +kernel) rfl (by decide) args1 args1 g1 a1 a2 t1 (by decide) fun y1 H1 t2 => ?_
    have f2 := o9
    obtain ⟨_, _, _, w2, _⟩ := f2
    refine pairN (by decide) T w2.no (by decide +kernel) rfl (by decide) args1 args1 g1 a1 a2 t2 (by decide) fun y2 H2 t3 => ?_
    have f3 := o10
    obtain ⟨_, _, _, w3, _⟩ := f3
    refine pairN (by decide) T w3.no (by decide +kernel) rfl (by decide) args1 args1 g1 a1 a2 t3 (by decide) fun y3 H3 t4 => ?_
    have f4 := o11
    obtain ⟨_, _, _, w4, _⟩ := f4
    refine pairN (by decide) T w4.no (by decide +kernel) rfl (by decide) args1 args1 g1 a1 a2 t4 (by decide) fun y4 H4 t5 => ?_
    have f5 := o15
    obtain ⟨_, _, _, w5, _⟩ := f5
    refine pairN (by decide) T w5.no (by decide +kernel) rfl (by decide) args1 args1 g1 a1 a2 t5 (by decide) fun y5 H5 t6 => ?_
    have f6 := o16
    obtain ⟨_, _, _, w6, _⟩ := f6
    refine pairN (by decide) T w6.no (by decide +kernel) rfl (by decide) args2 args2 g2 a1 a2 t6 (by decide) fun y6 H6 t7 => ?_
    have f7 := o17
    obtain ⟨_, _, _, w7, _⟩ := f7
    refine pairN (by decide) T w7.no (by decide +kernel) rfl (by decide) args2 args2 g2 a1 a2 t7 (by decide) fun y7 H7 t8 => ?_
    have f8 := o18
    obtain ⟨_, _, _, w8, _⟩ := f8
    refine pairN (by decide) T w8.no (by decide +kernel) rfl (by decide) args1 args1 g1 a1 a2 t8 (by decide) fun y8 H8 t9 => ?_
    have f9 := o22
    obtain ⟨_, _, _, w9, _⟩ := f9
    refine pairN (by decide) T w9.no (by decide +kernel) rfl (by decide) args1 args1 g1 a1 a2 t9 (by decide) fun y9 H9 t10 => ?_
    have f10 := o27
    obtain ⟨_, _, _, w10, _⟩ := f10
    refine pairN (by decide) T w10.no (by decide +kernel) rfl (by decide) args1 args1 g1 a1 a2 t10 (by decide) fun y10 H10 t11 => ?_
    have f11 := o28
    obtain ⟨_, _, _, w11, _⟩ := f11
    refine pairN (by decide) T w11.no (by decide +kernel) rfl (by decide) args1 args1 g1 a1 a2 t11 (by decide) fun y11 H11 t12 => ?_
    have f12 := o30
    obtain ⟨_, _, _, w12, _⟩ := f12
    refine pairN (by decide) T w12.no (by decide +kernel) rfl (by decide) args1 args1 g1 a1 a2 t12 (by decide) fun y12 H12 t13 => ?_
    have f13 := o36
    obtain ⟨_, _, _, w13, _⟩ := f13
    refine pairN (by decide) T w13.no (by decide +kernel) rfl (by decide) args1 args1 g1 a1 a2 t13 (by decide) fun y13 H13 t14 => ?_
    have f14 := o37
    obtain ⟨_, _, _, w14, _⟩ := f14
    refine pairN (by decide) T w14.no (by decide +kernel) rfl (by decide) args1 args1 g1 a1 a2 t14 (by decide) fun y14 H14 t15 => ?_
    have f15 := o39
    obtain ⟨_, _, _, w15, _⟩ := f15
    refine pairN (by decide) T w15.no (by decide +kernel) rfl (by decide) args1 args1 g1 a1 a2 t15 (by decide) fun y15 H15 t16 => ?_
    have f16 := o43
    obtain ⟨_, _, _, w16, _⟩ := f16
    refine pairN (by decide) T w16.no (by decide +kernel) rfl (by decide) args1 args1 g1 a1 a2 t16 (by decide) fun y16 H16 t17 => ?_
    have f17 := o47
    obtain ⟨_, _, _, w17, _⟩ := f17
    refine pairN (by decide) T w17.no (by decide +kernel) rfl (by decide) args1 args1 g1 a1 a2 t17 (by decide) fun y17 H17 t18 => ?_
    have f18 := o53
    obtain ⟨_, _, _, w18, _⟩ := f18
    refine pairN (by decide) T w18.no (by decide +kernel) rfl (by decide) args1 args1 g1 a1 a2 t18 (by decide) fun y18 H18 t19 => ?_
    have f19 := o55
    obtain ⟨_, _, _, w19, _⟩ := f19
    refine pairN (by decide) T w19.no (by decide +kernel) rfl (by decide) args1 args1 g1 a1 a2 t19 (by decide) fun y19 H19 t20 => ?_
    have f20 := o56
    obtain ⟨_, _, _, w20, _⟩ := f20
    refine pairN (by decide) T w20.no (by decide +kernel) rfl (by decide) args1 args1 g1 a1 a2 t20 (by decide) fun y20 H20 t21 => ?_
    have f21 := o57
    obtain ⟨_, _, _, w21, _⟩ := f21
    refine pairN (by decide) T w21.no (by decide +kernel) rfl (by decide) args1 args1 g1 a1 a2 t21 (by decide) fun y21 H21 t22 => ?_
    have f22 := o60
    obtain ⟨_, _, _, w22, _⟩ := f22
    refine pairN (by decide) T w22.no (by decide +kernel) rfl (by decide) args1 args1 g1 a1 a2 t22 (by decide) fun y22 H22 t23 => ?_
    have f23 := o61
    obtain ⟨_, _, _, w23, _⟩ := f23
    refine pairN (by decide) T w23.no (by decide +kernel) rfl (by decide) args1 args1 g1 a1 a2 t23 (by decide) fun y23 H23 t24 => ?_
    have f24 := o64
    obtain ⟨_, _, _, w24, _⟩ := f24
    refine pairN (by decide) T w24.no (by decide +kernel) rfl (by decide) args1 args1 g1 a1 a2 t24 (by decide) fun y24 H24 t25 => ?_
    have f25 := o65
    obtain ⟨_, _, _, w25, _⟩ := f25
    refine pairN (by decide) T w25.no (by decide +kernel) rfl (by decide) args1 args1 g1 a1 a2 t25 (by decide) fun y25 H25 t26 => ?_
    obtain ⟨ts, e1, e2, e3, _⟩ := t26
    exact ⟨_, rfl, k p ts _ hp (e3.trans rm_sub) e1 (pmono (fun a b z => z.same rm_sub) e2)⟩
end
end SA

set_option Elab.async false
set_option linter.all false
set_option maxRecDepth 100000
set_option maxHeartbeats 4000000
namespace SA
open PySem PySem.Spec PyProof.Rows L2
abbrev sLaw : Stmt := topS 82
abbrev nLaw : List Str := ["script", "draw", "some", "one", "other", "told", "errors_here", "classes", "error", "mine", "due", "entry", "found"]
theorem scLaw : FnScope nLaw ["script"] (defScope sLaw) := ⟨rfl, rfl, rfl, by decide +kernel, rfl, by decide +kernel, by decide +kernel⟩
/-- the ten things that are drawn -/
def menu : List PyData := [.none, .int 0, .int (-7), .str "x", .str "", .tuple [.int 1, .int 2], .list [.int 3], .dict [(.str "a", .int 4)], .bool true, .int (10 ^ 20)]
theorem good_all : (menu.all fun d1 => menu.all fun d2 => good (.list [d1]) && (good (.list [d1, d2]) && good (.list [d1, d2, .tuple [d1, d2]]))) = true := by decide +kernel
theorem good3 {d1 d2 : PyData} (h1 : d1 ∈ menu) (h2 : d2 ∈ menu) : Good3 d1 d2 := by
  have z := List.all_eq_true.mp (List.all_eq_true.mp good_all d1 h1) d2 h2
  simp only [Bool.and_eq_true] at z
  exact ⟨z.1, z.2.1, z.2.2⟩
abbrev rm2 (d w : Addr) (H : Hp) : Hp := rm d (rm w H)
theorem rm2_at {d w a : Addr} {H : Hp} (h1 : a ≠ d) (h2 : a ≠ w) : rm2 d w H a = H a := (rm_at h1).trans (rm_at h2)
theorem but_rm {d w : Addr} {H H' : Hp} (b : But2 d w H H') : Same (rm2 d w H) (rm2 d w H') := fun a o e => by
  have h1 : a ≠ d := fun z => by
    subst z
    have q := (rm_p (p := a) (H := rm w H)).symm.trans e
    cases q
  have h2 : a ≠ w := fun z => by
    subst z
    have q := (rm_p (p := a) (H := H)).symm.trans ((rm_at h1).symm.trans e)
    cases q
  rw [rm2_at h1 h2] at e ⊢
  exact b a o e h1 h2
theorem rm2_sub {d w : Addr} {H : Hp} : Same (rm2 d w H) H := rm_sub.trans rm_sub
theorem rm2_same {d w : Addr} {H H' : Hp} (s : Same H H') : Same (rm2 d w H) (rm2 d w H') := rm_same (rm_same s)
theorem DrawAt.knowD {H : Hp} {d w c : Addr} {n : Nat} (h : DrawAt H d w c n) {p : Addr} (hp : H p = none) : p ≠ d ∧ p ≠ w := by
  obtain ⟨⟨r, t, _, _, e⟩, ⟨ws, e2⟩, _, _⟩ := h
  refine ⟨fun z => ?_, fun z => ?_⟩
  · rw [z, e] at hp
    cases hp
  · rw [z, e2] at hp
    cases hp
def allI : List Nat := plainI ++ toldI
theorem allI_len : allI.length = 72 := by decide +kernel
theorem allI_nd : allI.Nodup := by decide +kernel
theorem allI_lt : ∀ j ∈ allI, j < 72 := by decide +kernel
theorem take_snoc {A : Type} {l : List A} {i : Nat} {x : A} (h : l[i]? = some x) : l.take (i + 1) = l.take i ++ [x] := by
  rw [List.take_add_one, h] <;> rfl
section
variable {P : Program} {w0 : World} {K : PySem.W.Frag} {mg : Str → Option Value} {base : Heap} {ca : Nat → Addr} {SE : Addr}
/-- a row of the text's law: the heap, the slots -/
theorem rows_es {ts : List Addr} {H : Hp} (h : Paired (RowAt K ca H) ts toldI) {i : Nat} {t : Addr} (ht : ts[i]? = some t) : ∃ j e m u dd, toldI[i]? = some j ∧ H t = some (.tup [.ref e, .ref m, .ref u]) ∧ XAt H e (ca j) ∧ Dx K H (.ref m) (.list dd) ∧ Dx K H (.ref u) (.list dd) ∧ good (.list dd) = true := by
  obtain ⟨j, h1, e, m, u, dd, h2, h3, h4, h5, h6⟩ := pget h ht
  exact ⟨j, e, m, u, dd, h1, h2, h3, h4, h5, h6⟩
theorem ref_at {l : List Addr} {i : Nat} {x : V} (h : (l.map V.ref)[i]? = some x) : ∃ a, l[i]? = some a ∧ x = .ref a := by
  rw [List.getElem?_map] at h
  cases e : l[i]? with
  | none =>
    rw [e] at h
    cases h
  | some a =>
    rw [e] at h
    exact ⟨a, rfl, (Option.some.inj h).symm⟩
def tl1 (K : PySem.W.Frag) : TS := tAsg (tCall (spBegun K) [] E0 (tCons (tVar 0) tNil)) (gName 1)
def tl2 : TS := tAsg (tLst (tCons (tC V.non) (tCons (tC (V.int 0)) (tCons (tUn (rU fun i => V.int (-i)) (tC (V.int 7))) (tCons (tC (V.str "x")) (tCons (tC (V.str "")) (tCons (tTup (tCons (tC (V.int 1)) (tCons (tC (V.int 2)) tNil)))
  (tCons (tLst (tCons (tC (V.int 3)) tNil)) (tCons (tDisp [(tC (V.str "a"), tC (V.int 4))]) (tCons (tC (V.bl true)) (tCons (tOp (rI CPow fun i j => V.int (i ^ j.toNat)) (tC (V.int 10)) (tC (V.int 20))) tNil))))))))))) (gName 2)
def tl3 (K : PySem.W.Frag) : TS := tPar 3 4 (tCons (tCall (spPick K) [] E0 (tCons (tVar 1) (tCons (tVar 2) tNil))) (tCons (tCall (spPick K) [] E0 (tCons (tVar 1) (tCons (tVar 2) tNil))) tNil))
def tl4 (K : PySem.W.Frag) (ca : Nat → Addr) : TS := tAsg (tCall (spTold K ca) [] E0 (tCons (tVar 3) (tCons (tVar 4) tNil))) (gName 5)
def tl5 (K : PySem.W.Frag) (ca : Nat → Addr) : TS := tAsg (tOp rCat (tCall (spPlain ca) [] E0 tNil) (tLc (iList K (tVar 5)) (gName 11) tYes (tOp (rIxT K) (tVar 11) (tC (V.int 0))) [11])) (gName 6)
def tl6 (K : PySem.W.Frag) (ca : Nat → Addr) : TS := tAsg (tLc (iList K (tVar 6)) (gName 8) tYes (tCall (spClasses ca) [] E0 (tCons (tVar 8) tNil)) [8]) (gName 7)
def tl7 (K : PySem.W.Frag) : TS := tIfS (tOr (tTest (tOp (rNeD K) (tLc (iList K (tVar 7)) (gName 12) (tTest (tOp rNe (tCB (Evl.rLenS K) (tCons (tVar 12) tNil)) (tC (V.int 1)))) (tC (V.int 1)) [12]) (tLst tNil)))
  (tTest (tOp rNe (RZ.tLenSetI K (tLc (iList K (tVar 7)) (gName 12) tYes (tOp (rIxL K) (tVar 12) (tC (V.int 0))) [12])) (tCB (Evl.rLenS K) (tCons (tVar 6) tNil))))) (tRet (tC (V.bl false))) tNext
def tl8 (K : PySem.W.Frag) : TS := tFor (iList K (tVar 5)) (gTup K 3 (gCons (gName 8) (gCons (gName 9) (gCons (gName 10) gNil)))) (tIfS (tTest (tOp rNe (tCB (rRepr K) (tCons (tVar 9) tNil)) (tCB (rRepr K) (tCons (tVar 10) tNil)))) (tRet (tC (V.bl false))) tNext)
def tl9 (K : PySem.W.Frag) (SE : Addr) : TS := tFor (iList K (tVar 6)) (gName 8) (tIfS (tOr (tNot (tB (tCB (rIsX K) (tCons (tVar 8) (tCons (tC (V.ref SE)) tNil))))) (tNot (tB (tCB (rIsX K) (tCons (tVar 8) (tCons (tC (V.ty "ValueError")) tNil)))))) (tRet (tC (V.bl false))) tNext)
def t_law (K : PySem.W.Frag) (ca : Nat → Addr) (SE : Addr) : TS := tSeq (tl1 K) (tSeq tl2 (tSeq (tl3 K) (tSeq (tl4 K ca) (tSeq (tl5 K ca) (tSeq (tl6 K ca) (tSeq (tl7 K) (tSeq (tl8 K) (tSeq (tl9 K SE) (tRet (tC (V.bl true)))))))))))
/-- the end of the law, from two drawn things on -/
theorem law_rest {x0 x1 x2 one other : V} {d1 d2 : PyData} {H : Hp} (T : Cls24 K mg ca SE) (m1 : d1 ∈ menu) (m2 : d2 ∈ menu) (a1 : Dx K H one d1) (a2 : Dx K H other d2) :
    (tSeq (tl4 K ca) (tSeq (tl5 K ca) (tSeq (tl6 K ca) (tSeq (tl7 K) (tSeq (tl8 K) (tSeq (tl9 K SE) (tRet (tC (V.bl true)))))))))
      { nx := fun _ _ => V.non = V.bl true, rt := fun v _ => v = .bl true } [some x0, some x1, some x2, some one, some other, none, none, none, none, none, none, none, none] H := by
  -- told = _law_told_errors(one, other)
  refine ⟨_, rfl, _, rfl, one, other, d1, d2, rfl, a1, a2, good3 m1 m2, fun p5 ts H5 hp5 s5 e5 r5 => ?_⟩
  have nts : ts.length = 26 := Paired.length r5
  -- _law_plain_errors()
  refine ⟨rfl, fun p6 as H6 hp6 s6 e6 x6 => ?_⟩
  have nas : as.length = 46 := Paired.length x6
  have r6 : Paired (RowAt K ca H6) ts toldI := pmono (fun _ _ z => z.same s6) r5
  have t6 : SqL K H6 p5 (ts.map V.ref) := SqL.of (s6 _ _ e5)
  -- [entry[0] for entry in told]
  refine ⟨_, rfl, p5, rfl, ⟨_, t6⟩, fun p7 hp7 => lc_list (K := K) (a := p5) (xs := ts.map V.ref) (fun i H' => Same H6 H' ∧ ∃ es : List Addr, H' p7 = some (.lst (es.map V.ref)) ∧ XsAt H6 ca es (toldI.take i))
    ⟨Same.new hp7, [], upd_same, .nil⟩ (fun i H' _ z => z.1.seq t6) ?_ ?_⟩
  · rintro i x H' hx ⟨s7, es, e7, x7⟩
    obtain ⟨t, ht, rfl⟩ := ref_at hx
    obtain ⟨j, e, m, u, dd, h1, h2, h3, _⟩ := rows_es r6 ht
    refine ⟨rfl, yes ?_⟩
    have hl7 := Paired.length x7
    refine ⟨_, rfl, t, _, 0, .ref e, rfl, rfl, SqT.of (s7 _ _ h2), rfl, es.map V.ref, e7, ?_, fun b o z => ?_, es ++ [e], ?_, ?_⟩
    · rw [List.length_map, hl7, List.length_take]
      exact Nat.lt_of_le_of_lt (Nat.min_le_right _ _) (by decide)
    · rw [upd_ne (ne_of_none z hp7)]
      exact s7 _ _ z
    · rw [upd_same, List.map_append]
      rfl
    · rw [take_snoc h1]
      exact papp x7 (.cons h3 .nil)
  rintro H7 ⟨s7, es, e7, x7⟩
  rw [List.length_map, nts, show toldI.take 26 = toldI from rfl] at x7
  have nes : es.length = 26 := Paired.length x7
  refine ⟨p6, p7, _, _, rfl, rfl, s7 _ _ e6, e7, (by rw [List.length_map, List.length_map, nas, nes]; decide), fun p8 hp8 => ?_⟩
  rw [← List.map_append]
  have s8 : Same H7 (upd H7 p8 (.lst ((as ++ es).map V.ref))) := Same.new hp8
  have e8 : (upd H7 p8 (.lst ((as ++ es).map V.ref))) p8 = some (.lst ((as ++ es).map V.ref)) := upd_same
  have x8 : XsAt (upd H7 p8 (.lst ((as ++ es).map V.ref))) ca (as ++ es) allI := papp (x6.same (s7.trans s8)) (x7.same (s7.trans s8))
  have r8 : Paired (RowAt K ca (upd H7 p8 (.lst ((as ++ es).map V.ref)))) ts toldI := pmono (fun _ _ z => z.same (s7.trans s8)) r6
  have e58 : (upd H7 p8 (.lst ((as ++ es).map V.ref))) p5 = some (.lst (ts.map V.ref)) := (s6.trans (s7.trans s8)) _ _ e5
  generalize upd H7 p8 (.lst ((as ++ es).map V.ref)) = H8 at *
  generalize as ++ es = xs at *
  have nxs : xs.length = 72 := (Paired.length x8).trans allI_len
  have t8 : SqL K H8 p8 (xs.map V.ref) := SqL.of e8
  clear s5 s6 s7 s8 hp5 hp6 hp7 hp8 r5 r6 x6 x7 e5 e6 e7
  -- classes = [_law_classes(error) for error in errors_here]
  refine ⟨_, rfl, p8, rfl, ⟨_, t8⟩, fun p9 hp9 => lc_list (K := K) (a := p8) (xs := xs.map V.ref) (fun i H' => Same H8 H' ∧ ∃ ps : List Addr, H' p9 = some (.lst (ps.map V.ref)) ∧ Paired (fun p (j : Nat) => rm p9 H' p = some (.lst [.int (j : Nat)])) ps (allI.take i))
    ⟨Same.new hp9, [], upd_same, .nil⟩ (fun i H' _ z => z.1.seq t8) ?_ ?_⟩
  · rintro i x H' hx ⟨s9, ps, e9, q9⟩
    obtain ⟨e, he, rfl⟩ := ref_at hx
    obtain ⟨j, hj, hxe⟩ := pget x8 he
    refine ⟨rfl, yes ?_⟩
    have hl9 := Paired.length q9
    refine ⟨_, rfl, e, j, rfl, allI_lt j (List.mem_of_getElem? hj), hxe.same s9, fun p H2 hp s2 e2 => ⟨ps.map V.ref, s2 _ _ e9, ?_, fun b o z => ?_, ps ++ [p], ?_, ?_⟩⟩
    · rw [List.length_map, hl9, List.length_take]
      exact Nat.lt_of_le_of_lt (Nat.min_le_right _ _) (by rw [allI_len]; decide)
    · rw [upd_ne (ne_of_none z hp9)]
      exact s2 _ _ (s9 _ _ z)
    · rw [upd_same, List.map_append]
      rfl
    · have npp : p ≠ p9 := fun z => by
        rw [z, e9] at hp
        cases hp
      rw [take_snoc hj]
      refine papp (pmono (fun b k z => ?_) q9) (.cons ?_ .nil)
      · rw [rm_upd]
        exact rm_same s2 _ _ z
      · rw [rm_upd, rm_at npp]
        exact e2
  rintro H9 ⟨s9, ps, e9, q9⟩
  rw [List.length_map, nxs, show allI.take 72 = allI from List.take_of_length_le (Nat.le_of_eq allI_len)] at q9
  have c9 : Paired (fun p (j : Nat) => H9 p = some (.lst [.int (j : Nat)])) ps allI := pmono (fun _ _ z => rm_sub _ _ z) q9
  have t9 : SqL K H9 p9 (ps.map V.ref) := SqL.of e9
  have nps : ps.length = 72 := (Paired.length q9).trans allI_len
  -- [1 for found in classes if len(found) != 1] != []
  refine ⟨_, rfl, p9, rfl, ⟨_, t9⟩, fun q hq => lc_list (K := K) (a := p9) (xs := ps.map V.ref) (fun i H' => Same H9 H' ∧ H' q = some (.lst [])) ⟨Same.new hq, upd_same⟩ (fun i H' _ z => z.1.seq t9) ?_ ?_⟩
  · rintro i x H' hx ⟨s10, e10⟩
    obtain ⟨p, hp, rfl⟩ := ref_at hx
    obtain ⟨j, hj, h1⟩ := pget c9 hp
    exact ⟨rfl, _, rfl, p, [.int (j : Nat)], rfl, .inl (SqL.of (s10 _ _ h1)), rfl, _, rfl, iteNS rfl ⟨s10, e10⟩⟩
  rintro H10 ⟨s10, e10⟩
  refine ⟨Nat.zero_le _, fun q2 hq2 => ⟨.list [], .list [], .lst (SqL.of (Same.new hq2 _ _ e10)) .nil, .lst (SqL.of upd_same) .nil, rfl, rfl, _, rfl, ?_⟩⟩
  rw [show (!PyData.eqv (.list []) (.list [])) = false by simp [PyData.eqv, PyData.eqvAll]]
  refine iteF ?_
  have s11 : Same H9 (upd H10 q2 (.lst [])) := s10.trans (Same.new hq2)
  generalize upd H10 q2 (.lst []) = H11 at *
  -- len(set([found[0] for found in classes])) != len(errors_here)
  refine ⟨_, rfl, p9, rfl, ⟨_, s11.seq t9⟩, fun q3 hq3 => lc_list (K := K) (a := p9) (xs := ps.map V.ref) (fun i H' => Same H11 H' ∧ H' q3 = some (.lst ((allI.take i).map fun (j : Nat) => V.int (j : Nat)))) ⟨Same.new hq3, upd_same⟩ (fun i H' _ z => z.1.seq (s11.seq t9)) ?_ ?_⟩
  · rintro i x H' hx ⟨s12, e12⟩
    obtain ⟨p, hp, rfl⟩ := ref_at hx
    obtain ⟨j, hj, h1⟩ := pget c9 hp
    refine ⟨rfl, yes ?_⟩
    refine ⟨_, rfl, p, [.int (j : Nat)], 0, .int (j : Nat), rfl, rfl, SqL.of (s12 _ _ (s11 _ _ h1)), rfl, _, e12, ?_, fun b o z => ?_, ?_⟩
    · rw [List.length_map, List.length_take]
      exact Nat.lt_of_le_of_lt (Nat.min_le_right _ _) (by rw [allI_len]; decide)
    · rw [upd_ne (ne_of_none z hq3)]
      exact s12 _ _ z
    · rw [upd_same, take_snoc hj, List.map_append]
      rfl
  rintro H12 ⟨s12, e12⟩
  rw [List.length_map, nps, show allI.take 72 = allI from List.take_of_length_le (Nat.le_of_eq allI_len)] at e12
  have s92 := s11.trans s12
  have nds : (allI.map Int.ofNat).Nodup := by decide +kernel
  have lns : (allI.map Int.ofNat).length = 72 := by rw [List.length_map, allI_len]
  refine ⟨q3, allI.map Int.ofNat, rfl, SqL.of (by rw [e12, List.map_map] <;> rfl), nds, by rw [lns]; decide, _, rfl, p8, xs.map V.ref, rfl, .inl (SqL.of (s92 _ _ (s9 _ _ e8))), rfl, _, rfl, ?_⟩
  rw [lns, List.length_map, nxs]
  refine iteNS rfl ?_
  have s82 := s9.trans s92
  have r12 : Paired (RowAt K ca H12) ts toldI := pmono (fun _ _ z => z.same s82) r8
  have x12 : XsAt H12 ca xs allI := x8.same s82
  have t5 : SqL K H12 p5 (ts.map V.ref) := SqL.of (s82 _ _ e58)
  have t12 : SqL K H12 p8 (xs.map V.ref) := SqL.of (s82 _ _ e8)
  -- for error, mine, due in told
  refine ⟨_, rfl, p5, rfl, ⟨_, t5⟩, for_list (K := K) (a := p5) (xs := ts.map V.ref) (fun i σ H' => H' = H12 ∧ ∃ y8 y9 y10 : Option V, σ = [some x0, some x1, some x2, some one, some other, some (.ref p5), some (.ref p8), some (.ref p9), y8, y9, y10, none, none])
    ⟨rfl, none, none, none, rfl⟩ (fun i σ H' _ z => z.1 ▸ t5) ?_ ?_⟩
  · rintro i x σ H' hx ⟨rfl, y8, y9, y10, rfl⟩
    obtain ⟨t, ht, rfl⟩ := ref_at hx
    obtain ⟨j, e, m, u, dd, h1, h2, h3, h4, h5, h6⟩ := rows_es r12 ht
    have g6 : (PyData.list dd).showable = true ∧ (PyData.list dd).shown.length ≤ 4096 ∧ (PyData.list dd).depth ≤ 60 := by
      unfold good at h6
      rw [Bool.and_eq_true, Bool.and_eq_true] at h6
      exact ⟨h6.1, of_decide_eq_true h6.2.1, of_decide_eq_true h6.2.2⟩
    have gz : (PyData.list dd).shown.length ≤ sizeLine := Nat.le_trans g6.2.1 (by decide)
    refine ⟨t, _, rfl, SqT.of h2, rfl, _, _, rfl, _, _, rfl, _, _, rfl, rfl, _, rfl, m, .list dd, rfl, h4, g6.1, gz, g6.2.2, _, rfl, u, .list dd, rfl, h5, g6.1, gz, g6.2.2, rfl, _, rfl, iteNS rfl ?_⟩
    exact ⟨rfl, _, _, _, rfl⟩
  rintro σ H' ⟨rfl, y8, y9, y10, rfl⟩
  -- for error in errors_here
  refine ⟨_, rfl, p8, rfl, ⟨_, t12⟩, for_list (K := K) (a := p8) (xs := xs.map V.ref) (fun i σ H'' => H'' = H' ∧ ∃ y8 : Option V, σ = [some x0, some x1, some x2, some one, some other, some (.ref p5), some (.ref p8), some (.ref p9), y8, y9, y10, none, none])
    ⟨rfl, y8, rfl⟩ (fun i σ H'' _ z => z.1 ▸ t12) ?_ ?_⟩
  · rintro i x σ H'' hx ⟨rfl, z8, rfl⟩
    obtain ⟨e, he, rfl⟩ := ref_at hx
    obtain ⟨j, hj, h1⟩ := pget x12 he
    have lt := allI_lt j (List.mem_of_getElem? hj)
    refine ⟨_, rfl, e, ca j, .ref SE, .ref SE, true, rfl, .own _, h1, T.exc j lt, T.base j lt, true, rfl, ?_⟩
    refine iteF ?_
    refine ⟨_, rfl, e, ca j, .ty "ValueError", .type "ValueError", true, rfl, .ty _, h1, T.exc j lt, T.ve j lt, true, rfl, ?_⟩
    refine iteF ?_
    exact ⟨rfl, _, rfl⟩
  rintro σ H'' ⟨rfl, z8, rfl⟩
  rfl
theorem law_pure {a : Addr} {ns : List Int} {H : Hp} (T : Cls24 K mg ca SE) (hS : SqL K H a (ns.map V.int)) (hn : ns.length ≤ 63) : t_law K ca SE { nx := fun _ _ => V.non = V.bl true, rt := fun v _ => v = .bl true } (start nLaw [.ref a]) H := by
  -- draw = _law_begun(script)
  refine ⟨_, rfl, a, ns, rfl, hS, hn, fun d w c H1 nd nw nc hD s1 => ?_⟩
  -- some = [..]
  refine ⟨7, rfl, (by show 2 ≤ sizeLine; decide), fun p1 hp1 => ⟨(by show 1 ≤ sizeLine; decide), fun p2 hp2 => ?_⟩⟩
  intro p3 hp3
  refine ⟨upd_same, [(Sum.inr "a", V.int 4)], rfl, (by show 1 ≤ 15; decide), 10, 20, rfl, rfl, ⟨by decide, by decide, by decide⟩, ⟨(by show 10 ≤ sizeLine; decide), fun p4 hp4 => ?_⟩⟩
  rw [show mergeK [] [(Sum.inr (Str.ofString "a"), V.int 4)] = ([(Sum.inr (Str.ofString "a"), V.int 4)] : List (Key × V)) by simp [mergeK, putK], upd_upd] at hp4 ⊢
  have k1 := hD.knowD hp1
  have D1 := hD.new (o := HO.tup [V.int 1, V.int 2]) hp1
  have k2 := D1.knowD hp2
  have D2 := D1.new (o := HO.lst [V.int 3]) hp2
  have k3 := D2.knowD hp3
  have D3 := D2.new (o := HO.dK [((Sum.inr (Str.ofString "a") : Key), V.int 4)]) hp3
  have k4 := D3.knowD hp4
  have D4 := D3.new (o := HO.lst [V.non, V.int 0, V.int (-7), V.str "x", V.str "", V.ref p1, V.ref p2, V.ref p3, V.bl true, V.int (10 ^ 20)]) hp4
  have f3 : Same (upd (upd (upd H1 p1 (HO.tup [V.int 1, V.int 2])) p2 (HO.lst [V.int 3])) p3 (HO.dK [(Sum.inr (Str.ofString "a"), V.int 4)])) (upd (upd (upd (upd H1 p1 (HO.tup [V.int 1, V.int 2])) p2 (HO.lst [V.int 3])) p3 (HO.dK [(Sum.inr (Str.ofString "a"), V.int 4)])) p4 (HO.lst [V.non, V.int 0, V.int (-7), V.str "x", V.str "", V.ref p1, V.ref p2, V.ref p3, V.bl true, V.int (10 ^ 20)])) := Same.new hp4
  have f2 : Same (upd (upd H1 p1 (HO.tup [V.int 1, V.int 2])) p2 (HO.lst [V.int 3])) _ := (Same.new hp3).trans f3
  have f1 : Same (upd H1 p1 (HO.tup [V.int 1, V.int 2])) _ := (Same.new hp2).trans f2
  have e4 : (upd (upd (upd (upd H1 p1 (HO.tup [V.int 1, V.int 2])) p2 (HO.lst [V.int 3])) p3 (HO.dK [(Sum.inr (Str.ofString "a"), V.int 4)])) p4 (HO.lst [V.non, V.int 0, V.int (-7), V.str "x", V.str "", V.ref p1, V.ref p2, V.ref p3, V.bl true, V.int (10 ^ 20)])) p4 = some (HO.lst [V.non, V.int 0, V.int (-7), V.str "x", V.str "", V.ref p1, V.ref p2, V.ref p3, V.bl true, V.int (10 ^ 20)]) := upd_same
  have e1 := f1 _ _ upd_same
  have e2 := f2 _ _ upd_same
  have e3 := f3 _ _ upd_same
  show (tSeq (tl3 K) _) _ [some (.ref a), some (.ref d), some (.ref p4), none, none, none, none, none, none, none, none, none, none] (upd (upd (upd (upd H1 p1 (HO.tup [V.int 1, V.int 2])) p2 (HO.lst [V.int 3])) p3 (HO.dK [(Sum.inr (Str.ofString "a"), V.int 4)])) p4 (HO.lst [V.non, V.int 0, V.int (-7), V.str "x", V.str "", V.ref p1, V.ref p2, V.ref p3, V.bl true, V.int (10 ^ 20)]))
  generalize (upd (upd (upd (upd H1 p1 (HO.tup [V.int 1, V.int 2])) p2 (HO.lst [V.int 3])) p3 (HO.dK [(Sum.inr (Str.ofString "a"), V.int 4)])) p4 (HO.lst [V.non, V.int 0, V.int (-7), V.str "x", V.str "", V.ref p1, V.ref p2, V.ref p3, V.bl true, V.int (10 ^ 20)])) = H4 at *
  -- what stands in the menu
  have data : ∀ x ∈ [V.non, V.int 0, V.int (-7), V.str "x", V.str "", V.ref p1, V.ref p2, V.ref p3, V.bl true, V.int (10 ^ 20)], ∃ d' ∈ menu, Dx K (rm2 d w H4) x d' := by
    have z1 : Dx K (rm2 d w H4) (.ref p1) (.tuple [.int 1, .int 2]) := .tup (SqT.of (by rw [rm2_at k1.1 k1.2]; exact e1)) (.cons (.int 1) (.cons (.int 2) .nil))
    have z2 : Dx K (rm2 d w H4) (.ref p2) (.list [.int 3]) := .lst (SqL.of (by rw [rm2_at k2.1 k2.2]; exact e2)) (.cons (.int 3) .nil)
    have z3 : Dx K (rm2 d w H4) (.ref p3) (.dict [(.str "a", .int 4)]) := .dct (kvs := [(Sum.inr "a", V.int 4)]) (by rw [rm2_at k3.1 k3.2]; exact e3) rfl (.cons (.int 4) .nil)
    intro x hx
    simp only [List.mem_cons, List.not_mem_nil, or_false] at hx
    rcases hx with rfl | rfl | rfl | rfl | rfl | rfl | rfl | rfl | rfl | rfl
    · exact ⟨.none, by simp [menu], .non⟩
    · exact ⟨.int 0, by simp [menu], .int 0⟩
    · exact ⟨.int (-7), by simp [menu], .int (-7)⟩
    · exact ⟨.str "x", by simp [menu], .str _⟩
    · exact ⟨.str "", by simp [menu], .str _⟩
    · exact ⟨_, by simp [menu], z1⟩
    · exact ⟨_, by simp [menu], z2⟩
    · exact ⟨_, by simp [menu], z3⟩
    · exact ⟨.bool true, by simp [menu], .bl true⟩
    · exact ⟨.int (10 ^ 20), by simp [menu], .int (10 ^ 20)⟩
  -- one, other = (_law_pick(draw, some), _law_pick(draw, some))
  refine ⟨_, rfl, _, rfl, d, w, c, p4, 0, _, rfl, D4, by decide, k4.1, k4.2, SqL.of e4, by simp, by simp, fun one H5 h5 D5 b5 => ?_⟩
  refine ⟨_, rfl, _, rfl, d, w, c, p4, 1, _, rfl, D5, by decide, k4.1, k4.2, b5.seq k4.1 k4.2 (SqL.of e4), by simp, by simp, fun other H6 h6 D6 b6 => ⟨_, _, rfl, ?_⟩⟩
  obtain ⟨d1, m1, a1⟩ := data one h5
  obtain ⟨d2, m2, a2⟩ := data other h6
  exact law_rest T m1 m2 ((a1.same (but_rm (b5.trans b6))).same rm2_sub) ((a2.same (but_rm (b5.trans b6))).same rm2_sub)
theorem law_body {fB fP fT fL fC fa : Addr} {fdB fdP fdT fdL fdC : FuncData} {cdv : Value} {s : Shared} {H : Hp} {a : Addr} {ns : List Int}
    (hr : Room 3 (callerA.deeper (envOfC "law" (defScope sLaw) s.heap.objs.size fa cdv))) (hS : SqL K H a (ns.map V.int)) (hn : ns.length ≤ 63) (T : Cls24 K mg ca SE) (SK : SysK K)
    (FB : Fun K "_law_begun" "_law_begun" sBegun fB fdB) (GB : FnOk P w0 K mg base CX0 1 fB fdB ["script"] (spBegun K)) (bB : L2.Binds K fdB ["script"] []) (gB : mg "_law_begun" = some (.ref fB))
    (FP : Fun K "_law_pick" "_law_pick" sPick fP fdP) (GP : FnOk P w0 K mg base CX0 3 fP fdP ["draw", "some"] (spPick K)) (bP : L2.Binds K fdP ["draw", "some"] []) (gP : mg "_law_pick" = some (.ref fP))
    (FT : Fun K "_law_told_errors" "_law_told_errors" sTold fT fdT) (GT : FnOk P w0 K mg base CX0 3 fT fdT ["one", "other"] (spTold K ca)) (bT : L2.Binds K fdT ["one", "other"] []) (gT : mg "_law_told_errors" = some (.ref fT))
    (FL : Fun K "_law_plain_errors" "_law_plain_errors" sPlain fL fdL) (GL : FnOk P w0 K mg base CX0 1 fL fdL [] (spPlain ca)) (bL : L2.Binds K fdL [] []) (gL : mg "_law_plain_errors" = some (.ref fL))
    (FC : Fun K "_law_classes" "_law_classes" sClasses fC fdC) (GC : FnOk P w0 K mg base CX0 1 fC fdC ["error"] (spClasses ca)) (bC : L2.Binds K fdC ["error"] []) (gC : mg "_law_classes" = some (.ref fC))
    (glen : mg "len" = none) (gset : mg "set" = none) (grepr : mg "repr" = none) (gisi : mg "isinstance" = none) (gve : mg "ValueError" = none) :
    ∃ t, PSs (cxOf CX0 P w0 K mg base nLaw "law" (defScope sLaw) fa cdv callerA [] s H E0).nox (defBody sLaw) t ∧ t { nx := fun _ _ => V.non = V.bl true, rt := fun v _ => v = .bl true } (start nLaw [.ref a]) H := by
  have hu := hu_of hr
  have hr1 : Room 1 (callerA.deeper (envOfC "law" (defScope sLaw) s.heap.objs.size fa cdv)) := hr.mono (by decide)
  refine ⟨t_law K ca SE, pss_cons (ps_set (i := 1) scLaw.nd rfl (.inl rfl) (pe_call GB hr1 (by rfl) gB FB.kp bB .nil pass0 (pa_cons (pv 0) pa_nil)))
    (pss_cons (ps_set (i := 2) scLaw.nd rfl (.inl rfl) (pe_lst (pa_cons pe_non (pa_cons pe_int (pa_cons (pe_un un_neg pe_int) (pa_cons pe_str (pa_cons pe_str (pa_cons (pe_tup (pa_cons pe_int (pa_cons pe_int pa_nil)))
      (pa_cons (pe_lst (pa_cons pe_int pa_nil)) (pa_cons (pe_disp (pps_cons pe_str pe_int pps_nil) (by rfl) (by rfl) (fun z => by cases z) (by decide)) (pa_cons pe_bl (pa_cons (pe_op op_pow pe_int pe_int) pa_nil))))))))))))
    (pss_cons (ps_par (i := 3) (j := 4) rfl scLaw.nd rfl rfl (by decide) rfl rfl (pa_cons (pe_call GP hr (by rfl) gP FP.kp bP .nil pass0 (pa_cons (pv 1) (pa_cons (pv 2) pa_nil))) (pa_cons (pe_call GP hr (by rfl) gP FP.kp bP .nil pass0 (pa_cons (pv 1) (pa_cons (pv 2) pa_nil))) pa_nil)) rfl)
    (pss_cons (ps_set (i := 5) scLaw.nd rfl (.inl rfl) (pe_call GT hr (by rfl) gT FT.kp bT .nil pass0 (pa_cons (pv 3) (pa_cons (pv 4) pa_nil))))
    (pss_cons (ps_set (i := 6) scLaw.nd rfl (.inl rfl) (pe_op op_cat (pe_call0 GL hr1 (by rfl) gL FL.kp bL .nil pass0)
      (pe_lc (own := [("entry", 11)]) (g := gName 11) (tt := tYes) (te := tOp (rIxT K) (tVar 11) (tC (.int 0))) (by rfl) scLaw.nd (pi_list (pv 5)) (blkOk_by (N := nLaw) (sc := defScope sLaw) (by decide +kernel)) (fun _ _ _ _ _ => pg_name (i := 11) scLaw.nd rfl (Or.inl rfl)) (fun _ _ _ _ _ => pts_nil) (fun _ _ _ _ _ => pe_ix ix_tup (pv 11) pe_int (fun _ _ => rfl)))))
    (pss_cons (ps_setLc (i := 7) (own := [("error", 8)]) (g := gName 8) (tt := tYes) (by rfl) scLaw.nd rfl rfl (sw_true rfl rfl rfl (by decide +kernel)) (pi_list (pv 6)) (blkOk_by (N := nLaw) (sc := defScope sLaw) (by decide +kernel)) (fun _ _ _ _ _ => pg_name (i := 8) scLaw.nd rfl (Or.inl rfl)) (fun _ _ _ _ _ => pts_nil)
      (fun _ _ _ _ _ => pe_call GC hr1 (by rfl) gC FC.kp bC .nil pass0 (pa_cons (pv 8) pa_nil)))
    (pss_cons (ps_if (PW.pt (pw_or (pt_cmpR (op_neD hr.units)
          (pe_lc (own := [("found", 12)]) (g := gName 12) (tt := tTest (tOp rNe (tCB (Evl.rLenS K) (tCons (tVar 12) tNil)) (tC (.int 1)))) (te := tC (.int 1)) (by rfl) scLaw.nd (pi_list (pv 7)) (blkOk_by (N := nLaw) (sc := defScope sLaw) (by decide +kernel)) (fun _ _ _ _ _ => pg_name (i := 12) scLaw.nd rfl (Or.inl rfl))
            (fun _ _ _ _ _ => pts_one (pt_cmpR op_ne (pe_callB call_len_seq (by rfl) glen PySem.boot_len (pa_cons (pv 12) pa_nil)) pe_int (nomark _))) (fun _ _ _ _ _ => pe_int))
          (pe_lst pa_nil) (nomark _))
        (pw_or1 (pt_cmpR op_ne (RZ.pe_lenSetI (by rfl) glen (by rfl) gset
          (pe_lc (own := [("found", 12)]) (g := gName 12) (tt := tYes) (te := tOp (rIxL K) (tVar 12) (tC (.int 0))) (by rfl) scLaw.nd (pi_list (pv 7)) (blkOk_by (N := nLaw) (sc := defScope sLaw) (by decide +kernel)) (fun _ _ _ _ _ => pg_name (i := 12) scLaw.nd rfl (Or.inl rfl)) (fun _ _ _ _ _ => pts_nil) (fun _ _ _ _ _ => pe_ix ix_list (pv 12) pe_int (fun _ _ => rfl))))
          (pe_callB call_len_seq (by rfl) glen PySem.boot_len (pa_cons (pv 6) pa_nil)) (nomark _))))) (pss_one (ps_ret pe_bl)) pss_nil)
    (pss_cons (ps_for PassesOwn.never rfl (pi_list (pv 5)) (pg_tup rfl (pgs_cons (pg_name (i := 8) scLaw.nd rfl (Or.inl rfl)) (pgs_cons (pg_name (i := 9) scLaw.nd rfl (Or.inl rfl)) (pgs_cons (pg_name (i := 10) scLaw.nd rfl (Or.inl rfl)) pgs_nil))))
      (pss_one (ps_if (pt_cmpR op_ne (pe_callB (call_repr SK rfl hr.units) (by rfl) grepr (by decide +kernel) (pa_cons (pv 9) pa_nil)) (pe_callB (call_repr SK rfl hr.units) (by rfl) grepr (by decide +kernel) (pa_cons (pv 10) pa_nil)) (nomark _)) (pss_one (ps_ret pe_bl)) pss_nil)))
    (pss_cons (ps_for PassesOwn.never rfl (pi_list (pv 6)) (pg_name (i := 8) scLaw.nd rfl (Or.inl rfl))
      (pss_one (ps_if (PW.pt (pw_or (pt_not (pt_val (pe_callB call_isX (by rfl) gisi boot_isinstance (pa_cons (pv 8) (pa_cons (pe_glob (v := .ref SE) (by rfl) T.se rfl) pa_nil)))))
          (pw_or1 (pt_not (pt_val (pe_callB call_isX (by rfl) gisi boot_isinstance (pa_cons (pv 8) (pa_cons (pe_bltn (v := .ty "ValueError") (by rfl) gve (by decide +kernel) rfl) pa_nil)))))))) (pss_one (ps_ret pe_bl)) pss_nil)))
    (pss_one (ps_ret pe_bl)))))))))), ?_⟩
  exact law_pure T hS hn
end
end SA

set_option Elab.async false
set_option linter.all false
set_option maxRecDepth 100000
set_option maxHeartbeats 0
namespace SA
open PySem PySem.Spec PyProof.Rows L2
/-! ### what the top has left, read off by a Hook -/
abbrev vSE (K : PySem.W.Frag) : Addr := He.ga K "StopError"
abbrev mro24 (K : PySem.W.Frag) (C : Addr) : List Value := [.ref C, .ref (vSE K), .type "ValueError", .type "Exception", .type "BaseException", .type "object"]
def mroB (K : PySem.W.Frag) (C : Addr) (m : List Value) : Bool := match PySem.W.clsIn K C with
  | some cd => decide (cd.mro = m)
  | none => false
theorem mroB_ok {K : PySem.W.Frag} {C : Addr} {m : List Value} (h : mroB K C m = true) : ∃ cd, PySem.W.clsIn K C = some cd ∧ cd.mro = m := by
  unfold mroB at h
  split at h
  · rename_i cd e
    exact ⟨cd, e, of_decide_eq_true h⟩
  · cases h
abbrev fIs (K : PySem.W.Frag) (C : Addr) (x : Str) (v : Option Value) : Bool := decide (PySem.W.findIn K (.ref C) x = some v)
def excB (K : PySem.W.Frag) (C : Addr) : Bool :=
  fIs K C "__getattribute__" (some (.builtin "BaseException.__getattribute__")) && (fIs K C "__getattr__" none && (decide (PySem.W.subIn K (.ref C) (.type "BaseException") = some true) && (PySem.W.hasDictIn K C && (fIs K C "__class__" (some (.builtin "object.__class__")) &&
    (decide (PySem.W.specialIn K (.builtin "object.__class__") "__get__" = some (some (.builtin "getset_descriptor.__get__"))) && (decide (PySem.W.takesIn K (.builtin "object.__class__") = some true) && decide (PySem.W.mroIn K C (.type "object") = some true)))))))
theorem excB_ok {K : PySem.W.Frag} {C : Addr} (h : excB K C = true) : ExcC K C ∧ XfC K C := by
  unfold excB at h
  simp only [Bool.and_eq_true, decide_eq_true_eq] at h
  obtain ⟨h1, h2, h3, h4, h5, h6, h7, h8⟩ := h
  exact ⟨⟨h1, h2, h3, h4, h5, h6, h7, h8⟩, ⟨h1, h2, h3, h4⟩⟩
/-- an exception class whose objects have a dict and its own or a base's __init__ -/
def oexB (K : PySem.W.Frag) (C : Addr) : Bool := match K.lookup C with
  | some ⟨.type t, _, .cls cd, sl⟩ => (match cd.mro, sl.toList with
    | .ref C' :: bm, [_, _, _, _, some (.builtin n), _] => decide (t = "type") && (decide (C' = C) && (decide (n = "ValueError.__new__") && (!cd.hasDel && (cd.hasDict && PySem.HandSPX.refsVE bm))))
    | _, _ => false)
  | _ => false
def oexB2 (K : PySem.W.Frag) (C : Addr) : Bool := oexB K C && (fIs K C "__setattr__" (some (.builtin "object.__setattr__")) && (decide (PySem.W.subIn K (.ref C) (.type "BaseException") = some true) && (decide (PySem.W.typeIn K (.ref C) = some (.type "type")) && PySem.W.keepIn K (.ref C))))
theorem oexB_ok {K : PySem.W.Frag} {C : Addr} (h : oexB2 K C = true) : OexC K C := by
  unfold oexB2 at h
  simp only [Bool.and_eq_true, decide_eq_true_eq] at h
  obtain ⟨h0, h1, h2, h3, h4⟩ := h
  refine ⟨?_, h1, h2, h3, h4⟩
  unfold oexB at h0
  split at h0
  · rename_i t dd cd sl e
    split at h0
    · rename_i C' bm k0 k1 k2 k3 n k5 hm hs
      simp only [Bool.and_eq_true, decide_eq_true_eq, Bool.not_eq_true'] at h0
      obtain ⟨rfl, rfl, rfl, hd, hh, hr⟩ := h0
      obtain ⟨nm, bs, mro, ns, qn, hdct, sn, sub, ab, col, del⟩ := cd
      dsimp only at hm hd hh
      subst hm hd hh
      obtain ⟨l⟩ := sl
      dsimp only at hs
      subst hs
      exact ⟨nm, qn, ns, bs, bm, sn, sub, ab, col, dd, k0, k1, k2, k3, k5, e, hr⟩
    · cases h0
  · cases h0
def ownB (K : PySem.W.Frag) (C : Addr) (fs : List Str) : Bool := oexB2 K C && (fIs K C "__init__" (some (.ref (He.ma K C "__init__"))) && (decide (PySem.W.typeIn K (.ref (He.ma K C "__init__")) = some (.type "function")) && fs.all fun x => fIs K C x none))
theorem ownB_ok {K : PySem.W.Frag} {C : Addr} {fs : List Str} (h : ownB K C fs = true) : Own24 K C (He.ma K C "__init__") fs := by
  unfold ownB at h
  simp only [Bool.and_eq_true, decide_eq_true_eq, List.all_eq_true] at h
  obtain ⟨h1, h2, h3, h4⟩ := h
  exact ⟨oexB_ok h1, h2, h3, h4⟩
def cA (K : PySem.W.Frag) (k : Nat) : Addr := He.ga K (cn.getD k "")
def cls1 (K : PySem.W.Frag) (x : Str) : Bool := (He.Fa.glo x).ok K && (mroB K (He.ga K x) (mro24 K (He.ga K x)) && (excB K (He.ga K x) && (PySem.W.keepIn K (.ref (He.ga K x)) && decide (PySem.W.typeIn K (.ref (He.ga K x)) = some (.type "type")))))
def plain1 (K : PySem.W.Frag) (j : Nat) : Bool := PySem.W.excIn K (cA K j) [.type "ValueError", .type "Exception", .type "BaseException", .type "object"] "ValueError.__new__"
def sysB (K : PySem.W.Frag) : Bool := match K.lookup sysModules with
  | some o => decide (o.cls = .type "dict")
  | none => false
theorem sysB_ok {K : PySem.W.Frag} (h : sysB K = true) : SysK K := by
  unfold sysB at h
  split at h
  · rename_i o e
    exact ⟨o, e, of_decide_eq_true h⟩
  · cases h
def distinctB : List Nat → Bool
  | [] => true
  | a :: l => (l.all fun b => !Nat.beq a b) && distinctB l
theorem distinctB_ok : ∀ {l : List Nat}, distinctB l = true → l.Nodup
  | [], _ => List.nodup_nil
  | a :: l, h => by
    have h2 : (l.all fun b => !Nat.beq a b) = true ∧ distinctB l = true := Bool.and_eq_true_iff.mp h
    refine List.nodup_cons.mpr ⟨fun hm => ?_, distinctB_ok h2.2⟩
    have z := List.all_eq_true.mp h2.1 a hm
    simp at z
def c24 (K : PySem.W.Frag) : Bool := sysB K && (cn.all (cls1 K) && (distinctB ((vSE K) :: cn.map fun x => He.ga K x) && ((He.Fa.glo "StopError").ok K && (mroB K (vSE K) [.ref (vSE K), .type "ValueError", .type "Exception", .type "BaseException", .type "object"] &&
  (decide (PySem.W.typeIn K (.ref (vSE K)) = some (.type "type")) && (plainI.all (plain1 K) && toldF.all fun q => ownB K (cA K q.1) q.2))))))
theorem kit_ref {K : PySem.W.Frag} {D C : Addr} {m : List Value} {cd : ClassData} (h1 : PySem.W.clsIn K D = some cd) (h2 : cd.mro = m) (hm : m ≠ []) (h3 : (PySem.W.clsIn K C).isSome = true) (h4 : PySem.W.typeIn K (.ref C) = some (.type "type")) (hD : m.contains (.ref D) = true) :
    PySem.W.kitOne K (.ref D) (.ref C) = some (m.contains (.ref C)) := by
  have e0 : m.isEmpty = false := by
    cases m with
    | nil => exact absurd rfl hm
    | cons a l => rfl
  have e1 : PySem.W.mroIn K D (.ref C) = some (m.contains (.ref C)) := by
    unfold PySem.W.mroIn
    rw [h1, Option.bind_some, h2, if_neg (by rw [e0]; decide)]
  unfold PySem.W.kitOne
  by_cases c : ((Value.ref D) == (.ref C)) = true
  · rw [if_pos c]
    have e : D = C := Value.ref.inj (beq_iff_eq.mp c)
    rw [← e, hD]
  · rw [if_neg c]
    show (if ((PySem.W.clsIn K C).isSome && PySem.W.typeIn K (.ref C) == some (.type "type")) = true then PySem.W.subIn K (.ref D) (.ref C) else none) = _
    rw [h3, h4, if_pos (by simp)]
    exact e1
theorem kit_typ {K : PySem.W.Frag} {D : Addr} {t : String} {m : List Value} {cd : ClassData} (h1 : PySem.W.clsIn K D = some cd) (h2 : cd.mro = m) (hm : m ≠ []) (h3 : PySem.W.kitMeta t = true) : PySem.W.kitOne K (.ref D) (.type t) = some (m.contains (.type t)) := by
  have e0 : m.isEmpty = false := by
    cases m with
    | nil => exact absurd rfl hm
    | cons a l => rfl
  have e1 : PySem.W.mroIn K D (.type t) = some (m.contains (.type t)) := by
    unfold PySem.W.mroIn
    rw [h1, Option.bind_some, h2, if_neg (by rw [e0]; decide)]
  unfold PySem.W.kitOne
  rw [if_neg (by simp)]
  show (if PySem.W.kitMeta t = true then PySem.W.subIn K (.ref D) (.type t) else none) = _
  rw [if_pos h3]
  exact e1
theorem cls_of {K : PySem.W.Frag} {h : Heap} {mg : Str → Option Value} (X : K.In h) (G : h.Ns mainGlobals mg) (c : c24 K = true) : Cls24 K mg (cA K) (vSE K) ∧ Plain24 K (cA K) ∧ SysK K ∧ (∀ q ∈ toldF, Own24 K (cA K q.1) (He.ma K (cA K q.1) "__init__") q.2) := by
  unfold c24 at c
  simp only [Bool.and_eq_true, List.all_eq_true, decide_eq_true_eq] at c
  obtain ⟨cs, c1, c2, c3, c4, c5, c6, c7⟩ := c
  have nm : ∀ k, k < 72 → cn[k]? = some (cn.getD k "") := fun k hk => by
    have hl : cn.length = 72 := by decide +kernel
    rw [List.getD_eq_getElem?_getD, List.getElem?_eq_getElem (by omega)]
    rfl
  have mem : ∀ k, k < 72 → cls1 K (cn.getD k "") = true := fun k hk => c1 _ (List.mem_of_getElem? (nm k hk))
  have parts : ∀ k, k < 72 → (He.Fa.glo (cn.getD k "")).ok K = true ∧ (∃ cd, PySem.W.clsIn K (cA K k) = some cd ∧ cd.mro = mro24 K (cA K k)) ∧ (ExcC K (cA K k) ∧ XfC K (cA K k)) ∧ PySem.W.keepIn K (.ref (cA K k)) = true ∧ PySem.W.typeIn K (.ref (cA K k)) = some (.type "type") := fun k hk => by
    have z := mem k hk
    unfold cls1 at z
    simp only [Bool.and_eq_true, decide_eq_true_eq] at z
    obtain ⟨z1, z2, z3, z4, z5⟩ := z
    exact ⟨z1, mroB_ok z2, excB_ok z3, z4, z5⟩
  have nd := List.nodup_cons.mp (distinctB_ok c2)
  have ndc : ∀ i j, i < 72 → j < 72 → cA K i = cA K j → i = j := fun i j hi hj e => by
    have hl : (cn.map fun x => He.ga K x).length = 72 := by
      rw [List.length_map]
      decide +kernel
    have g : ∀ k, k < 72 → (cn.map fun x => He.ga K x)[k]? = some (cA K k) := fun k hk => by
      rw [List.getElem?_map, nm k hk]
      rfl
    have gi := g i hi
    have gj := g j hj
    rw [List.getElem?_eq_getElem (by omega)] at gi gj
    have pw := List.pairwise_iff_getElem.mp nd.2
    have e2 := (Option.some.inj gi).trans (e.trans (Option.some.inj gj).symm)
    rcases Nat.lt_trichotomy i j with z | z | z
    · exact absurd e2 (pw i j _ _ z)
    · exact z
    · exact absurd e2.symm (pw j i _ _ z)
  have nse : ∀ i, i < 72 → ¬ vSE K = cA K i := fun i hi e => nd.1 (by
    rw [e]
    exact List.mem_map.mpr ⟨_, List.mem_of_getElem? (nm i hi), rfl⟩)
  obtain ⟨cdS, hS1, hS2⟩ := mroB_ok c4
  refine ⟨⟨fun k x hx => ?_, He.glo_ok X G c3, fun k hk => (parts k hk).2.2.1.1, fun k hk => (parts k hk).2.2.1.2, fun i j hi hj => ?_, fun i hi => ?_, fun i hi => ?_, fun i hi => (parts i hi).2.2.2.1⟩, ⟨c6⟩, sysB_ok cs, fun q hq => ownB_ok (c7 q hq)⟩
  · have hk : k < 72 := by
      have hl : cn.length = 72 := by decide +kernel
      have := (List.getElem?_eq_some_iff.mp hx).1
      omega
    have e : x = cn.getD k "" := Option.some.inj (hx.symm.trans (nm k hk))
    rw [e]
    exact He.glo_ok X G (parts k hk).1
  · obtain ⟨cd, h1, h2⟩ := (parts i hi).2.1
    obtain ⟨cd2, g1, _⟩ := (parts j hj).2.1
    rw [kit_ref h1 h2 (by simp) (by rw [g1]; rfl) (parts j hj).2.2.2.2 (by simp)]
    have ns : ¬ cA K j = vSE K := fun e => nse j hj e.symm
    by_cases e : i = j
    · subst e
      simp
    · have ne : ¬ cA K j = cA K i := fun z => e (ndc j i hj hi z).symm
      simp [ne, ns, e]
  · obtain ⟨cd, h1, h2⟩ := (parts i hi).2.1
    rw [kit_ref h1 h2 (by simp) (by rw [hS1]; rfl) c5 (by simp)]
    simp
  · obtain ⟨cd, h1, h2⟩ := (parts i hi).2.1
    rw [kit_typ h1 h2 (by simp) (by decide +kernel)]
    simp

def dBegun : He.DefD := ⟨("_law_begun", none), "_law_begun", "_law_begun", defArgs sBegun, defBody sBegun, defScope sBegun, [], []⟩
def dMixed : He.DefD := ⟨("_law_mixed", none), "_law_mixed", "_law_mixed", defArgs sMixed, defBody sMixed, defScope sMixed, [], []⟩
def dTake : He.DefD := ⟨("_law_take", none), "_law_take", "_law_take", defArgs sTake, defBody sTake, defScope sTake, [], []⟩
def dPick : He.DefD := ⟨("_law_pick", none), "_law_pick", "_law_pick", defArgs sPick, defBody sPick, defScope sPick, [], []⟩
def dPlain : He.DefD := ⟨("_law_plain_errors", none), "_law_plain_errors", "_law_plain_errors", defArgs sPlain, defBody sPlain, defScope sPlain, [], []⟩
def dTold : He.DefD := ⟨("_law_told_errors", none), "_law_told_errors", "_law_told_errors", defArgs sTold, defBody sTold, defScope sTold, [], []⟩
def dClasses : He.DefD := ⟨("_law_classes", none), "_law_classes", "_law_classes", defArgs sClasses, defBody sClasses, defScope sClasses, [], []⟩
def dLaw : He.DefD := ⟨("law", none), "law", "law", defArgs sLaw, defBody sLaw, defScope sLaw, [], []⟩
def dI_BadText : He.DefD := ⟨("BadText", some "__init__"), "__init__", "BadText.__init__", defArgs sI_BadText, defBody sI_BadText, defScope sI_BadText, [], []⟩
def dI_BadCount : He.DefD := ⟨("BadCount", some "__init__"), "__init__", "BadCount.__init__", defArgs sI_BadCount, defBody sI_BadCount, defScope sI_BadCount, [], []⟩
def dI_BadUnits : He.DefD := ⟨("BadUnits", some "__init__"), "__init__", "BadUnits.__init__", defArgs sI_BadUnits, defBody sI_BadUnits, defScope sI_BadUnits, [], []⟩
def dI_NoUnit : He.DefD := ⟨("NoUnit", some "__init__"), "__init__", "NoUnit.__init__", defArgs sI_NoUnit, defBody sI_NoUnit, defScope sI_NoUnit, [], []⟩
def dI_UsesRing : He.DefD := ⟨("UsesRing", some "__init__"), "__init__", "UsesRing.__init__", defArgs sI_UsesRing, defBody sI_UsesRing, defScope sI_UsesRing, [], []⟩
def dI_NoFunction : He.DefD := ⟨("NoFunction", some "__init__"), "__init__", "NoFunction.__init__", defArgs sI_NoFunction, defBody sI_NoFunction, defScope sI_NoFunction, [], []⟩
def dI_Faulty : He.DefD := ⟨("Faulty", some "__init__"), "__init__", "Faulty.__init__", defArgs sI_Faulty, defBody sI_Faulty, defScope sI_Faulty, [], []⟩
def dI_KindClash : He.DefD := ⟨("KindClash", some "__init__"), "__init__", "KindClash.__init__", defArgs sI_KindClash, defBody sI_KindClash, defScope sI_KindClash, [], []⟩
def dI_TwoNames : He.DefD := ⟨("TwoNames", some "__init__"), "__init__", "TwoNames.__init__", defArgs sI_TwoNames, defBody sI_TwoNames, defScope sI_TwoNames, [], []⟩
def dI_NotNow : He.DefD := ⟨("NotNow", some "__init__"), "__init__", "NotNow.__init__", defArgs sI_NotNow, defBody sI_NotNow, defScope sI_NotNow, [], []⟩
def dI_BadFunctions : He.DefD := ⟨("BadFunctions", some "__init__"), "__init__", "BadFunctions.__init__", defArgs sI_BadFunctions, defBody sI_BadFunctions, defScope sI_BadFunctions, [], []⟩
def dI_Unknown : He.DefD := ⟨("Unknown", some "__init__"), "__init__", "Unknown.__init__", defArgs sI_Unknown, defBody sI_Unknown, defScope sI_Unknown, [], []⟩
def dI_BadCodes : He.DefD := ⟨("BadCodes", some "__init__"), "__init__", "BadCodes.__init__", defArgs sI_BadCodes, defBody sI_BadCodes, defScope sI_BadCodes, [], []⟩
def dI_Refused : He.DefD := ⟨("Refused", some "__init__"), "__init__", "Refused.__init__", defArgs sI_Refused, defBody sI_Refused, defScope sI_Refused, [], []⟩
def dI_BadRows : He.DefD := ⟨("BadRows", some "__init__"), "__init__", "BadRows.__init__", defArgs sI_BadRows, defBody sI_BadRows, defScope sI_BadRows, [], []⟩
def dI_BadSpans : He.DefD := ⟨("BadSpans", some "__init__"), "__init__", "BadSpans.__init__", defArgs sI_BadSpans, defBody sI_BadSpans, defScope sI_BadSpans, [], []⟩
def dI_BadPairs : He.DefD := ⟨("BadPairs", some "__init__"), "__init__", "BadPairs.__init__", defArgs sI_BadPairs, defBody sI_BadPairs, defScope sI_BadPairs, [], []⟩
def dI_BadChanges : He.DefD := ⟨("BadChanges", some "__init__"), "__init__", "BadChanges.__init__", defArgs sI_BadChanges, defBody sI_BadChanges, defScope sI_BadChanges, [], []⟩
def dI_NotTold : He.DefD := ⟨("NotTold", some "__init__"), "__init__", "NotTold.__init__", defArgs sI_NotTold, defBody sI_NotTold, defScope sI_NotTold, [], []⟩
def dI_BadObject : He.DefD := ⟨("BadObject", some "__init__"), "__init__", "BadObject.__init__", defArgs sI_BadObject, defBody sI_BadObject, defScope sI_BadObject, [], []⟩
def dI_BadObjects : He.DefD := ⟨("BadObjects", some "__init__"), "__init__", "BadObjects.__init__", defArgs sI_BadObjects, defBody sI_BadObjects, defScope sI_BadObjects, [], []⟩
def dI_TwoUnits : He.DefD := ⟨("TwoUnits", some "__init__"), "__init__", "TwoUnits.__init__", defArgs sI_TwoUnits, defBody sI_TwoUnits, defScope sI_TwoUnits, [], []⟩
def dI_Missing : He.DefD := ⟨("Missing", some "__init__"), "__init__", "Missing.__init__", defArgs sI_Missing, defBody sI_Missing, defScope sI_Missing, [], []⟩
def dI_OtherFace : He.DefD := ⟨("OtherFace", some "__init__"), "__init__", "OtherFace.__init__", defArgs sI_OtherFace, defBody sI_OtherFace, defScope sI_OtherFace, [], []⟩
def dI_BadBits : He.DefD := ⟨("BadBits", some "__init__"), "__init__", "BadBits.__init__", defArgs sI_BadBits, defBody sI_BadBits, defScope sI_BadBits, [], []⟩
def dI_BadInstruction : He.DefD := ⟨("BadInstruction", some "__init__"), "__init__", "BadInstruction.__init__", defArgs sI_BadInstruction, defBody sI_BadInstruction, defScope sI_BadInstruction, [], []⟩
def fn : List He.DefD := [dBegun, dMixed, dTake, dPick, dPlain, dTold, dClasses, dLaw, dI_BadText, dI_BadCount, dI_BadUnits, dI_NoUnit, dI_UsesRing, dI_NoFunction, dI_Faulty, dI_KindClash, dI_TwoNames, dI_NotNow, dI_BadFunctions, dI_Unknown, dI_BadCodes, dI_Refused, dI_BadRows, dI_BadSpans, dI_BadPairs, dI_BadChanges, dI_NotTold, dI_BadObject, dI_BadObjects, dI_TwoUnits, dI_Missing, dI_OtherFace, dI_BadBits, dI_BadInstruction]
def fa : List He.Fa := [.glo "_law_begun", .glo "_law_mixed", .glo "_law_take", .glo "_law_pick", .glo "_law_plain_errors", .glo "_law_told_errors", .glo "_law_classes", .glo "law", .free "int", .free "abs", .free "len", .free "set", .free "repr", .free "isinstance", .free "enumerate", .free "ValueError"]
theorem FunD_fun {K : PySem.W.Frag} {x qual : Str} {st : Stmt} {f : Addr} (h : ∃ fd, FunD K x qual (defArgs st) (defBody st) (defScope st) [] [] f fd) : ∃ fd, Fun K x qual st f fd := by
  obtain ⟨fd, F⟩ := h
  exact ⟨fd, SA.FunD.toFun F⟩
abbrev Al : Type := Bool × He.AlD
def obsM (K : PySem.W.Frag) : Al := (c24 K, He.obsD fa fn K)
def valM : Al := (true, He.valD fn)
def fragM (g : Addr → Option Obj) : PySem.W.Frag := He.frG g (sysModules :: He.asD g 4)
def hkM : PySem.W.Hook where
  α := Al
  obs := fun s => obsM (fragM s.heap.get?)
  val := fun _ => valM
  says := fun _ h => ∃ K : PySem.W.Frag, K.In h ∧ obsM K = valM
  of := fun _ _ e => ⟨_, He.frG_in, e⟩
  keeps := fun _ _ _ ⟨K, hK, c⟩ k => ⟨K, PySem.W.Frag.In.keeps hK k, c⟩
abbrev R : PySem.W.OpenRow := PySem.W.OpenLaw.row PySem.Challenge.rw_stopanywhere_k24_errors_made_and_bases
def ob (s : PySem.W.SharedT) : Al := obsM (fragM (HandSHeadRun.getT s))
theorem ob_eq (s : PySem.W.SharedT) : ob s = hkM.obs s.abs := by
  have e : HandSHeadRun.getT s = s.abs.heap.get? := funext (HandSHeadRun.getT_eq s)
  unfold ob
  rw [e] <;> rfl
section
variable {P : Program} {w0 : World} {K : PySem.W.Frag} {h : Heap} {mg : Str → Option Value} {fL : Addr}
theorem law_of (X : K.In h) (G : h.Ns mainGlobals mg) (hfa : mg ("law" : Str) = some (.ref fL)) (c : obsM K = valM) (base : Heap) : LawRun P w0 K mg base fL 63 := by
  have c1 : c24 K = true := congrArg (fun z : Al => z.1) c
  have c2 : He.SaysD fa fn K := congrArg (fun z : Al => z.2) c
  obtain ⟨T, T2, SK, O⟩ := cls_of X G c1
  obtain ⟨fd0, F0⟩ := FunD_fun (st := sBegun) (c2.def_ 0 (d := dBegun) rfl)
  have g0 := He.glo_ok X G (c2.fact 0 (f := .glo "_law_begun") rfl)
  obtain ⟨fd1, F1⟩ := FunD_fun (st := sMixed) (c2.def_ 1 (d := dMixed) rfl)
  have g1 := He.glo_ok X G (c2.fact 1 (f := .glo "_law_mixed") rfl)
  obtain ⟨fd2, F2⟩ := FunD_fun (st := sTake) (c2.def_ 2 (d := dTake) rfl)
  have g2 := He.glo_ok X G (c2.fact 2 (f := .glo "_law_take") rfl)
  obtain ⟨fd3, F3⟩ := FunD_fun (st := sPick) (c2.def_ 3 (d := dPick) rfl)
  have g3 := He.glo_ok X G (c2.fact 3 (f := .glo "_law_pick") rfl)
  obtain ⟨fd4, F4⟩ := FunD_fun (st := sPlain) (c2.def_ 4 (d := dPlain) rfl)
  have g4 := He.glo_ok X G (c2.fact 4 (f := .glo "_law_plain_errors") rfl)
  obtain ⟨fd5, F5⟩ := FunD_fun (st := sTold) (c2.def_ 5 (d := dTold) rfl)
  have g5 := He.glo_ok X G (c2.fact 5 (f := .glo "_law_told_errors") rfl)
  obtain ⟨fd6, F6⟩ := FunD_fun (st := sClasses) (c2.def_ 6 (d := dClasses) rfl)
  have g6 := He.glo_ok X G (c2.fact 6 (f := .glo "_law_classes") rfl)
  obtain ⟨fd7, F7⟩ := FunD_fun (st := sLaw) (c2.def_ 7 (d := dLaw) rfl)
  have g7 := He.glo_ok X G (c2.fact 7 (f := .glo "law") rfl)
  have z_int := He.free_ok X G (c2.fact 8 (f := .free "int") rfl)
  have z_abs := He.free_ok X G (c2.fact 9 (f := .free "abs") rfl)
  have z_len := He.free_ok X G (c2.fact 10 (f := .free "len") rfl)
  have z_set := He.free_ok X G (c2.fact 11 (f := .free "set") rfl)
  have z_repr := He.free_ok X G (c2.fact 12 (f := .free "repr") rfl)
  have z_isinstance := He.free_ok X G (c2.fact 13 (f := .free "isinstance") rfl)
  have z_enumerate := He.free_ok X G (c2.fact 14 (f := .free "enumerate") rfl)
  have z_ValueError := He.free_ok X G (c2.fact 15 (f := .free "ValueError") rfl)
  have e := hfa.symm.trans g7
  cases e
  have b0 := F0.binds (ps := ["script"]) fun _ _ _ _ _ _ us hl => match us, hl with | [_], _ => rfl
  have b1 := F1.binds (ps := ["draw"]) fun _ _ _ _ _ _ us hl => match us, hl with | [_], _ => rfl
  have b2 := F2.binds (ps := ["draw", "many"]) fun _ _ _ _ _ _ us hl => match us, hl with | [_, _], _ => rfl
  have b3 := F3.binds (ps := ["draw", "some"]) fun _ _ _ _ _ _ us hl => match us, hl with | [_, _], _ => rfl
  have b4 := F4.binds (ps := []) fun _ _ _ _ _ _ us hl => match us, hl with | [], _ => rfl
  have b5 := F5.binds (ps := ["one", "other"]) fun _ _ _ _ _ _ us hl => match us, hl with | [_, _], _ => rfl
  have b6 := F6.binds (ps := ["error"]) fun _ _ _ _ _ _ us hl => match us, hl with | [_], _ => rfl
  have G1 : FnOk P w0 K mg base CX0 1 _ fd1 ["draw"] spMixed := ok_mixed F1 z_int
  have G2 : FnOk P w0 K mg base CX0 2 _ fd2 ["draw", "many"] spTake := ok_take F2 F1 b1 g1 z_int G1
  have hO : ∀ q ∈ toldF, InitOk P w0 K mg base (cA K q.1) q.2 := by
    intro q hq
    have o := O q hq
    simp only [toldF, List.mem_cons, List.not_mem_nil, or_false] at hq
    rcases hq with rfl | rfl | rfl | rfl | rfl | rfl | rfl | rfl | rfl | rfl | rfl | rfl | rfl | rfl | rfl | rfl | rfl | rfl | rfl | rfl | rfl | rfl | rfl | rfl | rfl | rfl
    · obtain ⟨fd, FI⟩ := FunD_fun (st := sI_BadText) (c2.def_ 8 (d := dI_BadText) rfl)
      exact ⟨_, fd, ["self", "line", "column", "wanted"], o, okI_BadText FI o, FI.binds (ps := ["self", "line", "column", "wanted"]) fun _ _ _ _ _ _ us hl => match us, hl with | [_, _, _, _], _ => rfl⟩
    · obtain ⟨fd, FI⟩ := FunD_fun (st := sI_BadCount) (c2.def_ 9 (d := dI_BadCount) rfl)
      exact ⟨_, fd, ["self", "count"], o, okI_BadCount FI o, FI.binds (ps := ["self", "count"]) fun _ _ _ _ _ _ us hl => match us, hl with | [_, _], _ => rfl⟩
    · obtain ⟨fd, FI⟩ := FunD_fun (st := sI_BadUnits) (c2.def_ 10 (d := dI_BadUnits) rfl)
      exact ⟨_, fd, ["self", "at"], o, okI_BadUnits FI o, FI.binds (ps := ["self", "at"]) fun _ _ _ _ _ _ us hl => match us, hl with | [_, _], _ => rfl⟩
    · obtain ⟨fd, FI⟩ := FunD_fun (st := sI_NoUnit) (c2.def_ 11 (d := dI_NoUnit) rfl)
      exact ⟨_, fd, ["self", "name"], o, okI_NoUnit FI o, FI.binds (ps := ["self", "name"]) fun _ _ _ _ _ _ us hl => match us, hl with | [_, _], _ => rfl⟩
    · obtain ⟨fd, FI⟩ := FunD_fun (st := sI_UsesRing) (c2.def_ 12 (d := dI_UsesRing) rfl)
      exact ⟨_, fd, ["self", "ring"], o, okI_UsesRing FI o, FI.binds (ps := ["self", "ring"]) fun _ _ _ _ _ _ us hl => match us, hl with | [_, _], _ => rfl⟩
    · obtain ⟨fd, FI⟩ := FunD_fun (st := sI_NoFunction) (c2.def_ 13 (d := dI_NoFunction) rfl)
      exact ⟨_, fd, ["self", "name"], o, okI_NoFunction FI o, FI.binds (ps := ["self", "name"]) fun _ _ _ _ _ _ us hl => match us, hl with | [_, _], _ => rfl⟩
    · obtain ⟨fd, FI⟩ := FunD_fun (st := sI_Faulty) (c2.def_ 14 (d := dI_Faulty) rfl)
      exact ⟨_, fd, ["self", "fault", "unit"], o, okI_Faulty FI o, FI.binds (ps := ["self", "fault", "unit"]) fun _ _ _ _ _ _ us hl => match us, hl with | [_, _, _], _ => rfl⟩
    · obtain ⟨fd, FI⟩ := FunD_fun (st := sI_KindClash) (c2.def_ 15 (d := dI_KindClash) rfl)
      exact ⟨_, fd, ["self", "clash", "unit"], o, okI_KindClash FI o, FI.binds (ps := ["self", "clash", "unit"]) fun _ _ _ _ _ _ us hl => match us, hl with | [_, _, _], _ => rfl⟩
    · obtain ⟨fd, FI⟩ := FunD_fun (st := sI_TwoNames) (c2.def_ 16 (d := dI_TwoNames) rfl)
      exact ⟨_, fd, ["self", "name"], o, okI_TwoNames FI o, FI.binds (ps := ["self", "name"]) fun _ _ _ _ _ _ us hl => match us, hl with | [_, _], _ => rfl⟩
    · obtain ⟨fd, FI⟩ := FunD_fun (st := sI_NotNow) (c2.def_ 17 (d := dI_NotNow) rfl)
      exact ⟨_, fd, ["self", "word"], o, okI_NotNow FI o, FI.binds (ps := ["self", "word"]) fun _ _ _ _ _ _ us hl => match us, hl with | [_, _], _ => rfl⟩
    · obtain ⟨fd, FI⟩ := FunD_fun (st := sI_BadFunctions) (c2.def_ 18 (d := dI_BadFunctions) rfl)
      exact ⟨_, fd, ["self", "name"], o, okI_BadFunctions FI o, FI.binds (ps := ["self", "name"]) fun _ _ _ _ _ _ us hl => match us, hl with | [_, _], _ => rfl⟩
    · obtain ⟨fd, FI⟩ := FunD_fun (st := sI_Unknown) (c2.def_ 19 (d := dI_Unknown) rfl)
      exact ⟨_, fd, ["self", "name"], o, okI_Unknown FI o, FI.binds (ps := ["self", "name"]) fun _ _ _ _ _ _ us hl => match us, hl with | [_, _], _ => rfl⟩
    · obtain ⟨fd, FI⟩ := FunD_fun (st := sI_BadCodes) (c2.def_ 20 (d := dI_BadCodes) rfl)
      exact ⟨_, fd, ["self", "at"], o, okI_BadCodes FI o, FI.binds (ps := ["self", "at"]) fun _ _ _ _ _ _ us hl => match us, hl with | [_, _], _ => rfl⟩
    · obtain ⟨fd, FI⟩ := FunD_fun (st := sI_Refused) (c2.def_ 21 (d := dI_Refused) rfl)
      exact ⟨_, fd, ["self", "why"], o, okI_Refused FI o, FI.binds (ps := ["self", "why"]) fun _ _ _ _ _ _ us hl => match us, hl with | [_, _], _ => rfl⟩
    · obtain ⟨fd, FI⟩ := FunD_fun (st := sI_BadRows) (c2.def_ 22 (d := dI_BadRows) rfl)
      exact ⟨_, fd, ["self", "at"], o, okI_BadRows FI o, FI.binds (ps := ["self", "at"]) fun _ _ _ _ _ _ us hl => match us, hl with | [_, _], _ => rfl⟩
    · obtain ⟨fd, FI⟩ := FunD_fun (st := sI_BadSpans) (c2.def_ 23 (d := dI_BadSpans) rfl)
      exact ⟨_, fd, ["self", "at"], o, okI_BadSpans FI o, FI.binds (ps := ["self", "at"]) fun _ _ _ _ _ _ us hl => match us, hl with | [_, _], _ => rfl⟩
    · obtain ⟨fd, FI⟩ := FunD_fun (st := sI_BadPairs) (c2.def_ 24 (d := dI_BadPairs) rfl)
      exact ⟨_, fd, ["self", "at"], o, okI_BadPairs FI o, FI.binds (ps := ["self", "at"]) fun _ _ _ _ _ _ us hl => match us, hl with | [_, _], _ => rfl⟩
    · obtain ⟨fd, FI⟩ := FunD_fun (st := sI_BadChanges) (c2.def_ 25 (d := dI_BadChanges) rfl)
      exact ⟨_, fd, ["self", "at"], o, okI_BadChanges FI o, FI.binds (ps := ["self", "at"]) fun _ _ _ _ _ _ us hl => match us, hl with | [_, _], _ => rfl⟩
    · obtain ⟨fd, FI⟩ := FunD_fun (st := sI_NotTold) (c2.def_ 26 (d := dI_NotTold) rfl)
      exact ⟨_, fd, ["self", "name"], o, okI_NotTold FI o, FI.binds (ps := ["self", "name"]) fun _ _ _ _ _ _ us hl => match us, hl with | [_, _], _ => rfl⟩
    · obtain ⟨fd, FI⟩ := FunD_fun (st := sI_BadObject) (c2.def_ 27 (d := dI_BadObject) rfl)
      exact ⟨_, fd, ["self", "at"], o, okI_BadObject FI o, FI.binds (ps := ["self", "at"]) fun _ _ _ _ _ _ us hl => match us, hl with | [_, _], _ => rfl⟩
    · obtain ⟨fd, FI⟩ := FunD_fun (st := sI_BadObjects) (c2.def_ 28 (d := dI_BadObjects) rfl)
      exact ⟨_, fd, ["self", "name"], o, okI_BadObjects FI o, FI.binds (ps := ["self", "name"]) fun _ _ _ _ _ _ us hl => match us, hl with | [_, _], _ => rfl⟩
    · obtain ⟨fd, FI⟩ := FunD_fun (st := sI_TwoUnits) (c2.def_ 29 (d := dI_TwoUnits) rfl)
      exact ⟨_, fd, ["self", "name"], o, okI_TwoUnits FI o, FI.binds (ps := ["self", "name"]) fun _ _ _ _ _ _ us hl => match us, hl with | [_, _], _ => rfl⟩
    · obtain ⟨fd, FI⟩ := FunD_fun (st := sI_Missing) (c2.def_ 30 (d := dI_Missing) rfl)
      exact ⟨_, fd, ["self", "unit"], o, okI_Missing FI o, FI.binds (ps := ["self", "unit"]) fun _ _ _ _ _ _ us hl => match us, hl with | [_, _], _ => rfl⟩
    · obtain ⟨fd, FI⟩ := FunD_fun (st := sI_OtherFace) (c2.def_ 31 (d := dI_OtherFace) rfl)
      exact ⟨_, fd, ["self", "unit"], o, okI_OtherFace FI o, FI.binds (ps := ["self", "unit"]) fun _ _ _ _ _ _ us hl => match us, hl with | [_, _], _ => rfl⟩
    · obtain ⟨fd, FI⟩ := FunD_fun (st := sI_BadBits) (c2.def_ 32 (d := dI_BadBits) rfl)
      exact ⟨_, fd, ["self", "at"], o, okI_BadBits FI o, FI.binds (ps := ["self", "at"]) fun _ _ _ _ _ _ us hl => match us, hl with | [_, _], _ => rfl⟩
    · obtain ⟨fd, FI⟩ := FunD_fun (st := sI_BadInstruction) (c2.def_ 33 (d := dI_BadInstruction) rfl)
      exact ⟨_, fd, ["self", "at"], o, okI_BadInstruction FI o, FI.binds (ps := ["self", "at"]) fun _ _ _ _ _ _ us hl => match us, hl with | [_, _], _ => rfl⟩
  refine law_run (k := 3) F7 scLaw (fun s u => ?_) ⟨by decide, by decide, by decide⟩ fun cdv s H a ns hr hS hn => ?_
  · obtain ⟨oc, od, kV, doc, pm, an, cdv, ct, osl, rfl, _, _⟩ := F7.ex
    exact .of_eq rfl
  · exact law_body hr hS hn T SK F0 (ok_begun F0 z_int z_abs) b0 g0 F3 (ok_pick F3 F2 b2 g2 z_len G2) b3 g3 F5 (ok_told F5 T hO) b5 g5 F4 (ok_plain F4 T T2) b4 g4 F6 (ok_classes F6 T z_isinstance z_enumerate) b6 g6 z_len z_set z_repr z_isinstance z_ValueError
end
end SA

set_option Elab.async false
set_option linter.all false
set_option maxRecDepth 100000
set_option maxHeartbeats 0
noncomputable section
namespace SA
open PySem PySem.W PySem.Calls PyProof.Rows
def m3 (P : Params) : Obj := (@Obj.mk (@Value.type "dict") (@Option.none.{0} @Nat) (@Data.dict (@List.toArray.{0} @DictEntry [(@DictEntry.mk (@PyData.keyHash P (@Str.ofString "__name__")) (@Value.str (@Str.ofString "__name__") 165) (@Value.str (@Str.ofString "stopanywhere.errors") 187)), (@DictEntry.mk (@PyData.keyHash P (@Str.ofString "__doc__")) (@Value.str (@Str.ofString "__doc__") 166) @Value.none), (@DictEntry.mk (@PyData.keyHash P (@Str.ofString "__package__")) (@Value.str (@Str.ofString "__package__") 167) @Value.none), (@DictEntry.mk (@PyData.keyHash P (@Str.ofString "__loader__")) (@Value.str (@Str.ofString "__loader__") 168) (@Value.builtin "__main__.__loader__#opaque")), (@DictEntry.mk (@PyData.keyHash P (@Str.ofString "__spec__")) (@Value.str (@Str.ofString "__spec__") 169) @Value.none), (@DictEntry.mk (@PyData.keyHash P (@Str.ofString "__annotations__")) (@Value.str (@Str.ofString "__annotations__") 170) (@Value.ref 6)), (@DictEntry.mk (@PyData.keyHash P (@Str.ofString "__builtins__")) (@Value.str (@Str.ofString "__builtins__") 171) (@Value.ref 4)), (@DictEntry.mk (@PyData.keyHash P (@Str.ofString "__file__")) (@Value.str (@Str.ofString "__file__") 173) (@Value.str (@Str.ofString "/claim/cut.py") 172)), (@DictEntry.mk (@PyData.keyHash P (@Str.ofString "__cached__")) (@Value.str (@Str.ofString "__cached__") 174) @Value.none), (@DictEntry.mk (@PyData.keyHash P (@Str.ofString "StopError")) (@Value.str (@Str.ofString "StopError") 206) (@Value.ref 24)), (@DictEntry.mk (@PyData.keyHash P (@Str.ofString "BadTree")) (@Value.str (@Str.ofString "BadTree") 222) (@Value.ref 37)), (@DictEntry.mk (@PyData.keyHash P (@Str.ofString "BadWord")) (@Value.str (@Str.ofString "BadWord") 238) (@Value.ref 49)), (@DictEntry.mk (@PyData.keyHash P (@Str.ofString "BadText")) (@Value.str (@Str.ofString "BadText") 267) (@Value.ref 68)), (@DictEntry.mk (@PyData.keyHash P (@Str.ofString "BadPlace")) (@Value.str (@Str.ofString "BadPlace") 283) (@Value.ref 80)), (@DictEntry.mk (@PyData.keyHash P (@Str.ofString "BadNames")) (@Value.str (@Str.ofString "BadNames") 299) (@Value.ref 92)), (@DictEntry.mk (@PyData.keyHash P (@Str.ofString "BadTexts")) (@Value.str (@Str.ofString "BadTexts") 315) (@Value.ref 104)), (@DictEntry.mk (@PyData.keyHash P (@Str.ofString "BadName")) (@Value.str (@Str.ofString "BadName") 331) (@Value.ref 116)), (@DictEntry.mk (@PyData.keyHash P (@Str.ofString "BadCount")) (@Value.str (@Str.ofString "BadCount") 356) (@Value.ref 135)), (@DictEntry.mk (@PyData.keyHash P (@Str.ofString "BadUnit")) (@Value.str (@Str.ofString "BadUnit") 372) (@Value.ref 147)), (@DictEntry.mk (@PyData.keyHash P (@Str.ofString "BadUnits")) (@Value.str (@Str.ofString "BadUnits") 397) (@Value.ref 166)), (@DictEntry.mk (@PyData.keyHash P (@Str.ofString "NoUnit")) (@Value.str (@Str.ofString "NoUnit") 422) (@Value.ref 185)), (@DictEntry.mk (@PyData.keyHash P (@Str.ofString "UsesRing")) (@Value.str (@Str.ofString "UsesRing") 447) (@Value.ref 204)), (@DictEntry.mk (@PyData.keyHash P (@Str.ofString "BadFaces")) (@Value.str (@Str.ofString "BadFaces") 463) (@Value.ref 216)), (@DictEntry.mk (@PyData.keyHash P (@Str.ofString "BadPoint")) (@Value.str (@Str.ofString "BadPoint") 479) (@Value.ref 228)), (@DictEntry.mk (@PyData.keyHash P (@Str.ofString "BadPath")) (@Value.str (@Str.ofString "BadPath") 495) (@Value.ref 240)), (@DictEntry.mk (@PyData.keyHash P (@Str.ofString "NoFunction")) (@Value.str (@Str.ofString "NoFunction") 520) (@Value.ref 259)), (@DictEntry.mk (@PyData.keyHash P (@Str.ofString "Faulty")) (@Value.str (@Str.ofString "Faulty") 547) (@Value.ref 278)), (@DictEntry.mk (@PyData.keyHash P (@Str.ofString "KindClash")) (@Value.str (@Str.ofString "KindClash") 574) (@Value.ref 297)), (@DictEntry.mk (@PyData.keyHash P (@Str.ofString "TwoNames")) (@Value.str (@Str.ofString "TwoNames") 599) (@Value.ref 316)), (@DictEntry.mk (@PyData.keyHash P (@Str.ofString "BadProgram")) (@Value.str (@Str.ofString "BadProgram") 615) (@Value.ref 328)), (@DictEntry.mk (@PyData.keyHash P (@Str.ofString "BadArguments")) (@Value.str (@Str.ofString "BadArguments") 631) (@Value.ref 340)), (@DictEntry.mk (@PyData.keyHash P (@Str.ofString "BadMost")) (@Value.str (@Str.ofString "BadMost") 647) (@Value.ref 352)), (@DictEntry.mk (@PyData.keyHash P (@Str.ofString "NotNow")) (@Value.str (@Str.ofString "NotNow") 672) (@Value.ref 371)), (@DictEntry.mk (@PyData.keyHash P (@Str.ofString "BadMoment")) (@Value.str (@Str.ofString "BadMoment") 688) (@Value.ref 383)), (@DictEntry.mk (@PyData.keyHash P (@Str.ofString "BadChosen")) (@Value.str (@Str.ofString "BadChosen") 704) (@Value.ref 395)), (@DictEntry.mk (@PyData.keyHash P (@Str.ofString "BadScope")) (@Value.str (@Str.ofString "BadScope") 720) (@Value.ref 407)), (@DictEntry.mk (@PyData.keyHash P (@Str.ofString "BadKinds")) (@Value.str (@Str.ofString "BadKinds") 736) (@Value.ref 419)), (@DictEntry.mk (@PyData.keyHash P (@Str.ofString "BadFunctions")) (@Value.str (@Str.ofString "BadFunctions") 761) (@Value.ref 438)), (@DictEntry.mk (@PyData.keyHash P (@Str.ofString "Unknown")) (@Value.str (@Str.ofString "Unknown") 786) (@Value.ref 457)), (@DictEntry.mk (@PyData.keyHash P (@Str.ofString "BadCode")) (@Value.str (@Str.ofString "BadCode") 802) (@Value.ref 469)), (@DictEntry.mk (@PyData.keyHash P (@Str.ofString "BadCodes")) (@Value.str (@Str.ofString "BadCodes") 827) (@Value.ref 488)), (@DictEntry.mk (@PyData.keyHash P (@Str.ofString "BadSpot")) (@Value.str (@Str.ofString "BadSpot") 843) (@Value.ref 500)), (@DictEntry.mk (@PyData.keyHash P (@Str.ofString "BadState")) (@Value.str (@Str.ofString "BadState") 859) (@Value.ref 512)), (@DictEntry.mk (@PyData.keyHash P (@Str.ofString "BadWalk")) (@Value.str (@Str.ofString "BadWalk") 875) (@Value.ref 524)), (@DictEntry.mk (@PyData.keyHash P (@Str.ofString "BadBlock")) (@Value.str (@Str.ofString "BadBlock") 891) (@Value.ref 536)), (@DictEntry.mk (@PyData.keyHash P (@Str.ofString "BadStep")) (@Value.str (@Str.ofString "BadStep") 907) (@Value.ref 548)), (@DictEntry.mk (@PyData.keyHash P (@Str.ofString "Refused")) (@Value.str (@Str.ofString "Refused") 932) (@Value.ref 567)), (@DictEntry.mk (@PyData.keyHash P (@Str.ofString "BadRows")) (@Value.str (@Str.ofString "BadRows") 957) (@Value.ref 586)), (@DictEntry.mk (@PyData.keyHash P (@Str.ofString "BadSlots")) (@Value.str (@Str.ofString "BadSlots") 973) (@Value.ref 598))]) 49) (@List.toArray.{0} (@Option.{0} @Value) []))
def m11 : Obj := (@Obj.mk (@Value.type "tuple") (@Option.none.{0} @Nat) (@Data.seq (@List.toArray.{0} @Value []) 0) (@List.toArray.{0} (@Option.{0} @Value) []))
def m12 : Obj := (@Obj.mk @Value.none (@Option.none.{0} @Nat) (@Data.fields (@List.toArray.{0} @Value [(@Value.int (@OfNat.ofNat.{0} @Int (nat_lit 2) (@instOfNat (nat_lit 2))) 0), (@Value.int (@OfNat.ofNat.{0} @Int (nat_lit 0) (@instOfNat (nat_lit 0))) 0), (@Value.ref 20), (@Value.int (@OfNat.ofNat.{0} @Int (nat_lit 4) (@instOfNat (nat_lit 4))) 0), (@Value.int (@OfNat.ofNat.{0} @Int (nat_lit 0) (@instOfNat (nat_lit 0))) 0), (@Value.ref 33), (@Value.int (@OfNat.ofNat.{0} @Int (nat_lit 6) (@instOfNat (nat_lit 6))) 0), (@Value.int (@OfNat.ofNat.{0} @Int (nat_lit 0) (@instOfNat (nat_lit 0))) 0), (@Value.ref 45), (@Value.int (@OfNat.ofNat.{0} @Int (nat_lit 8) (@instOfNat (nat_lit 8))) 0), (@Value.int (@OfNat.ofNat.{0} @Int (nat_lit 0) (@instOfNat (nat_lit 0))) 0), (@Value.ref 57), (@Value.int (@OfNat.ofNat.{0} @Int (nat_lit 14) (@instOfNat (nat_lit 14))) 0), (@Value.int (@OfNat.ofNat.{0} @Int (nat_lit 0) (@instOfNat (nat_lit 0))) 0), (@Value.ref 76), (@Value.int (@OfNat.ofNat.{0} @Int (nat_lit 16) (@instOfNat (nat_lit 16))) 0), (@Value.int (@OfNat.ofNat.{0} @Int (nat_lit 0) (@instOfNat (nat_lit 0))) 0), (@Value.ref 88), (@Value.int (@OfNat.ofNat.{0} @Int (nat_lit 18) (@instOfNat (nat_lit 18))) 0), (@Value.int (@OfNat.ofNat.{0} @Int (nat_lit 0) (@instOfNat (nat_lit 0))) 0), (@Value.ref 100), (@Value.int (@OfNat.ofNat.{0} @Int (nat_lit 20) (@instOfNat (nat_lit 20))) 0), (@Value.int (@OfNat.ofNat.{0} @Int (nat_lit 0) (@instOfNat (nat_lit 0))) 0), (@Value.ref 112), (@Value.int (@OfNat.ofNat.{0} @Int (nat_lit 22) (@instOfNat (nat_lit 22))) 0), (@Value.int (@OfNat.ofNat.{0} @Int (nat_lit 0) (@instOfNat (nat_lit 0))) 0), (@Value.ref 124), (@Value.int (@OfNat.ofNat.{0} @Int (nat_lit 26) (@instOfNat (nat_lit 26))) 0), (@Value.int (@OfNat.ofNat.{0} @Int (nat_lit 0) (@instOfNat (nat_lit 0))) 0), (@Value.ref 143), (@Value.int (@OfNat.ofNat.{0} @Int (nat_lit 28) (@instOfNat (nat_lit 28))) 0), (@Value.int (@OfNat.ofNat.{0} @Int (nat_lit 0) (@instOfNat (nat_lit 0))) 0), (@Value.ref 155), (@Value.int (@OfNat.ofNat.{0} @Int (nat_lit 32) (@instOfNat (nat_lit 32))) 0), (@Value.int (@OfNat.ofNat.{0} @Int (nat_lit 0) (@instOfNat (nat_lit 0))) 0), (@Value.ref 174), (@Value.int (@OfNat.ofNat.{0} @Int (nat_lit 36) (@instOfNat (nat_lit 36))) 0), (@Value.int (@OfNat.ofNat.{0} @Int (nat_lit 0) (@instOfNat (nat_lit 0))) 0), (@Value.ref 193), (@Value.int (@OfNat.ofNat.{0} @Int (nat_lit 40) (@instOfNat (nat_lit 40))) 0), (@Value.int (@OfNat.ofNat.{0} @Int (nat_lit 0) (@instOfNat (nat_lit 0))) 0), (@Value.ref 212), (@Value.int (@OfNat.ofNat.{0} @Int (nat_lit 42) (@instOfNat (nat_lit 42))) 0), (@Value.int (@OfNat.ofNat.{0} @Int (nat_lit 0) (@instOfNat (nat_lit 0))) 0), (@Value.ref 224), (@Value.int (@OfNat.ofNat.{0} @Int (nat_lit 44) (@instOfNat (nat_lit 44))) 0), (@Value.int (@OfNat.ofNat.{0} @Int (nat_lit 0) (@instOfNat (nat_lit 0))) 0), (@Value.ref 236), (@Value.int (@OfNat.ofNat.{0} @Int (nat_lit 46) (@instOfNat (nat_lit 46))) 0), (@Value.int (@OfNat.ofNat.{0} @Int (nat_lit 0) (@instOfNat (nat_lit 0))) 0), (@Value.ref 248), (@Value.int (@OfNat.ofNat.{0} @Int (nat_lit 50) (@instOfNat (nat_lit 50))) 0), (@Value.int (@OfNat.ofNat.{0} @Int (nat_lit 0) (@instOfNat (nat_lit 0))) 0), (@Value.ref 267), (@Value.int (@OfNat.ofNat.{0} @Int (nat_lit 55) (@instOfNat (nat_lit 55))) 0), (@Value.int (@OfNat.ofNat.{0} @Int (nat_lit 0) (@instOfNat (nat_lit 0))) 0), (@Value.ref 286), (@Value.int (@OfNat.ofNat.{0} @Int (nat_lit 60) (@instOfNat (nat_lit 60))) 0), (@Value.int (@OfNat.ofNat.{0} @Int (nat_lit 0) (@instOfNat (nat_lit 0))) 0), (@Value.ref 305), (@Value.int (@OfNat.ofNat.{0} @Int (nat_lit 64) (@instOfNat (nat_lit 64))) 0), (@Value.int (@OfNat.ofNat.{0} @Int (nat_lit 0) (@instOfNat (nat_lit 0))) 0), (@Value.ref 324), (@Value.int (@OfNat.ofNat.{0} @Int (nat_lit 66) (@instOfNat (nat_lit 66))) 0), (@Value.int (@OfNat.ofNat.{0} @Int (nat_lit 0) (@instOfNat (nat_lit 0))) 0), (@Value.ref 336), (@Value.int (@OfNat.ofNat.{0} @Int (nat_lit 68) (@instOfNat (nat_lit 68))) 0), (@Value.int (@OfNat.ofNat.{0} @Int (nat_lit 0) (@instOfNat (nat_lit 0))) 0), (@Value.ref 348), (@Value.int (@OfNat.ofNat.{0} @Int (nat_lit 70) (@instOfNat (nat_lit 70))) 0), (@Value.int (@OfNat.ofNat.{0} @Int (nat_lit 0) (@instOfNat (nat_lit 0))) 0), (@Value.ref 360), (@Value.int (@OfNat.ofNat.{0} @Int (nat_lit 74) (@instOfNat (nat_lit 74))) 0), (@Value.int (@OfNat.ofNat.{0} @Int (nat_lit 0) (@instOfNat (nat_lit 0))) 0), (@Value.ref 379), (@Value.int (@OfNat.ofNat.{0} @Int (nat_lit 76) (@instOfNat (nat_lit 76))) 0), (@Value.int (@OfNat.ofNat.{0} @Int (nat_lit 0) (@instOfNat (nat_lit 0))) 0), (@Value.ref 391), (@Value.int (@OfNat.ofNat.{0} @Int (nat_lit 78) (@instOfNat (nat_lit 78))) 0), (@Value.int (@OfNat.ofNat.{0} @Int (nat_lit 0) (@instOfNat (nat_lit 0))) 0), (@Value.ref 403), (@Value.int (@OfNat.ofNat.{0} @Int (nat_lit 80) (@instOfNat (nat_lit 80))) 0), (@Value.int (@OfNat.ofNat.{0} @Int (nat_lit 0) (@instOfNat (nat_lit 0))) 0), (@Value.ref 415), (@Value.int (@OfNat.ofNat.{0} @Int (nat_lit 82) (@instOfNat (nat_lit 82))) 0), (@Value.int (@OfNat.ofNat.{0} @Int (nat_lit 0) (@instOfNat (nat_lit 0))) 0), (@Value.ref 427), (@Value.int (@OfNat.ofNat.{0} @Int (nat_lit 86) (@instOfNat (nat_lit 86))) 0), (@Value.int (@OfNat.ofNat.{0} @Int (nat_lit 0) (@instOfNat (nat_lit 0))) 0), (@Value.ref 446), (@Value.int (@OfNat.ofNat.{0} @Int (nat_lit 90) (@instOfNat (nat_lit 90))) 0), (@Value.int (@OfNat.ofNat.{0} @Int (nat_lit 0) (@instOfNat (nat_lit 0))) 0), (@Value.ref 465), (@Value.int (@OfNat.ofNat.{0} @Int (nat_lit 92) (@instOfNat (nat_lit 92))) 0), (@Value.int (@OfNat.ofNat.{0} @Int (nat_lit 0) (@instOfNat (nat_lit 0))) 0), (@Value.ref 477), (@Value.int (@OfNat.ofNat.{0} @Int (nat_lit 96) (@instOfNat (nat_lit 96))) 0), (@Value.int (@OfNat.ofNat.{0} @Int (nat_lit 0) (@instOfNat (nat_lit 0))) 0), (@Value.ref 496), (@Value.int (@OfNat.ofNat.{0} @Int (nat_lit 98) (@instOfNat (nat_lit 98))) 0), (@Value.int (@OfNat.ofNat.{0} @Int (nat_lit 0) (@instOfNat (nat_lit 0))) 0), (@Value.ref 508), (@Value.int (@OfNat.ofNat.{0} @Int (nat_lit 100) (@instOfNat (nat_lit 100))) 0), (@Value.int (@OfNat.ofNat.{0} @Int (nat_lit 0) (@instOfNat (nat_lit 0))) 0), (@Value.ref 520), (@Value.int (@OfNat.ofNat.{0} @Int (nat_lit 102) (@instOfNat (nat_lit 102))) 0), (@Value.int (@OfNat.ofNat.{0} @Int (nat_lit 0) (@instOfNat (nat_lit 0))) 0), (@Value.ref 532), (@Value.int (@OfNat.ofNat.{0} @Int (nat_lit 104) (@instOfNat (nat_lit 104))) 0), (@Value.int (@OfNat.ofNat.{0} @Int (nat_lit 0) (@instOfNat (nat_lit 0))) 0), (@Value.ref 544), (@Value.int (@OfNat.ofNat.{0} @Int (nat_lit 106) (@instOfNat (nat_lit 106))) 0), (@Value.int (@OfNat.ofNat.{0} @Int (nat_lit 0) (@instOfNat (nat_lit 0))) 0), (@Value.ref 556), (@Value.int (@OfNat.ofNat.{0} @Int (nat_lit 110) (@instOfNat (nat_lit 110))) 0), (@Value.int (@OfNat.ofNat.{0} @Int (nat_lit 0) (@instOfNat (nat_lit 0))) 0), (@Value.ref 575), (@Value.int (@OfNat.ofNat.{0} @Int (nat_lit 114) (@instOfNat (nat_lit 114))) 0), (@Value.int (@OfNat.ofNat.{0} @Int (nat_lit 0) (@instOfNat (nat_lit 0))) 0), (@Value.ref 594)])) (@List.toArray.{0} (@Option.{0} @Value) []))
def m13 : Obj := (@Obj.mk (@Value.type "code") (@Option.none.{0} @Nat) (@Data.fields (@List.toArray.{0} @Value [(@Value.str (@Str.ofString "<module>") 182), (@Value.str (@Str.ofString "<module>") 183), (@Value.str (@Str.ofString "/claim/cut.py") 184), (@Value.int (@OfNat.ofNat.{0} @Int (nat_lit 1) (@instOfNat (nat_lit 1))) 0), (@Value.int (@OfNat.ofNat.{0} @Int (nat_lit 0) (@instOfNat (nat_lit 0))) 0), (@Value.int (@OfNat.ofNat.{0} @Int (nat_lit 0) (@instOfNat (nat_lit 0))) 0), (@Value.int (@OfNat.ofNat.{0} @Int (nat_lit 0) (@instOfNat (nat_lit 0))) 0), (@Value.int (@OfNat.ofNat.{0} @Int (nat_lit 0) (@instOfNat (nat_lit 0))) 0), (@Value.ref 11), (@Value.bool @Bool.false), (@Value.int (@OfNat.ofNat.{0} @Int (nat_lit 181) (@instOfNat (nat_lit 181))) 0), (@Value.ref 12), @Value.none, @Value.none, @Value.none, @Value.none, (@Value.int (@OfNat.ofNat.{0} @Int (nat_lit 185) (@instOfNat (nat_lit 185))) 0), (@Value.int (@OfNat.ofNat.{0} @Int (nat_lit 1) (@instOfNat (nat_lit 1))) 0), (@Value.str (@Str.ofString "/claim/cut.py") 186)])) (@List.toArray.{0} (@Option.{0} @Value) []))
def m14 : Obj := (@Obj.mk (@Value.type "frame") (@Option.none.{0} @Nat) @Data.plain (@List.toArray.{0} (@Option.{0} @Value) [(@Option.some.{0} @Value (@Value.ref 13)), (@Option.some.{0} @Value (@Value.ref 3)), (@Option.some.{0} @Value (@Value.ref 3)), (@Option.none.{0} @Value), (@Option.some.{0} @Value (@Value.str (@Str.ofString "__main__") 164)), (@Option.none.{0} @Value), (@Option.some.{0} @Value (@Value.ref 0))]))
def m15 : Obj := (@Obj.mk (@Value.type "tuple") (@Option.none.{0} @Nat) (@Data.seq (@List.toArray.{0} @Value [(@Value.type "ValueError")]) 0) (@List.toArray.{0} (@Option.{0} @Value) []))
def m16 : Obj := (@Obj.mk (@Value.type "builtin_function_or_method") (@Option.none.{0} @Nat) (@Data.fields (@List.toArray.{0} @Value [(@Value.builtin "type.__prepare__"), (@Value.type "type")])) (@List.toArray.{0} (@Option.{0} @Value) []))
def m17 (P : Params) : Obj := (@Obj.mk (@Value.type "dict") (@Option.none.{0} @Nat) (@Data.dict (@List.toArray.{0} @DictEntry [(@DictEntry.mk (@PyData.keyHash P (@Str.ofString "__module__")) (@Value.str (@Str.ofString "__module__") 196) (@Value.str (@Str.ofString "stopanywhere.errors") 187)), (@DictEntry.mk (@PyData.keyHash P (@Str.ofString "__qualname__")) (@Value.str (@Str.ofString "__qualname__") 198) (@Value.str (@Str.ofString "StopError") 197)), (@DictEntry.mk (@PyData.keyHash P (@Str.ofString "__firstlineno__")) (@Value.str (@Str.ofString "__firstlineno__") 200) (@Value.int (@OfNat.ofNat.{0} @Int (nat_lit 2) (@instOfNat (nat_lit 2))) 199)), (@DictEntry.mk (@PyData.keyHash P (@Str.ofString "__static_attributes__")) (@Value.str (@Str.ofString "__static_attributes__") 201) (@Value.ref 22))]) 4) (@List.toArray.{0} (@Option.{0} @Value) []))
def m18 : Obj := (@Obj.mk (@Value.type "tuple") (@Option.none.{0} @Nat) (@Data.seq (@List.toArray.{0} @Value []) 0) (@List.toArray.{0} (@Option.{0} @Value) []))
def m19 : Obj := (@Obj.mk @Value.none (@Option.none.{0} @Nat) (@Data.fields (@List.toArray.{0} @Value [])) (@List.toArray.{0} (@Option.{0} @Value) []))
def m20 : Obj := (@Obj.mk (@Value.type "code") (@Option.none.{0} @Nat) (@Data.fields (@List.toArray.{0} @Value [(@Value.str (@Str.ofString "StopError") 191), (@Value.str (@Str.ofString "StopError") 192), (@Value.str (@Str.ofString "/claim/cut.py") 193), (@Value.int (@OfNat.ofNat.{0} @Int (nat_lit 2) (@instOfNat (nat_lit 2))) 0), (@Value.int (@OfNat.ofNat.{0} @Int (nat_lit 0) (@instOfNat (nat_lit 0))) 0), (@Value.int (@OfNat.ofNat.{0} @Int (nat_lit 0) (@instOfNat (nat_lit 0))) 0), (@Value.int (@OfNat.ofNat.{0} @Int (nat_lit 0) (@instOfNat (nat_lit 0))) 0), (@Value.int (@OfNat.ofNat.{0} @Int (nat_lit 0) (@instOfNat (nat_lit 0))) 0), (@Value.ref 18), (@Value.bool @Bool.false), (@Value.int (@OfNat.ofNat.{0} @Int (nat_lit 181) (@instOfNat (nat_lit 181))) 0), (@Value.ref 19), @Value.none, @Value.none, @Value.none, @Value.none, (@Value.int (@OfNat.ofNat.{0} @Int (nat_lit 194) (@instOfNat (nat_lit 194))) 0), (@Value.int (@OfNat.ofNat.{0} @Int (nat_lit 2) (@instOfNat (nat_lit 2))) 0), (@Value.str (@Str.ofString "/claim/cut.py") 195)])) (@List.toArray.{0} (@Option.{0} @Value) []))
def m21 : Obj := (@Obj.mk (@Value.type "frame") (@Option.none.{0} @Nat) @Data.plain (@List.toArray.{0} (@Option.{0} @Value) [(@Option.some.{0} @Value (@Value.ref 20)), (@Option.some.{0} @Value (@Value.ref 3)), (@Option.some.{0} @Value (@Value.ref 17)), (@Option.none.{0} @Value), (@Option.some.{0} @Value (@Value.str (@Str.ofString "stopanywhere.errors") 187)), (@Option.none.{0} @Value), (@Option.some.{0} @Value (@Value.ref 0))]))
def m22 : Obj := (@Obj.mk (@Value.type "tuple") (@Option.none.{0} @Nat) (@Data.seq (@List.toArray.{0} @Value []) 0) (@List.toArray.{0} (@Option.{0} @Value) []))
def m23 (P : Params) : Obj := (@Obj.mk (@Value.type "dict") (@Option.none.{0} @Nat) (@Data.dict (@List.toArray.{0} @DictEntry [(@DictEntry.mk (@PyData.keyHash P (@Str.ofString "__module__")) (@Value.str (@Str.ofString "__module__") 196) (@Value.str (@Str.ofString "stopanywhere.errors") 187)), (@DictEntry.mk (@PyData.keyHash P (@Str.ofString "__firstlineno__")) (@Value.str (@Str.ofString "__firstlineno__") 200) (@Value.int (@OfNat.ofNat.{0} @Int (nat_lit 2) (@instOfNat (nat_lit 2))) 199)), (@DictEntry.mk (@PyData.keyHash P (@Str.ofString "__static_attributes__")) (@Value.str (@Str.ofString "__static_attributes__") 201) (@Value.ref 22)), (@DictEntry.mk (@PyData.keyHash P (@Str.ofString "__weakref__")) (@Value.str (@Str.ofString "__weakref__") 203) (@Value.ref 25)), (@DictEntry.mk (@PyData.keyHash P (@Str.ofString "__doc__")) (@Value.str (@Str.ofString "__doc__") 204) @Value.none)]) 3) (@List.toArray.{0} (@Option.{0} @Value) []))
def m24 : Obj := (@Obj.mk (@Value.type "type") (@Option.none.{0} @Nat) (@Data.cls (@ClassData.mk (@Str.ofString "StopError") [(@Value.type "ValueError")] [(@Value.ref 24), (@Value.type "ValueError"), (@Value.type "Exception"), (@Value.type "BaseException"), (@Value.type "object")] 23 (@Str.ofString "StopError") @Bool.true [] [(@Value.ref 37), (@Value.ref 49), (@Value.ref 68), (@Value.ref 80), (@Value.ref 92), (@Value.ref 104), (@Value.ref 116), (@Value.ref 135), (@Value.ref 147), (@Value.ref 166), (@Value.ref 185), (@Value.ref 204), (@Value.ref 216), (@Value.ref 228), (@Value.ref 240), (@Value.ref 259), (@Value.ref 278), (@Value.ref 297), (@Value.ref 316), (@Value.ref 328), (@Value.ref 340), (@Value.ref 352), (@Value.ref 371), (@Value.ref 383), (@Value.ref 395), (@Value.ref 407), (@Value.ref 419), (@Value.ref 438), (@Value.ref 457), (@Value.ref 469), (@Value.ref 488), (@Value.ref 500), (@Value.ref 512), (@Value.ref 524), (@Value.ref 536), (@Value.ref 548), (@Value.ref 567), (@Value.ref 586), (@Value.ref 598)] @Bool.false (@Option.none.{0} @Bool) @Bool.false)) (@List.toArray.{0} (@Option.{0} @Value) [(@Option.some.{0} @Value (@Value.ref 15)), (@Option.none.{0} @Value), (@Option.some.{0} @Value (@Value.str (@Str.ofString "StopError") 189)), (@Option.some.{0} @Value (@Value.str (@Str.ofString "StopError") 197)), (@Option.some.{0} @Value (@Value.builtin "ValueError.__new__")), (@Option.some.{0} @Value (@Value.bool @Bool.true))]))
def m25 : Obj := (@Obj.mk (@Value.type "getset_descriptor") (@Option.none.{0} @Nat) (@Data.fields (@List.toArray.{0} @Value [(@Value.str (@Str.ofString "__weakref__") 202), (@Value.ref 24), (@Value.builtin "ExceptionGroup.__weakref__"), @Value.none])) (@List.toArray.{0} (@Option.{0} @Value) []))
def m26 : Obj := (@Obj.mk (@Value.type "super") (@Option.none.{0} @Nat) (@Data.fields (@List.toArray.{0} @Value [(@Value.ref 24), (@Value.ref 24), (@Value.ref 24)])) (@List.toArray.{0} (@Option.{0} @Value) []))
def m27 : Obj := (@Obj.mk (@Value.type "builtin_function_or_method") (@Option.none.{0} @Nat) (@Data.fields (@List.toArray.{0} @Value [(@Value.builtin "object.__init_subclass__"), (@Value.ref 24)])) (@List.toArray.{0} (@Option.{0} @Value) []))
def m28 : Obj := (@Obj.mk (@Value.type "tuple") (@Option.none.{0} @Nat) (@Data.seq (@List.toArray.{0} @Value [(@Value.ref 24)]) 0) (@List.toArray.{0} (@Option.{0} @Value) []))
def m29 : Obj := (@Obj.mk (@Value.type "builtin_function_or_method") (@Option.none.{0} @Nat) (@Data.fields (@List.toArray.{0} @Value [(@Value.builtin "type.__prepare__"), (@Value.type "type")])) (@List.toArray.{0} (@Option.{0} @Value) []))
def m30 (P : Params) : Obj := (@Obj.mk (@Value.type "dict") (@Option.none.{0} @Nat) (@Data.dict (@List.toArray.{0} @DictEntry [(@DictEntry.mk (@PyData.keyHash P (@Str.ofString "__module__")) (@Value.str (@Str.ofString "__module__") 214) (@Value.str (@Str.ofString "stopanywhere.errors") 187)), (@DictEntry.mk (@PyData.keyHash P (@Str.ofString "__qualname__")) (@Value.str (@Str.ofString "__qualname__") 216) (@Value.str (@Str.ofString "BadTree") 215)), (@DictEntry.mk (@PyData.keyHash P (@Str.ofString "__firstlineno__")) (@Value.str (@Str.ofString "__firstlineno__") 218) (@Value.int (@OfNat.ofNat.{0} @Int (nat_lit 4) (@instOfNat (nat_lit 4))) 217)), (@DictEntry.mk (@PyData.keyHash P (@Str.ofString "__static_attributes__")) (@Value.str (@Str.ofString "__static_attributes__") 219) (@Value.ref 35))]) 4) (@List.toArray.{0} (@Option.{0} @Value) []))
def m31 : Obj := (@Obj.mk (@Value.type "tuple") (@Option.none.{0} @Nat) (@Data.seq (@List.toArray.{0} @Value []) 0) (@List.toArray.{0} (@Option.{0} @Value) []))
def m32 : Obj := (@Obj.mk @Value.none (@Option.none.{0} @Nat) (@Data.fields (@List.toArray.{0} @Value [])) (@List.toArray.{0} (@Option.{0} @Value) []))
def m33 : Obj := (@Obj.mk (@Value.type "code") (@Option.none.{0} @Nat) (@Data.fields (@List.toArray.{0} @Value [(@Value.str (@Str.ofString "BadTree") 209), (@Value.str (@Str.ofString "BadTree") 210), (@Value.str (@Str.ofString "/claim/cut.py") 211), (@Value.int (@OfNat.ofNat.{0} @Int (nat_lit 4) (@instOfNat (nat_lit 4))) 0), (@Value.int (@OfNat.ofNat.{0} @Int (nat_lit 0) (@instOfNat (nat_lit 0))) 0), (@Value.int (@OfNat.ofNat.{0} @Int (nat_lit 0) (@instOfNat (nat_lit 0))) 0), (@Value.int (@OfNat.ofNat.{0} @Int (nat_lit 0) (@instOfNat (nat_lit 0))) 0), (@Value.int (@OfNat.ofNat.{0} @Int (nat_lit 0) (@instOfNat (nat_lit 0))) 0), (@Value.ref 31), (@Value.bool @Bool.false), (@Value.int (@OfNat.ofNat.{0} @Int (nat_lit 181) (@instOfNat (nat_lit 181))) 0), (@Value.ref 32), @Value.none, @Value.none, @Value.none, @Value.none, (@Value.int (@OfNat.ofNat.{0} @Int (nat_lit 212) (@instOfNat (nat_lit 212))) 0), (@Value.int (@OfNat.ofNat.{0} @Int (nat_lit 4) (@instOfNat (nat_lit 4))) 0), (@Value.str (@Str.ofString "/claim/cut.py") 213)])) (@List.toArray.{0} (@Option.{0} @Value) []))
def m34 : Obj := (@Obj.mk (@Value.type "frame") (@Option.none.{0} @Nat) @Data.plain (@List.toArray.{0} (@Option.{0} @Value) [(@Option.some.{0} @Value (@Value.ref 33)), (@Option.some.{0} @Value (@Value.ref 3)), (@Option.some.{0} @Value (@Value.ref 30)), (@Option.none.{0} @Value), (@Option.some.{0} @Value (@Value.str (@Str.ofString "stopanywhere.errors") 187)), (@Option.none.{0} @Value), (@Option.some.{0} @Value (@Value.ref 0))]))
def m35 : Obj := (@Obj.mk (@Value.type "tuple") (@Option.none.{0} @Nat) (@Data.seq (@List.toArray.{0} @Value []) 0) (@List.toArray.{0} (@Option.{0} @Value) []))
def m36 (P : Params) : Obj := (@Obj.mk (@Value.type "dict") (@Option.none.{0} @Nat) (@Data.dict (@List.toArray.{0} @DictEntry [(@DictEntry.mk (@PyData.keyHash P (@Str.ofString "__module__")) (@Value.str (@Str.ofString "__module__") 214) (@Value.str (@Str.ofString "stopanywhere.errors") 187)), (@DictEntry.mk (@PyData.keyHash P (@Str.ofString "__firstlineno__")) (@Value.str (@Str.ofString "__firstlineno__") 218) (@Value.int (@OfNat.ofNat.{0} @Int (nat_lit 4) (@instOfNat (nat_lit 4))) 217)), (@DictEntry.mk (@PyData.keyHash P (@Str.ofString "__static_attributes__")) (@Value.str (@Str.ofString "__static_attributes__") 219) (@Value.ref 35)), (@DictEntry.mk (@PyData.keyHash P (@Str.ofString "__doc__")) (@Value.str (@Str.ofString "__doc__") 220) @Value.none)]) 2) (@List.toArray.{0} (@Option.{0} @Value) []))
def m37 : Obj := (@Obj.mk (@Value.type "type") (@Option.none.{0} @Nat) (@Data.cls (@ClassData.mk (@Str.ofString "BadTree") [(@Value.ref 24)] [(@Value.ref 37), (@Value.ref 24), (@Value.type "ValueError"), (@Value.type "Exception"), (@Value.type "BaseException"), (@Value.type "object")] 36 (@Str.ofString "BadTree") @Bool.true [] [] @Bool.false (@Option.none.{0} @Bool) @Bool.false)) (@List.toArray.{0} (@Option.{0} @Value) [(@Option.some.{0} @Value (@Value.ref 28)), (@Option.none.{0} @Value), (@Option.some.{0} @Value (@Value.str (@Str.ofString "BadTree") 207)), (@Option.some.{0} @Value (@Value.str (@Str.ofString "BadTree") 215)), (@Option.some.{0} @Value (@Value.builtin "ValueError.__new__")), (@Option.some.{0} @Value (@Value.bool @Bool.true))]))
def m38 : Obj := (@Obj.mk (@Value.type "super") (@Option.none.{0} @Nat) (@Data.fields (@List.toArray.{0} @Value [(@Value.ref 37), (@Value.ref 37), (@Value.ref 37)])) (@List.toArray.{0} (@Option.{0} @Value) []))
def m39 : Obj := (@Obj.mk (@Value.type "builtin_function_or_method") (@Option.none.{0} @Nat) (@Data.fields (@List.toArray.{0} @Value [(@Value.builtin "object.__init_subclass__"), (@Value.ref 37)])) (@List.toArray.{0} (@Option.{0} @Value) []))
def m40 : Obj := (@Obj.mk (@Value.type "tuple") (@Option.none.{0} @Nat) (@Data.seq (@List.toArray.{0} @Value [(@Value.ref 24)]) 0) (@List.toArray.{0} (@Option.{0} @Value) []))
def m41 : Obj := (@Obj.mk (@Value.type "builtin_function_or_method") (@Option.none.{0} @Nat) (@Data.fields (@List.toArray.{0} @Value [(@Value.builtin "type.__prepare__"), (@Value.type "type")])) (@List.toArray.{0} (@Option.{0} @Value) []))
def m42 (P : Params) : Obj := (@Obj.mk (@Value.type "dict") (@Option.none.{0} @Nat) (@Data.dict (@List.toArray.{0} @DictEntry [(@DictEntry.mk (@PyData.keyHash P (@Str.ofString "__module__")) (@Value.str (@Str.ofString "__module__") 230) (@Value.str (@Str.ofString "stopanywhere.errors") 187)), (@DictEntry.mk (@PyData.keyHash P (@Str.ofString "__qualname__")) (@Value.str (@Str.ofString "__qualname__") 232) (@Value.str (@Str.ofString "BadWord") 231)), (@DictEntry.mk (@PyData.keyHash P (@Str.ofString "__firstlineno__")) (@Value.str (@Str.ofString "__firstlineno__") 234) (@Value.int (@OfNat.ofNat.{0} @Int (nat_lit 6) (@instOfNat (nat_lit 6))) 233)), (@DictEntry.mk (@PyData.keyHash P (@Str.ofString "__static_attributes__")) (@Value.str (@Str.ofString "__static_attributes__") 235) (@Value.ref 47))]) 4) (@List.toArray.{0} (@Option.{0} @Value) []))
def m43 : Obj := (@Obj.mk (@Value.type "tuple") (@Option.none.{0} @Nat) (@Data.seq (@List.toArray.{0} @Value []) 0) (@List.toArray.{0} (@Option.{0} @Value) []))
def m44 : Obj := (@Obj.mk @Value.none (@Option.none.{0} @Nat) (@Data.fields (@List.toArray.{0} @Value [])) (@List.toArray.{0} (@Option.{0} @Value) []))
def m45 : Obj := (@Obj.mk (@Value.type "code") (@Option.none.{0} @Nat) (@Data.fields (@List.toArray.{0} @Value [(@Value.str (@Str.ofString "BadWord") 225), (@Value.str (@Str.ofString "BadWord") 226), (@Value.str (@Str.ofString "/claim/cut.py") 227), (@Value.int (@OfNat.ofNat.{0} @Int (nat_lit 6) (@instOfNat (nat_lit 6))) 0), (@Value.int (@OfNat.ofNat.{0} @Int (nat_lit 0) (@instOfNat (nat_lit 0))) 0), (@Value.int (@OfNat.ofNat.{0} @Int (nat_lit 0) (@instOfNat (nat_lit 0))) 0), (@Value.int (@OfNat.ofNat.{0} @Int (nat_lit 0) (@instOfNat (nat_lit 0))) 0), (@Value.int (@OfNat.ofNat.{0} @Int (nat_lit 0) (@instOfNat (nat_lit 0))) 0), (@Value.ref 43), (@Value.bool @Bool.false), (@Value.int (@OfNat.ofNat.{0} @Int (nat_lit 181) (@instOfNat (nat_lit 181))) 0), (@Value.ref 44), @Value.none, @Value.none, @Value.none, @Value.none, (@Value.int (@OfNat.ofNat.{0} @Int (nat_lit 228) (@instOfNat (nat_lit 228))) 0), (@Value.int (@OfNat.ofNat.{0} @Int (nat_lit 6) (@instOfNat (nat_lit 6))) 0), (@Value.str (@Str.ofString "/claim/cut.py") 229)])) (@List.toArray.{0} (@Option.{0} @Value) []))
def m46 : Obj := (@Obj.mk (@Value.type "frame") (@Option.none.{0} @Nat) @Data.plain (@List.toArray.{0} (@Option.{0} @Value) [(@Option.some.{0} @Value (@Value.ref 45)), (@Option.some.{0} @Value (@Value.ref 3)), (@Option.some.{0} @Value (@Value.ref 42)), (@Option.none.{0} @Value), (@Option.some.{0} @Value (@Value.str (@Str.ofString "stopanywhere.errors") 187)), (@Option.none.{0} @Value), (@Option.some.{0} @Value (@Value.ref 0))]))
def m47 : Obj := (@Obj.mk (@Value.type "tuple") (@Option.none.{0} @Nat) (@Data.seq (@List.toArray.{0} @Value []) 0) (@List.toArray.{0} (@Option.{0} @Value) []))
def m48 (P : Params) : Obj := (@Obj.mk (@Value.type "dict") (@Option.none.{0} @Nat) (@Data.dict (@List.toArray.{0} @DictEntry [(@DictEntry.mk (@PyData.keyHash P (@Str.ofString "__module__")) (@Value.str (@Str.ofString "__module__") 230) (@Value.str (@Str.ofString "stopanywhere.errors") 187)), (@DictEntry.mk (@PyData.keyHash P (@Str.ofString "__firstlineno__")) (@Value.str (@Str.ofString "__firstlineno__") 234) (@Value.int (@OfNat.ofNat.{0} @Int (nat_lit 6) (@instOfNat (nat_lit 6))) 233)), (@DictEntry.mk (@PyData.keyHash P (@Str.ofString "__static_attributes__")) (@Value.str (@Str.ofString "__static_attributes__") 235) (@Value.ref 47)), (@DictEntry.mk (@PyData.keyHash P (@Str.ofString "__doc__")) (@Value.str (@Str.ofString "__doc__") 236) @Value.none)]) 2) (@List.toArray.{0} (@Option.{0} @Value) []))
def m49 : Obj := (@Obj.mk (@Value.type "type") (@Option.none.{0} @Nat) (@Data.cls (@ClassData.mk (@Str.ofString "BadWord") [(@Value.ref 24)] [(@Value.ref 49), (@Value.ref 24), (@Value.type "ValueError"), (@Value.type "Exception"), (@Value.type "BaseException"), (@Value.type "object")] 48 (@Str.ofString "BadWord") @Bool.true [] [] @Bool.false (@Option.none.{0} @Bool) @Bool.false)) (@List.toArray.{0} (@Option.{0} @Value) [(@Option.some.{0} @Value (@Value.ref 40)), (@Option.none.{0} @Value), (@Option.some.{0} @Value (@Value.str (@Str.ofString "BadWord") 223)), (@Option.some.{0} @Value (@Value.str (@Str.ofString "BadWord") 231)), (@Option.some.{0} @Value (@Value.builtin "ValueError.__new__")), (@Option.some.{0} @Value (@Value.bool @Bool.true))]))
def m50 : Obj := (@Obj.mk (@Value.type "super") (@Option.none.{0} @Nat) (@Data.fields (@List.toArray.{0} @Value [(@Value.ref 49), (@Value.ref 49), (@Value.ref 49)])) (@List.toArray.{0} (@Option.{0} @Value) []))
def m51 : Obj := (@Obj.mk (@Value.type "builtin_function_or_method") (@Option.none.{0} @Nat) (@Data.fields (@List.toArray.{0} @Value [(@Value.builtin "object.__init_subclass__"), (@Value.ref 49)])) (@List.toArray.{0} (@Option.{0} @Value) []))
def m52 : Obj := (@Obj.mk (@Value.type "tuple") (@Option.none.{0} @Nat) (@Data.seq (@List.toArray.{0} @Value [(@Value.ref 24)]) 0) (@List.toArray.{0} (@Option.{0} @Value) []))
def m53 : Obj := (@Obj.mk (@Value.type "builtin_function_or_method") (@Option.none.{0} @Nat) (@Data.fields (@List.toArray.{0} @Value [(@Value.builtin "type.__prepare__"), (@Value.type "type")])) (@List.toArray.{0} (@Option.{0} @Value) []))
def m54 (P : Params) : Obj := (@Obj.mk (@Value.type "dict") (@Option.none.{0} @Nat) (@Data.dict (@List.toArray.{0} @DictEntry [(@DictEntry.mk (@PyData.keyHash P (@Str.ofString "__module__")) (@Value.str (@Str.ofString "__module__") 246) (@Value.str (@Str.ofString "stopanywhere.errors") 187)), (@DictEntry.mk (@PyData.keyHash P (@Str.ofString "__qualname__")) (@Value.str (@Str.ofString "__qualname__") 248) (@Value.str (@Str.ofString "BadText") 247)), (@DictEntry.mk (@PyData.keyHash P (@Str.ofString "__firstlineno__")) (@Value.str (@Str.ofString "__firstlineno__") 250) (@Value.int (@OfNat.ofNat.{0} @Int (nat_lit 8) (@instOfNat (nat_lit 8))) 249)), (@DictEntry.mk (@PyData.keyHash P (@Str.ofString "__init__")) (@Value.str (@Str.ofString "__init__") 260) (@Value.ref 65)), (@DictEntry.mk (@PyData.keyHash P (@Str.ofString "__static_attributes__")) (@Value.str (@Str.ofString "__static_attributes__") 264) (@Value.ref 66))]) 5) (@List.toArray.{0} (@Option.{0} @Value) []))
def m55 : Obj := (@Obj.mk (@Value.type "tuple") (@Option.none.{0} @Nat) (@Data.seq (@List.toArray.{0} @Value []) 0) (@List.toArray.{0} (@Option.{0} @Value) []))
def m56 : Obj := (@Obj.mk @Value.none (@Option.none.{0} @Nat) (@Data.fields (@List.toArray.{0} @Value [(@Value.int (@OfNat.ofNat.{0} @Int (nat_lit 10) (@instOfNat (nat_lit 10))) 0), (@Value.int (@OfNat.ofNat.{0} @Int (nat_lit 4) (@instOfNat (nat_lit 4))) 0), (@Value.ref 64)])) (@List.toArray.{0} (@Option.{0} @Value) []))
def m57 : Obj := (@Obj.mk (@Value.type "code") (@Option.none.{0} @Nat) (@Data.fields (@List.toArray.{0} @Value [(@Value.str (@Str.ofString "BadText") 241), (@Value.str (@Str.ofString "BadText") 242), (@Value.str (@Str.ofString "/claim/cut.py") 243), (@Value.int (@OfNat.ofNat.{0} @Int (nat_lit 8) (@instOfNat (nat_lit 8))) 0), (@Value.int (@OfNat.ofNat.{0} @Int (nat_lit 0) (@instOfNat (nat_lit 0))) 0), (@Value.int (@OfNat.ofNat.{0} @Int (nat_lit 0) (@instOfNat (nat_lit 0))) 0), (@Value.int (@OfNat.ofNat.{0} @Int (nat_lit 0) (@instOfNat (nat_lit 0))) 0), (@Value.int (@OfNat.ofNat.{0} @Int (nat_lit 0) (@instOfNat (nat_lit 0))) 0), (@Value.ref 55), (@Value.bool @Bool.false), (@Value.int (@OfNat.ofNat.{0} @Int (nat_lit 181) (@instOfNat (nat_lit 181))) 0), (@Value.ref 56), @Value.none, @Value.none, @Value.none, @Value.none, (@Value.int (@OfNat.ofNat.{0} @Int (nat_lit 244) (@instOfNat (nat_lit 244))) 0), (@Value.int (@OfNat.ofNat.{0} @Int (nat_lit 8) (@instOfNat (nat_lit 8))) 0), (@Value.str (@Str.ofString "/claim/cut.py") 245)])) (@List.toArray.{0} (@Option.{0} @Value) []))
def m58 : Obj := (@Obj.mk (@Value.type "frame") (@Option.none.{0} @Nat) @Data.plain (@List.toArray.{0} (@Option.{0} @Value) [(@Option.some.{0} @Value (@Value.ref 57)), (@Option.some.{0} @Value (@Value.ref 3)), (@Option.some.{0} @Value (@Value.ref 54)), (@Option.none.{0} @Value), (@Option.some.{0} @Value (@Value.str (@Str.ofString "stopanywhere.errors") 187)), (@Option.none.{0} @Value), (@Option.some.{0} @Value (@Value.ref 0))]))
def m59 : Obj := (@Obj.mk (@Value.type "tuple") (@Option.none.{0} @Nat) (@Data.seq (@List.toArray.{0} @Value []) 0) (@List.toArray.{0} (@Option.{0} @Value) []))
def m60 : Obj := (@Obj.mk @Value.none (@Option.none.{0} @Nat) (@Data.fields (@List.toArray.{0} @Value [])) (@List.toArray.{0} (@Option.{0} @Value) []))
def m61 : Obj := (@Obj.mk (@Value.type "tuple") (@Option.none.{0} @Nat) (@Data.seq (@List.toArray.{0} @Value [(@Value.str (@Str.ofString "self") 254), (@Value.str (@Str.ofString "line") 255), (@Value.str (@Str.ofString "column") 256), (@Value.str (@Str.ofString "wanted") 257)]) 0) (@List.toArray.{0} (@Option.{0} @Value) []))
def m62 : Obj := (@Obj.mk (@Value.type "tuple") (@Option.none.{0} @Nat) (@Data.seq (@List.toArray.{0} @Value []) 0) (@List.toArray.{0} (@Option.{0} @Value) []))
def m63 : Obj := (@Obj.mk @Value.none (@Option.none.{0} @Nat) (@Data.func (@FuncData.mk (@Str.ofString "__init__") (@Str.ofString "BadText.__init__") (@Arguments.mk [] [(@Arg.mk (@Str.ofString "self") (@Option.none.{0} @Expr) (@Pos.mk 10 17 10 21)), (@Arg.mk (@Str.ofString "line") (@Option.none.{0} @Expr) (@Pos.mk 10 23 10 27)), (@Arg.mk (@Str.ofString "column") (@Option.none.{0} @Expr) (@Pos.mk 10 29 10 35)), (@Arg.mk (@Str.ofString "wanted") (@Option.none.{0} @Expr) (@Pos.mk 10 37 10 43))] (@Option.none.{0} @Arg) [] [] (@Option.none.{0} @Arg) []) (@FuncBody.stmts [(@Stmt.Assign [(@Expr.Attribute (@Expr.Name (@Str.ofString "self") (@Pos.mk 11 8 11 12)) (@Str.ofString "line") (@Pos.mk 11 8 11 17))] (@Expr.Name (@Str.ofString "line") (@Pos.mk 11 20 11 24)) (@Pos.mk 11 8 11 24)), (@Stmt.Assign [(@Expr.Attribute (@Expr.Name (@Str.ofString "self") (@Pos.mk 12 8 12 12)) (@Str.ofString "column") (@Pos.mk 12 8 12 19))] (@Expr.Name (@Str.ofString "column") (@Pos.mk 12 22 12 28)) (@Pos.mk 12 8 12 28)), (@Stmt.Assign [(@Expr.Attribute (@Expr.Name (@Str.ofString "self") (@Pos.mk 13 8 13 12)) (@Str.ofString "wanted") (@Pos.mk 13 8 13 19))] (@Expr.Name (@Str.ofString "wanted") (@Pos.mk 13 22 13 28)) (@Pos.mk 13 8 13 28))]) (@Scope.mk @ScopeKind.function [(@Prod.mk.{0, 0} @Str @NameKind (@Str.ofString "self") @NameKind.local), (@Prod.mk.{0, 0} @Str @NameKind (@Str.ofString "line") @NameKind.local), (@Prod.mk.{0, 0} @Str @NameKind (@Str.ofString "column") @NameKind.local), (@Prod.mk.{0, 0} @Str @NameKind (@Str.ofString "wanted") @NameKind.local)] @Bool.false @Bool.false []) 0 [] @Value.none @Value.none @Value.none @Value.none (@Option.none.{0} @Nat) @Value.none @Value.none 0)) (@List.toArray.{0} (@Option.{0} @Value) []))
def m64 : Obj := (@Obj.mk (@Value.type "code") (@Option.none.{0} @Nat) (@Data.fields (@List.toArray.{0} @Value [(@Value.str (@Str.ofString "__init__") 251), (@Value.str (@Str.ofString "BadText.__init__") 252), (@Value.str (@Str.ofString "/claim/cut.py") 253), (@Value.int (@OfNat.ofNat.{0} @Int (nat_lit 10) (@instOfNat (nat_lit 10))) 0), (@Value.int (@OfNat.ofNat.{0} @Int (nat_lit 4) (@instOfNat (nat_lit 4))) 0), (@Value.int (@OfNat.ofNat.{0} @Int (nat_lit 0) (@instOfNat (nat_lit 0))) 0), (@Value.int (@OfNat.ofNat.{0} @Int (nat_lit 0) (@instOfNat (nat_lit 0))) 0), (@Value.int (@OfNat.ofNat.{0} @Int (nat_lit 3) (@instOfNat (nat_lit 3))) 0), (@Value.ref 59), (@Value.bool @Bool.true), (@Value.int (@OfNat.ofNat.{0} @Int (nat_lit 181) (@instOfNat (nat_lit 181))) 0), (@Value.ref 60), @Value.none, (@Value.ref 61), (@Value.ref 62), (@Value.ref 63), (@Value.int (@OfNat.ofNat.{0} @Int (nat_lit 258) (@instOfNat (nat_lit 258))) 0), (@Value.int (@OfNat.ofNat.{0} @Int (nat_lit 10) (@instOfNat (nat_lit 10))) 0), (@Value.str (@Str.ofString "/claim/cut.py") 259)])) (@List.toArray.{0} (@Option.{0} @Value) []))
def m65 : Obj := (@Obj.mk (@Value.type "function") (@Option.none.{0} @Nat) (@Data.func (@FuncData.mk (@Str.ofString "__init__") (@Str.ofString "BadText.__init__") (@Arguments.mk [] [(@Arg.mk (@Str.ofString "self") (@Option.none.{0} @Expr) (@Pos.mk 10 17 10 21)), (@Arg.mk (@Str.ofString "line") (@Option.none.{0} @Expr) (@Pos.mk 10 23 10 27)), (@Arg.mk (@Str.ofString "column") (@Option.none.{0} @Expr) (@Pos.mk 10 29 10 35)), (@Arg.mk (@Str.ofString "wanted") (@Option.none.{0} @Expr) (@Pos.mk 10 37 10 43))] (@Option.none.{0} @Arg) [] [] (@Option.none.{0} @Arg) []) (@FuncBody.stmts [(@Stmt.Assign [(@Expr.Attribute (@Expr.Name (@Str.ofString "self") (@Pos.mk 11 8 11 12)) (@Str.ofString "line") (@Pos.mk 11 8 11 17))] (@Expr.Name (@Str.ofString "line") (@Pos.mk 11 20 11 24)) (@Pos.mk 11 8 11 24)), (@Stmt.Assign [(@Expr.Attribute (@Expr.Name (@Str.ofString "self") (@Pos.mk 12 8 12 12)) (@Str.ofString "column") (@Pos.mk 12 8 12 19))] (@Expr.Name (@Str.ofString "column") (@Pos.mk 12 22 12 28)) (@Pos.mk 12 8 12 28)), (@Stmt.Assign [(@Expr.Attribute (@Expr.Name (@Str.ofString "self") (@Pos.mk 13 8 13 12)) (@Str.ofString "wanted") (@Pos.mk 13 8 13 19))] (@Expr.Name (@Str.ofString "wanted") (@Pos.mk 13 22 13 28)) (@Pos.mk 13 8 13 28))]) (@Scope.mk @ScopeKind.function [(@Prod.mk.{0, 0} @Str @NameKind (@Str.ofString "self") @NameKind.local), (@Prod.mk.{0, 0} @Str @NameKind (@Str.ofString "line") @NameKind.local), (@Prod.mk.{0, 0} @Str @NameKind (@Str.ofString "column") @NameKind.local), (@Prod.mk.{0, 0} @Str @NameKind (@Str.ofString "wanted") @NameKind.local)] @Bool.false @Bool.false []) 3 [] @Value.none @Value.none @Value.none (@Value.str (@Str.ofString "stopanywhere.errors") 187) (@Option.none.{0} @Nat) (@Value.ref 64) @Value.none 0)) (@List.toArray.{0} (@Option.{0} @Value) []))
def m66 : Obj := (@Obj.mk (@Value.type "tuple") (@Option.none.{0} @Nat) (@Data.seq (@List.toArray.{0} @Value [(@Value.str (@Str.ofString "column") 261), (@Value.str (@Str.ofString "line") 262), (@Value.str (@Str.ofString "wanted") 263)]) 0) (@List.toArray.{0} (@Option.{0} @Value) []))
def m67 (P : Params) : Obj := (@Obj.mk (@Value.type "dict") (@Option.none.{0} @Nat) (@Data.dict (@List.toArray.{0} @DictEntry [(@DictEntry.mk (@PyData.keyHash P (@Str.ofString "__module__")) (@Value.str (@Str.ofString "__module__") 246) (@Value.str (@Str.ofString "stopanywhere.errors") 187)), (@DictEntry.mk (@PyData.keyHash P (@Str.ofString "__firstlineno__")) (@Value.str (@Str.ofString "__firstlineno__") 250) (@Value.int (@OfNat.ofNat.{0} @Int (nat_lit 8) (@instOfNat (nat_lit 8))) 249)), (@DictEntry.mk (@PyData.keyHash P (@Str.ofString "__init__")) (@Value.str (@Str.ofString "__init__") 260) (@Value.ref 65)), (@DictEntry.mk (@PyData.keyHash P (@Str.ofString "__static_attributes__")) (@Value.str (@Str.ofString "__static_attributes__") 264) (@Value.ref 66)), (@DictEntry.mk (@PyData.keyHash P (@Str.ofString "__doc__")) (@Value.str (@Str.ofString "__doc__") 265) @Value.none)]) 2) (@List.toArray.{0} (@Option.{0} @Value) []))
def m68 : Obj := (@Obj.mk (@Value.type "type") (@Option.none.{0} @Nat) (@Data.cls (@ClassData.mk (@Str.ofString "BadText") [(@Value.ref 24)] [(@Value.ref 68), (@Value.ref 24), (@Value.type "ValueError"), (@Value.type "Exception"), (@Value.type "BaseException"), (@Value.type "object")] 67 (@Str.ofString "BadText") @Bool.true [] [] @Bool.false (@Option.none.{0} @Bool) @Bool.false)) (@List.toArray.{0} (@Option.{0} @Value) [(@Option.some.{0} @Value (@Value.ref 52)), (@Option.none.{0} @Value), (@Option.some.{0} @Value (@Value.str (@Str.ofString "BadText") 239)), (@Option.some.{0} @Value (@Value.str (@Str.ofString "BadText") 247)), (@Option.some.{0} @Value (@Value.builtin "ValueError.__new__")), (@Option.some.{0} @Value (@Value.bool @Bool.true))]))
def m69 : Obj := (@Obj.mk (@Value.type "super") (@Option.none.{0} @Nat) (@Data.fields (@List.toArray.{0} @Value [(@Value.ref 68), (@Value.ref 68), (@Value.ref 68)])) (@List.toArray.{0} (@Option.{0} @Value) []))
def m70 : Obj := (@Obj.mk (@Value.type "builtin_function_or_method") (@Option.none.{0} @Nat) (@Data.fields (@List.toArray.{0} @Value [(@Value.builtin "object.__init_subclass__"), (@Value.ref 68)])) (@List.toArray.{0} (@Option.{0} @Value) []))
def m71 : Obj := (@Obj.mk (@Value.type "tuple") (@Option.none.{0} @Nat) (@Data.seq (@List.toArray.{0} @Value [(@Value.ref 24)]) 0) (@List.toArray.{0} (@Option.{0} @Value) []))
def m72 : Obj := (@Obj.mk (@Value.type "builtin_function_or_method") (@Option.none.{0} @Nat) (@Data.fields (@List.toArray.{0} @Value [(@Value.builtin "type.__prepare__"), (@Value.type "type")])) (@List.toArray.{0} (@Option.{0} @Value) []))
def m73 (P : Params) : Obj := (@Obj.mk (@Value.type "dict") (@Option.none.{0} @Nat) (@Data.dict (@List.toArray.{0} @DictEntry [(@DictEntry.mk (@PyData.keyHash P (@Str.ofString "__module__")) (@Value.str (@Str.ofString "__module__") 275) (@Value.str (@Str.ofString "stopanywhere.errors") 187)), (@DictEntry.mk (@PyData.keyHash P (@Str.ofString "__qualname__")) (@Value.str (@Str.ofString "__qualname__") 277) (@Value.str (@Str.ofString "BadPlace") 276)), (@DictEntry.mk (@PyData.keyHash P (@Str.ofString "__firstlineno__")) (@Value.str (@Str.ofString "__firstlineno__") 279) (@Value.int (@OfNat.ofNat.{0} @Int (nat_lit 14) (@instOfNat (nat_lit 14))) 278)), (@DictEntry.mk (@PyData.keyHash P (@Str.ofString "__static_attributes__")) (@Value.str (@Str.ofString "__static_attributes__") 280) (@Value.ref 78))]) 4) (@List.toArray.{0} (@Option.{0} @Value) []))
def m74 : Obj := (@Obj.mk (@Value.type "tuple") (@Option.none.{0} @Nat) (@Data.seq (@List.toArray.{0} @Value []) 0) (@List.toArray.{0} (@Option.{0} @Value) []))
def m75 : Obj := (@Obj.mk @Value.none (@Option.none.{0} @Nat) (@Data.fields (@List.toArray.{0} @Value [])) (@List.toArray.{0} (@Option.{0} @Value) []))
def m76 : Obj := (@Obj.mk (@Value.type "code") (@Option.none.{0} @Nat) (@Data.fields (@List.toArray.{0} @Value [(@Value.str (@Str.ofString "BadPlace") 270), (@Value.str (@Str.ofString "BadPlace") 271), (@Value.str (@Str.ofString "/claim/cut.py") 272), (@Value.int (@OfNat.ofNat.{0} @Int (nat_lit 14) (@instOfNat (nat_lit 14))) 0), (@Value.int (@OfNat.ofNat.{0} @Int (nat_lit 0) (@instOfNat (nat_lit 0))) 0), (@Value.int (@OfNat.ofNat.{0} @Int (nat_lit 0) (@instOfNat (nat_lit 0))) 0), (@Value.int (@OfNat.ofNat.{0} @Int (nat_lit 0) (@instOfNat (nat_lit 0))) 0), (@Value.int (@OfNat.ofNat.{0} @Int (nat_lit 0) (@instOfNat (nat_lit 0))) 0), (@Value.ref 74), (@Value.bool @Bool.false), (@Value.int (@OfNat.ofNat.{0} @Int (nat_lit 181) (@instOfNat (nat_lit 181))) 0), (@Value.ref 75), @Value.none, @Value.none, @Value.none, @Value.none, (@Value.int (@OfNat.ofNat.{0} @Int (nat_lit 273) (@instOfNat (nat_lit 273))) 0), (@Value.int (@OfNat.ofNat.{0} @Int (nat_lit 14) (@instOfNat (nat_lit 14))) 0), (@Value.str (@Str.ofString "/claim/cut.py") 274)])) (@List.toArray.{0} (@Option.{0} @Value) []))
def m77 : Obj := (@Obj.mk (@Value.type "frame") (@Option.none.{0} @Nat) @Data.plain (@List.toArray.{0} (@Option.{0} @Value) [(@Option.some.{0} @Value (@Value.ref 76)), (@Option.some.{0} @Value (@Value.ref 3)), (@Option.some.{0} @Value (@Value.ref 73)), (@Option.none.{0} @Value), (@Option.some.{0} @Value (@Value.str (@Str.ofString "stopanywhere.errors") 187)), (@Option.none.{0} @Value), (@Option.some.{0} @Value (@Value.ref 0))]))
def m78 : Obj := (@Obj.mk (@Value.type "tuple") (@Option.none.{0} @Nat) (@Data.seq (@List.toArray.{0} @Value []) 0) (@List.toArray.{0} (@Option.{0} @Value) []))
def m79 (P : Params) : Obj := (@Obj.mk (@Value.type "dict") (@Option.none.{0} @Nat) (@Data.dict (@List.toArray.{0} @DictEntry [(@DictEntry.mk (@PyData.keyHash P (@Str.ofString "__module__")) (@Value.str (@Str.ofString "__module__") 275) (@Value.str (@Str.ofString "stopanywhere.errors") 187)), (@DictEntry.mk (@PyData.keyHash P (@Str.ofString "__firstlineno__")) (@Value.str (@Str.ofString "__firstlineno__") 279) (@Value.int (@OfNat.ofNat.{0} @Int (nat_lit 14) (@instOfNat (nat_lit 14))) 278)), (@DictEntry.mk (@PyData.keyHash P (@Str.ofString "__static_attributes__")) (@Value.str (@Str.ofString "__static_attributes__") 280) (@Value.ref 78)), (@DictEntry.mk (@PyData.keyHash P (@Str.ofString "__doc__")) (@Value.str (@Str.ofString "__doc__") 281) @Value.none)]) 2) (@List.toArray.{0} (@Option.{0} @Value) []))
def m80 : Obj := (@Obj.mk (@Value.type "type") (@Option.none.{0} @Nat) (@Data.cls (@ClassData.mk (@Str.ofString "BadPlace") [(@Value.ref 24)] [(@Value.ref 80), (@Value.ref 24), (@Value.type "ValueError"), (@Value.type "Exception"), (@Value.type "BaseException"), (@Value.type "object")] 79 (@Str.ofString "BadPlace") @Bool.true [] [] @Bool.false (@Option.none.{0} @Bool) @Bool.false)) (@List.toArray.{0} (@Option.{0} @Value) [(@Option.some.{0} @Value (@Value.ref 71)), (@Option.none.{0} @Value), (@Option.some.{0} @Value (@Value.str (@Str.ofString "BadPlace") 268)), (@Option.some.{0} @Value (@Value.str (@Str.ofString "BadPlace") 276)), (@Option.some.{0} @Value (@Value.builtin "ValueError.__new__")), (@Option.some.{0} @Value (@Value.bool @Bool.true))]))
def m81 : Obj := (@Obj.mk (@Value.type "super") (@Option.none.{0} @Nat) (@Data.fields (@List.toArray.{0} @Value [(@Value.ref 80), (@Value.ref 80), (@Value.ref 80)])) (@List.toArray.{0} (@Option.{0} @Value) []))
def m82 : Obj := (@Obj.mk (@Value.type "builtin_function_or_method") (@Option.none.{0} @Nat) (@Data.fields (@List.toArray.{0} @Value [(@Value.builtin "object.__init_subclass__"), (@Value.ref 80)])) (@List.toArray.{0} (@Option.{0} @Value) []))
def m83 : Obj := (@Obj.mk (@Value.type "tuple") (@Option.none.{0} @Nat) (@Data.seq (@List.toArray.{0} @Value [(@Value.ref 24)]) 0) (@List.toArray.{0} (@Option.{0} @Value) []))
def m84 : Obj := (@Obj.mk (@Value.type "builtin_function_or_method") (@Option.none.{0} @Nat) (@Data.fields (@List.toArray.{0} @Value [(@Value.builtin "type.__prepare__"), (@Value.type "type")])) (@List.toArray.{0} (@Option.{0} @Value) []))
def m85 (P : Params) : Obj := (@Obj.mk (@Value.type "dict") (@Option.none.{0} @Nat) (@Data.dict (@List.toArray.{0} @DictEntry [(@DictEntry.mk (@PyData.keyHash P (@Str.ofString "__module__")) (@Value.str (@Str.ofString "__module__") 291) (@Value.str (@Str.ofString "stopanywhere.errors") 187)), (@DictEntry.mk (@PyData.keyHash P (@Str.ofString "__qualname__")) (@Value.str (@Str.ofString "__qualname__") 293) (@Value.str (@Str.ofString "BadNames") 292)), (@DictEntry.mk (@PyData.keyHash P (@Str.ofString "__firstlineno__")) (@Value.str (@Str.ofString "__firstlineno__") 295) (@Value.int (@OfNat.ofNat.{0} @Int (nat_lit 16) (@instOfNat (nat_lit 16))) 294)), (@DictEntry.mk (@PyData.keyHash P (@Str.ofString "__static_attributes__")) (@Value.str (@Str.ofString "__static_attributes__") 296) (@Value.ref 90))]) 4) (@List.toArray.{0} (@Option.{0} @Value) []))
def m86 : Obj := (@Obj.mk (@Value.type "tuple") (@Option.none.{0} @Nat) (@Data.seq (@List.toArray.{0} @Value []) 0) (@List.toArray.{0} (@Option.{0} @Value) []))
def m87 : Obj := (@Obj.mk @Value.none (@Option.none.{0} @Nat) (@Data.fields (@List.toArray.{0} @Value [])) (@List.toArray.{0} (@Option.{0} @Value) []))
def m88 : Obj := (@Obj.mk (@Value.type "code") (@Option.none.{0} @Nat) (@Data.fields (@List.toArray.{0} @Value [(@Value.str (@Str.ofString "BadNames") 286), (@Value.str (@Str.ofString "BadNames") 287), (@Value.str (@Str.ofString "/claim/cut.py") 288), (@Value.int (@OfNat.ofNat.{0} @Int (nat_lit 16) (@instOfNat (nat_lit 16))) 0), (@Value.int (@OfNat.ofNat.{0} @Int (nat_lit 0) (@instOfNat (nat_lit 0))) 0), (@Value.int (@OfNat.ofNat.{0} @Int (nat_lit 0) (@instOfNat (nat_lit 0))) 0), (@Value.int (@OfNat.ofNat.{0} @Int (nat_lit 0) (@instOfNat (nat_lit 0))) 0), (@Value.int (@OfNat.ofNat.{0} @Int (nat_lit 0) (@instOfNat (nat_lit 0))) 0), (@Value.ref 86), (@Value.bool @Bool.false), (@Value.int (@OfNat.ofNat.{0} @Int (nat_lit 181) (@instOfNat (nat_lit 181))) 0), (@Value.ref 87), @Value.none, @Value.none, @Value.none, @Value.none, (@Value.int (@OfNat.ofNat.{0} @Int (nat_lit 289) (@instOfNat (nat_lit 289))) 0), (@Value.int (@OfNat.ofNat.{0} @Int (nat_lit 16) (@instOfNat (nat_lit 16))) 0), (@Value.str (@Str.ofString "/claim/cut.py") 290)])) (@List.toArray.{0} (@Option.{0} @Value) []))
def m89 : Obj := (@Obj.mk (@Value.type "frame") (@Option.none.{0} @Nat) @Data.plain (@List.toArray.{0} (@Option.{0} @Value) [(@Option.some.{0} @Value (@Value.ref 88)), (@Option.some.{0} @Value (@Value.ref 3)), (@Option.some.{0} @Value (@Value.ref 85)), (@Option.none.{0} @Value), (@Option.some.{0} @Value (@Value.str (@Str.ofString "stopanywhere.errors") 187)), (@Option.none.{0} @Value), (@Option.some.{0} @Value (@Value.ref 0))]))
def m90 : Obj := (@Obj.mk (@Value.type "tuple") (@Option.none.{0} @Nat) (@Data.seq (@List.toArray.{0} @Value []) 0) (@List.toArray.{0} (@Option.{0} @Value) []))
def m91 (P : Params) : Obj := (@Obj.mk (@Value.type "dict") (@Option.none.{0} @Nat) (@Data.dict (@List.toArray.{0} @DictEntry [(@DictEntry.mk (@PyData.keyHash P (@Str.ofString "__module__")) (@Value.str (@Str.ofString "__module__") 291) (@Value.str (@Str.ofString "stopanywhere.errors") 187)), (@DictEntry.mk (@PyData.keyHash P (@Str.ofString "__firstlineno__")) (@Value.str (@Str.ofString "__firstlineno__") 295) (@Value.int (@OfNat.ofNat.{0} @Int (nat_lit 16) (@instOfNat (nat_lit 16))) 294)), (@DictEntry.mk (@PyData.keyHash P (@Str.ofString "__static_attributes__")) (@Value.str (@Str.ofString "__static_attributes__") 296) (@Value.ref 90)), (@DictEntry.mk (@PyData.keyHash P (@Str.ofString "__doc__")) (@Value.str (@Str.ofString "__doc__") 297) @Value.none)]) 2) (@List.toArray.{0} (@Option.{0} @Value) []))
def m92 : Obj := (@Obj.mk (@Value.type "type") (@Option.none.{0} @Nat) (@Data.cls (@ClassData.mk (@Str.ofString "BadNames") [(@Value.ref 24)] [(@Value.ref 92), (@Value.ref 24), (@Value.type "ValueError"), (@Value.type "Exception"), (@Value.type "BaseException"), (@Value.type "object")] 91 (@Str.ofString "BadNames") @Bool.true [] [] @Bool.false (@Option.none.{0} @Bool) @Bool.false)) (@List.toArray.{0} (@Option.{0} @Value) [(@Option.some.{0} @Value (@Value.ref 83)), (@Option.none.{0} @Value), (@Option.some.{0} @Value (@Value.str (@Str.ofString "BadNames") 284)), (@Option.some.{0} @Value (@Value.str (@Str.ofString "BadNames") 292)), (@Option.some.{0} @Value (@Value.builtin "ValueError.__new__")), (@Option.some.{0} @Value (@Value.bool @Bool.true))]))
def m93 : Obj := (@Obj.mk (@Value.type "super") (@Option.none.{0} @Nat) (@Data.fields (@List.toArray.{0} @Value [(@Value.ref 92), (@Value.ref 92), (@Value.ref 92)])) (@List.toArray.{0} (@Option.{0} @Value) []))
def m94 : Obj := (@Obj.mk (@Value.type "builtin_function_or_method") (@Option.none.{0} @Nat) (@Data.fields (@List.toArray.{0} @Value [(@Value.builtin "object.__init_subclass__"), (@Value.ref 92)])) (@List.toArray.{0} (@Option.{0} @Value) []))
def m95 : Obj := (@Obj.mk (@Value.type "tuple") (@Option.none.{0} @Nat) (@Data.seq (@List.toArray.{0} @Value [(@Value.ref 24)]) 0) (@List.toArray.{0} (@Option.{0} @Value) []))
def m96 : Obj := (@Obj.mk (@Value.type "builtin_function_or_method") (@Option.none.{0} @Nat) (@Data.fields (@List.toArray.{0} @Value [(@Value.builtin "type.__prepare__"), (@Value.type "type")])) (@List.toArray.{0} (@Option.{0} @Value) []))
def m97 (P : Params) : Obj := (@Obj.mk (@Value.type "dict") (@Option.none.{0} @Nat) (@Data.dict (@List.toArray.{0} @DictEntry [(@DictEntry.mk (@PyData.keyHash P (@Str.ofString "__module__")) (@Value.str (@Str.ofString "__module__") 307) (@Value.str (@Str.ofString "stopanywhere.errors") 187)), (@DictEntry.mk (@PyData.keyHash P (@Str.ofString "__qualname__")) (@Value.str (@Str.ofString "__qualname__") 309) (@Value.str (@Str.ofString "BadTexts") 308)), (@DictEntry.mk (@PyData.keyHash P (@Str.ofString "__firstlineno__")) (@Value.str (@Str.ofString "__firstlineno__") 311) (@Value.int (@OfNat.ofNat.{0} @Int (nat_lit 18) (@instOfNat (nat_lit 18))) 310)), (@DictEntry.mk (@PyData.keyHash P (@Str.ofString "__static_attributes__")) (@Value.str (@Str.ofString "__static_attributes__") 312) (@Value.ref 102))]) 4) (@List.toArray.{0} (@Option.{0} @Value) []))
def m98 : Obj := (@Obj.mk (@Value.type "tuple") (@Option.none.{0} @Nat) (@Data.seq (@List.toArray.{0} @Value []) 0) (@List.toArray.{0} (@Option.{0} @Value) []))
def m99 : Obj := (@Obj.mk @Value.none (@Option.none.{0} @Nat) (@Data.fields (@List.toArray.{0} @Value [])) (@List.toArray.{0} (@Option.{0} @Value) []))
def m100 : Obj := (@Obj.mk (@Value.type "code") (@Option.none.{0} @Nat) (@Data.fields (@List.toArray.{0} @Value [(@Value.str (@Str.ofString "BadTexts") 302), (@Value.str (@Str.ofString "BadTexts") 303), (@Value.str (@Str.ofString "/claim/cut.py") 304), (@Value.int (@OfNat.ofNat.{0} @Int (nat_lit 18) (@instOfNat (nat_lit 18))) 0), (@Value.int (@OfNat.ofNat.{0} @Int (nat_lit 0) (@instOfNat (nat_lit 0))) 0), (@Value.int (@OfNat.ofNat.{0} @Int (nat_lit 0) (@instOfNat (nat_lit 0))) 0), (@Value.int (@OfNat.ofNat.{0} @Int (nat_lit 0) (@instOfNat (nat_lit 0))) 0), (@Value.int (@OfNat.ofNat.{0} @Int (nat_lit 0) (@instOfNat (nat_lit 0))) 0), (@Value.ref 98), (@Value.bool @Bool.false), (@Value.int (@OfNat.ofNat.{0} @Int (nat_lit 181) (@instOfNat (nat_lit 181))) 0), (@Value.ref 99), @Value.none, @Value.none, @Value.none, @Value.none, (@Value.int (@OfNat.ofNat.{0} @Int (nat_lit 305) (@instOfNat (nat_lit 305))) 0), (@Value.int (@OfNat.ofNat.{0} @Int (nat_lit 18) (@instOfNat (nat_lit 18))) 0), (@Value.str (@Str.ofString "/claim/cut.py") 306)])) (@List.toArray.{0} (@Option.{0} @Value) []))
def m101 : Obj := (@Obj.mk (@Value.type "frame") (@Option.none.{0} @Nat) @Data.plain (@List.toArray.{0} (@Option.{0} @Value) [(@Option.some.{0} @Value (@Value.ref 100)), (@Option.some.{0} @Value (@Value.ref 3)), (@Option.some.{0} @Value (@Value.ref 97)), (@Option.none.{0} @Value), (@Option.some.{0} @Value (@Value.str (@Str.ofString "stopanywhere.errors") 187)), (@Option.none.{0} @Value), (@Option.some.{0} @Value (@Value.ref 0))]))
def m102 : Obj := (@Obj.mk (@Value.type "tuple") (@Option.none.{0} @Nat) (@Data.seq (@List.toArray.{0} @Value []) 0) (@List.toArray.{0} (@Option.{0} @Value) []))
def m103 (P : Params) : Obj := (@Obj.mk (@Value.type "dict") (@Option.none.{0} @Nat) (@Data.dict (@List.toArray.{0} @DictEntry [(@DictEntry.mk (@PyData.keyHash P (@Str.ofString "__module__")) (@Value.str (@Str.ofString "__module__") 307) (@Value.str (@Str.ofString "stopanywhere.errors") 187)), (@DictEntry.mk (@PyData.keyHash P (@Str.ofString "__firstlineno__")) (@Value.str (@Str.ofString "__firstlineno__") 311) (@Value.int (@OfNat.ofNat.{0} @Int (nat_lit 18) (@instOfNat (nat_lit 18))) 310)), (@DictEntry.mk (@PyData.keyHash P (@Str.ofString "__static_attributes__")) (@Value.str (@Str.ofString "__static_attributes__") 312) (@Value.ref 102)), (@DictEntry.mk (@PyData.keyHash P (@Str.ofString "__doc__")) (@Value.str (@Str.ofString "__doc__") 313) @Value.none)]) 2) (@List.toArray.{0} (@Option.{0} @Value) []))
def m104 : Obj := (@Obj.mk (@Value.type "type") (@Option.none.{0} @Nat) (@Data.cls (@ClassData.mk (@Str.ofString "BadTexts") [(@Value.ref 24)] [(@Value.ref 104), (@Value.ref 24), (@Value.type "ValueError"), (@Value.type "Exception"), (@Value.type "BaseException"), (@Value.type "object")] 103 (@Str.ofString "BadTexts") @Bool.true [] [] @Bool.false (@Option.none.{0} @Bool) @Bool.false)) (@List.toArray.{0} (@Option.{0} @Value) [(@Option.some.{0} @Value (@Value.ref 95)), (@Option.none.{0} @Value), (@Option.some.{0} @Value (@Value.str (@Str.ofString "BadTexts") 300)), (@Option.some.{0} @Value (@Value.str (@Str.ofString "BadTexts") 308)), (@Option.some.{0} @Value (@Value.builtin "ValueError.__new__")), (@Option.some.{0} @Value (@Value.bool @Bool.true))]))
def m105 : Obj := (@Obj.mk (@Value.type "super") (@Option.none.{0} @Nat) (@Data.fields (@List.toArray.{0} @Value [(@Value.ref 104), (@Value.ref 104), (@Value.ref 104)])) (@List.toArray.{0} (@Option.{0} @Value) []))
def m106 : Obj := (@Obj.mk (@Value.type "builtin_function_or_method") (@Option.none.{0} @Nat) (@Data.fields (@List.toArray.{0} @Value [(@Value.builtin "object.__init_subclass__"), (@Value.ref 104)])) (@List.toArray.{0} (@Option.{0} @Value) []))
def m107 : Obj := (@Obj.mk (@Value.type "tuple") (@Option.none.{0} @Nat) (@Data.seq (@List.toArray.{0} @Value [(@Value.ref 24)]) 0) (@List.toArray.{0} (@Option.{0} @Value) []))
def m108 : Obj := (@Obj.mk (@Value.type "builtin_function_or_method") (@Option.none.{0} @Nat) (@Data.fields (@List.toArray.{0} @Value [(@Value.builtin "type.__prepare__"), (@Value.type "type")])) (@List.toArray.{0} (@Option.{0} @Value) []))
def m109 (P : Params) : Obj := (@Obj.mk (@Value.type "dict") (@Option.none.{0} @Nat) (@Data.dict (@List.toArray.{0} @DictEntry [(@DictEntry.mk (@PyData.keyHash P (@Str.ofString "__module__")) (@Value.str (@Str.ofString "__module__") 323) (@Value.str (@Str.ofString "stopanywhere.errors") 187)), (@DictEntry.mk (@PyData.keyHash P (@Str.ofString "__qualname__")) (@Value.str (@Str.ofString "__qualname__") 325) (@Value.str (@Str.ofString "BadName") 324)), (@DictEntry.mk (@PyData.keyHash P (@Str.ofString "__firstlineno__")) (@Value.str (@Str.ofString "__firstlineno__") 327) (@Value.int (@OfNat.ofNat.{0} @Int (nat_lit 20) (@instOfNat (nat_lit 20))) 326)), (@DictEntry.mk (@PyData.keyHash P (@Str.ofString "__static_attributes__")) (@Value.str (@Str.ofString "__static_attributes__") 328) (@Value.ref 114))]) 4) (@List.toArray.{0} (@Option.{0} @Value) []))
def m110 : Obj := (@Obj.mk (@Value.type "tuple") (@Option.none.{0} @Nat) (@Data.seq (@List.toArray.{0} @Value []) 0) (@List.toArray.{0} (@Option.{0} @Value) []))
def m111 : Obj := (@Obj.mk @Value.none (@Option.none.{0} @Nat) (@Data.fields (@List.toArray.{0} @Value [])) (@List.toArray.{0} (@Option.{0} @Value) []))
def m112 : Obj := (@Obj.mk (@Value.type "code") (@Option.none.{0} @Nat) (@Data.fields (@List.toArray.{0} @Value [(@Value.str (@Str.ofString "BadName") 318), (@Value.str (@Str.ofString "BadName") 319), (@Value.str (@Str.ofString "/claim/cut.py") 320), (@Value.int (@OfNat.ofNat.{0} @Int (nat_lit 20) (@instOfNat (nat_lit 20))) 0), (@Value.int (@OfNat.ofNat.{0} @Int (nat_lit 0) (@instOfNat (nat_lit 0))) 0), (@Value.int (@OfNat.ofNat.{0} @Int (nat_lit 0) (@instOfNat (nat_lit 0))) 0), (@Value.int (@OfNat.ofNat.{0} @Int (nat_lit 0) (@instOfNat (nat_lit 0))) 0), (@Value.int (@OfNat.ofNat.{0} @Int (nat_lit 0) (@instOfNat (nat_lit 0))) 0), (@Value.ref 110), (@Value.bool @Bool.false), (@Value.int (@OfNat.ofNat.{0} @Int (nat_lit 181) (@instOfNat (nat_lit 181))) 0), (@Value.ref 111), @Value.none, @Value.none, @Value.none, @Value.none, (@Value.int (@OfNat.ofNat.{0} @Int (nat_lit 321) (@instOfNat (nat_lit 321))) 0), (@Value.int (@OfNat.ofNat.{0} @Int (nat_lit 20) (@instOfNat (nat_lit 20))) 0), (@Value.str (@Str.ofString "/claim/cut.py") 322)])) (@List.toArray.{0} (@Option.{0} @Value) []))
def m113 : Obj := (@Obj.mk (@Value.type "frame") (@Option.none.{0} @Nat) @Data.plain (@List.toArray.{0} (@Option.{0} @Value) [(@Option.some.{0} @Value (@Value.ref 112)), (@Option.some.{0} @Value (@Value.ref 3)), (@Option.some.{0} @Value (@Value.ref 109)), (@Option.none.{0} @Value), (@Option.some.{0} @Value (@Value.str (@Str.ofString "stopanywhere.errors") 187)), (@Option.none.{0} @Value), (@Option.some.{0} @Value (@Value.ref 0))]))
def m114 : Obj := (@Obj.mk (@Value.type "tuple") (@Option.none.{0} @Nat) (@Data.seq (@List.toArray.{0} @Value []) 0) (@List.toArray.{0} (@Option.{0} @Value) []))
def m115 (P : Params) : Obj := (@Obj.mk (@Value.type "dict") (@Option.none.{0} @Nat) (@Data.dict (@List.toArray.{0} @DictEntry [(@DictEntry.mk (@PyData.keyHash P (@Str.ofString "__module__")) (@Value.str (@Str.ofString "__module__") 323) (@Value.str (@Str.ofString "stopanywhere.errors") 187)), (@DictEntry.mk (@PyData.keyHash P (@Str.ofString "__firstlineno__")) (@Value.str (@Str.ofString "__firstlineno__") 327) (@Value.int (@OfNat.ofNat.{0} @Int (nat_lit 20) (@instOfNat (nat_lit 20))) 326)), (@DictEntry.mk (@PyData.keyHash P (@Str.ofString "__static_attributes__")) (@Value.str (@Str.ofString "__static_attributes__") 328) (@Value.ref 114)), (@DictEntry.mk (@PyData.keyHash P (@Str.ofString "__doc__")) (@Value.str (@Str.ofString "__doc__") 329) @Value.none)]) 2) (@List.toArray.{0} (@Option.{0} @Value) []))
def m116 : Obj := (@Obj.mk (@Value.type "type") (@Option.none.{0} @Nat) (@Data.cls (@ClassData.mk (@Str.ofString "BadName") [(@Value.ref 24)] [(@Value.ref 116), (@Value.ref 24), (@Value.type "ValueError"), (@Value.type "Exception"), (@Value.type "BaseException"), (@Value.type "object")] 115 (@Str.ofString "BadName") @Bool.true [] [] @Bool.false (@Option.none.{0} @Bool) @Bool.false)) (@List.toArray.{0} (@Option.{0} @Value) [(@Option.some.{0} @Value (@Value.ref 107)), (@Option.none.{0} @Value), (@Option.some.{0} @Value (@Value.str (@Str.ofString "BadName") 316)), (@Option.some.{0} @Value (@Value.str (@Str.ofString "BadName") 324)), (@Option.some.{0} @Value (@Value.builtin "ValueError.__new__")), (@Option.some.{0} @Value (@Value.bool @Bool.true))]))
def m117 : Obj := (@Obj.mk (@Value.type "super") (@Option.none.{0} @Nat) (@Data.fields (@List.toArray.{0} @Value [(@Value.ref 116), (@Value.ref 116), (@Value.ref 116)])) (@List.toArray.{0} (@Option.{0} @Value) []))
def m118 : Obj := (@Obj.mk (@Value.type "builtin_function_or_method") (@Option.none.{0} @Nat) (@Data.fields (@List.toArray.{0} @Value [(@Value.builtin "object.__init_subclass__"), (@Value.ref 116)])) (@List.toArray.{0} (@Option.{0} @Value) []))
def m119 : Obj := (@Obj.mk (@Value.type "tuple") (@Option.none.{0} @Nat) (@Data.seq (@List.toArray.{0} @Value [(@Value.ref 24)]) 0) (@List.toArray.{0} (@Option.{0} @Value) []))
def m120 : Obj := (@Obj.mk (@Value.type "builtin_function_or_method") (@Option.none.{0} @Nat) (@Data.fields (@List.toArray.{0} @Value [(@Value.builtin "type.__prepare__"), (@Value.type "type")])) (@List.toArray.{0} (@Option.{0} @Value) []))
def m121 (P : Params) : Obj := (@Obj.mk (@Value.type "dict") (@Option.none.{0} @Nat) (@Data.dict (@List.toArray.{0} @DictEntry [(@DictEntry.mk (@PyData.keyHash P (@Str.ofString "__module__")) (@Value.str (@Str.ofString "__module__") 339) (@Value.str (@Str.ofString "stopanywhere.errors") 187)), (@DictEntry.mk (@PyData.keyHash P (@Str.ofString "__qualname__")) (@Value.str (@Str.ofString "__qualname__") 341) (@Value.str (@Str.ofString "BadCount") 340)), (@DictEntry.mk (@PyData.keyHash P (@Str.ofString "__firstlineno__")) (@Value.str (@Str.ofString "__firstlineno__") 343) (@Value.int (@OfNat.ofNat.{0} @Int (nat_lit 22) (@instOfNat (nat_lit 22))) 342)), (@DictEntry.mk (@PyData.keyHash P (@Str.ofString "__init__")) (@Value.str (@Str.ofString "__init__") 351) (@Value.ref 132)), (@DictEntry.mk (@PyData.keyHash P (@Str.ofString "__static_attributes__")) (@Value.str (@Str.ofString "__static_attributes__") 353) (@Value.ref 133))]) 5) (@List.toArray.{0} (@Option.{0} @Value) []))
def m122 : Obj := (@Obj.mk (@Value.type "tuple") (@Option.none.{0} @Nat) (@Data.seq (@List.toArray.{0} @Value []) 0) (@List.toArray.{0} (@Option.{0} @Value) []))
def m123 : Obj := (@Obj.mk @Value.none (@Option.none.{0} @Nat) (@Data.fields (@List.toArray.{0} @Value [(@Value.int (@OfNat.ofNat.{0} @Int (nat_lit 24) (@instOfNat (nat_lit 24))) 0), (@Value.int (@OfNat.ofNat.{0} @Int (nat_lit 4) (@instOfNat (nat_lit 4))) 0), (@Value.ref 131)])) (@List.toArray.{0} (@Option.{0} @Value) []))
def m124 : Obj := (@Obj.mk (@Value.type "code") (@Option.none.{0} @Nat) (@Data.fields (@List.toArray.{0} @Value [(@Value.str (@Str.ofString "BadCount") 334), (@Value.str (@Str.ofString "BadCount") 335), (@Value.str (@Str.ofString "/claim/cut.py") 336), (@Value.int (@OfNat.ofNat.{0} @Int (nat_lit 22) (@instOfNat (nat_lit 22))) 0), (@Value.int (@OfNat.ofNat.{0} @Int (nat_lit 0) (@instOfNat (nat_lit 0))) 0), (@Value.int (@OfNat.ofNat.{0} @Int (nat_lit 0) (@instOfNat (nat_lit 0))) 0), (@Value.int (@OfNat.ofNat.{0} @Int (nat_lit 0) (@instOfNat (nat_lit 0))) 0), (@Value.int (@OfNat.ofNat.{0} @Int (nat_lit 0) (@instOfNat (nat_lit 0))) 0), (@Value.ref 122), (@Value.bool @Bool.false), (@Value.int (@OfNat.ofNat.{0} @Int (nat_lit 181) (@instOfNat (nat_lit 181))) 0), (@Value.ref 123), @Value.none, @Value.none, @Value.none, @Value.none, (@Value.int (@OfNat.ofNat.{0} @Int (nat_lit 337) (@instOfNat (nat_lit 337))) 0), (@Value.int (@OfNat.ofNat.{0} @Int (nat_lit 22) (@instOfNat (nat_lit 22))) 0), (@Value.str (@Str.ofString "/claim/cut.py") 338)])) (@List.toArray.{0} (@Option.{0} @Value) []))
def m125 : Obj := (@Obj.mk (@Value.type "frame") (@Option.none.{0} @Nat) @Data.plain (@List.toArray.{0} (@Option.{0} @Value) [(@Option.some.{0} @Value (@Value.ref 124)), (@Option.some.{0} @Value (@Value.ref 3)), (@Option.some.{0} @Value (@Value.ref 121)), (@Option.none.{0} @Value), (@Option.some.{0} @Value (@Value.str (@Str.ofString "stopanywhere.errors") 187)), (@Option.none.{0} @Value), (@Option.some.{0} @Value (@Value.ref 0))]))
def m126 : Obj := (@Obj.mk (@Value.type "tuple") (@Option.none.{0} @Nat) (@Data.seq (@List.toArray.{0} @Value []) 0) (@List.toArray.{0} (@Option.{0} @Value) []))
def m127 : Obj := (@Obj.mk @Value.none (@Option.none.{0} @Nat) (@Data.fields (@List.toArray.{0} @Value [])) (@List.toArray.{0} (@Option.{0} @Value) []))
def m128 : Obj := (@Obj.mk (@Value.type "tuple") (@Option.none.{0} @Nat) (@Data.seq (@List.toArray.{0} @Value [(@Value.str (@Str.ofString "self") 347), (@Value.str (@Str.ofString "count") 348)]) 0) (@List.toArray.{0} (@Option.{0} @Value) []))
def m129 : Obj := (@Obj.mk (@Value.type "tuple") (@Option.none.{0} @Nat) (@Data.seq (@List.toArray.{0} @Value []) 0) (@List.toArray.{0} (@Option.{0} @Value) []))
def m130 : Obj := (@Obj.mk @Value.none (@Option.none.{0} @Nat) (@Data.func (@FuncData.mk (@Str.ofString "__init__") (@Str.ofString "BadCount.__init__") (@Arguments.mk [] [(@Arg.mk (@Str.ofString "self") (@Option.none.{0} @Expr) (@Pos.mk 24 17 24 21)), (@Arg.mk (@Str.ofString "count") (@Option.none.{0} @Expr) (@Pos.mk 24 23 24 28))] (@Option.none.{0} @Arg) [] [] (@Option.none.{0} @Arg) []) (@FuncBody.stmts [(@Stmt.Assign [(@Expr.Attribute (@Expr.Name (@Str.ofString "self") (@Pos.mk 25 8 25 12)) (@Str.ofString "count") (@Pos.mk 25 8 25 18))] (@Expr.Name (@Str.ofString "count") (@Pos.mk 25 21 25 26)) (@Pos.mk 25 8 25 26))]) (@Scope.mk @ScopeKind.function [(@Prod.mk.{0, 0} @Str @NameKind (@Str.ofString "self") @NameKind.local), (@Prod.mk.{0, 0} @Str @NameKind (@Str.ofString "count") @NameKind.local)] @Bool.false @Bool.false []) 0 [] @Value.none @Value.none @Value.none @Value.none (@Option.none.{0} @Nat) @Value.none @Value.none 0)) (@List.toArray.{0} (@Option.{0} @Value) []))
def m131 : Obj := (@Obj.mk (@Value.type "code") (@Option.none.{0} @Nat) (@Data.fields (@List.toArray.{0} @Value [(@Value.str (@Str.ofString "__init__") 344), (@Value.str (@Str.ofString "BadCount.__init__") 345), (@Value.str (@Str.ofString "/claim/cut.py") 346), (@Value.int (@OfNat.ofNat.{0} @Int (nat_lit 24) (@instOfNat (nat_lit 24))) 0), (@Value.int (@OfNat.ofNat.{0} @Int (nat_lit 2) (@instOfNat (nat_lit 2))) 0), (@Value.int (@OfNat.ofNat.{0} @Int (nat_lit 0) (@instOfNat (nat_lit 0))) 0), (@Value.int (@OfNat.ofNat.{0} @Int (nat_lit 0) (@instOfNat (nat_lit 0))) 0), (@Value.int (@OfNat.ofNat.{0} @Int (nat_lit 3) (@instOfNat (nat_lit 3))) 0), (@Value.ref 126), (@Value.bool @Bool.true), (@Value.int (@OfNat.ofNat.{0} @Int (nat_lit 181) (@instOfNat (nat_lit 181))) 0), (@Value.ref 127), @Value.none, (@Value.ref 128), (@Value.ref 129), (@Value.ref 130), (@Value.int (@OfNat.ofNat.{0} @Int (nat_lit 349) (@instOfNat (nat_lit 349))) 0), (@Value.int (@OfNat.ofNat.{0} @Int (nat_lit 24) (@instOfNat (nat_lit 24))) 0), (@Value.str (@Str.ofString "/claim/cut.py") 350)])) (@List.toArray.{0} (@Option.{0} @Value) []))
def m132 : Obj := (@Obj.mk (@Value.type "function") (@Option.none.{0} @Nat) (@Data.func (@FuncData.mk (@Str.ofString "__init__") (@Str.ofString "BadCount.__init__") (@Arguments.mk [] [(@Arg.mk (@Str.ofString "self") (@Option.none.{0} @Expr) (@Pos.mk 24 17 24 21)), (@Arg.mk (@Str.ofString "count") (@Option.none.{0} @Expr) (@Pos.mk 24 23 24 28))] (@Option.none.{0} @Arg) [] [] (@Option.none.{0} @Arg) []) (@FuncBody.stmts [(@Stmt.Assign [(@Expr.Attribute (@Expr.Name (@Str.ofString "self") (@Pos.mk 25 8 25 12)) (@Str.ofString "count") (@Pos.mk 25 8 25 18))] (@Expr.Name (@Str.ofString "count") (@Pos.mk 25 21 25 26)) (@Pos.mk 25 8 25 26))]) (@Scope.mk @ScopeKind.function [(@Prod.mk.{0, 0} @Str @NameKind (@Str.ofString "self") @NameKind.local), (@Prod.mk.{0, 0} @Str @NameKind (@Str.ofString "count") @NameKind.local)] @Bool.false @Bool.false []) 3 [] @Value.none @Value.none @Value.none (@Value.str (@Str.ofString "stopanywhere.errors") 187) (@Option.none.{0} @Nat) (@Value.ref 131) @Value.none 0)) (@List.toArray.{0} (@Option.{0} @Value) []))
def m133 : Obj := (@Obj.mk (@Value.type "tuple") (@Option.none.{0} @Nat) (@Data.seq (@List.toArray.{0} @Value [(@Value.str (@Str.ofString "count") 352)]) 0) (@List.toArray.{0} (@Option.{0} @Value) []))
def m134 (P : Params) : Obj := (@Obj.mk (@Value.type "dict") (@Option.none.{0} @Nat) (@Data.dict (@List.toArray.{0} @DictEntry [(@DictEntry.mk (@PyData.keyHash P (@Str.ofString "__module__")) (@Value.str (@Str.ofString "__module__") 339) (@Value.str (@Str.ofString "stopanywhere.errors") 187)), (@DictEntry.mk (@PyData.keyHash P (@Str.ofString "__firstlineno__")) (@Value.str (@Str.ofString "__firstlineno__") 343) (@Value.int (@OfNat.ofNat.{0} @Int (nat_lit 22) (@instOfNat (nat_lit 22))) 342)), (@DictEntry.mk (@PyData.keyHash P (@Str.ofString "__init__")) (@Value.str (@Str.ofString "__init__") 351) (@Value.ref 132)), (@DictEntry.mk (@PyData.keyHash P (@Str.ofString "__static_attributes__")) (@Value.str (@Str.ofString "__static_attributes__") 353) (@Value.ref 133)), (@DictEntry.mk (@PyData.keyHash P (@Str.ofString "__doc__")) (@Value.str (@Str.ofString "__doc__") 354) @Value.none)]) 2) (@List.toArray.{0} (@Option.{0} @Value) []))
def m135 : Obj := (@Obj.mk (@Value.type "type") (@Option.none.{0} @Nat) (@Data.cls (@ClassData.mk (@Str.ofString "BadCount") [(@Value.ref 24)] [(@Value.ref 135), (@Value.ref 24), (@Value.type "ValueError"), (@Value.type "Exception"), (@Value.type "BaseException"), (@Value.type "object")] 134 (@Str.ofString "BadCount") @Bool.true [] [] @Bool.false (@Option.none.{0} @Bool) @Bool.false)) (@List.toArray.{0} (@Option.{0} @Value) [(@Option.some.{0} @Value (@Value.ref 119)), (@Option.none.{0} @Value), (@Option.some.{0} @Value (@Value.str (@Str.ofString "BadCount") 332)), (@Option.some.{0} @Value (@Value.str (@Str.ofString "BadCount") 340)), (@Option.some.{0} @Value (@Value.builtin "ValueError.__new__")), (@Option.some.{0} @Value (@Value.bool @Bool.true))]))
def m136 : Obj := (@Obj.mk (@Value.type "super") (@Option.none.{0} @Nat) (@Data.fields (@List.toArray.{0} @Value [(@Value.ref 135), (@Value.ref 135), (@Value.ref 135)])) (@List.toArray.{0} (@Option.{0} @Value) []))
def m137 : Obj := (@Obj.mk (@Value.type "builtin_function_or_method") (@Option.none.{0} @Nat) (@Data.fields (@List.toArray.{0} @Value [(@Value.builtin "object.__init_subclass__"), (@Value.ref 135)])) (@List.toArray.{0} (@Option.{0} @Value) []))
def m138 : Obj := (@Obj.mk (@Value.type "tuple") (@Option.none.{0} @Nat) (@Data.seq (@List.toArray.{0} @Value [(@Value.ref 24)]) 0) (@List.toArray.{0} (@Option.{0} @Value) []))
def m139 : Obj := (@Obj.mk (@Value.type "builtin_function_or_method") (@Option.none.{0} @Nat) (@Data.fields (@List.toArray.{0} @Value [(@Value.builtin "type.__prepare__"), (@Value.type "type")])) (@List.toArray.{0} (@Option.{0} @Value) []))
def m140 (P : Params) : Obj := (@Obj.mk (@Value.type "dict") (@Option.none.{0} @Nat) (@Data.dict (@List.toArray.{0} @DictEntry [(@DictEntry.mk (@PyData.keyHash P (@Str.ofString "__module__")) (@Value.str (@Str.ofString "__module__") 364) (@Value.str (@Str.ofString "stopanywhere.errors") 187)), (@DictEntry.mk (@PyData.keyHash P (@Str.ofString "__qualname__")) (@Value.str (@Str.ofString "__qualname__") 366) (@Value.str (@Str.ofString "BadUnit") 365)), (@DictEntry.mk (@PyData.keyHash P (@Str.ofString "__firstlineno__")) (@Value.str (@Str.ofString "__firstlineno__") 368) (@Value.int (@OfNat.ofNat.{0} @Int (nat_lit 26) (@instOfNat (nat_lit 26))) 367)), (@DictEntry.mk (@PyData.keyHash P (@Str.ofString "__static_attributes__")) (@Value.str (@Str.ofString "__static_attributes__") 369) (@Value.ref 145))]) 4) (@List.toArray.{0} (@Option.{0} @Value) []))
def m141 : Obj := (@Obj.mk (@Value.type "tuple") (@Option.none.{0} @Nat) (@Data.seq (@List.toArray.{0} @Value []) 0) (@List.toArray.{0} (@Option.{0} @Value) []))
def m142 : Obj := (@Obj.mk @Value.none (@Option.none.{0} @Nat) (@Data.fields (@List.toArray.{0} @Value [])) (@List.toArray.{0} (@Option.{0} @Value) []))
def m143 : Obj := (@Obj.mk (@Value.type "code") (@Option.none.{0} @Nat) (@Data.fields (@List.toArray.{0} @Value [(@Value.str (@Str.ofString "BadUnit") 359), (@Value.str (@Str.ofString "BadUnit") 360), (@Value.str (@Str.ofString "/claim/cut.py") 361), (@Value.int (@OfNat.ofNat.{0} @Int (nat_lit 26) (@instOfNat (nat_lit 26))) 0), (@Value.int (@OfNat.ofNat.{0} @Int (nat_lit 0) (@instOfNat (nat_lit 0))) 0), (@Value.int (@OfNat.ofNat.{0} @Int (nat_lit 0) (@instOfNat (nat_lit 0))) 0), (@Value.int (@OfNat.ofNat.{0} @Int (nat_lit 0) (@instOfNat (nat_lit 0))) 0), (@Value.int (@OfNat.ofNat.{0} @Int (nat_lit 0) (@instOfNat (nat_lit 0))) 0), (@Value.ref 141), (@Value.bool @Bool.false), (@Value.int (@OfNat.ofNat.{0} @Int (nat_lit 181) (@instOfNat (nat_lit 181))) 0), (@Value.ref 142), @Value.none, @Value.none, @Value.none, @Value.none, (@Value.int (@OfNat.ofNat.{0} @Int (nat_lit 362) (@instOfNat (nat_lit 362))) 0), (@Value.int (@OfNat.ofNat.{0} @Int (nat_lit 26) (@instOfNat (nat_lit 26))) 0), (@Value.str (@Str.ofString "/claim/cut.py") 363)])) (@List.toArray.{0} (@Option.{0} @Value) []))
def m144 : Obj := (@Obj.mk (@Value.type "frame") (@Option.none.{0} @Nat) @Data.plain (@List.toArray.{0} (@Option.{0} @Value) [(@Option.some.{0} @Value (@Value.ref 143)), (@Option.some.{0} @Value (@Value.ref 3)), (@Option.some.{0} @Value (@Value.ref 140)), (@Option.none.{0} @Value), (@Option.some.{0} @Value (@Value.str (@Str.ofString "stopanywhere.errors") 187)), (@Option.none.{0} @Value), (@Option.some.{0} @Value (@Value.ref 0))]))
def m145 : Obj := (@Obj.mk (@Value.type "tuple") (@Option.none.{0} @Nat) (@Data.seq (@List.toArray.{0} @Value []) 0) (@List.toArray.{0} (@Option.{0} @Value) []))
def m146 (P : Params) : Obj := (@Obj.mk (@Value.type "dict") (@Option.none.{0} @Nat) (@Data.dict (@List.toArray.{0} @DictEntry [(@DictEntry.mk (@PyData.keyHash P (@Str.ofString "__module__")) (@Value.str (@Str.ofString "__module__") 364) (@Value.str (@Str.ofString "stopanywhere.errors") 187)), (@DictEntry.mk (@PyData.keyHash P (@Str.ofString "__firstlineno__")) (@Value.str (@Str.ofString "__firstlineno__") 368) (@Value.int (@OfNat.ofNat.{0} @Int (nat_lit 26) (@instOfNat (nat_lit 26))) 367)), (@DictEntry.mk (@PyData.keyHash P (@Str.ofString "__static_attributes__")) (@Value.str (@Str.ofString "__static_attributes__") 369) (@Value.ref 145)), (@DictEntry.mk (@PyData.keyHash P (@Str.ofString "__doc__")) (@Value.str (@Str.ofString "__doc__") 370) @Value.none)]) 2) (@List.toArray.{0} (@Option.{0} @Value) []))
def m147 : Obj := (@Obj.mk (@Value.type "type") (@Option.none.{0} @Nat) (@Data.cls (@ClassData.mk (@Str.ofString "BadUnit") [(@Value.ref 24)] [(@Value.ref 147), (@Value.ref 24), (@Value.type "ValueError"), (@Value.type "Exception"), (@Value.type "BaseException"), (@Value.type "object")] 146 (@Str.ofString "BadUnit") @Bool.true [] [] @Bool.false (@Option.none.{0} @Bool) @Bool.false)) (@List.toArray.{0} (@Option.{0} @Value) [(@Option.some.{0} @Value (@Value.ref 138)), (@Option.none.{0} @Value), (@Option.some.{0} @Value (@Value.str (@Str.ofString "BadUnit") 357)), (@Option.some.{0} @Value (@Value.str (@Str.ofString "BadUnit") 365)), (@Option.some.{0} @Value (@Value.builtin "ValueError.__new__")), (@Option.some.{0} @Value (@Value.bool @Bool.true))]))
def m148 : Obj := (@Obj.mk (@Value.type "super") (@Option.none.{0} @Nat) (@Data.fields (@List.toArray.{0} @Value [(@Value.ref 147), (@Value.ref 147), (@Value.ref 147)])) (@List.toArray.{0} (@Option.{0} @Value) []))
def m149 : Obj := (@Obj.mk (@Value.type "builtin_function_or_method") (@Option.none.{0} @Nat) (@Data.fields (@List.toArray.{0} @Value [(@Value.builtin "object.__init_subclass__"), (@Value.ref 147)])) (@List.toArray.{0} (@Option.{0} @Value) []))
def m150 : Obj := (@Obj.mk (@Value.type "tuple") (@Option.none.{0} @Nat) (@Data.seq (@List.toArray.{0} @Value [(@Value.ref 24)]) 0) (@List.toArray.{0} (@Option.{0} @Value) []))
def m151 : Obj := (@Obj.mk (@Value.type "builtin_function_or_method") (@Option.none.{0} @Nat) (@Data.fields (@List.toArray.{0} @Value [(@Value.builtin "type.__prepare__"), (@Value.type "type")])) (@List.toArray.{0} (@Option.{0} @Value) []))
def m152 (P : Params) : Obj := (@Obj.mk (@Value.type "dict") (@Option.none.{0} @Nat) (@Data.dict (@List.toArray.{0} @DictEntry [(@DictEntry.mk (@PyData.keyHash P (@Str.ofString "__module__")) (@Value.str (@Str.ofString "__module__") 380) (@Value.str (@Str.ofString "stopanywhere.errors") 187)), (@DictEntry.mk (@PyData.keyHash P (@Str.ofString "__qualname__")) (@Value.str (@Str.ofString "__qualname__") 382) (@Value.str (@Str.ofString "BadUnits") 381)), (@DictEntry.mk (@PyData.keyHash P (@Str.ofString "__firstlineno__")) (@Value.str (@Str.ofString "__firstlineno__") 384) (@Value.int (@OfNat.ofNat.{0} @Int (nat_lit 28) (@instOfNat (nat_lit 28))) 383)), (@DictEntry.mk (@PyData.keyHash P (@Str.ofString "__init__")) (@Value.str (@Str.ofString "__init__") 392) (@Value.ref 163)), (@DictEntry.mk (@PyData.keyHash P (@Str.ofString "__static_attributes__")) (@Value.str (@Str.ofString "__static_attributes__") 394) (@Value.ref 164))]) 5) (@List.toArray.{0} (@Option.{0} @Value) []))
def m153 : Obj := (@Obj.mk (@Value.type "tuple") (@Option.none.{0} @Nat) (@Data.seq (@List.toArray.{0} @Value []) 0) (@List.toArray.{0} (@Option.{0} @Value) []))
def m154 : Obj := (@Obj.mk @Value.none (@Option.none.{0} @Nat) (@Data.fields (@List.toArray.{0} @Value [(@Value.int (@OfNat.ofNat.{0} @Int (nat_lit 30) (@instOfNat (nat_lit 30))) 0), (@Value.int (@OfNat.ofNat.{0} @Int (nat_lit 4) (@instOfNat (nat_lit 4))) 0), (@Value.ref 162)])) (@List.toArray.{0} (@Option.{0} @Value) []))
def m155 : Obj := (@Obj.mk (@Value.type "code") (@Option.none.{0} @Nat) (@Data.fields (@List.toArray.{0} @Value [(@Value.str (@Str.ofString "BadUnits") 375), (@Value.str (@Str.ofString "BadUnits") 376), (@Value.str (@Str.ofString "/claim/cut.py") 377), (@Value.int (@OfNat.ofNat.{0} @Int (nat_lit 28) (@instOfNat (nat_lit 28))) 0), (@Value.int (@OfNat.ofNat.{0} @Int (nat_lit 0) (@instOfNat (nat_lit 0))) 0), (@Value.int (@OfNat.ofNat.{0} @Int (nat_lit 0) (@instOfNat (nat_lit 0))) 0), (@Value.int (@OfNat.ofNat.{0} @Int (nat_lit 0) (@instOfNat (nat_lit 0))) 0), (@Value.int (@OfNat.ofNat.{0} @Int (nat_lit 0) (@instOfNat (nat_lit 0))) 0), (@Value.ref 153), (@Value.bool @Bool.false), (@Value.int (@OfNat.ofNat.{0} @Int (nat_lit 181) (@instOfNat (nat_lit 181))) 0), (@Value.ref 154), @Value.none, @Value.none, @Value.none, @Value.none, (@Value.int (@OfNat.ofNat.{0} @Int (nat_lit 378) (@instOfNat (nat_lit 378))) 0), (@Value.int (@OfNat.ofNat.{0} @Int (nat_lit 28) (@instOfNat (nat_lit 28))) 0), (@Value.str (@Str.ofString "/claim/cut.py") 379)])) (@List.toArray.{0} (@Option.{0} @Value) []))
def m156 : Obj := (@Obj.mk (@Value.type "frame") (@Option.none.{0} @Nat) @Data.plain (@List.toArray.{0} (@Option.{0} @Value) [(@Option.some.{0} @Value (@Value.ref 155)), (@Option.some.{0} @Value (@Value.ref 3)), (@Option.some.{0} @Value (@Value.ref 152)), (@Option.none.{0} @Value), (@Option.some.{0} @Value (@Value.str (@Str.ofString "stopanywhere.errors") 187)), (@Option.none.{0} @Value), (@Option.some.{0} @Value (@Value.ref 0))]))
def m157 : Obj := (@Obj.mk (@Value.type "tuple") (@Option.none.{0} @Nat) (@Data.seq (@List.toArray.{0} @Value []) 0) (@List.toArray.{0} (@Option.{0} @Value) []))
def m158 : Obj := (@Obj.mk @Value.none (@Option.none.{0} @Nat) (@Data.fields (@List.toArray.{0} @Value [])) (@List.toArray.{0} (@Option.{0} @Value) []))
def m159 : Obj := (@Obj.mk (@Value.type "tuple") (@Option.none.{0} @Nat) (@Data.seq (@List.toArray.{0} @Value [(@Value.str (@Str.ofString "self") 388), (@Value.str (@Str.ofString "at") 389)]) 0) (@List.toArray.{0} (@Option.{0} @Value) []))
def m160 : Obj := (@Obj.mk (@Value.type "tuple") (@Option.none.{0} @Nat) (@Data.seq (@List.toArray.{0} @Value []) 0) (@List.toArray.{0} (@Option.{0} @Value) []))
def m161 : Obj := (@Obj.mk @Value.none (@Option.none.{0} @Nat) (@Data.func (@FuncData.mk (@Str.ofString "__init__") (@Str.ofString "BadUnits.__init__") (@Arguments.mk [] [(@Arg.mk (@Str.ofString "self") (@Option.none.{0} @Expr) (@Pos.mk 30 17 30 21)), (@Arg.mk (@Str.ofString "at") (@Option.none.{0} @Expr) (@Pos.mk 30 23 30 25))] (@Option.none.{0} @Arg) [] [] (@Option.none.{0} @Arg) []) (@FuncBody.stmts [(@Stmt.Assign [(@Expr.Attribute (@Expr.Name (@Str.ofString "self") (@Pos.mk 31 8 31 12)) (@Str.ofString "at") (@Pos.mk 31 8 31 15))] (@Expr.Name (@Str.ofString "at") (@Pos.mk 31 18 31 20)) (@Pos.mk 31 8 31 20))]) (@Scope.mk @ScopeKind.function [(@Prod.mk.{0, 0} @Str @NameKind (@Str.ofString "self") @NameKind.local), (@Prod.mk.{0, 0} @Str @NameKind (@Str.ofString "at") @NameKind.local)] @Bool.false @Bool.false []) 0 [] @Value.none @Value.none @Value.none @Value.none (@Option.none.{0} @Nat) @Value.none @Value.none 0)) (@List.toArray.{0} (@Option.{0} @Value) []))
def m162 : Obj := (@Obj.mk (@Value.type "code") (@Option.none.{0} @Nat) (@Data.fields (@List.toArray.{0} @Value [(@Value.str (@Str.ofString "__init__") 385), (@Value.str (@Str.ofString "BadUnits.__init__") 386), (@Value.str (@Str.ofString "/claim/cut.py") 387), (@Value.int (@OfNat.ofNat.{0} @Int (nat_lit 30) (@instOfNat (nat_lit 30))) 0), (@Value.int (@OfNat.ofNat.{0} @Int (nat_lit 2) (@instOfNat (nat_lit 2))) 0), (@Value.int (@OfNat.ofNat.{0} @Int (nat_lit 0) (@instOfNat (nat_lit 0))) 0), (@Value.int (@OfNat.ofNat.{0} @Int (nat_lit 0) (@instOfNat (nat_lit 0))) 0), (@Value.int (@OfNat.ofNat.{0} @Int (nat_lit 3) (@instOfNat (nat_lit 3))) 0), (@Value.ref 157), (@Value.bool @Bool.true), (@Value.int (@OfNat.ofNat.{0} @Int (nat_lit 181) (@instOfNat (nat_lit 181))) 0), (@Value.ref 158), @Value.none, (@Value.ref 159), (@Value.ref 160), (@Value.ref 161), (@Value.int (@OfNat.ofNat.{0} @Int (nat_lit 390) (@instOfNat (nat_lit 390))) 0), (@Value.int (@OfNat.ofNat.{0} @Int (nat_lit 30) (@instOfNat (nat_lit 30))) 0), (@Value.str (@Str.ofString "/claim/cut.py") 391)])) (@List.toArray.{0} (@Option.{0} @Value) []))
def m163 : Obj := (@Obj.mk (@Value.type "function") (@Option.none.{0} @Nat) (@Data.func (@FuncData.mk (@Str.ofString "__init__") (@Str.ofString "BadUnits.__init__") (@Arguments.mk [] [(@Arg.mk (@Str.ofString "self") (@Option.none.{0} @Expr) (@Pos.mk 30 17 30 21)), (@Arg.mk (@Str.ofString "at") (@Option.none.{0} @Expr) (@Pos.mk 30 23 30 25))] (@Option.none.{0} @Arg) [] [] (@Option.none.{0} @Arg) []) (@FuncBody.stmts [(@Stmt.Assign [(@Expr.Attribute (@Expr.Name (@Str.ofString "self") (@Pos.mk 31 8 31 12)) (@Str.ofString "at") (@Pos.mk 31 8 31 15))] (@Expr.Name (@Str.ofString "at") (@Pos.mk 31 18 31 20)) (@Pos.mk 31 8 31 20))]) (@Scope.mk @ScopeKind.function [(@Prod.mk.{0, 0} @Str @NameKind (@Str.ofString "self") @NameKind.local), (@Prod.mk.{0, 0} @Str @NameKind (@Str.ofString "at") @NameKind.local)] @Bool.false @Bool.false []) 3 [] @Value.none @Value.none @Value.none (@Value.str (@Str.ofString "stopanywhere.errors") 187) (@Option.none.{0} @Nat) (@Value.ref 162) @Value.none 0)) (@List.toArray.{0} (@Option.{0} @Value) []))
def m164 : Obj := (@Obj.mk (@Value.type "tuple") (@Option.none.{0} @Nat) (@Data.seq (@List.toArray.{0} @Value [(@Value.str (@Str.ofString "at") 393)]) 0) (@List.toArray.{0} (@Option.{0} @Value) []))
def m165 (P : Params) : Obj := (@Obj.mk (@Value.type "dict") (@Option.none.{0} @Nat) (@Data.dict (@List.toArray.{0} @DictEntry [(@DictEntry.mk (@PyData.keyHash P (@Str.ofString "__module__")) (@Value.str (@Str.ofString "__module__") 380) (@Value.str (@Str.ofString "stopanywhere.errors") 187)), (@DictEntry.mk (@PyData.keyHash P (@Str.ofString "__firstlineno__")) (@Value.str (@Str.ofString "__firstlineno__") 384) (@Value.int (@OfNat.ofNat.{0} @Int (nat_lit 28) (@instOfNat (nat_lit 28))) 383)), (@DictEntry.mk (@PyData.keyHash P (@Str.ofString "__init__")) (@Value.str (@Str.ofString "__init__") 392) (@Value.ref 163)), (@DictEntry.mk (@PyData.keyHash P (@Str.ofString "__static_attributes__")) (@Value.str (@Str.ofString "__static_attributes__") 394) (@Value.ref 164)), (@DictEntry.mk (@PyData.keyHash P (@Str.ofString "__doc__")) (@Value.str (@Str.ofString "__doc__") 395) @Value.none)]) 2) (@List.toArray.{0} (@Option.{0} @Value) []))
def m166 : Obj := (@Obj.mk (@Value.type "type") (@Option.none.{0} @Nat) (@Data.cls (@ClassData.mk (@Str.ofString "BadUnits") [(@Value.ref 24)] [(@Value.ref 166), (@Value.ref 24), (@Value.type "ValueError"), (@Value.type "Exception"), (@Value.type "BaseException"), (@Value.type "object")] 165 (@Str.ofString "BadUnits") @Bool.true [] [] @Bool.false (@Option.none.{0} @Bool) @Bool.false)) (@List.toArray.{0} (@Option.{0} @Value) [(@Option.some.{0} @Value (@Value.ref 150)), (@Option.none.{0} @Value), (@Option.some.{0} @Value (@Value.str (@Str.ofString "BadUnits") 373)), (@Option.some.{0} @Value (@Value.str (@Str.ofString "BadUnits") 381)), (@Option.some.{0} @Value (@Value.builtin "ValueError.__new__")), (@Option.some.{0} @Value (@Value.bool @Bool.true))]))
def m167 : Obj := (@Obj.mk (@Value.type "super") (@Option.none.{0} @Nat) (@Data.fields (@List.toArray.{0} @Value [(@Value.ref 166), (@Value.ref 166), (@Value.ref 166)])) (@List.toArray.{0} (@Option.{0} @Value) []))
def m168 : Obj := (@Obj.mk (@Value.type "builtin_function_or_method") (@Option.none.{0} @Nat) (@Data.fields (@List.toArray.{0} @Value [(@Value.builtin "object.__init_subclass__"), (@Value.ref 166)])) (@List.toArray.{0} (@Option.{0} @Value) []))
def m169 : Obj := (@Obj.mk (@Value.type "tuple") (@Option.none.{0} @Nat) (@Data.seq (@List.toArray.{0} @Value [(@Value.ref 24)]) 0) (@List.toArray.{0} (@Option.{0} @Value) []))
def m170 : Obj := (@Obj.mk (@Value.type "builtin_function_or_method") (@Option.none.{0} @Nat) (@Data.fields (@List.toArray.{0} @Value [(@Value.builtin "type.__prepare__"), (@Value.type "type")])) (@List.toArray.{0} (@Option.{0} @Value) []))
def m171 (P : Params) : Obj := (@Obj.mk (@Value.type "dict") (@Option.none.{0} @Nat) (@Data.dict (@List.toArray.{0} @DictEntry [(@DictEntry.mk (@PyData.keyHash P (@Str.ofString "__module__")) (@Value.str (@Str.ofString "__module__") 405) (@Value.str (@Str.ofString "stopanywhere.errors") 187)), (@DictEntry.mk (@PyData.keyHash P (@Str.ofString "__qualname__")) (@Value.str (@Str.ofString "__qualname__") 407) (@Value.str (@Str.ofString "NoUnit") 406)), (@DictEntry.mk (@PyData.keyHash P (@Str.ofString "__firstlineno__")) (@Value.str (@Str.ofString "__firstlineno__") 409) (@Value.int (@OfNat.ofNat.{0} @Int (nat_lit 32) (@instOfNat (nat_lit 32))) 408)), (@DictEntry.mk (@PyData.keyHash P (@Str.ofString "__init__")) (@Value.str (@Str.ofString "__init__") 417) (@Value.ref 182)), (@DictEntry.mk (@PyData.keyHash P (@Str.ofString "__static_attributes__")) (@Value.str (@Str.ofString "__static_attributes__") 419) (@Value.ref 183))]) 5) (@List.toArray.{0} (@Option.{0} @Value) []))
def m172 : Obj := (@Obj.mk (@Value.type "tuple") (@Option.none.{0} @Nat) (@Data.seq (@List.toArray.{0} @Value []) 0) (@List.toArray.{0} (@Option.{0} @Value) []))
def m173 : Obj := (@Obj.mk @Value.none (@Option.none.{0} @Nat) (@Data.fields (@List.toArray.{0} @Value [(@Value.int (@OfNat.ofNat.{0} @Int (nat_lit 34) (@instOfNat (nat_lit 34))) 0), (@Value.int (@OfNat.ofNat.{0} @Int (nat_lit 4) (@instOfNat (nat_lit 4))) 0), (@Value.ref 181)])) (@List.toArray.{0} (@Option.{0} @Value) []))
def m174 : Obj := (@Obj.mk (@Value.type "code") (@Option.none.{0} @Nat) (@Data.fields (@List.toArray.{0} @Value [(@Value.str (@Str.ofString "NoUnit") 400), (@Value.str (@Str.ofString "NoUnit") 401), (@Value.str (@Str.ofString "/claim/cut.py") 402), (@Value.int (@OfNat.ofNat.{0} @Int (nat_lit 32) (@instOfNat (nat_lit 32))) 0), (@Value.int (@OfNat.ofNat.{0} @Int (nat_lit 0) (@instOfNat (nat_lit 0))) 0), (@Value.int (@OfNat.ofNat.{0} @Int (nat_lit 0) (@instOfNat (nat_lit 0))) 0), (@Value.int (@OfNat.ofNat.{0} @Int (nat_lit 0) (@instOfNat (nat_lit 0))) 0), (@Value.int (@OfNat.ofNat.{0} @Int (nat_lit 0) (@instOfNat (nat_lit 0))) 0), (@Value.ref 172), (@Value.bool @Bool.false), (@Value.int (@OfNat.ofNat.{0} @Int (nat_lit 181) (@instOfNat (nat_lit 181))) 0), (@Value.ref 173), @Value.none, @Value.none, @Value.none, @Value.none, (@Value.int (@OfNat.ofNat.{0} @Int (nat_lit 403) (@instOfNat (nat_lit 403))) 0), (@Value.int (@OfNat.ofNat.{0} @Int (nat_lit 32) (@instOfNat (nat_lit 32))) 0), (@Value.str (@Str.ofString "/claim/cut.py") 404)])) (@List.toArray.{0} (@Option.{0} @Value) []))
def m175 : Obj := (@Obj.mk (@Value.type "frame") (@Option.none.{0} @Nat) @Data.plain (@List.toArray.{0} (@Option.{0} @Value) [(@Option.some.{0} @Value (@Value.ref 174)), (@Option.some.{0} @Value (@Value.ref 3)), (@Option.some.{0} @Value (@Value.ref 171)), (@Option.none.{0} @Value), (@Option.some.{0} @Value (@Value.str (@Str.ofString "stopanywhere.errors") 187)), (@Option.none.{0} @Value), (@Option.some.{0} @Value (@Value.ref 0))]))
def m176 : Obj := (@Obj.mk (@Value.type "tuple") (@Option.none.{0} @Nat) (@Data.seq (@List.toArray.{0} @Value []) 0) (@List.toArray.{0} (@Option.{0} @Value) []))
def m177 : Obj := (@Obj.mk @Value.none (@Option.none.{0} @Nat) (@Data.fields (@List.toArray.{0} @Value [])) (@List.toArray.{0} (@Option.{0} @Value) []))
def m178 : Obj := (@Obj.mk (@Value.type "tuple") (@Option.none.{0} @Nat) (@Data.seq (@List.toArray.{0} @Value [(@Value.str (@Str.ofString "self") 413), (@Value.str (@Str.ofString "name") 414)]) 0) (@List.toArray.{0} (@Option.{0} @Value) []))
def m179 : Obj := (@Obj.mk (@Value.type "tuple") (@Option.none.{0} @Nat) (@Data.seq (@List.toArray.{0} @Value []) 0) (@List.toArray.{0} (@Option.{0} @Value) []))
def m180 : Obj := (@Obj.mk @Value.none (@Option.none.{0} @Nat) (@Data.func (@FuncData.mk (@Str.ofString "__init__") (@Str.ofString "NoUnit.__init__") (@Arguments.mk [] [(@Arg.mk (@Str.ofString "self") (@Option.none.{0} @Expr) (@Pos.mk 34 17 34 21)), (@Arg.mk (@Str.ofString "name") (@Option.none.{0} @Expr) (@Pos.mk 34 23 34 27))] (@Option.none.{0} @Arg) [] [] (@Option.none.{0} @Arg) []) (@FuncBody.stmts [(@Stmt.Assign [(@Expr.Attribute (@Expr.Name (@Str.ofString "self") (@Pos.mk 35 8 35 12)) (@Str.ofString "name") (@Pos.mk 35 8 35 17))] (@Expr.Name (@Str.ofString "name") (@Pos.mk 35 20 35 24)) (@Pos.mk 35 8 35 24))]) (@Scope.mk @ScopeKind.function [(@Prod.mk.{0, 0} @Str @NameKind (@Str.ofString "self") @NameKind.local), (@Prod.mk.{0, 0} @Str @NameKind (@Str.ofString "name") @NameKind.local)] @Bool.false @Bool.false []) 0 [] @Value.none @Value.none @Value.none @Value.none (@Option.none.{0} @Nat) @Value.none @Value.none 0)) (@List.toArray.{0} (@Option.{0} @Value) []))
def m181 : Obj := (@Obj.mk (@Value.type "code") (@Option.none.{0} @Nat) (@Data.fields (@List.toArray.{0} @Value [(@Value.str (@Str.ofString "__init__") 410), (@Value.str (@Str.ofString "NoUnit.__init__") 411), (@Value.str (@Str.ofString "/claim/cut.py") 412), (@Value.int (@OfNat.ofNat.{0} @Int (nat_lit 34) (@instOfNat (nat_lit 34))) 0), (@Value.int (@OfNat.ofNat.{0} @Int (nat_lit 2) (@instOfNat (nat_lit 2))) 0), (@Value.int (@OfNat.ofNat.{0} @Int (nat_lit 0) (@instOfNat (nat_lit 0))) 0), (@Value.int (@OfNat.ofNat.{0} @Int (nat_lit 0) (@instOfNat (nat_lit 0))) 0), (@Value.int (@OfNat.ofNat.{0} @Int (nat_lit 3) (@instOfNat (nat_lit 3))) 0), (@Value.ref 176), (@Value.bool @Bool.true), (@Value.int (@OfNat.ofNat.{0} @Int (nat_lit 181) (@instOfNat (nat_lit 181))) 0), (@Value.ref 177), @Value.none, (@Value.ref 178), (@Value.ref 179), (@Value.ref 180), (@Value.int (@OfNat.ofNat.{0} @Int (nat_lit 415) (@instOfNat (nat_lit 415))) 0), (@Value.int (@OfNat.ofNat.{0} @Int (nat_lit 34) (@instOfNat (nat_lit 34))) 0), (@Value.str (@Str.ofString "/claim/cut.py") 416)])) (@List.toArray.{0} (@Option.{0} @Value) []))
def m182 : Obj := (@Obj.mk (@Value.type "function") (@Option.none.{0} @Nat) (@Data.func (@FuncData.mk (@Str.ofString "__init__") (@Str.ofString "NoUnit.__init__") (@Arguments.mk [] [(@Arg.mk (@Str.ofString "self") (@Option.none.{0} @Expr) (@Pos.mk 34 17 34 21)), (@Arg.mk (@Str.ofString "name") (@Option.none.{0} @Expr) (@Pos.mk 34 23 34 27))] (@Option.none.{0} @Arg) [] [] (@Option.none.{0} @Arg) []) (@FuncBody.stmts [(@Stmt.Assign [(@Expr.Attribute (@Expr.Name (@Str.ofString "self") (@Pos.mk 35 8 35 12)) (@Str.ofString "name") (@Pos.mk 35 8 35 17))] (@Expr.Name (@Str.ofString "name") (@Pos.mk 35 20 35 24)) (@Pos.mk 35 8 35 24))]) (@Scope.mk @ScopeKind.function [(@Prod.mk.{0, 0} @Str @NameKind (@Str.ofString "self") @NameKind.local), (@Prod.mk.{0, 0} @Str @NameKind (@Str.ofString "name") @NameKind.local)] @Bool.false @Bool.false []) 3 [] @Value.none @Value.none @Value.none (@Value.str (@Str.ofString "stopanywhere.errors") 187) (@Option.none.{0} @Nat) (@Value.ref 181) @Value.none 0)) (@List.toArray.{0} (@Option.{0} @Value) []))
def m183 : Obj := (@Obj.mk (@Value.type "tuple") (@Option.none.{0} @Nat) (@Data.seq (@List.toArray.{0} @Value [(@Value.str (@Str.ofString "name") 418)]) 0) (@List.toArray.{0} (@Option.{0} @Value) []))
def m184 (P : Params) : Obj := (@Obj.mk (@Value.type "dict") (@Option.none.{0} @Nat) (@Data.dict (@List.toArray.{0} @DictEntry [(@DictEntry.mk (@PyData.keyHash P (@Str.ofString "__module__")) (@Value.str (@Str.ofString "__module__") 405) (@Value.str (@Str.ofString "stopanywhere.errors") 187)), (@DictEntry.mk (@PyData.keyHash P (@Str.ofString "__firstlineno__")) (@Value.str (@Str.ofString "__firstlineno__") 409) (@Value.int (@OfNat.ofNat.{0} @Int (nat_lit 32) (@instOfNat (nat_lit 32))) 408)), (@DictEntry.mk (@PyData.keyHash P (@Str.ofString "__init__")) (@Value.str (@Str.ofString "__init__") 417) (@Value.ref 182)), (@DictEntry.mk (@PyData.keyHash P (@Str.ofString "__static_attributes__")) (@Value.str (@Str.ofString "__static_attributes__") 419) (@Value.ref 183)), (@DictEntry.mk (@PyData.keyHash P (@Str.ofString "__doc__")) (@Value.str (@Str.ofString "__doc__") 420) @Value.none)]) 2) (@List.toArray.{0} (@Option.{0} @Value) []))
def m185 : Obj := (@Obj.mk (@Value.type "type") (@Option.none.{0} @Nat) (@Data.cls (@ClassData.mk (@Str.ofString "NoUnit") [(@Value.ref 24)] [(@Value.ref 185), (@Value.ref 24), (@Value.type "ValueError"), (@Value.type "Exception"), (@Value.type "BaseException"), (@Value.type "object")] 184 (@Str.ofString "NoUnit") @Bool.true [] [] @Bool.false (@Option.none.{0} @Bool) @Bool.false)) (@List.toArray.{0} (@Option.{0} @Value) [(@Option.some.{0} @Value (@Value.ref 169)), (@Option.none.{0} @Value), (@Option.some.{0} @Value (@Value.str (@Str.ofString "NoUnit") 398)), (@Option.some.{0} @Value (@Value.str (@Str.ofString "NoUnit") 406)), (@Option.some.{0} @Value (@Value.builtin "ValueError.__new__")), (@Option.some.{0} @Value (@Value.bool @Bool.true))]))
def m186 : Obj := (@Obj.mk (@Value.type "super") (@Option.none.{0} @Nat) (@Data.fields (@List.toArray.{0} @Value [(@Value.ref 185), (@Value.ref 185), (@Value.ref 185)])) (@List.toArray.{0} (@Option.{0} @Value) []))
def m187 : Obj := (@Obj.mk (@Value.type "builtin_function_or_method") (@Option.none.{0} @Nat) (@Data.fields (@List.toArray.{0} @Value [(@Value.builtin "object.__init_subclass__"), (@Value.ref 185)])) (@List.toArray.{0} (@Option.{0} @Value) []))
def m188 : Obj := (@Obj.mk (@Value.type "tuple") (@Option.none.{0} @Nat) (@Data.seq (@List.toArray.{0} @Value [(@Value.ref 24)]) 0) (@List.toArray.{0} (@Option.{0} @Value) []))
def m189 : Obj := (@Obj.mk (@Value.type "builtin_function_or_method") (@Option.none.{0} @Nat) (@Data.fields (@List.toArray.{0} @Value [(@Value.builtin "type.__prepare__"), (@Value.type "type")])) (@List.toArray.{0} (@Option.{0} @Value) []))
def m190 (P : Params) : Obj := (@Obj.mk (@Value.type "dict") (@Option.none.{0} @Nat) (@Data.dict (@List.toArray.{0} @DictEntry [(@DictEntry.mk (@PyData.keyHash P (@Str.ofString "__module__")) (@Value.str (@Str.ofString "__module__") 430) (@Value.str (@Str.ofString "stopanywhere.errors") 187)), (@DictEntry.mk (@PyData.keyHash P (@Str.ofString "__qualname__")) (@Value.str (@Str.ofString "__qualname__") 432) (@Value.str (@Str.ofString "UsesRing") 431)), (@DictEntry.mk (@PyData.keyHash P (@Str.ofString "__firstlineno__")) (@Value.str (@Str.ofString "__firstlineno__") 434) (@Value.int (@OfNat.ofNat.{0} @Int (nat_lit 36) (@instOfNat (nat_lit 36))) 433)), (@DictEntry.mk (@PyData.keyHash P (@Str.ofString "__init__")) (@Value.str (@Str.ofString "__init__") 442) (@Value.ref 201)), (@DictEntry.mk (@PyData.keyHash P (@Str.ofString "__static_attributes__")) (@Value.str (@Str.ofString "__static_attributes__") 444) (@Value.ref 202))]) 5) (@List.toArray.{0} (@Option.{0} @Value) []))
def m191 : Obj := (@Obj.mk (@Value.type "tuple") (@Option.none.{0} @Nat) (@Data.seq (@List.toArray.{0} @Value []) 0) (@List.toArray.{0} (@Option.{0} @Value) []))
def m192 : Obj := (@Obj.mk @Value.none (@Option.none.{0} @Nat) (@Data.fields (@List.toArray.{0} @Value [(@Value.int (@OfNat.ofNat.{0} @Int (nat_lit 38) (@instOfNat (nat_lit 38))) 0), (@Value.int (@OfNat.ofNat.{0} @Int (nat_lit 4) (@instOfNat (nat_lit 4))) 0), (@Value.ref 200)])) (@List.toArray.{0} (@Option.{0} @Value) []))
def m193 : Obj := (@Obj.mk (@Value.type "code") (@Option.none.{0} @Nat) (@Data.fields (@List.toArray.{0} @Value [(@Value.str (@Str.ofString "UsesRing") 425), (@Value.str (@Str.ofString "UsesRing") 426), (@Value.str (@Str.ofString "/claim/cut.py") 427), (@Value.int (@OfNat.ofNat.{0} @Int (nat_lit 36) (@instOfNat (nat_lit 36))) 0), (@Value.int (@OfNat.ofNat.{0} @Int (nat_lit 0) (@instOfNat (nat_lit 0))) 0), (@Value.int (@OfNat.ofNat.{0} @Int (nat_lit 0) (@instOfNat (nat_lit 0))) 0), (@Value.int (@OfNat.ofNat.{0} @Int (nat_lit 0) (@instOfNat (nat_lit 0))) 0), (@Value.int (@OfNat.ofNat.{0} @Int (nat_lit 0) (@instOfNat (nat_lit 0))) 0), (@Value.ref 191), (@Value.bool @Bool.false), (@Value.int (@OfNat.ofNat.{0} @Int (nat_lit 181) (@instOfNat (nat_lit 181))) 0), (@Value.ref 192), @Value.none, @Value.none, @Value.none, @Value.none, (@Value.int (@OfNat.ofNat.{0} @Int (nat_lit 428) (@instOfNat (nat_lit 428))) 0), (@Value.int (@OfNat.ofNat.{0} @Int (nat_lit 36) (@instOfNat (nat_lit 36))) 0), (@Value.str (@Str.ofString "/claim/cut.py") 429)])) (@List.toArray.{0} (@Option.{0} @Value) []))
def m194 : Obj := (@Obj.mk (@Value.type "frame") (@Option.none.{0} @Nat) @Data.plain (@List.toArray.{0} (@Option.{0} @Value) [(@Option.some.{0} @Value (@Value.ref 193)), (@Option.some.{0} @Value (@Value.ref 3)), (@Option.some.{0} @Value (@Value.ref 190)), (@Option.none.{0} @Value), (@Option.some.{0} @Value (@Value.str (@Str.ofString "stopanywhere.errors") 187)), (@Option.none.{0} @Value), (@Option.some.{0} @Value (@Value.ref 0))]))
def m195 : Obj := (@Obj.mk (@Value.type "tuple") (@Option.none.{0} @Nat) (@Data.seq (@List.toArray.{0} @Value []) 0) (@List.toArray.{0} (@Option.{0} @Value) []))
def m196 : Obj := (@Obj.mk @Value.none (@Option.none.{0} @Nat) (@Data.fields (@List.toArray.{0} @Value [])) (@List.toArray.{0} (@Option.{0} @Value) []))
def m197 : Obj := (@Obj.mk (@Value.type "tuple") (@Option.none.{0} @Nat) (@Data.seq (@List.toArray.{0} @Value [(@Value.str (@Str.ofString "self") 438), (@Value.str (@Str.ofString "ring") 439)]) 0) (@List.toArray.{0} (@Option.{0} @Value) []))
def m198 : Obj := (@Obj.mk (@Value.type "tuple") (@Option.none.{0} @Nat) (@Data.seq (@List.toArray.{0} @Value []) 0) (@List.toArray.{0} (@Option.{0} @Value) []))
def m199 : Obj := (@Obj.mk @Value.none (@Option.none.{0} @Nat) (@Data.func (@FuncData.mk (@Str.ofString "__init__") (@Str.ofString "UsesRing.__init__") (@Arguments.mk [] [(@Arg.mk (@Str.ofString "self") (@Option.none.{0} @Expr) (@Pos.mk 38 17 38 21)), (@Arg.mk (@Str.ofString "ring") (@Option.none.{0} @Expr) (@Pos.mk 38 23 38 27))] (@Option.none.{0} @Arg) [] [] (@Option.none.{0} @Arg) []) (@FuncBody.stmts [(@Stmt.Assign [(@Expr.Attribute (@Expr.Name (@Str.ofString "self") (@Pos.mk 39 8 39 12)) (@Str.ofString "ring") (@Pos.mk 39 8 39 17))] (@Expr.Name (@Str.ofString "ring") (@Pos.mk 39 20 39 24)) (@Pos.mk 39 8 39 24))]) (@Scope.mk @ScopeKind.function [(@Prod.mk.{0, 0} @Str @NameKind (@Str.ofString "self") @NameKind.local), (@Prod.mk.{0, 0} @Str @NameKind (@Str.ofString "ring") @NameKind.local)] @Bool.false @Bool.false []) 0 [] @Value.none @Value.none @Value.none @Value.none (@Option.none.{0} @Nat) @Value.none @Value.none 0)) (@List.toArray.{0} (@Option.{0} @Value) []))
def m200 : Obj := (@Obj.mk (@Value.type "code") (@Option.none.{0} @Nat) (@Data.fields (@List.toArray.{0} @Value [(@Value.str (@Str.ofString "__init__") 435), (@Value.str (@Str.ofString "UsesRing.__init__") 436), (@Value.str (@Str.ofString "/claim/cut.py") 437), (@Value.int (@OfNat.ofNat.{0} @Int (nat_lit 38) (@instOfNat (nat_lit 38))) 0), (@Value.int (@OfNat.ofNat.{0} @Int (nat_lit 2) (@instOfNat (nat_lit 2))) 0), (@Value.int (@OfNat.ofNat.{0} @Int (nat_lit 0) (@instOfNat (nat_lit 0))) 0), (@Value.int (@OfNat.ofNat.{0} @Int (nat_lit 0) (@instOfNat (nat_lit 0))) 0), (@Value.int (@OfNat.ofNat.{0} @Int (nat_lit 3) (@instOfNat (nat_lit 3))) 0), (@Value.ref 195), (@Value.bool @Bool.true), (@Value.int (@OfNat.ofNat.{0} @Int (nat_lit 181) (@instOfNat (nat_lit 181))) 0), (@Value.ref 196), @Value.none, (@Value.ref 197), (@Value.ref 198), (@Value.ref 199), (@Value.int (@OfNat.ofNat.{0} @Int (nat_lit 440) (@instOfNat (nat_lit 440))) 0), (@Value.int (@OfNat.ofNat.{0} @Int (nat_lit 38) (@instOfNat (nat_lit 38))) 0), (@Value.str (@Str.ofString "/claim/cut.py") 441)])) (@List.toArray.{0} (@Option.{0} @Value) []))
def m201 : Obj := (@Obj.mk (@Value.type "function") (@Option.none.{0} @Nat) (@Data.func (@FuncData.mk (@Str.ofString "__init__") (@Str.ofString "UsesRing.__init__") (@Arguments.mk [] [(@Arg.mk (@Str.ofString "self") (@Option.none.{0} @Expr) (@Pos.mk 38 17 38 21)), (@Arg.mk (@Str.ofString "ring") (@Option.none.{0} @Expr) (@Pos.mk 38 23 38 27))] (@Option.none.{0} @Arg) [] [] (@Option.none.{0} @Arg) []) (@FuncBody.stmts [(@Stmt.Assign [(@Expr.Attribute (@Expr.Name (@Str.ofString "self") (@Pos.mk 39 8 39 12)) (@Str.ofString "ring") (@Pos.mk 39 8 39 17))] (@Expr.Name (@Str.ofString "ring") (@Pos.mk 39 20 39 24)) (@Pos.mk 39 8 39 24))]) (@Scope.mk @ScopeKind.function [(@Prod.mk.{0, 0} @Str @NameKind (@Str.ofString "self") @NameKind.local), (@Prod.mk.{0, 0} @Str @NameKind (@Str.ofString "ring") @NameKind.local)] @Bool.false @Bool.false []) 3 [] @Value.none @Value.none @Value.none (@Value.str (@Str.ofString "stopanywhere.errors") 187) (@Option.none.{0} @Nat) (@Value.ref 200) @Value.none 0)) (@List.toArray.{0} (@Option.{0} @Value) []))
def m202 : Obj := (@Obj.mk (@Value.type "tuple") (@Option.none.{0} @Nat) (@Data.seq (@List.toArray.{0} @Value [(@Value.str (@Str.ofString "ring") 443)]) 0) (@List.toArray.{0} (@Option.{0} @Value) []))
def m203 (P : Params) : Obj := (@Obj.mk (@Value.type "dict") (@Option.none.{0} @Nat) (@Data.dict (@List.toArray.{0} @DictEntry [(@DictEntry.mk (@PyData.keyHash P (@Str.ofString "__module__")) (@Value.str (@Str.ofString "__module__") 430) (@Value.str (@Str.ofString "stopanywhere.errors") 187)), (@DictEntry.mk (@PyData.keyHash P (@Str.ofString "__firstlineno__")) (@Value.str (@Str.ofString "__firstlineno__") 434) (@Value.int (@OfNat.ofNat.{0} @Int (nat_lit 36) (@instOfNat (nat_lit 36))) 433)), (@DictEntry.mk (@PyData.keyHash P (@Str.ofString "__init__")) (@Value.str (@Str.ofString "__init__") 442) (@Value.ref 201)), (@DictEntry.mk (@PyData.keyHash P (@Str.ofString "__static_attributes__")) (@Value.str (@Str.ofString "__static_attributes__") 444) (@Value.ref 202)), (@DictEntry.mk (@PyData.keyHash P (@Str.ofString "__doc__")) (@Value.str (@Str.ofString "__doc__") 445) @Value.none)]) 2) (@List.toArray.{0} (@Option.{0} @Value) []))
def m204 : Obj := (@Obj.mk (@Value.type "type") (@Option.none.{0} @Nat) (@Data.cls (@ClassData.mk (@Str.ofString "UsesRing") [(@Value.ref 24)] [(@Value.ref 204), (@Value.ref 24), (@Value.type "ValueError"), (@Value.type "Exception"), (@Value.type "BaseException"), (@Value.type "object")] 203 (@Str.ofString "UsesRing") @Bool.true [] [] @Bool.false (@Option.none.{0} @Bool) @Bool.false)) (@List.toArray.{0} (@Option.{0} @Value) [(@Option.some.{0} @Value (@Value.ref 188)), (@Option.none.{0} @Value), (@Option.some.{0} @Value (@Value.str (@Str.ofString "UsesRing") 423)), (@Option.some.{0} @Value (@Value.str (@Str.ofString "UsesRing") 431)), (@Option.some.{0} @Value (@Value.builtin "ValueError.__new__")), (@Option.some.{0} @Value (@Value.bool @Bool.true))]))
def m205 : Obj := (@Obj.mk (@Value.type "super") (@Option.none.{0} @Nat) (@Data.fields (@List.toArray.{0} @Value [(@Value.ref 204), (@Value.ref 204), (@Value.ref 204)])) (@List.toArray.{0} (@Option.{0} @Value) []))
def m206 : Obj := (@Obj.mk (@Value.type "builtin_function_or_method") (@Option.none.{0} @Nat) (@Data.fields (@List.toArray.{0} @Value [(@Value.builtin "object.__init_subclass__"), (@Value.ref 204)])) (@List.toArray.{0} (@Option.{0} @Value) []))
def m207 : Obj := (@Obj.mk (@Value.type "tuple") (@Option.none.{0} @Nat) (@Data.seq (@List.toArray.{0} @Value [(@Value.ref 24)]) 0) (@List.toArray.{0} (@Option.{0} @Value) []))
def m208 : Obj := (@Obj.mk (@Value.type "builtin_function_or_method") (@Option.none.{0} @Nat) (@Data.fields (@List.toArray.{0} @Value [(@Value.builtin "type.__prepare__"), (@Value.type "type")])) (@List.toArray.{0} (@Option.{0} @Value) []))
def m209 (P : Params) : Obj := (@Obj.mk (@Value.type "dict") (@Option.none.{0} @Nat) (@Data.dict (@List.toArray.{0} @DictEntry [(@DictEntry.mk (@PyData.keyHash P (@Str.ofString "__module__")) (@Value.str (@Str.ofString "__module__") 455) (@Value.str (@Str.ofString "stopanywhere.errors") 187)), (@DictEntry.mk (@PyData.keyHash P (@Str.ofString "__qualname__")) (@Value.str (@Str.ofString "__qualname__") 457) (@Value.str (@Str.ofString "BadFaces") 456)), (@DictEntry.mk (@PyData.keyHash P (@Str.ofString "__firstlineno__")) (@Value.str (@Str.ofString "__firstlineno__") 459) (@Value.int (@OfNat.ofNat.{0} @Int (nat_lit 40) (@instOfNat (nat_lit 40))) 458)), (@DictEntry.mk (@PyData.keyHash P (@Str.ofString "__static_attributes__")) (@Value.str (@Str.ofString "__static_attributes__") 460) (@Value.ref 214))]) 4) (@List.toArray.{0} (@Option.{0} @Value) []))
def m210 : Obj := (@Obj.mk (@Value.type "tuple") (@Option.none.{0} @Nat) (@Data.seq (@List.toArray.{0} @Value []) 0) (@List.toArray.{0} (@Option.{0} @Value) []))
def m211 : Obj := (@Obj.mk @Value.none (@Option.none.{0} @Nat) (@Data.fields (@List.toArray.{0} @Value [])) (@List.toArray.{0} (@Option.{0} @Value) []))
def m212 : Obj := (@Obj.mk (@Value.type "code") (@Option.none.{0} @Nat) (@Data.fields (@List.toArray.{0} @Value [(@Value.str (@Str.ofString "BadFaces") 450), (@Value.str (@Str.ofString "BadFaces") 451), (@Value.str (@Str.ofString "/claim/cut.py") 452), (@Value.int (@OfNat.ofNat.{0} @Int (nat_lit 40) (@instOfNat (nat_lit 40))) 0), (@Value.int (@OfNat.ofNat.{0} @Int (nat_lit 0) (@instOfNat (nat_lit 0))) 0), (@Value.int (@OfNat.ofNat.{0} @Int (nat_lit 0) (@instOfNat (nat_lit 0))) 0), (@Value.int (@OfNat.ofNat.{0} @Int (nat_lit 0) (@instOfNat (nat_lit 0))) 0), (@Value.int (@OfNat.ofNat.{0} @Int (nat_lit 0) (@instOfNat (nat_lit 0))) 0), (@Value.ref 210), (@Value.bool @Bool.false), (@Value.int (@OfNat.ofNat.{0} @Int (nat_lit 181) (@instOfNat (nat_lit 181))) 0), (@Value.ref 211), @Value.none, @Value.none, @Value.none, @Value.none, (@Value.int (@OfNat.ofNat.{0} @Int (nat_lit 453) (@instOfNat (nat_lit 453))) 0), (@Value.int (@OfNat.ofNat.{0} @Int (nat_lit 40) (@instOfNat (nat_lit 40))) 0), (@Value.str (@Str.ofString "/claim/cut.py") 454)])) (@List.toArray.{0} (@Option.{0} @Value) []))
def m213 : Obj := (@Obj.mk (@Value.type "frame") (@Option.none.{0} @Nat) @Data.plain (@List.toArray.{0} (@Option.{0} @Value) [(@Option.some.{0} @Value (@Value.ref 212)), (@Option.some.{0} @Value (@Value.ref 3)), (@Option.some.{0} @Value (@Value.ref 209)), (@Option.none.{0} @Value), (@Option.some.{0} @Value (@Value.str (@Str.ofString "stopanywhere.errors") 187)), (@Option.none.{0} @Value), (@Option.some.{0} @Value (@Value.ref 0))]))
def m214 : Obj := (@Obj.mk (@Value.type "tuple") (@Option.none.{0} @Nat) (@Data.seq (@List.toArray.{0} @Value []) 0) (@List.toArray.{0} (@Option.{0} @Value) []))
def m215 (P : Params) : Obj := (@Obj.mk (@Value.type "dict") (@Option.none.{0} @Nat) (@Data.dict (@List.toArray.{0} @DictEntry [(@DictEntry.mk (@PyData.keyHash P (@Str.ofString "__module__")) (@Value.str (@Str.ofString "__module__") 455) (@Value.str (@Str.ofString "stopanywhere.errors") 187)), (@DictEntry.mk (@PyData.keyHash P (@Str.ofString "__firstlineno__")) (@Value.str (@Str.ofString "__firstlineno__") 459) (@Value.int (@OfNat.ofNat.{0} @Int (nat_lit 40) (@instOfNat (nat_lit 40))) 458)), (@DictEntry.mk (@PyData.keyHash P (@Str.ofString "__static_attributes__")) (@Value.str (@Str.ofString "__static_attributes__") 460) (@Value.ref 214)), (@DictEntry.mk (@PyData.keyHash P (@Str.ofString "__doc__")) (@Value.str (@Str.ofString "__doc__") 461) @Value.none)]) 2) (@List.toArray.{0} (@Option.{0} @Value) []))
def m216 : Obj := (@Obj.mk (@Value.type "type") (@Option.none.{0} @Nat) (@Data.cls (@ClassData.mk (@Str.ofString "BadFaces") [(@Value.ref 24)] [(@Value.ref 216), (@Value.ref 24), (@Value.type "ValueError"), (@Value.type "Exception"), (@Value.type "BaseException"), (@Value.type "object")] 215 (@Str.ofString "BadFaces") @Bool.true [] [] @Bool.false (@Option.none.{0} @Bool) @Bool.false)) (@List.toArray.{0} (@Option.{0} @Value) [(@Option.some.{0} @Value (@Value.ref 207)), (@Option.none.{0} @Value), (@Option.some.{0} @Value (@Value.str (@Str.ofString "BadFaces") 448)), (@Option.some.{0} @Value (@Value.str (@Str.ofString "BadFaces") 456)), (@Option.some.{0} @Value (@Value.builtin "ValueError.__new__")), (@Option.some.{0} @Value (@Value.bool @Bool.true))]))
def m217 : Obj := (@Obj.mk (@Value.type "super") (@Option.none.{0} @Nat) (@Data.fields (@List.toArray.{0} @Value [(@Value.ref 216), (@Value.ref 216), (@Value.ref 216)])) (@List.toArray.{0} (@Option.{0} @Value) []))
def m218 : Obj := (@Obj.mk (@Value.type "builtin_function_or_method") (@Option.none.{0} @Nat) (@Data.fields (@List.toArray.{0} @Value [(@Value.builtin "object.__init_subclass__"), (@Value.ref 216)])) (@List.toArray.{0} (@Option.{0} @Value) []))
def m219 : Obj := (@Obj.mk (@Value.type "tuple") (@Option.none.{0} @Nat) (@Data.seq (@List.toArray.{0} @Value [(@Value.ref 24)]) 0) (@List.toArray.{0} (@Option.{0} @Value) []))
def m220 : Obj := (@Obj.mk (@Value.type "builtin_function_or_method") (@Option.none.{0} @Nat) (@Data.fields (@List.toArray.{0} @Value [(@Value.builtin "type.__prepare__"), (@Value.type "type")])) (@List.toArray.{0} (@Option.{0} @Value) []))
def m221 (P : Params) : Obj := (@Obj.mk (@Value.type "dict") (@Option.none.{0} @Nat) (@Data.dict (@List.toArray.{0} @DictEntry [(@DictEntry.mk (@PyData.keyHash P (@Str.ofString "__module__")) (@Value.str (@Str.ofString "__module__") 471) (@Value.str (@Str.ofString "stopanywhere.errors") 187)), (@DictEntry.mk (@PyData.keyHash P (@Str.ofString "__qualname__")) (@Value.str (@Str.ofString "__qualname__") 473) (@Value.str (@Str.ofString "BadPoint") 472)), (@DictEntry.mk (@PyData.keyHash P (@Str.ofString "__firstlineno__")) (@Value.str (@Str.ofString "__firstlineno__") 475) (@Value.int (@OfNat.ofNat.{0} @Int (nat_lit 42) (@instOfNat (nat_lit 42))) 474)), (@DictEntry.mk (@PyData.keyHash P (@Str.ofString "__static_attributes__")) (@Value.str (@Str.ofString "__static_attributes__") 476) (@Value.ref 226))]) 4) (@List.toArray.{0} (@Option.{0} @Value) []))
def m222 : Obj := (@Obj.mk (@Value.type "tuple") (@Option.none.{0} @Nat) (@Data.seq (@List.toArray.{0} @Value []) 0) (@List.toArray.{0} (@Option.{0} @Value) []))
def m223 : Obj := (@Obj.mk @Value.none (@Option.none.{0} @Nat) (@Data.fields (@List.toArray.{0} @Value [])) (@List.toArray.{0} (@Option.{0} @Value) []))
def m224 : Obj := (@Obj.mk (@Value.type "code") (@Option.none.{0} @Nat) (@Data.fields (@List.toArray.{0} @Value [(@Value.str (@Str.ofString "BadPoint") 466), (@Value.str (@Str.ofString "BadPoint") 467), (@Value.str (@Str.ofString "/claim/cut.py") 468), (@Value.int (@OfNat.ofNat.{0} @Int (nat_lit 42) (@instOfNat (nat_lit 42))) 0), (@Value.int (@OfNat.ofNat.{0} @Int (nat_lit 0) (@instOfNat (nat_lit 0))) 0), (@Value.int (@OfNat.ofNat.{0} @Int (nat_lit 0) (@instOfNat (nat_lit 0))) 0), (@Value.int (@OfNat.ofNat.{0} @Int (nat_lit 0) (@instOfNat (nat_lit 0))) 0), (@Value.int (@OfNat.ofNat.{0} @Int (nat_lit 0) (@instOfNat (nat_lit 0))) 0), (@Value.ref 222), (@Value.bool @Bool.false), (@Value.int (@OfNat.ofNat.{0} @Int (nat_lit 181) (@instOfNat (nat_lit 181))) 0), (@Value.ref 223), @Value.none, @Value.none, @Value.none, @Value.none, (@Value.int (@OfNat.ofNat.{0} @Int (nat_lit 469) (@instOfNat (nat_lit 469))) 0), (@Value.int (@OfNat.ofNat.{0} @Int (nat_lit 42) (@instOfNat (nat_lit 42))) 0), (@Value.str (@Str.ofString "/claim/cut.py") 470)])) (@List.toArray.{0} (@Option.{0} @Value) []))
def m225 : Obj := (@Obj.mk (@Value.type "frame") (@Option.none.{0} @Nat) @Data.plain (@List.toArray.{0} (@Option.{0} @Value) [(@Option.some.{0} @Value (@Value.ref 224)), (@Option.some.{0} @Value (@Value.ref 3)), (@Option.some.{0} @Value (@Value.ref 221)), (@Option.none.{0} @Value), (@Option.some.{0} @Value (@Value.str (@Str.ofString "stopanywhere.errors") 187)), (@Option.none.{0} @Value), (@Option.some.{0} @Value (@Value.ref 0))]))
def m226 : Obj := (@Obj.mk (@Value.type "tuple") (@Option.none.{0} @Nat) (@Data.seq (@List.toArray.{0} @Value []) 0) (@List.toArray.{0} (@Option.{0} @Value) []))
def m227 (P : Params) : Obj := (@Obj.mk (@Value.type "dict") (@Option.none.{0} @Nat) (@Data.dict (@List.toArray.{0} @DictEntry [(@DictEntry.mk (@PyData.keyHash P (@Str.ofString "__module__")) (@Value.str (@Str.ofString "__module__") 471) (@Value.str (@Str.ofString "stopanywhere.errors") 187)), (@DictEntry.mk (@PyData.keyHash P (@Str.ofString "__firstlineno__")) (@Value.str (@Str.ofString "__firstlineno__") 475) (@Value.int (@OfNat.ofNat.{0} @Int (nat_lit 42) (@instOfNat (nat_lit 42))) 474)), (@DictEntry.mk (@PyData.keyHash P (@Str.ofString "__static_attributes__")) (@Value.str (@Str.ofString "__static_attributes__") 476) (@Value.ref 226)), (@DictEntry.mk (@PyData.keyHash P (@Str.ofString "__doc__")) (@Value.str (@Str.ofString "__doc__") 477) @Value.none)]) 2) (@List.toArray.{0} (@Option.{0} @Value) []))
def m228 : Obj := (@Obj.mk (@Value.type "type") (@Option.none.{0} @Nat) (@Data.cls (@ClassData.mk (@Str.ofString "BadPoint") [(@Value.ref 24)] [(@Value.ref 228), (@Value.ref 24), (@Value.type "ValueError"), (@Value.type "Exception"), (@Value.type "BaseException"), (@Value.type "object")] 227 (@Str.ofString "BadPoint") @Bool.true [] [] @Bool.false (@Option.none.{0} @Bool) @Bool.false)) (@List.toArray.{0} (@Option.{0} @Value) [(@Option.some.{0} @Value (@Value.ref 219)), (@Option.none.{0} @Value), (@Option.some.{0} @Value (@Value.str (@Str.ofString "BadPoint") 464)), (@Option.some.{0} @Value (@Value.str (@Str.ofString "BadPoint") 472)), (@Option.some.{0} @Value (@Value.builtin "ValueError.__new__")), (@Option.some.{0} @Value (@Value.bool @Bool.true))]))
def m229 : Obj := (@Obj.mk (@Value.type "super") (@Option.none.{0} @Nat) (@Data.fields (@List.toArray.{0} @Value [(@Value.ref 228), (@Value.ref 228), (@Value.ref 228)])) (@List.toArray.{0} (@Option.{0} @Value) []))
def m230 : Obj := (@Obj.mk (@Value.type "builtin_function_or_method") (@Option.none.{0} @Nat) (@Data.fields (@List.toArray.{0} @Value [(@Value.builtin "object.__init_subclass__"), (@Value.ref 228)])) (@List.toArray.{0} (@Option.{0} @Value) []))
def m231 : Obj := (@Obj.mk (@Value.type "tuple") (@Option.none.{0} @Nat) (@Data.seq (@List.toArray.{0} @Value [(@Value.ref 24)]) 0) (@List.toArray.{0} (@Option.{0} @Value) []))
def m232 : Obj := (@Obj.mk (@Value.type "builtin_function_or_method") (@Option.none.{0} @Nat) (@Data.fields (@List.toArray.{0} @Value [(@Value.builtin "type.__prepare__"), (@Value.type "type")])) (@List.toArray.{0} (@Option.{0} @Value) []))
def m233 (P : Params) : Obj := (@Obj.mk (@Value.type "dict") (@Option.none.{0} @Nat) (@Data.dict (@List.toArray.{0} @DictEntry [(@DictEntry.mk (@PyData.keyHash P (@Str.ofString "__module__")) (@Value.str (@Str.ofString "__module__") 487) (@Value.str (@Str.ofString "stopanywhere.errors") 187)), (@DictEntry.mk (@PyData.keyHash P (@Str.ofString "__qualname__")) (@Value.str (@Str.ofString "__qualname__") 489) (@Value.str (@Str.ofString "BadPath") 488)), (@DictEntry.mk (@PyData.keyHash P (@Str.ofString "__firstlineno__")) (@Value.str (@Str.ofString "__firstlineno__") 491) (@Value.int (@OfNat.ofNat.{0} @Int (nat_lit 44) (@instOfNat (nat_lit 44))) 490)), (@DictEntry.mk (@PyData.keyHash P (@Str.ofString "__static_attributes__")) (@Value.str (@Str.ofString "__static_attributes__") 492) (@Value.ref 238))]) 4) (@List.toArray.{0} (@Option.{0} @Value) []))
def m234 : Obj := (@Obj.mk (@Value.type "tuple") (@Option.none.{0} @Nat) (@Data.seq (@List.toArray.{0} @Value []) 0) (@List.toArray.{0} (@Option.{0} @Value) []))
def m235 : Obj := (@Obj.mk @Value.none (@Option.none.{0} @Nat) (@Data.fields (@List.toArray.{0} @Value [])) (@List.toArray.{0} (@Option.{0} @Value) []))
def m236 : Obj := (@Obj.mk (@Value.type "code") (@Option.none.{0} @Nat) (@Data.fields (@List.toArray.{0} @Value [(@Value.str (@Str.ofString "BadPath") 482), (@Value.str (@Str.ofString "BadPath") 483), (@Value.str (@Str.ofString "/claim/cut.py") 484), (@Value.int (@OfNat.ofNat.{0} @Int (nat_lit 44) (@instOfNat (nat_lit 44))) 0), (@Value.int (@OfNat.ofNat.{0} @Int (nat_lit 0) (@instOfNat (nat_lit 0))) 0), (@Value.int (@OfNat.ofNat.{0} @Int (nat_lit 0) (@instOfNat (nat_lit 0))) 0), (@Value.int (@OfNat.ofNat.{0} @Int (nat_lit 0) (@instOfNat (nat_lit 0))) 0), (@Value.int (@OfNat.ofNat.{0} @Int (nat_lit 0) (@instOfNat (nat_lit 0))) 0), (@Value.ref 234), (@Value.bool @Bool.false), (@Value.int (@OfNat.ofNat.{0} @Int (nat_lit 181) (@instOfNat (nat_lit 181))) 0), (@Value.ref 235), @Value.none, @Value.none, @Value.none, @Value.none, (@Value.int (@OfNat.ofNat.{0} @Int (nat_lit 485) (@instOfNat (nat_lit 485))) 0), (@Value.int (@OfNat.ofNat.{0} @Int (nat_lit 44) (@instOfNat (nat_lit 44))) 0), (@Value.str (@Str.ofString "/claim/cut.py") 486)])) (@List.toArray.{0} (@Option.{0} @Value) []))
def m237 : Obj := (@Obj.mk (@Value.type "frame") (@Option.none.{0} @Nat) @Data.plain (@List.toArray.{0} (@Option.{0} @Value) [(@Option.some.{0} @Value (@Value.ref 236)), (@Option.some.{0} @Value (@Value.ref 3)), (@Option.some.{0} @Value (@Value.ref 233)), (@Option.none.{0} @Value), (@Option.some.{0} @Value (@Value.str (@Str.ofString "stopanywhere.errors") 187)), (@Option.none.{0} @Value), (@Option.some.{0} @Value (@Value.ref 0))]))
def m238 : Obj := (@Obj.mk (@Value.type "tuple") (@Option.none.{0} @Nat) (@Data.seq (@List.toArray.{0} @Value []) 0) (@List.toArray.{0} (@Option.{0} @Value) []))
def m239 (P : Params) : Obj := (@Obj.mk (@Value.type "dict") (@Option.none.{0} @Nat) (@Data.dict (@List.toArray.{0} @DictEntry [(@DictEntry.mk (@PyData.keyHash P (@Str.ofString "__module__")) (@Value.str (@Str.ofString "__module__") 487) (@Value.str (@Str.ofString "stopanywhere.errors") 187)), (@DictEntry.mk (@PyData.keyHash P (@Str.ofString "__firstlineno__")) (@Value.str (@Str.ofString "__firstlineno__") 491) (@Value.int (@OfNat.ofNat.{0} @Int (nat_lit 44) (@instOfNat (nat_lit 44))) 490)), (@DictEntry.mk (@PyData.keyHash P (@Str.ofString "__static_attributes__")) (@Value.str (@Str.ofString "__static_attributes__") 492) (@Value.ref 238)), (@DictEntry.mk (@PyData.keyHash P (@Str.ofString "__doc__")) (@Value.str (@Str.ofString "__doc__") 493) @Value.none)]) 2) (@List.toArray.{0} (@Option.{0} @Value) []))
def m240 : Obj := (@Obj.mk (@Value.type "type") (@Option.none.{0} @Nat) (@Data.cls (@ClassData.mk (@Str.ofString "BadPath") [(@Value.ref 24)] [(@Value.ref 240), (@Value.ref 24), (@Value.type "ValueError"), (@Value.type "Exception"), (@Value.type "BaseException"), (@Value.type "object")] 239 (@Str.ofString "BadPath") @Bool.true [] [] @Bool.false (@Option.none.{0} @Bool) @Bool.false)) (@List.toArray.{0} (@Option.{0} @Value) [(@Option.some.{0} @Value (@Value.ref 231)), (@Option.none.{0} @Value), (@Option.some.{0} @Value (@Value.str (@Str.ofString "BadPath") 480)), (@Option.some.{0} @Value (@Value.str (@Str.ofString "BadPath") 488)), (@Option.some.{0} @Value (@Value.builtin "ValueError.__new__")), (@Option.some.{0} @Value (@Value.bool @Bool.true))]))
def m241 : Obj := (@Obj.mk (@Value.type "super") (@Option.none.{0} @Nat) (@Data.fields (@List.toArray.{0} @Value [(@Value.ref 240), (@Value.ref 240), (@Value.ref 240)])) (@List.toArray.{0} (@Option.{0} @Value) []))
def m242 : Obj := (@Obj.mk (@Value.type "builtin_function_or_method") (@Option.none.{0} @Nat) (@Data.fields (@List.toArray.{0} @Value [(@Value.builtin "object.__init_subclass__"), (@Value.ref 240)])) (@List.toArray.{0} (@Option.{0} @Value) []))
def m243 : Obj := (@Obj.mk (@Value.type "tuple") (@Option.none.{0} @Nat) (@Data.seq (@List.toArray.{0} @Value [(@Value.ref 24)]) 0) (@List.toArray.{0} (@Option.{0} @Value) []))
def m244 : Obj := (@Obj.mk (@Value.type "builtin_function_or_method") (@Option.none.{0} @Nat) (@Data.fields (@List.toArray.{0} @Value [(@Value.builtin "type.__prepare__"), (@Value.type "type")])) (@List.toArray.{0} (@Option.{0} @Value) []))
def m245 (P : Params) : Obj := (@Obj.mk (@Value.type "dict") (@Option.none.{0} @Nat) (@Data.dict (@List.toArray.{0} @DictEntry [(@DictEntry.mk (@PyData.keyHash P (@Str.ofString "__module__")) (@Value.str (@Str.ofString "__module__") 503) (@Value.str (@Str.ofString "stopanywhere.errors") 187)), (@DictEntry.mk (@PyData.keyHash P (@Str.ofString "__qualname__")) (@Value.str (@Str.ofString "__qualname__") 505) (@Value.str (@Str.ofString "NoFunction") 504)), (@DictEntry.mk (@PyData.keyHash P (@Str.ofString "__firstlineno__")) (@Value.str (@Str.ofString "__firstlineno__") 507) (@Value.int (@OfNat.ofNat.{0} @Int (nat_lit 46) (@instOfNat (nat_lit 46))) 506)), (@DictEntry.mk (@PyData.keyHash P (@Str.ofString "__init__")) (@Value.str (@Str.ofString "__init__") 515) (@Value.ref 256)), (@DictEntry.mk (@PyData.keyHash P (@Str.ofString "__static_attributes__")) (@Value.str (@Str.ofString "__static_attributes__") 517) (@Value.ref 257))]) 5) (@List.toArray.{0} (@Option.{0} @Value) []))
def m246 : Obj := (@Obj.mk (@Value.type "tuple") (@Option.none.{0} @Nat) (@Data.seq (@List.toArray.{0} @Value []) 0) (@List.toArray.{0} (@Option.{0} @Value) []))
def m247 : Obj := (@Obj.mk @Value.none (@Option.none.{0} @Nat) (@Data.fields (@List.toArray.{0} @Value [(@Value.int (@OfNat.ofNat.{0} @Int (nat_lit 48) (@instOfNat (nat_lit 48))) 0), (@Value.int (@OfNat.ofNat.{0} @Int (nat_lit 4) (@instOfNat (nat_lit 4))) 0), (@Value.ref 255)])) (@List.toArray.{0} (@Option.{0} @Value) []))
def m248 : Obj := (@Obj.mk (@Value.type "code") (@Option.none.{0} @Nat) (@Data.fields (@List.toArray.{0} @Value [(@Value.str (@Str.ofString "NoFunction") 498), (@Value.str (@Str.ofString "NoFunction") 499), (@Value.str (@Str.ofString "/claim/cut.py") 500), (@Value.int (@OfNat.ofNat.{0} @Int (nat_lit 46) (@instOfNat (nat_lit 46))) 0), (@Value.int (@OfNat.ofNat.{0} @Int (nat_lit 0) (@instOfNat (nat_lit 0))) 0), (@Value.int (@OfNat.ofNat.{0} @Int (nat_lit 0) (@instOfNat (nat_lit 0))) 0), (@Value.int (@OfNat.ofNat.{0} @Int (nat_lit 0) (@instOfNat (nat_lit 0))) 0), (@Value.int (@OfNat.ofNat.{0} @Int (nat_lit 0) (@instOfNat (nat_lit 0))) 0), (@Value.ref 246), (@Value.bool @Bool.false), (@Value.int (@OfNat.ofNat.{0} @Int (nat_lit 181) (@instOfNat (nat_lit 181))) 0), (@Value.ref 247), @Value.none, @Value.none, @Value.none, @Value.none, (@Value.int (@OfNat.ofNat.{0} @Int (nat_lit 501) (@instOfNat (nat_lit 501))) 0), (@Value.int (@OfNat.ofNat.{0} @Int (nat_lit 46) (@instOfNat (nat_lit 46))) 0), (@Value.str (@Str.ofString "/claim/cut.py") 502)])) (@List.toArray.{0} (@Option.{0} @Value) []))
def m249 : Obj := (@Obj.mk (@Value.type "frame") (@Option.none.{0} @Nat) @Data.plain (@List.toArray.{0} (@Option.{0} @Value) [(@Option.some.{0} @Value (@Value.ref 248)), (@Option.some.{0} @Value (@Value.ref 3)), (@Option.some.{0} @Value (@Value.ref 245)), (@Option.none.{0} @Value), (@Option.some.{0} @Value (@Value.str (@Str.ofString "stopanywhere.errors") 187)), (@Option.none.{0} @Value), (@Option.some.{0} @Value (@Value.ref 0))]))
def m250 : Obj := (@Obj.mk (@Value.type "tuple") (@Option.none.{0} @Nat) (@Data.seq (@List.toArray.{0} @Value []) 0) (@List.toArray.{0} (@Option.{0} @Value) []))
def m251 : Obj := (@Obj.mk @Value.none (@Option.none.{0} @Nat) (@Data.fields (@List.toArray.{0} @Value [])) (@List.toArray.{0} (@Option.{0} @Value) []))
def m252 : Obj := (@Obj.mk (@Value.type "tuple") (@Option.none.{0} @Nat) (@Data.seq (@List.toArray.{0} @Value [(@Value.str (@Str.ofString "self") 511), (@Value.str (@Str.ofString "name") 512)]) 0) (@List.toArray.{0} (@Option.{0} @Value) []))
def m253 : Obj := (@Obj.mk (@Value.type "tuple") (@Option.none.{0} @Nat) (@Data.seq (@List.toArray.{0} @Value []) 0) (@List.toArray.{0} (@Option.{0} @Value) []))
def m254 : Obj := (@Obj.mk @Value.none (@Option.none.{0} @Nat) (@Data.func (@FuncData.mk (@Str.ofString "__init__") (@Str.ofString "NoFunction.__init__") (@Arguments.mk [] [(@Arg.mk (@Str.ofString "self") (@Option.none.{0} @Expr) (@Pos.mk 48 17 48 21)), (@Arg.mk (@Str.ofString "name") (@Option.none.{0} @Expr) (@Pos.mk 48 23 48 27))] (@Option.none.{0} @Arg) [] [] (@Option.none.{0} @Arg) []) (@FuncBody.stmts [(@Stmt.Assign [(@Expr.Attribute (@Expr.Name (@Str.ofString "self") (@Pos.mk 49 8 49 12)) (@Str.ofString "name") (@Pos.mk 49 8 49 17))] (@Expr.Name (@Str.ofString "name") (@Pos.mk 49 20 49 24)) (@Pos.mk 49 8 49 24))]) (@Scope.mk @ScopeKind.function [(@Prod.mk.{0, 0} @Str @NameKind (@Str.ofString "self") @NameKind.local), (@Prod.mk.{0, 0} @Str @NameKind (@Str.ofString "name") @NameKind.local)] @Bool.false @Bool.false []) 0 [] @Value.none @Value.none @Value.none @Value.none (@Option.none.{0} @Nat) @Value.none @Value.none 0)) (@List.toArray.{0} (@Option.{0} @Value) []))
def m255 : Obj := (@Obj.mk (@Value.type "code") (@Option.none.{0} @Nat) (@Data.fields (@List.toArray.{0} @Value [(@Value.str (@Str.ofString "__init__") 508), (@Value.str (@Str.ofString "NoFunction.__init__") 509), (@Value.str (@Str.ofString "/claim/cut.py") 510), (@Value.int (@OfNat.ofNat.{0} @Int (nat_lit 48) (@instOfNat (nat_lit 48))) 0), (@Value.int (@OfNat.ofNat.{0} @Int (nat_lit 2) (@instOfNat (nat_lit 2))) 0), (@Value.int (@OfNat.ofNat.{0} @Int (nat_lit 0) (@instOfNat (nat_lit 0))) 0), (@Value.int (@OfNat.ofNat.{0} @Int (nat_lit 0) (@instOfNat (nat_lit 0))) 0), (@Value.int (@OfNat.ofNat.{0} @Int (nat_lit 3) (@instOfNat (nat_lit 3))) 0), (@Value.ref 250), (@Value.bool @Bool.true), (@Value.int (@OfNat.ofNat.{0} @Int (nat_lit 181) (@instOfNat (nat_lit 181))) 0), (@Value.ref 251), @Value.none, (@Value.ref 252), (@Value.ref 253), (@Value.ref 254), (@Value.int (@OfNat.ofNat.{0} @Int (nat_lit 513) (@instOfNat (nat_lit 513))) 0), (@Value.int (@OfNat.ofNat.{0} @Int (nat_lit 48) (@instOfNat (nat_lit 48))) 0), (@Value.str (@Str.ofString "/claim/cut.py") 514)])) (@List.toArray.{0} (@Option.{0} @Value) []))
def m256 : Obj := (@Obj.mk (@Value.type "function") (@Option.none.{0} @Nat) (@Data.func (@FuncData.mk (@Str.ofString "__init__") (@Str.ofString "NoFunction.__init__") (@Arguments.mk [] [(@Arg.mk (@Str.ofString "self") (@Option.none.{0} @Expr) (@Pos.mk 48 17 48 21)), (@Arg.mk (@Str.ofString "name") (@Option.none.{0} @Expr) (@Pos.mk 48 23 48 27))] (@Option.none.{0} @Arg) [] [] (@Option.none.{0} @Arg) []) (@FuncBody.stmts [(@Stmt.Assign [(@Expr.Attribute (@Expr.Name (@Str.ofString "self") (@Pos.mk 49 8 49 12)) (@Str.ofString "name") (@Pos.mk 49 8 49 17))] (@Expr.Name (@Str.ofString "name") (@Pos.mk 49 20 49 24)) (@Pos.mk 49 8 49 24))]) (@Scope.mk @ScopeKind.function [(@Prod.mk.{0, 0} @Str @NameKind (@Str.ofString "self") @NameKind.local), (@Prod.mk.{0, 0} @Str @NameKind (@Str.ofString "name") @NameKind.local)] @Bool.false @Bool.false []) 3 [] @Value.none @Value.none @Value.none (@Value.str (@Str.ofString "stopanywhere.errors") 187) (@Option.none.{0} @Nat) (@Value.ref 255) @Value.none 0)) (@List.toArray.{0} (@Option.{0} @Value) []))
def m257 : Obj := (@Obj.mk (@Value.type "tuple") (@Option.none.{0} @Nat) (@Data.seq (@List.toArray.{0} @Value [(@Value.str (@Str.ofString "name") 516)]) 0) (@List.toArray.{0} (@Option.{0} @Value) []))
def m258 (P : Params) : Obj := (@Obj.mk (@Value.type "dict") (@Option.none.{0} @Nat) (@Data.dict (@List.toArray.{0} @DictEntry [(@DictEntry.mk (@PyData.keyHash P (@Str.ofString "__module__")) (@Value.str (@Str.ofString "__module__") 503) (@Value.str (@Str.ofString "stopanywhere.errors") 187)), (@DictEntry.mk (@PyData.keyHash P (@Str.ofString "__firstlineno__")) (@Value.str (@Str.ofString "__firstlineno__") 507) (@Value.int (@OfNat.ofNat.{0} @Int (nat_lit 46) (@instOfNat (nat_lit 46))) 506)), (@DictEntry.mk (@PyData.keyHash P (@Str.ofString "__init__")) (@Value.str (@Str.ofString "__init__") 515) (@Value.ref 256)), (@DictEntry.mk (@PyData.keyHash P (@Str.ofString "__static_attributes__")) (@Value.str (@Str.ofString "__static_attributes__") 517) (@Value.ref 257)), (@DictEntry.mk (@PyData.keyHash P (@Str.ofString "__doc__")) (@Value.str (@Str.ofString "__doc__") 518) @Value.none)]) 2) (@List.toArray.{0} (@Option.{0} @Value) []))
def m259 : Obj := (@Obj.mk (@Value.type "type") (@Option.none.{0} @Nat) (@Data.cls (@ClassData.mk (@Str.ofString "NoFunction") [(@Value.ref 24)] [(@Value.ref 259), (@Value.ref 24), (@Value.type "ValueError"), (@Value.type "Exception"), (@Value.type "BaseException"), (@Value.type "object")] 258 (@Str.ofString "NoFunction") @Bool.true [] [] @Bool.false (@Option.none.{0} @Bool) @Bool.false)) (@List.toArray.{0} (@Option.{0} @Value) [(@Option.some.{0} @Value (@Value.ref 243)), (@Option.none.{0} @Value), (@Option.some.{0} @Value (@Value.str (@Str.ofString "NoFunction") 496)), (@Option.some.{0} @Value (@Value.str (@Str.ofString "NoFunction") 504)), (@Option.some.{0} @Value (@Value.builtin "ValueError.__new__")), (@Option.some.{0} @Value (@Value.bool @Bool.true))]))
def m260 : Obj := (@Obj.mk (@Value.type "super") (@Option.none.{0} @Nat) (@Data.fields (@List.toArray.{0} @Value [(@Value.ref 259), (@Value.ref 259), (@Value.ref 259)])) (@List.toArray.{0} (@Option.{0} @Value) []))
def m261 : Obj := (@Obj.mk (@Value.type "builtin_function_or_method") (@Option.none.{0} @Nat) (@Data.fields (@List.toArray.{0} @Value [(@Value.builtin "object.__init_subclass__"), (@Value.ref 259)])) (@List.toArray.{0} (@Option.{0} @Value) []))
def m262 : Obj := (@Obj.mk (@Value.type "tuple") (@Option.none.{0} @Nat) (@Data.seq (@List.toArray.{0} @Value [(@Value.ref 24)]) 0) (@List.toArray.{0} (@Option.{0} @Value) []))
def m263 : Obj := (@Obj.mk (@Value.type "builtin_function_or_method") (@Option.none.{0} @Nat) (@Data.fields (@List.toArray.{0} @Value [(@Value.builtin "type.__prepare__"), (@Value.type "type")])) (@List.toArray.{0} (@Option.{0} @Value) []))
def m264 (P : Params) : Obj := (@Obj.mk (@Value.type "dict") (@Option.none.{0} @Nat) (@Data.dict (@List.toArray.{0} @DictEntry [(@DictEntry.mk (@PyData.keyHash P (@Str.ofString "__module__")) (@Value.str (@Str.ofString "__module__") 528) (@Value.str (@Str.ofString "stopanywhere.errors") 187)), (@DictEntry.mk (@PyData.keyHash P (@Str.ofString "__qualname__")) (@Value.str (@Str.ofString "__qualname__") 530) (@Value.str (@Str.ofString "Faulty") 529)), (@DictEntry.mk (@PyData.keyHash P (@Str.ofString "__firstlineno__")) (@Value.str (@Str.ofString "__firstlineno__") 532) (@Value.int (@OfNat.ofNat.{0} @Int (nat_lit 50) (@instOfNat (nat_lit 50))) 531)), (@DictEntry.mk (@PyData.keyHash P (@Str.ofString "__init__")) (@Value.str (@Str.ofString "__init__") 541) (@Value.ref 275)), (@DictEntry.mk (@PyData.keyHash P (@Str.ofString "__static_attributes__")) (@Value.str (@Str.ofString "__static_attributes__") 544) (@Value.ref 276))]) 5) (@List.toArray.{0} (@Option.{0} @Value) []))
def m265 : Obj := (@Obj.mk (@Value.type "tuple") (@Option.none.{0} @Nat) (@Data.seq (@List.toArray.{0} @Value []) 0) (@List.toArray.{0} (@Option.{0} @Value) []))
def m266 : Obj := (@Obj.mk @Value.none (@Option.none.{0} @Nat) (@Data.fields (@List.toArray.{0} @Value [(@Value.int (@OfNat.ofNat.{0} @Int (nat_lit 52) (@instOfNat (nat_lit 52))) 0), (@Value.int (@OfNat.ofNat.{0} @Int (nat_lit 4) (@instOfNat (nat_lit 4))) 0), (@Value.ref 274)])) (@List.toArray.{0} (@Option.{0} @Value) []))
def m267 : Obj := (@Obj.mk (@Value.type "code") (@Option.none.{0} @Nat) (@Data.fields (@List.toArray.{0} @Value [(@Value.str (@Str.ofString "Faulty") 523), (@Value.str (@Str.ofString "Faulty") 524), (@Value.str (@Str.ofString "/claim/cut.py") 525), (@Value.int (@OfNat.ofNat.{0} @Int (nat_lit 50) (@instOfNat (nat_lit 50))) 0), (@Value.int (@OfNat.ofNat.{0} @Int (nat_lit 0) (@instOfNat (nat_lit 0))) 0), (@Value.int (@OfNat.ofNat.{0} @Int (nat_lit 0) (@instOfNat (nat_lit 0))) 0), (@Value.int (@OfNat.ofNat.{0} @Int (nat_lit 0) (@instOfNat (nat_lit 0))) 0), (@Value.int (@OfNat.ofNat.{0} @Int (nat_lit 0) (@instOfNat (nat_lit 0))) 0), (@Value.ref 265), (@Value.bool @Bool.false), (@Value.int (@OfNat.ofNat.{0} @Int (nat_lit 181) (@instOfNat (nat_lit 181))) 0), (@Value.ref 266), @Value.none, @Value.none, @Value.none, @Value.none, (@Value.int (@OfNat.ofNat.{0} @Int (nat_lit 526) (@instOfNat (nat_lit 526))) 0), (@Value.int (@OfNat.ofNat.{0} @Int (nat_lit 50) (@instOfNat (nat_lit 50))) 0), (@Value.str (@Str.ofString "/claim/cut.py") 527)])) (@List.toArray.{0} (@Option.{0} @Value) []))
def m268 : Obj := (@Obj.mk (@Value.type "frame") (@Option.none.{0} @Nat) @Data.plain (@List.toArray.{0} (@Option.{0} @Value) [(@Option.some.{0} @Value (@Value.ref 267)), (@Option.some.{0} @Value (@Value.ref 3)), (@Option.some.{0} @Value (@Value.ref 264)), (@Option.none.{0} @Value), (@Option.some.{0} @Value (@Value.str (@Str.ofString "stopanywhere.errors") 187)), (@Option.none.{0} @Value), (@Option.some.{0} @Value (@Value.ref 0))]))
def m269 : Obj := (@Obj.mk (@Value.type "tuple") (@Option.none.{0} @Nat) (@Data.seq (@List.toArray.{0} @Value []) 0) (@List.toArray.{0} (@Option.{0} @Value) []))
def m270 : Obj := (@Obj.mk @Value.none (@Option.none.{0} @Nat) (@Data.fields (@List.toArray.{0} @Value [])) (@List.toArray.{0} (@Option.{0} @Value) []))
def m271 : Obj := (@Obj.mk (@Value.type "tuple") (@Option.none.{0} @Nat) (@Data.seq (@List.toArray.{0} @Value [(@Value.str (@Str.ofString "self") 536), (@Value.str (@Str.ofString "fault") 537), (@Value.str (@Str.ofString "unit") 538)]) 0) (@List.toArray.{0} (@Option.{0} @Value) []))
def m272 : Obj := (@Obj.mk (@Value.type "tuple") (@Option.none.{0} @Nat) (@Data.seq (@List.toArray.{0} @Value []) 0) (@List.toArray.{0} (@Option.{0} @Value) []))
def m273 : Obj := (@Obj.mk @Value.none (@Option.none.{0} @Nat) (@Data.func (@FuncData.mk (@Str.ofString "__init__") (@Str.ofString "Faulty.__init__") (@Arguments.mk [] [(@Arg.mk (@Str.ofString "self") (@Option.none.{0} @Expr) (@Pos.mk 52 17 52 21)), (@Arg.mk (@Str.ofString "fault") (@Option.none.{0} @Expr) (@Pos.mk 52 23 52 28)), (@Arg.mk (@Str.ofString "unit") (@Option.none.{0} @Expr) (@Pos.mk 52 30 52 34))] (@Option.none.{0} @Arg) [] [] (@Option.none.{0} @Arg) []) (@FuncBody.stmts [(@Stmt.Assign [(@Expr.Attribute (@Expr.Name (@Str.ofString "self") (@Pos.mk 53 8 53 12)) (@Str.ofString "fault") (@Pos.mk 53 8 53 18))] (@Expr.Name (@Str.ofString "fault") (@Pos.mk 53 21 53 26)) (@Pos.mk 53 8 53 26)), (@Stmt.Assign [(@Expr.Attribute (@Expr.Name (@Str.ofString "self") (@Pos.mk 54 8 54 12)) (@Str.ofString "unit") (@Pos.mk 54 8 54 17))] (@Expr.Name (@Str.ofString "unit") (@Pos.mk 54 20 54 24)) (@Pos.mk 54 8 54 24))]) (@Scope.mk @ScopeKind.function [(@Prod.mk.{0, 0} @Str @NameKind (@Str.ofString "self") @NameKind.local), (@Prod.mk.{0, 0} @Str @NameKind (@Str.ofString "fault") @NameKind.local), (@Prod.mk.{0, 0} @Str @NameKind (@Str.ofString "unit") @NameKind.local)] @Bool.false @Bool.false []) 0 [] @Value.none @Value.none @Value.none @Value.none (@Option.none.{0} @Nat) @Value.none @Value.none 0)) (@List.toArray.{0} (@Option.{0} @Value) []))
def m274 : Obj := (@Obj.mk (@Value.type "code") (@Option.none.{0} @Nat) (@Data.fields (@List.toArray.{0} @Value [(@Value.str (@Str.ofString "__init__") 533), (@Value.str (@Str.ofString "Faulty.__init__") 534), (@Value.str (@Str.ofString "/claim/cut.py") 535), (@Value.int (@OfNat.ofNat.{0} @Int (nat_lit 52) (@instOfNat (nat_lit 52))) 0), (@Value.int (@OfNat.ofNat.{0} @Int (nat_lit 3) (@instOfNat (nat_lit 3))) 0), (@Value.int (@OfNat.ofNat.{0} @Int (nat_lit 0) (@instOfNat (nat_lit 0))) 0), (@Value.int (@OfNat.ofNat.{0} @Int (nat_lit 0) (@instOfNat (nat_lit 0))) 0), (@Value.int (@OfNat.ofNat.{0} @Int (nat_lit 3) (@instOfNat (nat_lit 3))) 0), (@Value.ref 269), (@Value.bool @Bool.true), (@Value.int (@OfNat.ofNat.{0} @Int (nat_lit 181) (@instOfNat (nat_lit 181))) 0), (@Value.ref 270), @Value.none, (@Value.ref 271), (@Value.ref 272), (@Value.ref 273), (@Value.int (@OfNat.ofNat.{0} @Int (nat_lit 539) (@instOfNat (nat_lit 539))) 0), (@Value.int (@OfNat.ofNat.{0} @Int (nat_lit 52) (@instOfNat (nat_lit 52))) 0), (@Value.str (@Str.ofString "/claim/cut.py") 540)])) (@List.toArray.{0} (@Option.{0} @Value) []))
def m275 : Obj := (@Obj.mk (@Value.type "function") (@Option.none.{0} @Nat) (@Data.func (@FuncData.mk (@Str.ofString "__init__") (@Str.ofString "Faulty.__init__") (@Arguments.mk [] [(@Arg.mk (@Str.ofString "self") (@Option.none.{0} @Expr) (@Pos.mk 52 17 52 21)), (@Arg.mk (@Str.ofString "fault") (@Option.none.{0} @Expr) (@Pos.mk 52 23 52 28)), (@Arg.mk (@Str.ofString "unit") (@Option.none.{0} @Expr) (@Pos.mk 52 30 52 34))] (@Option.none.{0} @Arg) [] [] (@Option.none.{0} @Arg) []) (@FuncBody.stmts [(@Stmt.Assign [(@Expr.Attribute (@Expr.Name (@Str.ofString "self") (@Pos.mk 53 8 53 12)) (@Str.ofString "fault") (@Pos.mk 53 8 53 18))] (@Expr.Name (@Str.ofString "fault") (@Pos.mk 53 21 53 26)) (@Pos.mk 53 8 53 26)), (@Stmt.Assign [(@Expr.Attribute (@Expr.Name (@Str.ofString "self") (@Pos.mk 54 8 54 12)) (@Str.ofString "unit") (@Pos.mk 54 8 54 17))] (@Expr.Name (@Str.ofString "unit") (@Pos.mk 54 20 54 24)) (@Pos.mk 54 8 54 24))]) (@Scope.mk @ScopeKind.function [(@Prod.mk.{0, 0} @Str @NameKind (@Str.ofString "self") @NameKind.local), (@Prod.mk.{0, 0} @Str @NameKind (@Str.ofString "fault") @NameKind.local), (@Prod.mk.{0, 0} @Str @NameKind (@Str.ofString "unit") @NameKind.local)] @Bool.false @Bool.false []) 3 [] @Value.none @Value.none @Value.none (@Value.str (@Str.ofString "stopanywhere.errors") 187) (@Option.none.{0} @Nat) (@Value.ref 274) @Value.none 0)) (@List.toArray.{0} (@Option.{0} @Value) []))
def m276 : Obj := (@Obj.mk (@Value.type "tuple") (@Option.none.{0} @Nat) (@Data.seq (@List.toArray.{0} @Value [(@Value.str (@Str.ofString "fault") 542), (@Value.str (@Str.ofString "unit") 543)]) 0) (@List.toArray.{0} (@Option.{0} @Value) []))
def m277 (P : Params) : Obj := (@Obj.mk (@Value.type "dict") (@Option.none.{0} @Nat) (@Data.dict (@List.toArray.{0} @DictEntry [(@DictEntry.mk (@PyData.keyHash P (@Str.ofString "__module__")) (@Value.str (@Str.ofString "__module__") 528) (@Value.str (@Str.ofString "stopanywhere.errors") 187)), (@DictEntry.mk (@PyData.keyHash P (@Str.ofString "__firstlineno__")) (@Value.str (@Str.ofString "__firstlineno__") 532) (@Value.int (@OfNat.ofNat.{0} @Int (nat_lit 50) (@instOfNat (nat_lit 50))) 531)), (@DictEntry.mk (@PyData.keyHash P (@Str.ofString "__init__")) (@Value.str (@Str.ofString "__init__") 541) (@Value.ref 275)), (@DictEntry.mk (@PyData.keyHash P (@Str.ofString "__static_attributes__")) (@Value.str (@Str.ofString "__static_attributes__") 544) (@Value.ref 276)), (@DictEntry.mk (@PyData.keyHash P (@Str.ofString "__doc__")) (@Value.str (@Str.ofString "__doc__") 545) @Value.none)]) 2) (@List.toArray.{0} (@Option.{0} @Value) []))
def m278 : Obj := (@Obj.mk (@Value.type "type") (@Option.none.{0} @Nat) (@Data.cls (@ClassData.mk (@Str.ofString "Faulty") [(@Value.ref 24)] [(@Value.ref 278), (@Value.ref 24), (@Value.type "ValueError"), (@Value.type "Exception"), (@Value.type "BaseException"), (@Value.type "object")] 277 (@Str.ofString "Faulty") @Bool.true [] [] @Bool.false (@Option.none.{0} @Bool) @Bool.false)) (@List.toArray.{0} (@Option.{0} @Value) [(@Option.some.{0} @Value (@Value.ref 262)), (@Option.none.{0} @Value), (@Option.some.{0} @Value (@Value.str (@Str.ofString "Faulty") 521)), (@Option.some.{0} @Value (@Value.str (@Str.ofString "Faulty") 529)), (@Option.some.{0} @Value (@Value.builtin "ValueError.__new__")), (@Option.some.{0} @Value (@Value.bool @Bool.true))]))
def m279 : Obj := (@Obj.mk (@Value.type "super") (@Option.none.{0} @Nat) (@Data.fields (@List.toArray.{0} @Value [(@Value.ref 278), (@Value.ref 278), (@Value.ref 278)])) (@List.toArray.{0} (@Option.{0} @Value) []))
def m280 : Obj := (@Obj.mk (@Value.type "builtin_function_or_method") (@Option.none.{0} @Nat) (@Data.fields (@List.toArray.{0} @Value [(@Value.builtin "object.__init_subclass__"), (@Value.ref 278)])) (@List.toArray.{0} (@Option.{0} @Value) []))
def m281 : Obj := (@Obj.mk (@Value.type "tuple") (@Option.none.{0} @Nat) (@Data.seq (@List.toArray.{0} @Value [(@Value.ref 24)]) 0) (@List.toArray.{0} (@Option.{0} @Value) []))
def m282 : Obj := (@Obj.mk (@Value.type "builtin_function_or_method") (@Option.none.{0} @Nat) (@Data.fields (@List.toArray.{0} @Value [(@Value.builtin "type.__prepare__"), (@Value.type "type")])) (@List.toArray.{0} (@Option.{0} @Value) []))
def m283 (P : Params) : Obj := (@Obj.mk (@Value.type "dict") (@Option.none.{0} @Nat) (@Data.dict (@List.toArray.{0} @DictEntry [(@DictEntry.mk (@PyData.keyHash P (@Str.ofString "__module__")) (@Value.str (@Str.ofString "__module__") 555) (@Value.str (@Str.ofString "stopanywhere.errors") 187)), (@DictEntry.mk (@PyData.keyHash P (@Str.ofString "__qualname__")) (@Value.str (@Str.ofString "__qualname__") 557) (@Value.str (@Str.ofString "KindClash") 556)), (@DictEntry.mk (@PyData.keyHash P (@Str.ofString "__firstlineno__")) (@Value.str (@Str.ofString "__firstlineno__") 559) (@Value.int (@OfNat.ofNat.{0} @Int (nat_lit 55) (@instOfNat (nat_lit 55))) 558)), (@DictEntry.mk (@PyData.keyHash P (@Str.ofString "__init__")) (@Value.str (@Str.ofString "__init__") 568) (@Value.ref 294)), (@DictEntry.mk (@PyData.keyHash P (@Str.ofString "__static_attributes__")) (@Value.str (@Str.ofString "__static_attributes__") 571) (@Value.ref 295))]) 5) (@List.toArray.{0} (@Option.{0} @Value) []))
def m284 : Obj := (@Obj.mk (@Value.type "tuple") (@Option.none.{0} @Nat) (@Data.seq (@List.toArray.{0} @Value []) 0) (@List.toArray.{0} (@Option.{0} @Value) []))
def m285 : Obj := (@Obj.mk @Value.none (@Option.none.{0} @Nat) (@Data.fields (@List.toArray.{0} @Value [(@Value.int (@OfNat.ofNat.{0} @Int (nat_lit 57) (@instOfNat (nat_lit 57))) 0), (@Value.int (@OfNat.ofNat.{0} @Int (nat_lit 4) (@instOfNat (nat_lit 4))) 0), (@Value.ref 293)])) (@List.toArray.{0} (@Option.{0} @Value) []))
def m286 : Obj := (@Obj.mk (@Value.type "code") (@Option.none.{0} @Nat) (@Data.fields (@List.toArray.{0} @Value [(@Value.str (@Str.ofString "KindClash") 550), (@Value.str (@Str.ofString "KindClash") 551), (@Value.str (@Str.ofString "/claim/cut.py") 552), (@Value.int (@OfNat.ofNat.{0} @Int (nat_lit 55) (@instOfNat (nat_lit 55))) 0), (@Value.int (@OfNat.ofNat.{0} @Int (nat_lit 0) (@instOfNat (nat_lit 0))) 0), (@Value.int (@OfNat.ofNat.{0} @Int (nat_lit 0) (@instOfNat (nat_lit 0))) 0), (@Value.int (@OfNat.ofNat.{0} @Int (nat_lit 0) (@instOfNat (nat_lit 0))) 0), (@Value.int (@OfNat.ofNat.{0} @Int (nat_lit 0) (@instOfNat (nat_lit 0))) 0), (@Value.ref 284), (@Value.bool @Bool.false), (@Value.int (@OfNat.ofNat.{0} @Int (nat_lit 181) (@instOfNat (nat_lit 181))) 0), (@Value.ref 285), @Value.none, @Value.none, @Value.none, @Value.none, (@Value.int (@OfNat.ofNat.{0} @Int (nat_lit 553) (@instOfNat (nat_lit 553))) 0), (@Value.int (@OfNat.ofNat.{0} @Int (nat_lit 55) (@instOfNat (nat_lit 55))) 0), (@Value.str (@Str.ofString "/claim/cut.py") 554)])) (@List.toArray.{0} (@Option.{0} @Value) []))
def m287 : Obj := (@Obj.mk (@Value.type "frame") (@Option.none.{0} @Nat) @Data.plain (@List.toArray.{0} (@Option.{0} @Value) [(@Option.some.{0} @Value (@Value.ref 286)), (@Option.some.{0} @Value (@Value.ref 3)), (@Option.some.{0} @Value (@Value.ref 283)), (@Option.none.{0} @Value), (@Option.some.{0} @Value (@Value.str (@Str.ofString "stopanywhere.errors") 187)), (@Option.none.{0} @Value), (@Option.some.{0} @Value (@Value.ref 0))]))
def m288 : Obj := (@Obj.mk (@Value.type "tuple") (@Option.none.{0} @Nat) (@Data.seq (@List.toArray.{0} @Value []) 0) (@List.toArray.{0} (@Option.{0} @Value) []))
def m289 : Obj := (@Obj.mk @Value.none (@Option.none.{0} @Nat) (@Data.fields (@List.toArray.{0} @Value [])) (@List.toArray.{0} (@Option.{0} @Value) []))
def m290 : Obj := (@Obj.mk (@Value.type "tuple") (@Option.none.{0} @Nat) (@Data.seq (@List.toArray.{0} @Value [(@Value.str (@Str.ofString "self") 563), (@Value.str (@Str.ofString "clash") 564), (@Value.str (@Str.ofString "unit") 565)]) 0) (@List.toArray.{0} (@Option.{0} @Value) []))
def m291 : Obj := (@Obj.mk (@Value.type "tuple") (@Option.none.{0} @Nat) (@Data.seq (@List.toArray.{0} @Value []) 0) (@List.toArray.{0} (@Option.{0} @Value) []))
def m292 : Obj := (@Obj.mk @Value.none (@Option.none.{0} @Nat) (@Data.func (@FuncData.mk (@Str.ofString "__init__") (@Str.ofString "KindClash.__init__") (@Arguments.mk [] [(@Arg.mk (@Str.ofString "self") (@Option.none.{0} @Expr) (@Pos.mk 57 17 57 21)), (@Arg.mk (@Str.ofString "clash") (@Option.none.{0} @Expr) (@Pos.mk 57 23 57 28)), (@Arg.mk (@Str.ofString "unit") (@Option.none.{0} @Expr) (@Pos.mk 57 30 57 34))] (@Option.none.{0} @Arg) [] [] (@Option.none.{0} @Arg) []) (@FuncBody.stmts [(@Stmt.Assign [(@Expr.Attribute (@Expr.Name (@Str.ofString "self") (@Pos.mk 58 8 58 12)) (@Str.ofString "clash") (@Pos.mk 58 8 58 18))] (@Expr.Name (@Str.ofString "clash") (@Pos.mk 58 21 58 26)) (@Pos.mk 58 8 58 26)), (@Stmt.Assign [(@Expr.Attribute (@Expr.Name (@Str.ofString "self") (@Pos.mk 59 8 59 12)) (@Str.ofString "unit") (@Pos.mk 59 8 59 17))] (@Expr.Name (@Str.ofString "unit") (@Pos.mk 59 20 59 24)) (@Pos.mk 59 8 59 24))]) (@Scope.mk @ScopeKind.function [(@Prod.mk.{0, 0} @Str @NameKind (@Str.ofString "self") @NameKind.local), (@Prod.mk.{0, 0} @Str @NameKind (@Str.ofString "clash") @NameKind.local), (@Prod.mk.{0, 0} @Str @NameKind (@Str.ofString "unit") @NameKind.local)] @Bool.false @Bool.false []) 0 [] @Value.none @Value.none @Value.none @Value.none (@Option.none.{0} @Nat) @Value.none @Value.none 0)) (@List.toArray.{0} (@Option.{0} @Value) []))
def m293 : Obj := (@Obj.mk (@Value.type "code") (@Option.none.{0} @Nat) (@Data.fields (@List.toArray.{0} @Value [(@Value.str (@Str.ofString "__init__") 560), (@Value.str (@Str.ofString "KindClash.__init__") 561), (@Value.str (@Str.ofString "/claim/cut.py") 562), (@Value.int (@OfNat.ofNat.{0} @Int (nat_lit 57) (@instOfNat (nat_lit 57))) 0), (@Value.int (@OfNat.ofNat.{0} @Int (nat_lit 3) (@instOfNat (nat_lit 3))) 0), (@Value.int (@OfNat.ofNat.{0} @Int (nat_lit 0) (@instOfNat (nat_lit 0))) 0), (@Value.int (@OfNat.ofNat.{0} @Int (nat_lit 0) (@instOfNat (nat_lit 0))) 0), (@Value.int (@OfNat.ofNat.{0} @Int (nat_lit 3) (@instOfNat (nat_lit 3))) 0), (@Value.ref 288), (@Value.bool @Bool.true), (@Value.int (@OfNat.ofNat.{0} @Int (nat_lit 181) (@instOfNat (nat_lit 181))) 0), (@Value.ref 289), @Value.none, (@Value.ref 290), (@Value.ref 291), (@Value.ref 292), (@Value.int (@OfNat.ofNat.{0} @Int (nat_lit 566) (@instOfNat (nat_lit 566))) 0), (@Value.int (@OfNat.ofNat.{0} @Int (nat_lit 57) (@instOfNat (nat_lit 57))) 0), (@Value.str (@Str.ofString "/claim/cut.py") 567)])) (@List.toArray.{0} (@Option.{0} @Value) []))
def m294 : Obj := (@Obj.mk (@Value.type "function") (@Option.none.{0} @Nat) (@Data.func (@FuncData.mk (@Str.ofString "__init__") (@Str.ofString "KindClash.__init__") (@Arguments.mk [] [(@Arg.mk (@Str.ofString "self") (@Option.none.{0} @Expr) (@Pos.mk 57 17 57 21)), (@Arg.mk (@Str.ofString "clash") (@Option.none.{0} @Expr) (@Pos.mk 57 23 57 28)), (@Arg.mk (@Str.ofString "unit") (@Option.none.{0} @Expr) (@Pos.mk 57 30 57 34))] (@Option.none.{0} @Arg) [] [] (@Option.none.{0} @Arg) []) (@FuncBody.stmts [(@Stmt.Assign [(@Expr.Attribute (@Expr.Name (@Str.ofString "self") (@Pos.mk 58 8 58 12)) (@Str.ofString "clash") (@Pos.mk 58 8 58 18))] (@Expr.Name (@Str.ofString "clash") (@Pos.mk 58 21 58 26)) (@Pos.mk 58 8 58 26)), (@Stmt.Assign [(@Expr.Attribute (@Expr.Name (@Str.ofString "self") (@Pos.mk 59 8 59 12)) (@Str.ofString "unit") (@Pos.mk 59 8 59 17))] (@Expr.Name (@Str.ofString "unit") (@Pos.mk 59 20 59 24)) (@Pos.mk 59 8 59 24))]) (@Scope.mk @ScopeKind.function [(@Prod.mk.{0, 0} @Str @NameKind (@Str.ofString "self") @NameKind.local), (@Prod.mk.{0, 0} @Str @NameKind (@Str.ofString "clash") @NameKind.local), (@Prod.mk.{0, 0} @Str @NameKind (@Str.ofString "unit") @NameKind.local)] @Bool.false @Bool.false []) 3 [] @Value.none @Value.none @Value.none (@Value.str (@Str.ofString "stopanywhere.errors") 187) (@Option.none.{0} @Nat) (@Value.ref 293) @Value.none 0)) (@List.toArray.{0} (@Option.{0} @Value) []))
def m295 : Obj := (@Obj.mk (@Value.type "tuple") (@Option.none.{0} @Nat) (@Data.seq (@List.toArray.{0} @Value [(@Value.str (@Str.ofString "clash") 569), (@Value.str (@Str.ofString "unit") 570)]) 0) (@List.toArray.{0} (@Option.{0} @Value) []))
def m296 (P : Params) : Obj := (@Obj.mk (@Value.type "dict") (@Option.none.{0} @Nat) (@Data.dict (@List.toArray.{0} @DictEntry [(@DictEntry.mk (@PyData.keyHash P (@Str.ofString "__module__")) (@Value.str (@Str.ofString "__module__") 555) (@Value.str (@Str.ofString "stopanywhere.errors") 187)), (@DictEntry.mk (@PyData.keyHash P (@Str.ofString "__firstlineno__")) (@Value.str (@Str.ofString "__firstlineno__") 559) (@Value.int (@OfNat.ofNat.{0} @Int (nat_lit 55) (@instOfNat (nat_lit 55))) 558)), (@DictEntry.mk (@PyData.keyHash P (@Str.ofString "__init__")) (@Value.str (@Str.ofString "__init__") 568) (@Value.ref 294)), (@DictEntry.mk (@PyData.keyHash P (@Str.ofString "__static_attributes__")) (@Value.str (@Str.ofString "__static_attributes__") 571) (@Value.ref 295)), (@DictEntry.mk (@PyData.keyHash P (@Str.ofString "__doc__")) (@Value.str (@Str.ofString "__doc__") 572) @Value.none)]) 2) (@List.toArray.{0} (@Option.{0} @Value) []))
def m297 : Obj := (@Obj.mk (@Value.type "type") (@Option.none.{0} @Nat) (@Data.cls (@ClassData.mk (@Str.ofString "KindClash") [(@Value.ref 24)] [(@Value.ref 297), (@Value.ref 24), (@Value.type "ValueError"), (@Value.type "Exception"), (@Value.type "BaseException"), (@Value.type "object")] 296 (@Str.ofString "KindClash") @Bool.true [] [] @Bool.false (@Option.none.{0} @Bool) @Bool.false)) (@List.toArray.{0} (@Option.{0} @Value) [(@Option.some.{0} @Value (@Value.ref 281)), (@Option.none.{0} @Value), (@Option.some.{0} @Value (@Value.str (@Str.ofString "KindClash") 548)), (@Option.some.{0} @Value (@Value.str (@Str.ofString "KindClash") 556)), (@Option.some.{0} @Value (@Value.builtin "ValueError.__new__")), (@Option.some.{0} @Value (@Value.bool @Bool.true))]))
def m298 : Obj := (@Obj.mk (@Value.type "super") (@Option.none.{0} @Nat) (@Data.fields (@List.toArray.{0} @Value [(@Value.ref 297), (@Value.ref 297), (@Value.ref 297)])) (@List.toArray.{0} (@Option.{0} @Value) []))
def m299 : Obj := (@Obj.mk (@Value.type "builtin_function_or_method") (@Option.none.{0} @Nat) (@Data.fields (@List.toArray.{0} @Value [(@Value.builtin "object.__init_subclass__"), (@Value.ref 297)])) (@List.toArray.{0} (@Option.{0} @Value) []))
def m300 : Obj := (@Obj.mk (@Value.type "tuple") (@Option.none.{0} @Nat) (@Data.seq (@List.toArray.{0} @Value [(@Value.ref 24)]) 0) (@List.toArray.{0} (@Option.{0} @Value) []))
def m301 : Obj := (@Obj.mk (@Value.type "builtin_function_or_method") (@Option.none.{0} @Nat) (@Data.fields (@List.toArray.{0} @Value [(@Value.builtin "type.__prepare__"), (@Value.type "type")])) (@List.toArray.{0} (@Option.{0} @Value) []))
def m302 (P : Params) : Obj := (@Obj.mk (@Value.type "dict") (@Option.none.{0} @Nat) (@Data.dict (@List.toArray.{0} @DictEntry [(@DictEntry.mk (@PyData.keyHash P (@Str.ofString "__module__")) (@Value.str (@Str.ofString "__module__") 582) (@Value.str (@Str.ofString "stopanywhere.errors") 187)), (@DictEntry.mk (@PyData.keyHash P (@Str.ofString "__qualname__")) (@Value.str (@Str.ofString "__qualname__") 584) (@Value.str (@Str.ofString "TwoNames") 583)), (@DictEntry.mk (@PyData.keyHash P (@Str.ofString "__firstlineno__")) (@Value.str (@Str.ofString "__firstlineno__") 586) (@Value.int (@OfNat.ofNat.{0} @Int (nat_lit 60) (@instOfNat (nat_lit 60))) 585)), (@DictEntry.mk (@PyData.keyHash P (@Str.ofString "__init__")) (@Value.str (@Str.ofString "__init__") 594) (@Value.ref 313)), (@DictEntry.mk (@PyData.keyHash P (@Str.ofString "__static_attributes__")) (@Value.str (@Str.ofString "__static_attributes__") 596) (@Value.ref 314))]) 5) (@List.toArray.{0} (@Option.{0} @Value) []))
def m303 : Obj := (@Obj.mk (@Value.type "tuple") (@Option.none.{0} @Nat) (@Data.seq (@List.toArray.{0} @Value []) 0) (@List.toArray.{0} (@Option.{0} @Value) []))
def m304 : Obj := (@Obj.mk @Value.none (@Option.none.{0} @Nat) (@Data.fields (@List.toArray.{0} @Value [(@Value.int (@OfNat.ofNat.{0} @Int (nat_lit 62) (@instOfNat (nat_lit 62))) 0), (@Value.int (@OfNat.ofNat.{0} @Int (nat_lit 4) (@instOfNat (nat_lit 4))) 0), (@Value.ref 312)])) (@List.toArray.{0} (@Option.{0} @Value) []))
def m305 : Obj := (@Obj.mk (@Value.type "code") (@Option.none.{0} @Nat) (@Data.fields (@List.toArray.{0} @Value [(@Value.str (@Str.ofString "TwoNames") 577), (@Value.str (@Str.ofString "TwoNames") 578), (@Value.str (@Str.ofString "/claim/cut.py") 579), (@Value.int (@OfNat.ofNat.{0} @Int (nat_lit 60) (@instOfNat (nat_lit 60))) 0), (@Value.int (@OfNat.ofNat.{0} @Int (nat_lit 0) (@instOfNat (nat_lit 0))) 0), (@Value.int (@OfNat.ofNat.{0} @Int (nat_lit 0) (@instOfNat (nat_lit 0))) 0), (@Value.int (@OfNat.ofNat.{0} @Int (nat_lit 0) (@instOfNat (nat_lit 0))) 0), (@Value.int (@OfNat.ofNat.{0} @Int (nat_lit 0) (@instOfNat (nat_lit 0))) 0), (@Value.ref 303), (@Value.bool @Bool.false), (@Value.int (@OfNat.ofNat.{0} @Int (nat_lit 181) (@instOfNat (nat_lit 181))) 0), (@Value.ref 304), @Value.none, @Value.none, @Value.none, @Value.none, (@Value.int (@OfNat.ofNat.{0} @Int (nat_lit 580) (@instOfNat (nat_lit 580))) 0), (@Value.int (@OfNat.ofNat.{0} @Int (nat_lit 60) (@instOfNat (nat_lit 60))) 0), (@Value.str (@Str.ofString "/claim/cut.py") 581)])) (@List.toArray.{0} (@Option.{0} @Value) []))
def m306 : Obj := (@Obj.mk (@Value.type "frame") (@Option.none.{0} @Nat) @Data.plain (@List.toArray.{0} (@Option.{0} @Value) [(@Option.some.{0} @Value (@Value.ref 305)), (@Option.some.{0} @Value (@Value.ref 3)), (@Option.some.{0} @Value (@Value.ref 302)), (@Option.none.{0} @Value), (@Option.some.{0} @Value (@Value.str (@Str.ofString "stopanywhere.errors") 187)), (@Option.none.{0} @Value), (@Option.some.{0} @Value (@Value.ref 0))]))
def m307 : Obj := (@Obj.mk (@Value.type "tuple") (@Option.none.{0} @Nat) (@Data.seq (@List.toArray.{0} @Value []) 0) (@List.toArray.{0} (@Option.{0} @Value) []))
def m308 : Obj := (@Obj.mk @Value.none (@Option.none.{0} @Nat) (@Data.fields (@List.toArray.{0} @Value [])) (@List.toArray.{0} (@Option.{0} @Value) []))
def m309 : Obj := (@Obj.mk (@Value.type "tuple") (@Option.none.{0} @Nat) (@Data.seq (@List.toArray.{0} @Value [(@Value.str (@Str.ofString "self") 590), (@Value.str (@Str.ofString "name") 591)]) 0) (@List.toArray.{0} (@Option.{0} @Value) []))
def m310 : Obj := (@Obj.mk (@Value.type "tuple") (@Option.none.{0} @Nat) (@Data.seq (@List.toArray.{0} @Value []) 0) (@List.toArray.{0} (@Option.{0} @Value) []))
def m311 : Obj := (@Obj.mk @Value.none (@Option.none.{0} @Nat) (@Data.func (@FuncData.mk (@Str.ofString "__init__") (@Str.ofString "TwoNames.__init__") (@Arguments.mk [] [(@Arg.mk (@Str.ofString "self") (@Option.none.{0} @Expr) (@Pos.mk 62 17 62 21)), (@Arg.mk (@Str.ofString "name") (@Option.none.{0} @Expr) (@Pos.mk 62 23 62 27))] (@Option.none.{0} @Arg) [] [] (@Option.none.{0} @Arg) []) (@FuncBody.stmts [(@Stmt.Assign [(@Expr.Attribute (@Expr.Name (@Str.ofString "self") (@Pos.mk 63 8 63 12)) (@Str.ofString "name") (@Pos.mk 63 8 63 17))] (@Expr.Name (@Str.ofString "name") (@Pos.mk 63 20 63 24)) (@Pos.mk 63 8 63 24))]) (@Scope.mk @ScopeKind.function [(@Prod.mk.{0, 0} @Str @NameKind (@Str.ofString "self") @NameKind.local), (@Prod.mk.{0, 0} @Str @NameKind (@Str.ofString "name") @NameKind.local)] @Bool.false @Bool.false []) 0 [] @Value.none @Value.none @Value.none @Value.none (@Option.none.{0} @Nat) @Value.none @Value.none 0)) (@List.toArray.{0} (@Option.{0} @Value) []))
def m312 : Obj := (@Obj.mk (@Value.type "code") (@Option.none.{0} @Nat) (@Data.fields (@List.toArray.{0} @Value [(@Value.str (@Str.ofString "__init__") 587), (@Value.str (@Str.ofString "TwoNames.__init__") 588), (@Value.str (@Str.ofString "/claim/cut.py") 589), (@Value.int (@OfNat.ofNat.{0} @Int (nat_lit 62) (@instOfNat (nat_lit 62))) 0), (@Value.int (@OfNat.ofNat.{0} @Int (nat_lit 2) (@instOfNat (nat_lit 2))) 0), (@Value.int (@OfNat.ofNat.{0} @Int (nat_lit 0) (@instOfNat (nat_lit 0))) 0), (@Value.int (@OfNat.ofNat.{0} @Int (nat_lit 0) (@instOfNat (nat_lit 0))) 0), (@Value.int (@OfNat.ofNat.{0} @Int (nat_lit 3) (@instOfNat (nat_lit 3))) 0), (@Value.ref 307), (@Value.bool @Bool.true), (@Value.int (@OfNat.ofNat.{0} @Int (nat_lit 181) (@instOfNat (nat_lit 181))) 0), (@Value.ref 308), @Value.none, (@Value.ref 309), (@Value.ref 310), (@Value.ref 311), (@Value.int (@OfNat.ofNat.{0} @Int (nat_lit 592) (@instOfNat (nat_lit 592))) 0), (@Value.int (@OfNat.ofNat.{0} @Int (nat_lit 62) (@instOfNat (nat_lit 62))) 0), (@Value.str (@Str.ofString "/claim/cut.py") 593)])) (@List.toArray.{0} (@Option.{0} @Value) []))
def m313 : Obj := (@Obj.mk (@Value.type "function") (@Option.none.{0} @Nat) (@Data.func (@FuncData.mk (@Str.ofString "__init__") (@Str.ofString "TwoNames.__init__") (@Arguments.mk [] [(@Arg.mk (@Str.ofString "self") (@Option.none.{0} @Expr) (@Pos.mk 62 17 62 21)), (@Arg.mk (@Str.ofString "name") (@Option.none.{0} @Expr) (@Pos.mk 62 23 62 27))] (@Option.none.{0} @Arg) [] [] (@Option.none.{0} @Arg) []) (@FuncBody.stmts [(@Stmt.Assign [(@Expr.Attribute (@Expr.Name (@Str.ofString "self") (@Pos.mk 63 8 63 12)) (@Str.ofString "name") (@Pos.mk 63 8 63 17))] (@Expr.Name (@Str.ofString "name") (@Pos.mk 63 20 63 24)) (@Pos.mk 63 8 63 24))]) (@Scope.mk @ScopeKind.function [(@Prod.mk.{0, 0} @Str @NameKind (@Str.ofString "self") @NameKind.local), (@Prod.mk.{0, 0} @Str @NameKind (@Str.ofString "name") @NameKind.local)] @Bool.false @Bool.false []) 3 [] @Value.none @Value.none @Value.none (@Value.str (@Str.ofString "stopanywhere.errors") 187) (@Option.none.{0} @Nat) (@Value.ref 312) @Value.none 0)) (@List.toArray.{0} (@Option.{0} @Value) []))
def m314 : Obj := (@Obj.mk (@Value.type "tuple") (@Option.none.{0} @Nat) (@Data.seq (@List.toArray.{0} @Value [(@Value.str (@Str.ofString "name") 595)]) 0) (@List.toArray.{0} (@Option.{0} @Value) []))
def m315 (P : Params) : Obj := (@Obj.mk (@Value.type "dict") (@Option.none.{0} @Nat) (@Data.dict (@List.toArray.{0} @DictEntry [(@DictEntry.mk (@PyData.keyHash P (@Str.ofString "__module__")) (@Value.str (@Str.ofString "__module__") 582) (@Value.str (@Str.ofString "stopanywhere.errors") 187)), (@DictEntry.mk (@PyData.keyHash P (@Str.ofString "__firstlineno__")) (@Value.str (@Str.ofString "__firstlineno__") 586) (@Value.int (@OfNat.ofNat.{0} @Int (nat_lit 60) (@instOfNat (nat_lit 60))) 585)), (@DictEntry.mk (@PyData.keyHash P (@Str.ofString "__init__")) (@Value.str (@Str.ofString "__init__") 594) (@Value.ref 313)), (@DictEntry.mk (@PyData.keyHash P (@Str.ofString "__static_attributes__")) (@Value.str (@Str.ofString "__static_attributes__") 596) (@Value.ref 314)), (@DictEntry.mk (@PyData.keyHash P (@Str.ofString "__doc__")) (@Value.str (@Str.ofString "__doc__") 597) @Value.none)]) 2) (@List.toArray.{0} (@Option.{0} @Value) []))
def m316 : Obj := (@Obj.mk (@Value.type "type") (@Option.none.{0} @Nat) (@Data.cls (@ClassData.mk (@Str.ofString "TwoNames") [(@Value.ref 24)] [(@Value.ref 316), (@Value.ref 24), (@Value.type "ValueError"), (@Value.type "Exception"), (@Value.type "BaseException"), (@Value.type "object")] 315 (@Str.ofString "TwoNames") @Bool.true [] [] @Bool.false (@Option.none.{0} @Bool) @Bool.false)) (@List.toArray.{0} (@Option.{0} @Value) [(@Option.some.{0} @Value (@Value.ref 300)), (@Option.none.{0} @Value), (@Option.some.{0} @Value (@Value.str (@Str.ofString "TwoNames") 575)), (@Option.some.{0} @Value (@Value.str (@Str.ofString "TwoNames") 583)), (@Option.some.{0} @Value (@Value.builtin "ValueError.__new__")), (@Option.some.{0} @Value (@Value.bool @Bool.true))]))
def m317 : Obj := (@Obj.mk (@Value.type "super") (@Option.none.{0} @Nat) (@Data.fields (@List.toArray.{0} @Value [(@Value.ref 316), (@Value.ref 316), (@Value.ref 316)])) (@List.toArray.{0} (@Option.{0} @Value) []))
def m318 : Obj := (@Obj.mk (@Value.type "builtin_function_or_method") (@Option.none.{0} @Nat) (@Data.fields (@List.toArray.{0} @Value [(@Value.builtin "object.__init_subclass__"), (@Value.ref 316)])) (@List.toArray.{0} (@Option.{0} @Value) []))
def m319 : Obj := (@Obj.mk (@Value.type "tuple") (@Option.none.{0} @Nat) (@Data.seq (@List.toArray.{0} @Value [(@Value.ref 24)]) 0) (@List.toArray.{0} (@Option.{0} @Value) []))
def m320 : Obj := (@Obj.mk (@Value.type "builtin_function_or_method") (@Option.none.{0} @Nat) (@Data.fields (@List.toArray.{0} @Value [(@Value.builtin "type.__prepare__"), (@Value.type "type")])) (@List.toArray.{0} (@Option.{0} @Value) []))
def m321 (P : Params) : Obj := (@Obj.mk (@Value.type "dict") (@Option.none.{0} @Nat) (@Data.dict (@List.toArray.{0} @DictEntry [(@DictEntry.mk (@PyData.keyHash P (@Str.ofString "__module__")) (@Value.str (@Str.ofString "__module__") 607) (@Value.str (@Str.ofString "stopanywhere.errors") 187)), (@DictEntry.mk (@PyData.keyHash P (@Str.ofString "__qualname__")) (@Value.str (@Str.ofString "__qualname__") 609) (@Value.str (@Str.ofString "BadProgram") 608)), (@DictEntry.mk (@PyData.keyHash P (@Str.ofString "__firstlineno__")) (@Value.str (@Str.ofString "__firstlineno__") 611) (@Value.int (@OfNat.ofNat.{0} @Int (nat_lit 64) (@instOfNat (nat_lit 64))) 610)), (@DictEntry.mk (@PyData.keyHash P (@Str.ofString "__static_attributes__")) (@Value.str (@Str.ofString "__static_attributes__") 612) (@Value.ref 326))]) 4) (@List.toArray.{0} (@Option.{0} @Value) []))
def m322 : Obj := (@Obj.mk (@Value.type "tuple") (@Option.none.{0} @Nat) (@Data.seq (@List.toArray.{0} @Value []) 0) (@List.toArray.{0} (@Option.{0} @Value) []))
def m323 : Obj := (@Obj.mk @Value.none (@Option.none.{0} @Nat) (@Data.fields (@List.toArray.{0} @Value [])) (@List.toArray.{0} (@Option.{0} @Value) []))
def m324 : Obj := (@Obj.mk (@Value.type "code") (@Option.none.{0} @Nat) (@Data.fields (@List.toArray.{0} @Value [(@Value.str (@Str.ofString "BadProgram") 602), (@Value.str (@Str.ofString "BadProgram") 603), (@Value.str (@Str.ofString "/claim/cut.py") 604), (@Value.int (@OfNat.ofNat.{0} @Int (nat_lit 64) (@instOfNat (nat_lit 64))) 0), (@Value.int (@OfNat.ofNat.{0} @Int (nat_lit 0) (@instOfNat (nat_lit 0))) 0), (@Value.int (@OfNat.ofNat.{0} @Int (nat_lit 0) (@instOfNat (nat_lit 0))) 0), (@Value.int (@OfNat.ofNat.{0} @Int (nat_lit 0) (@instOfNat (nat_lit 0))) 0), (@Value.int (@OfNat.ofNat.{0} @Int (nat_lit 0) (@instOfNat (nat_lit 0))) 0), (@Value.ref 322), (@Value.bool @Bool.false), (@Value.int (@OfNat.ofNat.{0} @Int (nat_lit 181) (@instOfNat (nat_lit 181))) 0), (@Value.ref 323), @Value.none, @Value.none, @Value.none, @Value.none, (@Value.int (@OfNat.ofNat.{0} @Int (nat_lit 605) (@instOfNat (nat_lit 605))) 0), (@Value.int (@OfNat.ofNat.{0} @Int (nat_lit 64) (@instOfNat (nat_lit 64))) 0), (@Value.str (@Str.ofString "/claim/cut.py") 606)])) (@List.toArray.{0} (@Option.{0} @Value) []))
def m325 : Obj := (@Obj.mk (@Value.type "frame") (@Option.none.{0} @Nat) @Data.plain (@List.toArray.{0} (@Option.{0} @Value) [(@Option.some.{0} @Value (@Value.ref 324)), (@Option.some.{0} @Value (@Value.ref 3)), (@Option.some.{0} @Value (@Value.ref 321)), (@Option.none.{0} @Value), (@Option.some.{0} @Value (@Value.str (@Str.ofString "stopanywhere.errors") 187)), (@Option.none.{0} @Value), (@Option.some.{0} @Value (@Value.ref 0))]))
def m326 : Obj := (@Obj.mk (@Value.type "tuple") (@Option.none.{0} @Nat) (@Data.seq (@List.toArray.{0} @Value []) 0) (@List.toArray.{0} (@Option.{0} @Value) []))
def m327 (P : Params) : Obj := (@Obj.mk (@Value.type "dict") (@Option.none.{0} @Nat) (@Data.dict (@List.toArray.{0} @DictEntry [(@DictEntry.mk (@PyData.keyHash P (@Str.ofString "__module__")) (@Value.str (@Str.ofString "__module__") 607) (@Value.str (@Str.ofString "stopanywhere.errors") 187)), (@DictEntry.mk (@PyData.keyHash P (@Str.ofString "__firstlineno__")) (@Value.str (@Str.ofString "__firstlineno__") 611) (@Value.int (@OfNat.ofNat.{0} @Int (nat_lit 64) (@instOfNat (nat_lit 64))) 610)), (@DictEntry.mk (@PyData.keyHash P (@Str.ofString "__static_attributes__")) (@Value.str (@Str.ofString "__static_attributes__") 612) (@Value.ref 326)), (@DictEntry.mk (@PyData.keyHash P (@Str.ofString "__doc__")) (@Value.str (@Str.ofString "__doc__") 613) @Value.none)]) 2) (@List.toArray.{0} (@Option.{0} @Value) []))
def m328 : Obj := (@Obj.mk (@Value.type "type") (@Option.none.{0} @Nat) (@Data.cls (@ClassData.mk (@Str.ofString "BadProgram") [(@Value.ref 24)] [(@Value.ref 328), (@Value.ref 24), (@Value.type "ValueError"), (@Value.type "Exception"), (@Value.type "BaseException"), (@Value.type "object")] 327 (@Str.ofString "BadProgram") @Bool.true [] [] @Bool.false (@Option.none.{0} @Bool) @Bool.false)) (@List.toArray.{0} (@Option.{0} @Value) [(@Option.some.{0} @Value (@Value.ref 319)), (@Option.none.{0} @Value), (@Option.some.{0} @Value (@Value.str (@Str.ofString "BadProgram") 600)), (@Option.some.{0} @Value (@Value.str (@Str.ofString "BadProgram") 608)), (@Option.some.{0} @Value (@Value.builtin "ValueError.__new__")), (@Option.some.{0} @Value (@Value.bool @Bool.true))]))
def m329 : Obj := (@Obj.mk (@Value.type "super") (@Option.none.{0} @Nat) (@Data.fields (@List.toArray.{0} @Value [(@Value.ref 328), (@Value.ref 328), (@Value.ref 328)])) (@List.toArray.{0} (@Option.{0} @Value) []))
def m330 : Obj := (@Obj.mk (@Value.type "builtin_function_or_method") (@Option.none.{0} @Nat) (@Data.fields (@List.toArray.{0} @Value [(@Value.builtin "object.__init_subclass__"), (@Value.ref 328)])) (@List.toArray.{0} (@Option.{0} @Value) []))
def m331 : Obj := (@Obj.mk (@Value.type "tuple") (@Option.none.{0} @Nat) (@Data.seq (@List.toArray.{0} @Value [(@Value.ref 24)]) 0) (@List.toArray.{0} (@Option.{0} @Value) []))
def m332 : Obj := (@Obj.mk (@Value.type "builtin_function_or_method") (@Option.none.{0} @Nat) (@Data.fields (@List.toArray.{0} @Value [(@Value.builtin "type.__prepare__"), (@Value.type "type")])) (@List.toArray.{0} (@Option.{0} @Value) []))
def m333 (P : Params) : Obj := (@Obj.mk (@Value.type "dict") (@Option.none.{0} @Nat) (@Data.dict (@List.toArray.{0} @DictEntry [(@DictEntry.mk (@PyData.keyHash P (@Str.ofString "__module__")) (@Value.str (@Str.ofString "__module__") 623) (@Value.str (@Str.ofString "stopanywhere.errors") 187)), (@DictEntry.mk (@PyData.keyHash P (@Str.ofString "__qualname__")) (@Value.str (@Str.ofString "__qualname__") 625) (@Value.str (@Str.ofString "BadArguments") 624)), (@DictEntry.mk (@PyData.keyHash P (@Str.ofString "__firstlineno__")) (@Value.str (@Str.ofString "__firstlineno__") 627) (@Value.int (@OfNat.ofNat.{0} @Int (nat_lit 66) (@instOfNat (nat_lit 66))) 626)), (@DictEntry.mk (@PyData.keyHash P (@Str.ofString "__static_attributes__")) (@Value.str (@Str.ofString "__static_attributes__") 628) (@Value.ref 338))]) 4) (@List.toArray.{0} (@Option.{0} @Value) []))
def m334 : Obj := (@Obj.mk (@Value.type "tuple") (@Option.none.{0} @Nat) (@Data.seq (@List.toArray.{0} @Value []) 0) (@List.toArray.{0} (@Option.{0} @Value) []))
def m335 : Obj := (@Obj.mk @Value.none (@Option.none.{0} @Nat) (@Data.fields (@List.toArray.{0} @Value [])) (@List.toArray.{0} (@Option.{0} @Value) []))
def m336 : Obj := (@Obj.mk (@Value.type "code") (@Option.none.{0} @Nat) (@Data.fields (@List.toArray.{0} @Value [(@Value.str (@Str.ofString "BadArguments") 618), (@Value.str (@Str.ofString "BadArguments") 619), (@Value.str (@Str.ofString "/claim/cut.py") 620), (@Value.int (@OfNat.ofNat.{0} @Int (nat_lit 66) (@instOfNat (nat_lit 66))) 0), (@Value.int (@OfNat.ofNat.{0} @Int (nat_lit 0) (@instOfNat (nat_lit 0))) 0), (@Value.int (@OfNat.ofNat.{0} @Int (nat_lit 0) (@instOfNat (nat_lit 0))) 0), (@Value.int (@OfNat.ofNat.{0} @Int (nat_lit 0) (@instOfNat (nat_lit 0))) 0), (@Value.int (@OfNat.ofNat.{0} @Int (nat_lit 0) (@instOfNat (nat_lit 0))) 0), (@Value.ref 334), (@Value.bool @Bool.false), (@Value.int (@OfNat.ofNat.{0} @Int (nat_lit 181) (@instOfNat (nat_lit 181))) 0), (@Value.ref 335), @Value.none, @Value.none, @Value.none, @Value.none, (@Value.int (@OfNat.ofNat.{0} @Int (nat_lit 621) (@instOfNat (nat_lit 621))) 0), (@Value.int (@OfNat.ofNat.{0} @Int (nat_lit 66) (@instOfNat (nat_lit 66))) 0), (@Value.str (@Str.ofString "/claim/cut.py") 622)])) (@List.toArray.{0} (@Option.{0} @Value) []))
def m337 : Obj := (@Obj.mk (@Value.type "frame") (@Option.none.{0} @Nat) @Data.plain (@List.toArray.{0} (@Option.{0} @Value) [(@Option.some.{0} @Value (@Value.ref 336)), (@Option.some.{0} @Value (@Value.ref 3)), (@Option.some.{0} @Value (@Value.ref 333)), (@Option.none.{0} @Value), (@Option.some.{0} @Value (@Value.str (@Str.ofString "stopanywhere.errors") 187)), (@Option.none.{0} @Value), (@Option.some.{0} @Value (@Value.ref 0))]))
def m338 : Obj := (@Obj.mk (@Value.type "tuple") (@Option.none.{0} @Nat) (@Data.seq (@List.toArray.{0} @Value []) 0) (@List.toArray.{0} (@Option.{0} @Value) []))
def m339 (P : Params) : Obj := (@Obj.mk (@Value.type "dict") (@Option.none.{0} @Nat) (@Data.dict (@List.toArray.{0} @DictEntry [(@DictEntry.mk (@PyData.keyHash P (@Str.ofString "__module__")) (@Value.str (@Str.ofString "__module__") 623) (@Value.str (@Str.ofString "stopanywhere.errors") 187)), (@DictEntry.mk (@PyData.keyHash P (@Str.ofString "__firstlineno__")) (@Value.str (@Str.ofString "__firstlineno__") 627) (@Value.int (@OfNat.ofNat.{0} @Int (nat_lit 66) (@instOfNat (nat_lit 66))) 626)), (@DictEntry.mk (@PyData.keyHash P (@Str.ofString "__static_attributes__")) (@Value.str (@Str.ofString "__static_attributes__") 628) (@Value.ref 338)), (@DictEntry.mk (@PyData.keyHash P (@Str.ofString "__doc__")) (@Value.str (@Str.ofString "__doc__") 629) @Value.none)]) 2) (@List.toArray.{0} (@Option.{0} @Value) []))
def m340 : Obj := (@Obj.mk (@Value.type "type") (@Option.none.{0} @Nat) (@Data.cls (@ClassData.mk (@Str.ofString "BadArguments") [(@Value.ref 24)] [(@Value.ref 340), (@Value.ref 24), (@Value.type "ValueError"), (@Value.type "Exception"), (@Value.type "BaseException"), (@Value.type "object")] 339 (@Str.ofString "BadArguments") @Bool.true [] [] @Bool.false (@Option.none.{0} @Bool) @Bool.false)) (@List.toArray.{0} (@Option.{0} @Value) [(@Option.some.{0} @Value (@Value.ref 331)), (@Option.none.{0} @Value), (@Option.some.{0} @Value (@Value.str (@Str.ofString "BadArguments") 616)), (@Option.some.{0} @Value (@Value.str (@Str.ofString "BadArguments") 624)), (@Option.some.{0} @Value (@Value.builtin "ValueError.__new__")), (@Option.some.{0} @Value (@Value.bool @Bool.true))]))
def m341 : Obj := (@Obj.mk (@Value.type "super") (@Option.none.{0} @Nat) (@Data.fields (@List.toArray.{0} @Value [(@Value.ref 340), (@Value.ref 340), (@Value.ref 340)])) (@List.toArray.{0} (@Option.{0} @Value) []))
def m342 : Obj := (@Obj.mk (@Value.type "builtin_function_or_method") (@Option.none.{0} @Nat) (@Data.fields (@List.toArray.{0} @Value [(@Value.builtin "object.__init_subclass__"), (@Value.ref 340)])) (@List.toArray.{0} (@Option.{0} @Value) []))
def m343 : Obj := (@Obj.mk (@Value.type "tuple") (@Option.none.{0} @Nat) (@Data.seq (@List.toArray.{0} @Value [(@Value.ref 24)]) 0) (@List.toArray.{0} (@Option.{0} @Value) []))
def m344 : Obj := (@Obj.mk (@Value.type "builtin_function_or_method") (@Option.none.{0} @Nat) (@Data.fields (@List.toArray.{0} @Value [(@Value.builtin "type.__prepare__"), (@Value.type "type")])) (@List.toArray.{0} (@Option.{0} @Value) []))
def m345 (P : Params) : Obj := (@Obj.mk (@Value.type "dict") (@Option.none.{0} @Nat) (@Data.dict (@List.toArray.{0} @DictEntry [(@DictEntry.mk (@PyData.keyHash P (@Str.ofString "__module__")) (@Value.str (@Str.ofString "__module__") 639) (@Value.str (@Str.ofString "stopanywhere.errors") 187)), (@DictEntry.mk (@PyData.keyHash P (@Str.ofString "__qualname__")) (@Value.str (@Str.ofString "__qualname__") 641) (@Value.str (@Str.ofString "BadMost") 640)), (@DictEntry.mk (@PyData.keyHash P (@Str.ofString "__firstlineno__")) (@Value.str (@Str.ofString "__firstlineno__") 643) (@Value.int (@OfNat.ofNat.{0} @Int (nat_lit 68) (@instOfNat (nat_lit 68))) 642)), (@DictEntry.mk (@PyData.keyHash P (@Str.ofString "__static_attributes__")) (@Value.str (@Str.ofString "__static_attributes__") 644) (@Value.ref 350))]) 4) (@List.toArray.{0} (@Option.{0} @Value) []))
def m346 : Obj := (@Obj.mk (@Value.type "tuple") (@Option.none.{0} @Nat) (@Data.seq (@List.toArray.{0} @Value []) 0) (@List.toArray.{0} (@Option.{0} @Value) []))
def m347 : Obj := (@Obj.mk @Value.none (@Option.none.{0} @Nat) (@Data.fields (@List.toArray.{0} @Value [])) (@List.toArray.{0} (@Option.{0} @Value) []))
def m348 : Obj := (@Obj.mk (@Value.type "code") (@Option.none.{0} @Nat) (@Data.fields (@List.toArray.{0} @Value [(@Value.str (@Str.ofString "BadMost") 634), (@Value.str (@Str.ofString "BadMost") 635), (@Value.str (@Str.ofString "/claim/cut.py") 636), (@Value.int (@OfNat.ofNat.{0} @Int (nat_lit 68) (@instOfNat (nat_lit 68))) 0), (@Value.int (@OfNat.ofNat.{0} @Int (nat_lit 0) (@instOfNat (nat_lit 0))) 0), (@Value.int (@OfNat.ofNat.{0} @Int (nat_lit 0) (@instOfNat (nat_lit 0))) 0), (@Value.int (@OfNat.ofNat.{0} @Int (nat_lit 0) (@instOfNat (nat_lit 0))) 0), (@Value.int (@OfNat.ofNat.{0} @Int (nat_lit 0) (@instOfNat (nat_lit 0))) 0), (@Value.ref 346), (@Value.bool @Bool.false), (@Value.int (@OfNat.ofNat.{0} @Int (nat_lit 181) (@instOfNat (nat_lit 181))) 0), (@Value.ref 347), @Value.none, @Value.none, @Value.none, @Value.none, (@Value.int (@OfNat.ofNat.{0} @Int (nat_lit 637) (@instOfNat (nat_lit 637))) 0), (@Value.int (@OfNat.ofNat.{0} @Int (nat_lit 68) (@instOfNat (nat_lit 68))) 0), (@Value.str (@Str.ofString "/claim/cut.py") 638)])) (@List.toArray.{0} (@Option.{0} @Value) []))
def m349 : Obj := (@Obj.mk (@Value.type "frame") (@Option.none.{0} @Nat) @Data.plain (@List.toArray.{0} (@Option.{0} @Value) [(@Option.some.{0} @Value (@Value.ref 348)), (@Option.some.{0} @Value (@Value.ref 3)), (@Option.some.{0} @Value (@Value.ref 345)), (@Option.none.{0} @Value), (@Option.some.{0} @Value (@Value.str (@Str.ofString "stopanywhere.errors") 187)), (@Option.none.{0} @Value), (@Option.some.{0} @Value (@Value.ref 0))]))
def m350 : Obj := (@Obj.mk (@Value.type "tuple") (@Option.none.{0} @Nat) (@Data.seq (@List.toArray.{0} @Value []) 0) (@List.toArray.{0} (@Option.{0} @Value) []))
def m351 (P : Params) : Obj := (@Obj.mk (@Value.type "dict") (@Option.none.{0} @Nat) (@Data.dict (@List.toArray.{0} @DictEntry [(@DictEntry.mk (@PyData.keyHash P (@Str.ofString "__module__")) (@Value.str (@Str.ofString "__module__") 639) (@Value.str (@Str.ofString "stopanywhere.errors") 187)), (@DictEntry.mk (@PyData.keyHash P (@Str.ofString "__firstlineno__")) (@Value.str (@Str.ofString "__firstlineno__") 643) (@Value.int (@OfNat.ofNat.{0} @Int (nat_lit 68) (@instOfNat (nat_lit 68))) 642)), (@DictEntry.mk (@PyData.keyHash P (@Str.ofString "__static_attributes__")) (@Value.str (@Str.ofString "__static_attributes__") 644) (@Value.ref 350)), (@DictEntry.mk (@PyData.keyHash P (@Str.ofString "__doc__")) (@Value.str (@Str.ofString "__doc__") 645) @Value.none)]) 2) (@List.toArray.{0} (@Option.{0} @Value) []))
def m352 : Obj := (@Obj.mk (@Value.type "type") (@Option.none.{0} @Nat) (@Data.cls (@ClassData.mk (@Str.ofString "BadMost") [(@Value.ref 24)] [(@Value.ref 352), (@Value.ref 24), (@Value.type "ValueError"), (@Value.type "Exception"), (@Value.type "BaseException"), (@Value.type "object")] 351 (@Str.ofString "BadMost") @Bool.true [] [] @Bool.false (@Option.none.{0} @Bool) @Bool.false)) (@List.toArray.{0} (@Option.{0} @Value) [(@Option.some.{0} @Value (@Value.ref 343)), (@Option.none.{0} @Value), (@Option.some.{0} @Value (@Value.str (@Str.ofString "BadMost") 632)), (@Option.some.{0} @Value (@Value.str (@Str.ofString "BadMost") 640)), (@Option.some.{0} @Value (@Value.builtin "ValueError.__new__")), (@Option.some.{0} @Value (@Value.bool @Bool.true))]))
def m353 : Obj := (@Obj.mk (@Value.type "super") (@Option.none.{0} @Nat) (@Data.fields (@List.toArray.{0} @Value [(@Value.ref 352), (@Value.ref 352), (@Value.ref 352)])) (@List.toArray.{0} (@Option.{0} @Value) []))
def m354 : Obj := (@Obj.mk (@Value.type "builtin_function_or_method") (@Option.none.{0} @Nat) (@Data.fields (@List.toArray.{0} @Value [(@Value.builtin "object.__init_subclass__"), (@Value.ref 352)])) (@List.toArray.{0} (@Option.{0} @Value) []))
def m355 : Obj := (@Obj.mk (@Value.type "tuple") (@Option.none.{0} @Nat) (@Data.seq (@List.toArray.{0} @Value [(@Value.ref 24)]) 0) (@List.toArray.{0} (@Option.{0} @Value) []))
def m356 : Obj := (@Obj.mk (@Value.type "builtin_function_or_method") (@Option.none.{0} @Nat) (@Data.fields (@List.toArray.{0} @Value [(@Value.builtin "type.__prepare__"), (@Value.type "type")])) (@List.toArray.{0} (@Option.{0} @Value) []))
def m357 (P : Params) : Obj := (@Obj.mk (@Value.type "dict") (@Option.none.{0} @Nat) (@Data.dict (@List.toArray.{0} @DictEntry [(@DictEntry.mk (@PyData.keyHash P (@Str.ofString "__module__")) (@Value.str (@Str.ofString "__module__") 655) (@Value.str (@Str.ofString "stopanywhere.errors") 187)), (@DictEntry.mk (@PyData.keyHash P (@Str.ofString "__qualname__")) (@Value.str (@Str.ofString "__qualname__") 657) (@Value.str (@Str.ofString "NotNow") 656)), (@DictEntry.mk (@PyData.keyHash P (@Str.ofString "__firstlineno__")) (@Value.str (@Str.ofString "__firstlineno__") 659) (@Value.int (@OfNat.ofNat.{0} @Int (nat_lit 70) (@instOfNat (nat_lit 70))) 658)), (@DictEntry.mk (@PyData.keyHash P (@Str.ofString "__init__")) (@Value.str (@Str.ofString "__init__") 667) (@Value.ref 368)), (@DictEntry.mk (@PyData.keyHash P (@Str.ofString "__static_attributes__")) (@Value.str (@Str.ofString "__static_attributes__") 669) (@Value.ref 369))]) 5) (@List.toArray.{0} (@Option.{0} @Value) []))
def m358 : Obj := (@Obj.mk (@Value.type "tuple") (@Option.none.{0} @Nat) (@Data.seq (@List.toArray.{0} @Value []) 0) (@List.toArray.{0} (@Option.{0} @Value) []))
def m359 : Obj := (@Obj.mk @Value.none (@Option.none.{0} @Nat) (@Data.fields (@List.toArray.{0} @Value [(@Value.int (@OfNat.ofNat.{0} @Int (nat_lit 72) (@instOfNat (nat_lit 72))) 0), (@Value.int (@OfNat.ofNat.{0} @Int (nat_lit 4) (@instOfNat (nat_lit 4))) 0), (@Value.ref 367)])) (@List.toArray.{0} (@Option.{0} @Value) []))
def m360 : Obj := (@Obj.mk (@Value.type "code") (@Option.none.{0} @Nat) (@Data.fields (@List.toArray.{0} @Value [(@Value.str (@Str.ofString "NotNow") 650), (@Value.str (@Str.ofString "NotNow") 651), (@Value.str (@Str.ofString "/claim/cut.py") 652), (@Value.int (@OfNat.ofNat.{0} @Int (nat_lit 70) (@instOfNat (nat_lit 70))) 0), (@Value.int (@OfNat.ofNat.{0} @Int (nat_lit 0) (@instOfNat (nat_lit 0))) 0), (@Value.int (@OfNat.ofNat.{0} @Int (nat_lit 0) (@instOfNat (nat_lit 0))) 0), (@Value.int (@OfNat.ofNat.{0} @Int (nat_lit 0) (@instOfNat (nat_lit 0))) 0), (@Value.int (@OfNat.ofNat.{0} @Int (nat_lit 0) (@instOfNat (nat_lit 0))) 0), (@Value.ref 358), (@Value.bool @Bool.false), (@Value.int (@OfNat.ofNat.{0} @Int (nat_lit 181) (@instOfNat (nat_lit 181))) 0), (@Value.ref 359), @Value.none, @Value.none, @Value.none, @Value.none, (@Value.int (@OfNat.ofNat.{0} @Int (nat_lit 653) (@instOfNat (nat_lit 653))) 0), (@Value.int (@OfNat.ofNat.{0} @Int (nat_lit 70) (@instOfNat (nat_lit 70))) 0), (@Value.str (@Str.ofString "/claim/cut.py") 654)])) (@List.toArray.{0} (@Option.{0} @Value) []))
def m361 : Obj := (@Obj.mk (@Value.type "frame") (@Option.none.{0} @Nat) @Data.plain (@List.toArray.{0} (@Option.{0} @Value) [(@Option.some.{0} @Value (@Value.ref 360)), (@Option.some.{0} @Value (@Value.ref 3)), (@Option.some.{0} @Value (@Value.ref 357)), (@Option.none.{0} @Value), (@Option.some.{0} @Value (@Value.str (@Str.ofString "stopanywhere.errors") 187)), (@Option.none.{0} @Value), (@Option.some.{0} @Value (@Value.ref 0))]))
def m362 : Obj := (@Obj.mk (@Value.type "tuple") (@Option.none.{0} @Nat) (@Data.seq (@List.toArray.{0} @Value []) 0) (@List.toArray.{0} (@Option.{0} @Value) []))
def m363 : Obj := (@Obj.mk @Value.none (@Option.none.{0} @Nat) (@Data.fields (@List.toArray.{0} @Value [])) (@List.toArray.{0} (@Option.{0} @Value) []))
def m364 : Obj := (@Obj.mk (@Value.type "tuple") (@Option.none.{0} @Nat) (@Data.seq (@List.toArray.{0} @Value [(@Value.str (@Str.ofString "self") 663), (@Value.str (@Str.ofString "word") 664)]) 0) (@List.toArray.{0} (@Option.{0} @Value) []))
def m365 : Obj := (@Obj.mk (@Value.type "tuple") (@Option.none.{0} @Nat) (@Data.seq (@List.toArray.{0} @Value []) 0) (@List.toArray.{0} (@Option.{0} @Value) []))
def m366 : Obj := (@Obj.mk @Value.none (@Option.none.{0} @Nat) (@Data.func (@FuncData.mk (@Str.ofString "__init__") (@Str.ofString "NotNow.__init__") (@Arguments.mk [] [(@Arg.mk (@Str.ofString "self") (@Option.none.{0} @Expr) (@Pos.mk 72 17 72 21)), (@Arg.mk (@Str.ofString "word") (@Option.none.{0} @Expr) (@Pos.mk 72 23 72 27))] (@Option.none.{0} @Arg) [] [] (@Option.none.{0} @Arg) []) (@FuncBody.stmts [(@Stmt.Assign [(@Expr.Attribute (@Expr.Name (@Str.ofString "self") (@Pos.mk 73 8 73 12)) (@Str.ofString "word") (@Pos.mk 73 8 73 17))] (@Expr.Name (@Str.ofString "word") (@Pos.mk 73 20 73 24)) (@Pos.mk 73 8 73 24))]) (@Scope.mk @ScopeKind.function [(@Prod.mk.{0, 0} @Str @NameKind (@Str.ofString "self") @NameKind.local), (@Prod.mk.{0, 0} @Str @NameKind (@Str.ofString "word") @NameKind.local)] @Bool.false @Bool.false []) 0 [] @Value.none @Value.none @Value.none @Value.none (@Option.none.{0} @Nat) @Value.none @Value.none 0)) (@List.toArray.{0} (@Option.{0} @Value) []))
def m367 : Obj := (@Obj.mk (@Value.type "code") (@Option.none.{0} @Nat) (@Data.fields (@List.toArray.{0} @Value [(@Value.str (@Str.ofString "__init__") 660), (@Value.str (@Str.ofString "NotNow.__init__") 661), (@Value.str (@Str.ofString "/claim/cut.py") 662), (@Value.int (@OfNat.ofNat.{0} @Int (nat_lit 72) (@instOfNat (nat_lit 72))) 0), (@Value.int (@OfNat.ofNat.{0} @Int (nat_lit 2) (@instOfNat (nat_lit 2))) 0), (@Value.int (@OfNat.ofNat.{0} @Int (nat_lit 0) (@instOfNat (nat_lit 0))) 0), (@Value.int (@OfNat.ofNat.{0} @Int (nat_lit 0) (@instOfNat (nat_lit 0))) 0), (@Value.int (@OfNat.ofNat.{0} @Int (nat_lit 3) (@instOfNat (nat_lit 3))) 0), (@Value.ref 362), (@Value.bool @Bool.true), (@Value.int (@OfNat.ofNat.{0} @Int (nat_lit 181) (@instOfNat (nat_lit 181))) 0), (@Value.ref 363), @Value.none, (@Value.ref 364), (@Value.ref 365), (@Value.ref 366), (@Value.int (@OfNat.ofNat.{0} @Int (nat_lit 665) (@instOfNat (nat_lit 665))) 0), (@Value.int (@OfNat.ofNat.{0} @Int (nat_lit 72) (@instOfNat (nat_lit 72))) 0), (@Value.str (@Str.ofString "/claim/cut.py") 666)])) (@List.toArray.{0} (@Option.{0} @Value) []))
def m368 : Obj := (@Obj.mk (@Value.type "function") (@Option.none.{0} @Nat) (@Data.func (@FuncData.mk (@Str.ofString "__init__") (@Str.ofString "NotNow.__init__") (@Arguments.mk [] [(@Arg.mk (@Str.ofString "self") (@Option.none.{0} @Expr) (@Pos.mk 72 17 72 21)), (@Arg.mk (@Str.ofString "word") (@Option.none.{0} @Expr) (@Pos.mk 72 23 72 27))] (@Option.none.{0} @Arg) [] [] (@Option.none.{0} @Arg) []) (@FuncBody.stmts [(@Stmt.Assign [(@Expr.Attribute (@Expr.Name (@Str.ofString "self") (@Pos.mk 73 8 73 12)) (@Str.ofString "word") (@Pos.mk 73 8 73 17))] (@Expr.Name (@Str.ofString "word") (@Pos.mk 73 20 73 24)) (@Pos.mk 73 8 73 24))]) (@Scope.mk @ScopeKind.function [(@Prod.mk.{0, 0} @Str @NameKind (@Str.ofString "self") @NameKind.local), (@Prod.mk.{0, 0} @Str @NameKind (@Str.ofString "word") @NameKind.local)] @Bool.false @Bool.false []) 3 [] @Value.none @Value.none @Value.none (@Value.str (@Str.ofString "stopanywhere.errors") 187) (@Option.none.{0} @Nat) (@Value.ref 367) @Value.none 0)) (@List.toArray.{0} (@Option.{0} @Value) []))
def m369 : Obj := (@Obj.mk (@Value.type "tuple") (@Option.none.{0} @Nat) (@Data.seq (@List.toArray.{0} @Value [(@Value.str (@Str.ofString "word") 668)]) 0) (@List.toArray.{0} (@Option.{0} @Value) []))
def m370 (P : Params) : Obj := (@Obj.mk (@Value.type "dict") (@Option.none.{0} @Nat) (@Data.dict (@List.toArray.{0} @DictEntry [(@DictEntry.mk (@PyData.keyHash P (@Str.ofString "__module__")) (@Value.str (@Str.ofString "__module__") 655) (@Value.str (@Str.ofString "stopanywhere.errors") 187)), (@DictEntry.mk (@PyData.keyHash P (@Str.ofString "__firstlineno__")) (@Value.str (@Str.ofString "__firstlineno__") 659) (@Value.int (@OfNat.ofNat.{0} @Int (nat_lit 70) (@instOfNat (nat_lit 70))) 658)), (@DictEntry.mk (@PyData.keyHash P (@Str.ofString "__init__")) (@Value.str (@Str.ofString "__init__") 667) (@Value.ref 368)), (@DictEntry.mk (@PyData.keyHash P (@Str.ofString "__static_attributes__")) (@Value.str (@Str.ofString "__static_attributes__") 669) (@Value.ref 369)), (@DictEntry.mk (@PyData.keyHash P (@Str.ofString "__doc__")) (@Value.str (@Str.ofString "__doc__") 670) @Value.none)]) 2) (@List.toArray.{0} (@Option.{0} @Value) []))
def m371 : Obj := (@Obj.mk (@Value.type "type") (@Option.none.{0} @Nat) (@Data.cls (@ClassData.mk (@Str.ofString "NotNow") [(@Value.ref 24)] [(@Value.ref 371), (@Value.ref 24), (@Value.type "ValueError"), (@Value.type "Exception"), (@Value.type "BaseException"), (@Value.type "object")] 370 (@Str.ofString "NotNow") @Bool.true [] [] @Bool.false (@Option.none.{0} @Bool) @Bool.false)) (@List.toArray.{0} (@Option.{0} @Value) [(@Option.some.{0} @Value (@Value.ref 355)), (@Option.none.{0} @Value), (@Option.some.{0} @Value (@Value.str (@Str.ofString "NotNow") 648)), (@Option.some.{0} @Value (@Value.str (@Str.ofString "NotNow") 656)), (@Option.some.{0} @Value (@Value.builtin "ValueError.__new__")), (@Option.some.{0} @Value (@Value.bool @Bool.true))]))
def m372 : Obj := (@Obj.mk (@Value.type "super") (@Option.none.{0} @Nat) (@Data.fields (@List.toArray.{0} @Value [(@Value.ref 371), (@Value.ref 371), (@Value.ref 371)])) (@List.toArray.{0} (@Option.{0} @Value) []))
def m373 : Obj := (@Obj.mk (@Value.type "builtin_function_or_method") (@Option.none.{0} @Nat) (@Data.fields (@List.toArray.{0} @Value [(@Value.builtin "object.__init_subclass__"), (@Value.ref 371)])) (@List.toArray.{0} (@Option.{0} @Value) []))
def m374 : Obj := (@Obj.mk (@Value.type "tuple") (@Option.none.{0} @Nat) (@Data.seq (@List.toArray.{0} @Value [(@Value.ref 24)]) 0) (@List.toArray.{0} (@Option.{0} @Value) []))
def m375 : Obj := (@Obj.mk (@Value.type "builtin_function_or_method") (@Option.none.{0} @Nat) (@Data.fields (@List.toArray.{0} @Value [(@Value.builtin "type.__prepare__"), (@Value.type "type")])) (@List.toArray.{0} (@Option.{0} @Value) []))
def m376 (P : Params) : Obj := (@Obj.mk (@Value.type "dict") (@Option.none.{0} @Nat) (@Data.dict (@List.toArray.{0} @DictEntry [(@DictEntry.mk (@PyData.keyHash P (@Str.ofString "__module__")) (@Value.str (@Str.ofString "__module__") 680) (@Value.str (@Str.ofString "stopanywhere.errors") 187)), (@DictEntry.mk (@PyData.keyHash P (@Str.ofString "__qualname__")) (@Value.str (@Str.ofString "__qualname__") 682) (@Value.str (@Str.ofString "BadMoment") 681)), (@DictEntry.mk (@PyData.keyHash P (@Str.ofString "__firstlineno__")) (@Value.str (@Str.ofString "__firstlineno__") 684) (@Value.int (@OfNat.ofNat.{0} @Int (nat_lit 74) (@instOfNat (nat_lit 74))) 683)), (@DictEntry.mk (@PyData.keyHash P (@Str.ofString "__static_attributes__")) (@Value.str (@Str.ofString "__static_attributes__") 685) (@Value.ref 381))]) 4) (@List.toArray.{0} (@Option.{0} @Value) []))
def m377 : Obj := (@Obj.mk (@Value.type "tuple") (@Option.none.{0} @Nat) (@Data.seq (@List.toArray.{0} @Value []) 0) (@List.toArray.{0} (@Option.{0} @Value) []))
def m378 : Obj := (@Obj.mk @Value.none (@Option.none.{0} @Nat) (@Data.fields (@List.toArray.{0} @Value [])) (@List.toArray.{0} (@Option.{0} @Value) []))
def m379 : Obj := (@Obj.mk (@Value.type "code") (@Option.none.{0} @Nat) (@Data.fields (@List.toArray.{0} @Value [(@Value.str (@Str.ofString "BadMoment") 675), (@Value.str (@Str.ofString "BadMoment") 676), (@Value.str (@Str.ofString "/claim/cut.py") 677), (@Value.int (@OfNat.ofNat.{0} @Int (nat_lit 74) (@instOfNat (nat_lit 74))) 0), (@Value.int (@OfNat.ofNat.{0} @Int (nat_lit 0) (@instOfNat (nat_lit 0))) 0), (@Value.int (@OfNat.ofNat.{0} @Int (nat_lit 0) (@instOfNat (nat_lit 0))) 0), (@Value.int (@OfNat.ofNat.{0} @Int (nat_lit 0) (@instOfNat (nat_lit 0))) 0), (@Value.int (@OfNat.ofNat.{0} @Int (nat_lit 0) (@instOfNat (nat_lit 0))) 0), (@Value.ref 377), (@Value.bool @Bool.false), (@Value.int (@OfNat.ofNat.{0} @Int (nat_lit 181) (@instOfNat (nat_lit 181))) 0), (@Value.ref 378), @Value.none, @Value.none, @Value.none, @Value.none, (@Value.int (@OfNat.ofNat.{0} @Int (nat_lit 678) (@instOfNat (nat_lit 678))) 0), (@Value.int (@OfNat.ofNat.{0} @Int (nat_lit 74) (@instOfNat (nat_lit 74))) 0), (@Value.str (@Str.ofString "/claim/cut.py") 679)])) (@List.toArray.{0} (@Option.{0} @Value) []))
def m380 : Obj := (@Obj.mk (@Value.type "frame") (@Option.none.{0} @Nat) @Data.plain (@List.toArray.{0} (@Option.{0} @Value) [(@Option.some.{0} @Value (@Value.ref 379)), (@Option.some.{0} @Value (@Value.ref 3)), (@Option.some.{0} @Value (@Value.ref 376)), (@Option.none.{0} @Value), (@Option.some.{0} @Value (@Value.str (@Str.ofString "stopanywhere.errors") 187)), (@Option.none.{0} @Value), (@Option.some.{0} @Value (@Value.ref 0))]))
def m381 : Obj := (@Obj.mk (@Value.type "tuple") (@Option.none.{0} @Nat) (@Data.seq (@List.toArray.{0} @Value []) 0) (@List.toArray.{0} (@Option.{0} @Value) []))
def m382 (P : Params) : Obj := (@Obj.mk (@Value.type "dict") (@Option.none.{0} @Nat) (@Data.dict (@List.toArray.{0} @DictEntry [(@DictEntry.mk (@PyData.keyHash P (@Str.ofString "__module__")) (@Value.str (@Str.ofString "__module__") 680) (@Value.str (@Str.ofString "stopanywhere.errors") 187)), (@DictEntry.mk (@PyData.keyHash P (@Str.ofString "__firstlineno__")) (@Value.str (@Str.ofString "__firstlineno__") 684) (@Value.int (@OfNat.ofNat.{0} @Int (nat_lit 74) (@instOfNat (nat_lit 74))) 683)), (@DictEntry.mk (@PyData.keyHash P (@Str.ofString "__static_attributes__")) (@Value.str (@Str.ofString "__static_attributes__") 685) (@Value.ref 381)), (@DictEntry.mk (@PyData.keyHash P (@Str.ofString "__doc__")) (@Value.str (@Str.ofString "__doc__") 686) @Value.none)]) 2) (@List.toArray.{0} (@Option.{0} @Value) []))
def m383 : Obj := (@Obj.mk (@Value.type "type") (@Option.none.{0} @Nat) (@Data.cls (@ClassData.mk (@Str.ofString "BadMoment") [(@Value.ref 24)] [(@Value.ref 383), (@Value.ref 24), (@Value.type "ValueError"), (@Value.type "Exception"), (@Value.type "BaseException"), (@Value.type "object")] 382 (@Str.ofString "BadMoment") @Bool.true [] [] @Bool.false (@Option.none.{0} @Bool) @Bool.false)) (@List.toArray.{0} (@Option.{0} @Value) [(@Option.some.{0} @Value (@Value.ref 374)), (@Option.none.{0} @Value), (@Option.some.{0} @Value (@Value.str (@Str.ofString "BadMoment") 673)), (@Option.some.{0} @Value (@Value.str (@Str.ofString "BadMoment") 681)), (@Option.some.{0} @Value (@Value.builtin "ValueError.__new__")), (@Option.some.{0} @Value (@Value.bool @Bool.true))]))
def m384 : Obj := (@Obj.mk (@Value.type "super") (@Option.none.{0} @Nat) (@Data.fields (@List.toArray.{0} @Value [(@Value.ref 383), (@Value.ref 383), (@Value.ref 383)])) (@List.toArray.{0} (@Option.{0} @Value) []))
def m385 : Obj := (@Obj.mk (@Value.type "builtin_function_or_method") (@Option.none.{0} @Nat) (@Data.fields (@List.toArray.{0} @Value [(@Value.builtin "object.__init_subclass__"), (@Value.ref 383)])) (@List.toArray.{0} (@Option.{0} @Value) []))
def m386 : Obj := (@Obj.mk (@Value.type "tuple") (@Option.none.{0} @Nat) (@Data.seq (@List.toArray.{0} @Value [(@Value.ref 24)]) 0) (@List.toArray.{0} (@Option.{0} @Value) []))
def m387 : Obj := (@Obj.mk (@Value.type "builtin_function_or_method") (@Option.none.{0} @Nat) (@Data.fields (@List.toArray.{0} @Value [(@Value.builtin "type.__prepare__"), (@Value.type "type")])) (@List.toArray.{0} (@Option.{0} @Value) []))
def m388 (P : Params) : Obj := (@Obj.mk (@Value.type "dict") (@Option.none.{0} @Nat) (@Data.dict (@List.toArray.{0} @DictEntry [(@DictEntry.mk (@PyData.keyHash P (@Str.ofString "__module__")) (@Value.str (@Str.ofString "__module__") 696) (@Value.str (@Str.ofString "stopanywhere.errors") 187)), (@DictEntry.mk (@PyData.keyHash P (@Str.ofString "__qualname__")) (@Value.str (@Str.ofString "__qualname__") 698) (@Value.str (@Str.ofString "BadChosen") 697)), (@DictEntry.mk (@PyData.keyHash P (@Str.ofString "__firstlineno__")) (@Value.str (@Str.ofString "__firstlineno__") 700) (@Value.int (@OfNat.ofNat.{0} @Int (nat_lit 76) (@instOfNat (nat_lit 76))) 699)), (@DictEntry.mk (@PyData.keyHash P (@Str.ofString "__static_attributes__")) (@Value.str (@Str.ofString "__static_attributes__") 701) (@Value.ref 393))]) 4) (@List.toArray.{0} (@Option.{0} @Value) []))
def m389 : Obj := (@Obj.mk (@Value.type "tuple") (@Option.none.{0} @Nat) (@Data.seq (@List.toArray.{0} @Value []) 0) (@List.toArray.{0} (@Option.{0} @Value) []))
def m390 : Obj := (@Obj.mk @Value.none (@Option.none.{0} @Nat) (@Data.fields (@List.toArray.{0} @Value [])) (@List.toArray.{0} (@Option.{0} @Value) []))
def m391 : Obj := (@Obj.mk (@Value.type "code") (@Option.none.{0} @Nat) (@Data.fields (@List.toArray.{0} @Value [(@Value.str (@Str.ofString "BadChosen") 691), (@Value.str (@Str.ofString "BadChosen") 692), (@Value.str (@Str.ofString "/claim/cut.py") 693), (@Value.int (@OfNat.ofNat.{0} @Int (nat_lit 76) (@instOfNat (nat_lit 76))) 0), (@Value.int (@OfNat.ofNat.{0} @Int (nat_lit 0) (@instOfNat (nat_lit 0))) 0), (@Value.int (@OfNat.ofNat.{0} @Int (nat_lit 0) (@instOfNat (nat_lit 0))) 0), (@Value.int (@OfNat.ofNat.{0} @Int (nat_lit 0) (@instOfNat (nat_lit 0))) 0), (@Value.int (@OfNat.ofNat.{0} @Int (nat_lit 0) (@instOfNat (nat_lit 0))) 0), (@Value.ref 389), (@Value.bool @Bool.false), (@Value.int (@OfNat.ofNat.{0} @Int (nat_lit 181) (@instOfNat (nat_lit 181))) 0), (@Value.ref 390), @Value.none, @Value.none, @Value.none, @Value.none, (@Value.int (@OfNat.ofNat.{0} @Int (nat_lit 694) (@instOfNat (nat_lit 694))) 0), (@Value.int (@OfNat.ofNat.{0} @Int (nat_lit 76) (@instOfNat (nat_lit 76))) 0), (@Value.str (@Str.ofString "/claim/cut.py") 695)])) (@List.toArray.{0} (@Option.{0} @Value) []))
def m392 : Obj := (@Obj.mk (@Value.type "frame") (@Option.none.{0} @Nat) @Data.plain (@List.toArray.{0} (@Option.{0} @Value) [(@Option.some.{0} @Value (@Value.ref 391)), (@Option.some.{0} @Value (@Value.ref 3)), (@Option.some.{0} @Value (@Value.ref 388)), (@Option.none.{0} @Value), (@Option.some.{0} @Value (@Value.str (@Str.ofString "stopanywhere.errors") 187)), (@Option.none.{0} @Value), (@Option.some.{0} @Value (@Value.ref 0))]))
def m393 : Obj := (@Obj.mk (@Value.type "tuple") (@Option.none.{0} @Nat) (@Data.seq (@List.toArray.{0} @Value []) 0) (@List.toArray.{0} (@Option.{0} @Value) []))
def m394 (P : Params) : Obj := (@Obj.mk (@Value.type "dict") (@Option.none.{0} @Nat) (@Data.dict (@List.toArray.{0} @DictEntry [(@DictEntry.mk (@PyData.keyHash P (@Str.ofString "__module__")) (@Value.str (@Str.ofString "__module__") 696) (@Value.str (@Str.ofString "stopanywhere.errors") 187)), (@DictEntry.mk (@PyData.keyHash P (@Str.ofString "__firstlineno__")) (@Value.str (@Str.ofString "__firstlineno__") 700) (@Value.int (@OfNat.ofNat.{0} @Int (nat_lit 76) (@instOfNat (nat_lit 76))) 699)), (@DictEntry.mk (@PyData.keyHash P (@Str.ofString "__static_attributes__")) (@Value.str (@Str.ofString "__static_attributes__") 701) (@Value.ref 393)), (@DictEntry.mk (@PyData.keyHash P (@Str.ofString "__doc__")) (@Value.str (@Str.ofString "__doc__") 702) @Value.none)]) 2) (@List.toArray.{0} (@Option.{0} @Value) []))
def m395 : Obj := (@Obj.mk (@Value.type "type") (@Option.none.{0} @Nat) (@Data.cls (@ClassData.mk (@Str.ofString "BadChosen") [(@Value.ref 24)] [(@Value.ref 395), (@Value.ref 24), (@Value.type "ValueError"), (@Value.type "Exception"), (@Value.type "BaseException"), (@Value.type "object")] 394 (@Str.ofString "BadChosen") @Bool.true [] [] @Bool.false (@Option.none.{0} @Bool) @Bool.false)) (@List.toArray.{0} (@Option.{0} @Value) [(@Option.some.{0} @Value (@Value.ref 386)), (@Option.none.{0} @Value), (@Option.some.{0} @Value (@Value.str (@Str.ofString "BadChosen") 689)), (@Option.some.{0} @Value (@Value.str (@Str.ofString "BadChosen") 697)), (@Option.some.{0} @Value (@Value.builtin "ValueError.__new__")), (@Option.some.{0} @Value (@Value.bool @Bool.true))]))
def m396 : Obj := (@Obj.mk (@Value.type "super") (@Option.none.{0} @Nat) (@Data.fields (@List.toArray.{0} @Value [(@Value.ref 395), (@Value.ref 395), (@Value.ref 395)])) (@List.toArray.{0} (@Option.{0} @Value) []))
def m397 : Obj := (@Obj.mk (@Value.type "builtin_function_or_method") (@Option.none.{0} @Nat) (@Data.fields (@List.toArray.{0} @Value [(@Value.builtin "object.__init_subclass__"), (@Value.ref 395)])) (@List.toArray.{0} (@Option.{0} @Value) []))
def m398 : Obj := (@Obj.mk (@Value.type "tuple") (@Option.none.{0} @Nat) (@Data.seq (@List.toArray.{0} @Value [(@Value.ref 24)]) 0) (@List.toArray.{0} (@Option.{0} @Value) []))
def m399 : Obj := (@Obj.mk (@Value.type "builtin_function_or_method") (@Option.none.{0} @Nat) (@Data.fields (@List.toArray.{0} @Value [(@Value.builtin "type.__prepare__"), (@Value.type "type")])) (@List.toArray.{0} (@Option.{0} @Value) []))
def m400 (P : Params) : Obj := (@Obj.mk (@Value.type "dict") (@Option.none.{0} @Nat) (@Data.dict (@List.toArray.{0} @DictEntry [(@DictEntry.mk (@PyData.keyHash P (@Str.ofString "__module__")) (@Value.str (@Str.ofString "__module__") 712) (@Value.str (@Str.ofString "stopanywhere.errors") 187)), (@DictEntry.mk (@PyData.keyHash P (@Str.ofString "__qualname__")) (@Value.str (@Str.ofString "__qualname__") 714) (@Value.str (@Str.ofString "BadScope") 713)), (@DictEntry.mk (@PyData.keyHash P (@Str.ofString "__firstlineno__")) (@Value.str (@Str.ofString "__firstlineno__") 716) (@Value.int (@OfNat.ofNat.{0} @Int (nat_lit 78) (@instOfNat (nat_lit 78))) 715)), (@DictEntry.mk (@PyData.keyHash P (@Str.ofString "__static_attributes__")) (@Value.str (@Str.ofString "__static_attributes__") 717) (@Value.ref 405))]) 4) (@List.toArray.{0} (@Option.{0} @Value) []))
def m401 : Obj := (@Obj.mk (@Value.type "tuple") (@Option.none.{0} @Nat) (@Data.seq (@List.toArray.{0} @Value []) 0) (@List.toArray.{0} (@Option.{0} @Value) []))
def m402 : Obj := (@Obj.mk @Value.none (@Option.none.{0} @Nat) (@Data.fields (@List.toArray.{0} @Value [])) (@List.toArray.{0} (@Option.{0} @Value) []))
def m403 : Obj := (@Obj.mk (@Value.type "code") (@Option.none.{0} @Nat) (@Data.fields (@List.toArray.{0} @Value [(@Value.str (@Str.ofString "BadScope") 707), (@Value.str (@Str.ofString "BadScope") 708), (@Value.str (@Str.ofString "/claim/cut.py") 709), (@Value.int (@OfNat.ofNat.{0} @Int (nat_lit 78) (@instOfNat (nat_lit 78))) 0), (@Value.int (@OfNat.ofNat.{0} @Int (nat_lit 0) (@instOfNat (nat_lit 0))) 0), (@Value.int (@OfNat.ofNat.{0} @Int (nat_lit 0) (@instOfNat (nat_lit 0))) 0), (@Value.int (@OfNat.ofNat.{0} @Int (nat_lit 0) (@instOfNat (nat_lit 0))) 0), (@Value.int (@OfNat.ofNat.{0} @Int (nat_lit 0) (@instOfNat (nat_lit 0))) 0), (@Value.ref 401), (@Value.bool @Bool.false), (@Value.int (@OfNat.ofNat.{0} @Int (nat_lit 181) (@instOfNat (nat_lit 181))) 0), (@Value.ref 402), @Value.none, @Value.none, @Value.none, @Value.none, (@Value.int (@OfNat.ofNat.{0} @Int (nat_lit 710) (@instOfNat (nat_lit 710))) 0), (@Value.int (@OfNat.ofNat.{0} @Int (nat_lit 78) (@instOfNat (nat_lit 78))) 0), (@Value.str (@Str.ofString "/claim/cut.py") 711)])) (@List.toArray.{0} (@Option.{0} @Value) []))
def m404 : Obj := (@Obj.mk (@Value.type "frame") (@Option.none.{0} @Nat) @Data.plain (@List.toArray.{0} (@Option.{0} @Value) [(@Option.some.{0} @Value (@Value.ref 403)), (@Option.some.{0} @Value (@Value.ref 3)), (@Option.some.{0} @Value (@Value.ref 400)), (@Option.none.{0} @Value), (@Option.some.{0} @Value (@Value.str (@Str.ofString "stopanywhere.errors") 187)), (@Option.none.{0} @Value), (@Option.some.{0} @Value (@Value.ref 0))]))
def m405 : Obj := (@Obj.mk (@Value.type "tuple") (@Option.none.{0} @Nat) (@Data.seq (@List.toArray.{0} @Value []) 0) (@List.toArray.{0} (@Option.{0} @Value) []))
def m406 (P : Params) : Obj := (@Obj.mk (@Value.type "dict") (@Option.none.{0} @Nat) (@Data.dict (@List.toArray.{0} @DictEntry [(@DictEntry.mk (@PyData.keyHash P (@Str.ofString "__module__")) (@Value.str (@Str.ofString "__module__") 712) (@Value.str (@Str.ofString "stopanywhere.errors") 187)), (@DictEntry.mk (@PyData.keyHash P (@Str.ofString "__firstlineno__")) (@Value.str (@Str.ofString "__firstlineno__") 716) (@Value.int (@OfNat.ofNat.{0} @Int (nat_lit 78) (@instOfNat (nat_lit 78))) 715)), (@DictEntry.mk (@PyData.keyHash P (@Str.ofString "__static_attributes__")) (@Value.str (@Str.ofString "__static_attributes__") 717) (@Value.ref 405)), (@DictEntry.mk (@PyData.keyHash P (@Str.ofString "__doc__")) (@Value.str (@Str.ofString "__doc__") 718) @Value.none)]) 2) (@List.toArray.{0} (@Option.{0} @Value) []))
def m407 : Obj := (@Obj.mk (@Value.type "type") (@Option.none.{0} @Nat) (@Data.cls (@ClassData.mk (@Str.ofString "BadScope") [(@Value.ref 24)] [(@Value.ref 407), (@Value.ref 24), (@Value.type "ValueError"), (@Value.type "Exception"), (@Value.type "BaseException"), (@Value.type "object")] 406 (@Str.ofString "BadScope") @Bool.true [] [] @Bool.false (@Option.none.{0} @Bool) @Bool.false)) (@List.toArray.{0} (@Option.{0} @Value) [(@Option.some.{0} @Value (@Value.ref 398)), (@Option.none.{0} @Value), (@Option.some.{0} @Value (@Value.str (@Str.ofString "BadScope") 705)), (@Option.some.{0} @Value (@Value.str (@Str.ofString "BadScope") 713)), (@Option.some.{0} @Value (@Value.builtin "ValueError.__new__")), (@Option.some.{0} @Value (@Value.bool @Bool.true))]))
def m408 : Obj := (@Obj.mk (@Value.type "super") (@Option.none.{0} @Nat) (@Data.fields (@List.toArray.{0} @Value [(@Value.ref 407), (@Value.ref 407), (@Value.ref 407)])) (@List.toArray.{0} (@Option.{0} @Value) []))
def m409 : Obj := (@Obj.mk (@Value.type "builtin_function_or_method") (@Option.none.{0} @Nat) (@Data.fields (@List.toArray.{0} @Value [(@Value.builtin "object.__init_subclass__"), (@Value.ref 407)])) (@List.toArray.{0} (@Option.{0} @Value) []))
def m410 : Obj := (@Obj.mk (@Value.type "tuple") (@Option.none.{0} @Nat) (@Data.seq (@List.toArray.{0} @Value [(@Value.ref 24)]) 0) (@List.toArray.{0} (@Option.{0} @Value) []))
def m411 : Obj := (@Obj.mk (@Value.type "builtin_function_or_method") (@Option.none.{0} @Nat) (@Data.fields (@List.toArray.{0} @Value [(@Value.builtin "type.__prepare__"), (@Value.type "type")])) (@List.toArray.{0} (@Option.{0} @Value) []))
def m412 (P : Params) : Obj := (@Obj.mk (@Value.type "dict") (@Option.none.{0} @Nat) (@Data.dict (@List.toArray.{0} @DictEntry [(@DictEntry.mk (@PyData.keyHash P (@Str.ofString "__module__")) (@Value.str (@Str.ofString "__module__") 728) (@Value.str (@Str.ofString "stopanywhere.errors") 187)), (@DictEntry.mk (@PyData.keyHash P (@Str.ofString "__qualname__")) (@Value.str (@Str.ofString "__qualname__") 730) (@Value.str (@Str.ofString "BadKinds") 729)), (@DictEntry.mk (@PyData.keyHash P (@Str.ofString "__firstlineno__")) (@Value.str (@Str.ofString "__firstlineno__") 732) (@Value.int (@OfNat.ofNat.{0} @Int (nat_lit 80) (@instOfNat (nat_lit 80))) 731)), (@DictEntry.mk (@PyData.keyHash P (@Str.ofString "__static_attributes__")) (@Value.str (@Str.ofString "__static_attributes__") 733) (@Value.ref 417))]) 4) (@List.toArray.{0} (@Option.{0} @Value) []))
def m413 : Obj := (@Obj.mk (@Value.type "tuple") (@Option.none.{0} @Nat) (@Data.seq (@List.toArray.{0} @Value []) 0) (@List.toArray.{0} (@Option.{0} @Value) []))
def m414 : Obj := (@Obj.mk @Value.none (@Option.none.{0} @Nat) (@Data.fields (@List.toArray.{0} @Value [])) (@List.toArray.{0} (@Option.{0} @Value) []))
def m415 : Obj := (@Obj.mk (@Value.type "code") (@Option.none.{0} @Nat) (@Data.fields (@List.toArray.{0} @Value [(@Value.str (@Str.ofString "BadKinds") 723), (@Value.str (@Str.ofString "BadKinds") 724), (@Value.str (@Str.ofString "/claim/cut.py") 725), (@Value.int (@OfNat.ofNat.{0} @Int (nat_lit 80) (@instOfNat (nat_lit 80))) 0), (@Value.int (@OfNat.ofNat.{0} @Int (nat_lit 0) (@instOfNat (nat_lit 0))) 0), (@Value.int (@OfNat.ofNat.{0} @Int (nat_lit 0) (@instOfNat (nat_lit 0))) 0), (@Value.int (@OfNat.ofNat.{0} @Int (nat_lit 0) (@instOfNat (nat_lit 0))) 0), (@Value.int (@OfNat.ofNat.{0} @Int (nat_lit 0) (@instOfNat (nat_lit 0))) 0), (@Value.ref 413), (@Value.bool @Bool.false), (@Value.int (@OfNat.ofNat.{0} @Int (nat_lit 181) (@instOfNat (nat_lit 181))) 0), (@Value.ref 414), @Value.none, @Value.none, @Value.none, @Value.none, (@Value.int (@OfNat.ofNat.{0} @Int (nat_lit 726) (@instOfNat (nat_lit 726))) 0), (@Value.int (@OfNat.ofNat.{0} @Int (nat_lit 80) (@instOfNat (nat_lit 80))) 0), (@Value.str (@Str.ofString "/claim/cut.py") 727)])) (@List.toArray.{0} (@Option.{0} @Value) []))
def m416 : Obj := (@Obj.mk (@Value.type "frame") (@Option.none.{0} @Nat) @Data.plain (@List.toArray.{0} (@Option.{0} @Value) [(@Option.some.{0} @Value (@Value.ref 415)), (@Option.some.{0} @Value (@Value.ref 3)), (@Option.some.{0} @Value (@Value.ref 412)), (@Option.none.{0} @Value), (@Option.some.{0} @Value (@Value.str (@Str.ofString "stopanywhere.errors") 187)), (@Option.none.{0} @Value), (@Option.some.{0} @Value (@Value.ref 0))]))
def m417 : Obj := (@Obj.mk (@Value.type "tuple") (@Option.none.{0} @Nat) (@Data.seq (@List.toArray.{0} @Value []) 0) (@List.toArray.{0} (@Option.{0} @Value) []))
def m418 (P : Params) : Obj := (@Obj.mk (@Value.type "dict") (@Option.none.{0} @Nat) (@Data.dict (@List.toArray.{0} @DictEntry [(@DictEntry.mk (@PyData.keyHash P (@Str.ofString "__module__")) (@Value.str (@Str.ofString "__module__") 728) (@Value.str (@Str.ofString "stopanywhere.errors") 187)), (@DictEntry.mk (@PyData.keyHash P (@Str.ofString "__firstlineno__")) (@Value.str (@Str.ofString "__firstlineno__") 732) (@Value.int (@OfNat.ofNat.{0} @Int (nat_lit 80) (@instOfNat (nat_lit 80))) 731)), (@DictEntry.mk (@PyData.keyHash P (@Str.ofString "__static_attributes__")) (@Value.str (@Str.ofString "__static_attributes__") 733) (@Value.ref 417)), (@DictEntry.mk (@PyData.keyHash P (@Str.ofString "__doc__")) (@Value.str (@Str.ofString "__doc__") 734) @Value.none)]) 2) (@List.toArray.{0} (@Option.{0} @Value) []))
def m419 : Obj := (@Obj.mk (@Value.type "type") (@Option.none.{0} @Nat) (@Data.cls (@ClassData.mk (@Str.ofString "BadKinds") [(@Value.ref 24)] [(@Value.ref 419), (@Value.ref 24), (@Value.type "ValueError"), (@Value.type "Exception"), (@Value.type "BaseException"), (@Value.type "object")] 418 (@Str.ofString "BadKinds") @Bool.true [] [] @Bool.false (@Option.none.{0} @Bool) @Bool.false)) (@List.toArray.{0} (@Option.{0} @Value) [(@Option.some.{0} @Value (@Value.ref 410)), (@Option.none.{0} @Value), (@Option.some.{0} @Value (@Value.str (@Str.ofString "BadKinds") 721)), (@Option.some.{0} @Value (@Value.str (@Str.ofString "BadKinds") 729)), (@Option.some.{0} @Value (@Value.builtin "ValueError.__new__")), (@Option.some.{0} @Value (@Value.bool @Bool.true))]))
def m420 : Obj := (@Obj.mk (@Value.type "super") (@Option.none.{0} @Nat) (@Data.fields (@List.toArray.{0} @Value [(@Value.ref 419), (@Value.ref 419), (@Value.ref 419)])) (@List.toArray.{0} (@Option.{0} @Value) []))
def m421 : Obj := (@Obj.mk (@Value.type "builtin_function_or_method") (@Option.none.{0} @Nat) (@Data.fields (@List.toArray.{0} @Value [(@Value.builtin "object.__init_subclass__"), (@Value.ref 419)])) (@List.toArray.{0} (@Option.{0} @Value) []))
def m422 : Obj := (@Obj.mk (@Value.type "tuple") (@Option.none.{0} @Nat) (@Data.seq (@List.toArray.{0} @Value [(@Value.ref 24)]) 0) (@List.toArray.{0} (@Option.{0} @Value) []))
def m423 : Obj := (@Obj.mk (@Value.type "builtin_function_or_method") (@Option.none.{0} @Nat) (@Data.fields (@List.toArray.{0} @Value [(@Value.builtin "type.__prepare__"), (@Value.type "type")])) (@List.toArray.{0} (@Option.{0} @Value) []))
def m424 (P : Params) : Obj := (@Obj.mk (@Value.type "dict") (@Option.none.{0} @Nat) (@Data.dict (@List.toArray.{0} @DictEntry [(@DictEntry.mk (@PyData.keyHash P (@Str.ofString "__module__")) (@Value.str (@Str.ofString "__module__") 744) (@Value.str (@Str.ofString "stopanywhere.errors") 187)), (@DictEntry.mk (@PyData.keyHash P (@Str.ofString "__qualname__")) (@Value.str (@Str.ofString "__qualname__") 746) (@Value.str (@Str.ofString "BadFunctions") 745)), (@DictEntry.mk (@PyData.keyHash P (@Str.ofString "__firstlineno__")) (@Value.str (@Str.ofString "__firstlineno__") 748) (@Value.int (@OfNat.ofNat.{0} @Int (nat_lit 82) (@instOfNat (nat_lit 82))) 747)), (@DictEntry.mk (@PyData.keyHash P (@Str.ofString "__init__")) (@Value.str (@Str.ofString "__init__") 756) (@Value.ref 435)), (@DictEntry.mk (@PyData.keyHash P (@Str.ofString "__static_attributes__")) (@Value.str (@Str.ofString "__static_attributes__") 758) (@Value.ref 436))]) 5) (@List.toArray.{0} (@Option.{0} @Value) []))
def m425 : Obj := (@Obj.mk (@Value.type "tuple") (@Option.none.{0} @Nat) (@Data.seq (@List.toArray.{0} @Value []) 0) (@List.toArray.{0} (@Option.{0} @Value) []))
def m426 : Obj := (@Obj.mk @Value.none (@Option.none.{0} @Nat) (@Data.fields (@List.toArray.{0} @Value [(@Value.int (@OfNat.ofNat.{0} @Int (nat_lit 84) (@instOfNat (nat_lit 84))) 0), (@Value.int (@OfNat.ofNat.{0} @Int (nat_lit 4) (@instOfNat (nat_lit 4))) 0), (@Value.ref 434)])) (@List.toArray.{0} (@Option.{0} @Value) []))
def m427 : Obj := (@Obj.mk (@Value.type "code") (@Option.none.{0} @Nat) (@Data.fields (@List.toArray.{0} @Value [(@Value.str (@Str.ofString "BadFunctions") 739), (@Value.str (@Str.ofString "BadFunctions") 740), (@Value.str (@Str.ofString "/claim/cut.py") 741), (@Value.int (@OfNat.ofNat.{0} @Int (nat_lit 82) (@instOfNat (nat_lit 82))) 0), (@Value.int (@OfNat.ofNat.{0} @Int (nat_lit 0) (@instOfNat (nat_lit 0))) 0), (@Value.int (@OfNat.ofNat.{0} @Int (nat_lit 0) (@instOfNat (nat_lit 0))) 0), (@Value.int (@OfNat.ofNat.{0} @Int (nat_lit 0) (@instOfNat (nat_lit 0))) 0), (@Value.int (@OfNat.ofNat.{0} @Int (nat_lit 0) (@instOfNat (nat_lit 0))) 0), (@Value.ref 425), (@Value.bool @Bool.false), (@Value.int (@OfNat.ofNat.{0} @Int (nat_lit 181) (@instOfNat (nat_lit 181))) 0), (@Value.ref 426), @Value.none, @Value.none, @Value.none, @Value.none, (@Value.int (@OfNat.ofNat.{0} @Int (nat_lit 742) (@instOfNat (nat_lit 742))) 0), (@Value.int (@OfNat.ofNat.{0} @Int (nat_lit 82) (@instOfNat (nat_lit 82))) 0), (@Value.str (@Str.ofString "/claim/cut.py") 743)])) (@List.toArray.{0} (@Option.{0} @Value) []))
def m428 : Obj := (@Obj.mk (@Value.type "frame") (@Option.none.{0} @Nat) @Data.plain (@List.toArray.{0} (@Option.{0} @Value) [(@Option.some.{0} @Value (@Value.ref 427)), (@Option.some.{0} @Value (@Value.ref 3)), (@Option.some.{0} @Value (@Value.ref 424)), (@Option.none.{0} @Value), (@Option.some.{0} @Value (@Value.str (@Str.ofString "stopanywhere.errors") 187)), (@Option.none.{0} @Value), (@Option.some.{0} @Value (@Value.ref 0))]))
def m429 : Obj := (@Obj.mk (@Value.type "tuple") (@Option.none.{0} @Nat) (@Data.seq (@List.toArray.{0} @Value []) 0) (@List.toArray.{0} (@Option.{0} @Value) []))
def m430 : Obj := (@Obj.mk @Value.none (@Option.none.{0} @Nat) (@Data.fields (@List.toArray.{0} @Value [])) (@List.toArray.{0} (@Option.{0} @Value) []))
def m431 : Obj := (@Obj.mk (@Value.type "tuple") (@Option.none.{0} @Nat) (@Data.seq (@List.toArray.{0} @Value [(@Value.str (@Str.ofString "self") 752), (@Value.str (@Str.ofString "name") 753)]) 0) (@List.toArray.{0} (@Option.{0} @Value) []))
def m432 : Obj := (@Obj.mk (@Value.type "tuple") (@Option.none.{0} @Nat) (@Data.seq (@List.toArray.{0} @Value []) 0) (@List.toArray.{0} (@Option.{0} @Value) []))
def m433 : Obj := (@Obj.mk @Value.none (@Option.none.{0} @Nat) (@Data.func (@FuncData.mk (@Str.ofString "__init__") (@Str.ofString "BadFunctions.__init__") (@Arguments.mk [] [(@Arg.mk (@Str.ofString "self") (@Option.none.{0} @Expr) (@Pos.mk 84 17 84 21)), (@Arg.mk (@Str.ofString "name") (@Option.none.{0} @Expr) (@Pos.mk 84 23 84 27))] (@Option.none.{0} @Arg) [] [] (@Option.none.{0} @Arg) []) (@FuncBody.stmts [(@Stmt.Assign [(@Expr.Attribute (@Expr.Name (@Str.ofString "self") (@Pos.mk 85 8 85 12)) (@Str.ofString "name") (@Pos.mk 85 8 85 17))] (@Expr.Name (@Str.ofString "name") (@Pos.mk 85 20 85 24)) (@Pos.mk 85 8 85 24))]) (@Scope.mk @ScopeKind.function [(@Prod.mk.{0, 0} @Str @NameKind (@Str.ofString "self") @NameKind.local), (@Prod.mk.{0, 0} @Str @NameKind (@Str.ofString "name") @NameKind.local)] @Bool.false @Bool.false []) 0 [] @Value.none @Value.none @Value.none @Value.none (@Option.none.{0} @Nat) @Value.none @Value.none 0)) (@List.toArray.{0} (@Option.{0} @Value) []))
def m434 : Obj := (@Obj.mk (@Value.type "code") (@Option.none.{0} @Nat) (@Data.fields (@List.toArray.{0} @Value [(@Value.str (@Str.ofString "__init__") 749), (@Value.str (@Str.ofString "BadFunctions.__init__") 750), (@Value.str (@Str.ofString "/claim/cut.py") 751), (@Value.int (@OfNat.ofNat.{0} @Int (nat_lit 84) (@instOfNat (nat_lit 84))) 0), (@Value.int (@OfNat.ofNat.{0} @Int (nat_lit 2) (@instOfNat (nat_lit 2))) 0), (@Value.int (@OfNat.ofNat.{0} @Int (nat_lit 0) (@instOfNat (nat_lit 0))) 0), (@Value.int (@OfNat.ofNat.{0} @Int (nat_lit 0) (@instOfNat (nat_lit 0))) 0), (@Value.int (@OfNat.ofNat.{0} @Int (nat_lit 3) (@instOfNat (nat_lit 3))) 0), (@Value.ref 429), (@Value.bool @Bool.true), (@Value.int (@OfNat.ofNat.{0} @Int (nat_lit 181) (@instOfNat (nat_lit 181))) 0), (@Value.ref 430), @Value.none, (@Value.ref 431), (@Value.ref 432), (@Value.ref 433), (@Value.int (@OfNat.ofNat.{0} @Int (nat_lit 754) (@instOfNat (nat_lit 754))) 0), (@Value.int (@OfNat.ofNat.{0} @Int (nat_lit 84) (@instOfNat (nat_lit 84))) 0), (@Value.str (@Str.ofString "/claim/cut.py") 755)])) (@List.toArray.{0} (@Option.{0} @Value) []))
def m435 : Obj := (@Obj.mk (@Value.type "function") (@Option.none.{0} @Nat) (@Data.func (@FuncData.mk (@Str.ofString "__init__") (@Str.ofString "BadFunctions.__init__") (@Arguments.mk [] [(@Arg.mk (@Str.ofString "self") (@Option.none.{0} @Expr) (@Pos.mk 84 17 84 21)), (@Arg.mk (@Str.ofString "name") (@Option.none.{0} @Expr) (@Pos.mk 84 23 84 27))] (@Option.none.{0} @Arg) [] [] (@Option.none.{0} @Arg) []) (@FuncBody.stmts [(@Stmt.Assign [(@Expr.Attribute (@Expr.Name (@Str.ofString "self") (@Pos.mk 85 8 85 12)) (@Str.ofString "name") (@Pos.mk 85 8 85 17))] (@Expr.Name (@Str.ofString "name") (@Pos.mk 85 20 85 24)) (@Pos.mk 85 8 85 24))]) (@Scope.mk @ScopeKind.function [(@Prod.mk.{0, 0} @Str @NameKind (@Str.ofString "self") @NameKind.local), (@Prod.mk.{0, 0} @Str @NameKind (@Str.ofString "name") @NameKind.local)] @Bool.false @Bool.false []) 3 [] @Value.none @Value.none @Value.none (@Value.str (@Str.ofString "stopanywhere.errors") 187) (@Option.none.{0} @Nat) (@Value.ref 434) @Value.none 0)) (@List.toArray.{0} (@Option.{0} @Value) []))
def m436 : Obj := (@Obj.mk (@Value.type "tuple") (@Option.none.{0} @Nat) (@Data.seq (@List.toArray.{0} @Value [(@Value.str (@Str.ofString "name") 757)]) 0) (@List.toArray.{0} (@Option.{0} @Value) []))
def m437 (P : Params) : Obj := (@Obj.mk (@Value.type "dict") (@Option.none.{0} @Nat) (@Data.dict (@List.toArray.{0} @DictEntry [(@DictEntry.mk (@PyData.keyHash P (@Str.ofString "__module__")) (@Value.str (@Str.ofString "__module__") 744) (@Value.str (@Str.ofString "stopanywhere.errors") 187)), (@DictEntry.mk (@PyData.keyHash P (@Str.ofString "__firstlineno__")) (@Value.str (@Str.ofString "__firstlineno__") 748) (@Value.int (@OfNat.ofNat.{0} @Int (nat_lit 82) (@instOfNat (nat_lit 82))) 747)), (@DictEntry.mk (@PyData.keyHash P (@Str.ofString "__init__")) (@Value.str (@Str.ofString "__init__") 756) (@Value.ref 435)), (@DictEntry.mk (@PyData.keyHash P (@Str.ofString "__static_attributes__")) (@Value.str (@Str.ofString "__static_attributes__") 758) (@Value.ref 436)), (@DictEntry.mk (@PyData.keyHash P (@Str.ofString "__doc__")) (@Value.str (@Str.ofString "__doc__") 759) @Value.none)]) 2) (@List.toArray.{0} (@Option.{0} @Value) []))
def m438 : Obj := (@Obj.mk (@Value.type "type") (@Option.none.{0} @Nat) (@Data.cls (@ClassData.mk (@Str.ofString "BadFunctions") [(@Value.ref 24)] [(@Value.ref 438), (@Value.ref 24), (@Value.type "ValueError"), (@Value.type "Exception"), (@Value.type "BaseException"), (@Value.type "object")] 437 (@Str.ofString "BadFunctions") @Bool.true [] [] @Bool.false (@Option.none.{0} @Bool) @Bool.false)) (@List.toArray.{0} (@Option.{0} @Value) [(@Option.some.{0} @Value (@Value.ref 422)), (@Option.none.{0} @Value), (@Option.some.{0} @Value (@Value.str (@Str.ofString "BadFunctions") 737)), (@Option.some.{0} @Value (@Value.str (@Str.ofString "BadFunctions") 745)), (@Option.some.{0} @Value (@Value.builtin "ValueError.__new__")), (@Option.some.{0} @Value (@Value.bool @Bool.true))]))
def m439 : Obj := (@Obj.mk (@Value.type "super") (@Option.none.{0} @Nat) (@Data.fields (@List.toArray.{0} @Value [(@Value.ref 438), (@Value.ref 438), (@Value.ref 438)])) (@List.toArray.{0} (@Option.{0} @Value) []))
def m440 : Obj := (@Obj.mk (@Value.type "builtin_function_or_method") (@Option.none.{0} @Nat) (@Data.fields (@List.toArray.{0} @Value [(@Value.builtin "object.__init_subclass__"), (@Value.ref 438)])) (@List.toArray.{0} (@Option.{0} @Value) []))
def m441 : Obj := (@Obj.mk (@Value.type "tuple") (@Option.none.{0} @Nat) (@Data.seq (@List.toArray.{0} @Value [(@Value.ref 24)]) 0) (@List.toArray.{0} (@Option.{0} @Value) []))
def m442 : Obj := (@Obj.mk (@Value.type "builtin_function_or_method") (@Option.none.{0} @Nat) (@Data.fields (@List.toArray.{0} @Value [(@Value.builtin "type.__prepare__"), (@Value.type "type")])) (@List.toArray.{0} (@Option.{0} @Value) []))
def m443 (P : Params) : Obj := (@Obj.mk (@Value.type "dict") (@Option.none.{0} @Nat) (@Data.dict (@List.toArray.{0} @DictEntry [(@DictEntry.mk (@PyData.keyHash P (@Str.ofString "__module__")) (@Value.str (@Str.ofString "__module__") 769) (@Value.str (@Str.ofString "stopanywhere.errors") 187)), (@DictEntry.mk (@PyData.keyHash P (@Str.ofString "__qualname__")) (@Value.str (@Str.ofString "__qualname__") 771) (@Value.str (@Str.ofString "Unknown") 770)), (@DictEntry.mk (@PyData.keyHash P (@Str.ofString "__firstlineno__")) (@Value.str (@Str.ofString "__firstlineno__") 773) (@Value.int (@OfNat.ofNat.{0} @Int (nat_lit 86) (@instOfNat (nat_lit 86))) 772)), (@DictEntry.mk (@PyData.keyHash P (@Str.ofString "__init__")) (@Value.str (@Str.ofString "__init__") 781) (@Value.ref 454)), (@DictEntry.mk (@PyData.keyHash P (@Str.ofString "__static_attributes__")) (@Value.str (@Str.ofString "__static_attributes__") 783) (@Value.ref 455))]) 5) (@List.toArray.{0} (@Option.{0} @Value) []))
def m444 : Obj := (@Obj.mk (@Value.type "tuple") (@Option.none.{0} @Nat) (@Data.seq (@List.toArray.{0} @Value []) 0) (@List.toArray.{0} (@Option.{0} @Value) []))
def m445 : Obj := (@Obj.mk @Value.none (@Option.none.{0} @Nat) (@Data.fields (@List.toArray.{0} @Value [(@Value.int (@OfNat.ofNat.{0} @Int (nat_lit 88) (@instOfNat (nat_lit 88))) 0), (@Value.int (@OfNat.ofNat.{0} @Int (nat_lit 4) (@instOfNat (nat_lit 4))) 0), (@Value.ref 453)])) (@List.toArray.{0} (@Option.{0} @Value) []))
def m446 : Obj := (@Obj.mk (@Value.type "code") (@Option.none.{0} @Nat) (@Data.fields (@List.toArray.{0} @Value [(@Value.str (@Str.ofString "Unknown") 764), (@Value.str (@Str.ofString "Unknown") 765), (@Value.str (@Str.ofString "/claim/cut.py") 766), (@Value.int (@OfNat.ofNat.{0} @Int (nat_lit 86) (@instOfNat (nat_lit 86))) 0), (@Value.int (@OfNat.ofNat.{0} @Int (nat_lit 0) (@instOfNat (nat_lit 0))) 0), (@Value.int (@OfNat.ofNat.{0} @Int (nat_lit 0) (@instOfNat (nat_lit 0))) 0), (@Value.int (@OfNat.ofNat.{0} @Int (nat_lit 0) (@instOfNat (nat_lit 0))) 0), (@Value.int (@OfNat.ofNat.{0} @Int (nat_lit 0) (@instOfNat (nat_lit 0))) 0), (@Value.ref 444), (@Value.bool @Bool.false), (@Value.int (@OfNat.ofNat.{0} @Int (nat_lit 181) (@instOfNat (nat_lit 181))) 0), (@Value.ref 445), @Value.none, @Value.none, @Value.none, @Value.none, (@Value.int (@OfNat.ofNat.{0} @Int (nat_lit 767) (@instOfNat (nat_lit 767))) 0), (@Value.int (@OfNat.ofNat.{0} @Int (nat_lit 86) (@instOfNat (nat_lit 86))) 0), (@Value.str (@Str.ofString "/claim/cut.py") 768)])) (@List.toArray.{0} (@Option.{0} @Value) []))
def m447 : Obj := (@Obj.mk (@Value.type "frame") (@Option.none.{0} @Nat) @Data.plain (@List.toArray.{0} (@Option.{0} @Value) [(@Option.some.{0} @Value (@Value.ref 446)), (@Option.some.{0} @Value (@Value.ref 3)), (@Option.some.{0} @Value (@Value.ref 443)), (@Option.none.{0} @Value), (@Option.some.{0} @Value (@Value.str (@Str.ofString "stopanywhere.errors") 187)), (@Option.none.{0} @Value), (@Option.some.{0} @Value (@Value.ref 0))]))
def m448 : Obj := (@Obj.mk (@Value.type "tuple") (@Option.none.{0} @Nat) (@Data.seq (@List.toArray.{0} @Value []) 0) (@List.toArray.{0} (@Option.{0} @Value) []))
def m449 : Obj := (@Obj.mk @Value.none (@Option.none.{0} @Nat) (@Data.fields (@List.toArray.{0} @Value [])) (@List.toArray.{0} (@Option.{0} @Value) []))
def m450 : Obj := (@Obj.mk (@Value.type "tuple") (@Option.none.{0} @Nat) (@Data.seq (@List.toArray.{0} @Value [(@Value.str (@Str.ofString "self") 777), (@Value.str (@Str.ofString "name") 778)]) 0) (@List.toArray.{0} (@Option.{0} @Value) []))
def m451 : Obj := (@Obj.mk (@Value.type "tuple") (@Option.none.{0} @Nat) (@Data.seq (@List.toArray.{0} @Value []) 0) (@List.toArray.{0} (@Option.{0} @Value) []))
def m452 : Obj := (@Obj.mk @Value.none (@Option.none.{0} @Nat) (@Data.func (@FuncData.mk (@Str.ofString "__init__") (@Str.ofString "Unknown.__init__") (@Arguments.mk [] [(@Arg.mk (@Str.ofString "self") (@Option.none.{0} @Expr) (@Pos.mk 88 17 88 21)), (@Arg.mk (@Str.ofString "name") (@Option.none.{0} @Expr) (@Pos.mk 88 23 88 27))] (@Option.none.{0} @Arg) [] [] (@Option.none.{0} @Arg) []) (@FuncBody.stmts [(@Stmt.Assign [(@Expr.Attribute (@Expr.Name (@Str.ofString "self") (@Pos.mk 89 8 89 12)) (@Str.ofString "name") (@Pos.mk 89 8 89 17))] (@Expr.Name (@Str.ofString "name") (@Pos.mk 89 20 89 24)) (@Pos.mk 89 8 89 24))]) (@Scope.mk @ScopeKind.function [(@Prod.mk.{0, 0} @Str @NameKind (@Str.ofString "self") @NameKind.local), (@Prod.mk.{0, 0} @Str @NameKind (@Str.ofString "name") @NameKind.local)] @Bool.false @Bool.false []) 0 [] @Value.none @Value.none @Value.none @Value.none (@Option.none.{0} @Nat) @Value.none @Value.none 0)) (@List.toArray.{0} (@Option.{0} @Value) []))
def m453 : Obj := (@Obj.mk (@Value.type "code") (@Option.none.{0} @Nat) (@Data.fields (@List.toArray.{0} @Value [(@Value.str (@Str.ofString "__init__") 774), (@Value.str (@Str.ofString "Unknown.__init__") 775), (@Value.str (@Str.ofString "/claim/cut.py") 776), (@Value.int (@OfNat.ofNat.{0} @Int (nat_lit 88) (@instOfNat (nat_lit 88))) 0), (@Value.int (@OfNat.ofNat.{0} @Int (nat_lit 2) (@instOfNat (nat_lit 2))) 0), (@Value.int (@OfNat.ofNat.{0} @Int (nat_lit 0) (@instOfNat (nat_lit 0))) 0), (@Value.int (@OfNat.ofNat.{0} @Int (nat_lit 0) (@instOfNat (nat_lit 0))) 0), (@Value.int (@OfNat.ofNat.{0} @Int (nat_lit 3) (@instOfNat (nat_lit 3))) 0), (@Value.ref 448), (@Value.bool @Bool.true), (@Value.int (@OfNat.ofNat.{0} @Int (nat_lit 181) (@instOfNat (nat_lit 181))) 0), (@Value.ref 449), @Value.none, (@Value.ref 450), (@Value.ref 451), (@Value.ref 452), (@Value.int (@OfNat.ofNat.{0} @Int (nat_lit 779) (@instOfNat (nat_lit 779))) 0), (@Value.int (@OfNat.ofNat.{0} @Int (nat_lit 88) (@instOfNat (nat_lit 88))) 0), (@Value.str (@Str.ofString "/claim/cut.py") 780)])) (@List.toArray.{0} (@Option.{0} @Value) []))
def m454 : Obj := (@Obj.mk (@Value.type "function") (@Option.none.{0} @Nat) (@Data.func (@FuncData.mk (@Str.ofString "__init__") (@Str.ofString "Unknown.__init__") (@Arguments.mk [] [(@Arg.mk (@Str.ofString "self") (@Option.none.{0} @Expr) (@Pos.mk 88 17 88 21)), (@Arg.mk (@Str.ofString "name") (@Option.none.{0} @Expr) (@Pos.mk 88 23 88 27))] (@Option.none.{0} @Arg) [] [] (@Option.none.{0} @Arg) []) (@FuncBody.stmts [(@Stmt.Assign [(@Expr.Attribute (@Expr.Name (@Str.ofString "self") (@Pos.mk 89 8 89 12)) (@Str.ofString "name") (@Pos.mk 89 8 89 17))] (@Expr.Name (@Str.ofString "name") (@Pos.mk 89 20 89 24)) (@Pos.mk 89 8 89 24))]) (@Scope.mk @ScopeKind.function [(@Prod.mk.{0, 0} @Str @NameKind (@Str.ofString "self") @NameKind.local), (@Prod.mk.{0, 0} @Str @NameKind (@Str.ofString "name") @NameKind.local)] @Bool.false @Bool.false []) 3 [] @Value.none @Value.none @Value.none (@Value.str (@Str.ofString "stopanywhere.errors") 187) (@Option.none.{0} @Nat) (@Value.ref 453) @Value.none 0)) (@List.toArray.{0} (@Option.{0} @Value) []))
def m455 : Obj := (@Obj.mk (@Value.type "tuple") (@Option.none.{0} @Nat) (@Data.seq (@List.toArray.{0} @Value [(@Value.str (@Str.ofString "name") 782)]) 0) (@List.toArray.{0} (@Option.{0} @Value) []))
def m456 (P : Params) : Obj := (@Obj.mk (@Value.type "dict") (@Option.none.{0} @Nat) (@Data.dict (@List.toArray.{0} @DictEntry [(@DictEntry.mk (@PyData.keyHash P (@Str.ofString "__module__")) (@Value.str (@Str.ofString "__module__") 769) (@Value.str (@Str.ofString "stopanywhere.errors") 187)), (@DictEntry.mk (@PyData.keyHash P (@Str.ofString "__firstlineno__")) (@Value.str (@Str.ofString "__firstlineno__") 773) (@Value.int (@OfNat.ofNat.{0} @Int (nat_lit 86) (@instOfNat (nat_lit 86))) 772)), (@DictEntry.mk (@PyData.keyHash P (@Str.ofString "__init__")) (@Value.str (@Str.ofString "__init__") 781) (@Value.ref 454)), (@DictEntry.mk (@PyData.keyHash P (@Str.ofString "__static_attributes__")) (@Value.str (@Str.ofString "__static_attributes__") 783) (@Value.ref 455)), (@DictEntry.mk (@PyData.keyHash P (@Str.ofString "__doc__")) (@Value.str (@Str.ofString "__doc__") 784) @Value.none)]) 2) (@List.toArray.{0} (@Option.{0} @Value) []))
def m457 : Obj := (@Obj.mk (@Value.type "type") (@Option.none.{0} @Nat) (@Data.cls (@ClassData.mk (@Str.ofString "Unknown") [(@Value.ref 24)] [(@Value.ref 457), (@Value.ref 24), (@Value.type "ValueError"), (@Value.type "Exception"), (@Value.type "BaseException"), (@Value.type "object")] 456 (@Str.ofString "Unknown") @Bool.true [] [] @Bool.false (@Option.none.{0} @Bool) @Bool.false)) (@List.toArray.{0} (@Option.{0} @Value) [(@Option.some.{0} @Value (@Value.ref 441)), (@Option.none.{0} @Value), (@Option.some.{0} @Value (@Value.str (@Str.ofString "Unknown") 762)), (@Option.some.{0} @Value (@Value.str (@Str.ofString "Unknown") 770)), (@Option.some.{0} @Value (@Value.builtin "ValueError.__new__")), (@Option.some.{0} @Value (@Value.bool @Bool.true))]))
def m458 : Obj := (@Obj.mk (@Value.type "super") (@Option.none.{0} @Nat) (@Data.fields (@List.toArray.{0} @Value [(@Value.ref 457), (@Value.ref 457), (@Value.ref 457)])) (@List.toArray.{0} (@Option.{0} @Value) []))
def m459 : Obj := (@Obj.mk (@Value.type "builtin_function_or_method") (@Option.none.{0} @Nat) (@Data.fields (@List.toArray.{0} @Value [(@Value.builtin "object.__init_subclass__"), (@Value.ref 457)])) (@List.toArray.{0} (@Option.{0} @Value) []))
def m460 : Obj := (@Obj.mk (@Value.type "tuple") (@Option.none.{0} @Nat) (@Data.seq (@List.toArray.{0} @Value [(@Value.ref 24)]) 0) (@List.toArray.{0} (@Option.{0} @Value) []))
def m461 : Obj := (@Obj.mk (@Value.type "builtin_function_or_method") (@Option.none.{0} @Nat) (@Data.fields (@List.toArray.{0} @Value [(@Value.builtin "type.__prepare__"), (@Value.type "type")])) (@List.toArray.{0} (@Option.{0} @Value) []))
def m462 (P : Params) : Obj := (@Obj.mk (@Value.type "dict") (@Option.none.{0} @Nat) (@Data.dict (@List.toArray.{0} @DictEntry [(@DictEntry.mk (@PyData.keyHash P (@Str.ofString "__module__")) (@Value.str (@Str.ofString "__module__") 794) (@Value.str (@Str.ofString "stopanywhere.errors") 187)), (@DictEntry.mk (@PyData.keyHash P (@Str.ofString "__qualname__")) (@Value.str (@Str.ofString "__qualname__") 796) (@Value.str (@Str.ofString "BadCode") 795)), (@DictEntry.mk (@PyData.keyHash P (@Str.ofString "__firstlineno__")) (@Value.str (@Str.ofString "__firstlineno__") 798) (@Value.int (@OfNat.ofNat.{0} @Int (nat_lit 90) (@instOfNat (nat_lit 90))) 797)), (@DictEntry.mk (@PyData.keyHash P (@Str.ofString "__static_attributes__")) (@Value.str (@Str.ofString "__static_attributes__") 799) (@Value.ref 467))]) 4) (@List.toArray.{0} (@Option.{0} @Value) []))
def m463 : Obj := (@Obj.mk (@Value.type "tuple") (@Option.none.{0} @Nat) (@Data.seq (@List.toArray.{0} @Value []) 0) (@List.toArray.{0} (@Option.{0} @Value) []))
def m464 : Obj := (@Obj.mk @Value.none (@Option.none.{0} @Nat) (@Data.fields (@List.toArray.{0} @Value [])) (@List.toArray.{0} (@Option.{0} @Value) []))
def m465 : Obj := (@Obj.mk (@Value.type "code") (@Option.none.{0} @Nat) (@Data.fields (@List.toArray.{0} @Value [(@Value.str (@Str.ofString "BadCode") 789), (@Value.str (@Str.ofString "BadCode") 790), (@Value.str (@Str.ofString "/claim/cut.py") 791), (@Value.int (@OfNat.ofNat.{0} @Int (nat_lit 90) (@instOfNat (nat_lit 90))) 0), (@Value.int (@OfNat.ofNat.{0} @Int (nat_lit 0) (@instOfNat (nat_lit 0))) 0), (@Value.int (@OfNat.ofNat.{0} @Int (nat_lit 0) (@instOfNat (nat_lit 0))) 0), (@Value.int (@OfNat.ofNat.{0} @Int (nat_lit 0) (@instOfNat (nat_lit 0))) 0), (@Value.int (@OfNat.ofNat.{0} @Int (nat_lit 0) (@instOfNat (nat_lit 0))) 0), (@Value.ref 463), (@Value.bool @Bool.false), (@Value.int (@OfNat.ofNat.{0} @Int (nat_lit 181) (@instOfNat (nat_lit 181))) 0), (@Value.ref 464), @Value.none, @Value.none, @Value.none, @Value.none, (@Value.int (@OfNat.ofNat.{0} @Int (nat_lit 792) (@instOfNat (nat_lit 792))) 0), (@Value.int (@OfNat.ofNat.{0} @Int (nat_lit 90) (@instOfNat (nat_lit 90))) 0), (@Value.str (@Str.ofString "/claim/cut.py") 793)])) (@List.toArray.{0} (@Option.{0} @Value) []))
def m466 : Obj := (@Obj.mk (@Value.type "frame") (@Option.none.{0} @Nat) @Data.plain (@List.toArray.{0} (@Option.{0} @Value) [(@Option.some.{0} @Value (@Value.ref 465)), (@Option.some.{0} @Value (@Value.ref 3)), (@Option.some.{0} @Value (@Value.ref 462)), (@Option.none.{0} @Value), (@Option.some.{0} @Value (@Value.str (@Str.ofString "stopanywhere.errors") 187)), (@Option.none.{0} @Value), (@Option.some.{0} @Value (@Value.ref 0))]))
def m467 : Obj := (@Obj.mk (@Value.type "tuple") (@Option.none.{0} @Nat) (@Data.seq (@List.toArray.{0} @Value []) 0) (@List.toArray.{0} (@Option.{0} @Value) []))
def m468 (P : Params) : Obj := (@Obj.mk (@Value.type "dict") (@Option.none.{0} @Nat) (@Data.dict (@List.toArray.{0} @DictEntry [(@DictEntry.mk (@PyData.keyHash P (@Str.ofString "__module__")) (@Value.str (@Str.ofString "__module__") 794) (@Value.str (@Str.ofString "stopanywhere.errors") 187)), (@DictEntry.mk (@PyData.keyHash P (@Str.ofString "__firstlineno__")) (@Value.str (@Str.ofString "__firstlineno__") 798) (@Value.int (@OfNat.ofNat.{0} @Int (nat_lit 90) (@instOfNat (nat_lit 90))) 797)), (@DictEntry.mk (@PyData.keyHash P (@Str.ofString "__static_attributes__")) (@Value.str (@Str.ofString "__static_attributes__") 799) (@Value.ref 467)), (@DictEntry.mk (@PyData.keyHash P (@Str.ofString "__doc__")) (@Value.str (@Str.ofString "__doc__") 800) @Value.none)]) 2) (@List.toArray.{0} (@Option.{0} @Value) []))
def m469 : Obj := (@Obj.mk (@Value.type "type") (@Option.none.{0} @Nat) (@Data.cls (@ClassData.mk (@Str.ofString "BadCode") [(@Value.ref 24)] [(@Value.ref 469), (@Value.ref 24), (@Value.type "ValueError"), (@Value.type "Exception"), (@Value.type "BaseException"), (@Value.type "object")] 468 (@Str.ofString "BadCode") @Bool.true [] [] @Bool.false (@Option.none.{0} @Bool) @Bool.false)) (@List.toArray.{0} (@Option.{0} @Value) [(@Option.some.{0} @Value (@Value.ref 460)), (@Option.none.{0} @Value), (@Option.some.{0} @Value (@Value.str (@Str.ofString "BadCode") 787)), (@Option.some.{0} @Value (@Value.str (@Str.ofString "BadCode") 795)), (@Option.some.{0} @Value (@Value.builtin "ValueError.__new__")), (@Option.some.{0} @Value (@Value.bool @Bool.true))]))
def m470 : Obj := (@Obj.mk (@Value.type "super") (@Option.none.{0} @Nat) (@Data.fields (@List.toArray.{0} @Value [(@Value.ref 469), (@Value.ref 469), (@Value.ref 469)])) (@List.toArray.{0} (@Option.{0} @Value) []))
def m471 : Obj := (@Obj.mk (@Value.type "builtin_function_or_method") (@Option.none.{0} @Nat) (@Data.fields (@List.toArray.{0} @Value [(@Value.builtin "object.__init_subclass__"), (@Value.ref 469)])) (@List.toArray.{0} (@Option.{0} @Value) []))
def m472 : Obj := (@Obj.mk (@Value.type "tuple") (@Option.none.{0} @Nat) (@Data.seq (@List.toArray.{0} @Value [(@Value.ref 24)]) 0) (@List.toArray.{0} (@Option.{0} @Value) []))
def m473 : Obj := (@Obj.mk (@Value.type "builtin_function_or_method") (@Option.none.{0} @Nat) (@Data.fields (@List.toArray.{0} @Value [(@Value.builtin "type.__prepare__"), (@Value.type "type")])) (@List.toArray.{0} (@Option.{0} @Value) []))
def m474 (P : Params) : Obj := (@Obj.mk (@Value.type "dict") (@Option.none.{0} @Nat) (@Data.dict (@List.toArray.{0} @DictEntry [(@DictEntry.mk (@PyData.keyHash P (@Str.ofString "__module__")) (@Value.str (@Str.ofString "__module__") 810) (@Value.str (@Str.ofString "stopanywhere.errors") 187)), (@DictEntry.mk (@PyData.keyHash P (@Str.ofString "__qualname__")) (@Value.str (@Str.ofString "__qualname__") 812) (@Value.str (@Str.ofString "BadCodes") 811)), (@DictEntry.mk (@PyData.keyHash P (@Str.ofString "__firstlineno__")) (@Value.str (@Str.ofString "__firstlineno__") 814) (@Value.int (@OfNat.ofNat.{0} @Int (nat_lit 92) (@instOfNat (nat_lit 92))) 813)), (@DictEntry.mk (@PyData.keyHash P (@Str.ofString "__init__")) (@Value.str (@Str.ofString "__init__") 822) (@Value.ref 485)), (@DictEntry.mk (@PyData.keyHash P (@Str.ofString "__static_attributes__")) (@Value.str (@Str.ofString "__static_attributes__") 824) (@Value.ref 486))]) 5) (@List.toArray.{0} (@Option.{0} @Value) []))
def m475 : Obj := (@Obj.mk (@Value.type "tuple") (@Option.none.{0} @Nat) (@Data.seq (@List.toArray.{0} @Value []) 0) (@List.toArray.{0} (@Option.{0} @Value) []))
def m476 : Obj := (@Obj.mk @Value.none (@Option.none.{0} @Nat) (@Data.fields (@List.toArray.{0} @Value [(@Value.int (@OfNat.ofNat.{0} @Int (nat_lit 94) (@instOfNat (nat_lit 94))) 0), (@Value.int (@OfNat.ofNat.{0} @Int (nat_lit 4) (@instOfNat (nat_lit 4))) 0), (@Value.ref 484)])) (@List.toArray.{0} (@Option.{0} @Value) []))
def m477 : Obj := (@Obj.mk (@Value.type "code") (@Option.none.{0} @Nat) (@Data.fields (@List.toArray.{0} @Value [(@Value.str (@Str.ofString "BadCodes") 805), (@Value.str (@Str.ofString "BadCodes") 806), (@Value.str (@Str.ofString "/claim/cut.py") 807), (@Value.int (@OfNat.ofNat.{0} @Int (nat_lit 92) (@instOfNat (nat_lit 92))) 0), (@Value.int (@OfNat.ofNat.{0} @Int (nat_lit 0) (@instOfNat (nat_lit 0))) 0), (@Value.int (@OfNat.ofNat.{0} @Int (nat_lit 0) (@instOfNat (nat_lit 0))) 0), (@Value.int (@OfNat.ofNat.{0} @Int (nat_lit 0) (@instOfNat (nat_lit 0))) 0), (@Value.int (@OfNat.ofNat.{0} @Int (nat_lit 0) (@instOfNat (nat_lit 0))) 0), (@Value.ref 475), (@Value.bool @Bool.false), (@Value.int (@OfNat.ofNat.{0} @Int (nat_lit 181) (@instOfNat (nat_lit 181))) 0), (@Value.ref 476), @Value.none, @Value.none, @Value.none, @Value.none, (@Value.int (@OfNat.ofNat.{0} @Int (nat_lit 808) (@instOfNat (nat_lit 808))) 0), (@Value.int (@OfNat.ofNat.{0} @Int (nat_lit 92) (@instOfNat (nat_lit 92))) 0), (@Value.str (@Str.ofString "/claim/cut.py") 809)])) (@List.toArray.{0} (@Option.{0} @Value) []))
def m478 : Obj := (@Obj.mk (@Value.type "frame") (@Option.none.{0} @Nat) @Data.plain (@List.toArray.{0} (@Option.{0} @Value) [(@Option.some.{0} @Value (@Value.ref 477)), (@Option.some.{0} @Value (@Value.ref 3)), (@Option.some.{0} @Value (@Value.ref 474)), (@Option.none.{0} @Value), (@Option.some.{0} @Value (@Value.str (@Str.ofString "stopanywhere.errors") 187)), (@Option.none.{0} @Value), (@Option.some.{0} @Value (@Value.ref 0))]))
def m479 : Obj := (@Obj.mk (@Value.type "tuple") (@Option.none.{0} @Nat) (@Data.seq (@List.toArray.{0} @Value []) 0) (@List.toArray.{0} (@Option.{0} @Value) []))
def m480 : Obj := (@Obj.mk @Value.none (@Option.none.{0} @Nat) (@Data.fields (@List.toArray.{0} @Value [])) (@List.toArray.{0} (@Option.{0} @Value) []))
def m481 : Obj := (@Obj.mk (@Value.type "tuple") (@Option.none.{0} @Nat) (@Data.seq (@List.toArray.{0} @Value [(@Value.str (@Str.ofString "self") 818), (@Value.str (@Str.ofString "at") 819)]) 0) (@List.toArray.{0} (@Option.{0} @Value) []))
def m482 : Obj := (@Obj.mk (@Value.type "tuple") (@Option.none.{0} @Nat) (@Data.seq (@List.toArray.{0} @Value []) 0) (@List.toArray.{0} (@Option.{0} @Value) []))
def m483 : Obj := (@Obj.mk @Value.none (@Option.none.{0} @Nat) (@Data.func (@FuncData.mk (@Str.ofString "__init__") (@Str.ofString "BadCodes.__init__") (@Arguments.mk [] [(@Arg.mk (@Str.ofString "self") (@Option.none.{0} @Expr) (@Pos.mk 94 17 94 21)), (@Arg.mk (@Str.ofString "at") (@Option.none.{0} @Expr) (@Pos.mk 94 23 94 25))] (@Option.none.{0} @Arg) [] [] (@Option.none.{0} @Arg) []) (@FuncBody.stmts [(@Stmt.Assign [(@Expr.Attribute (@Expr.Name (@Str.ofString "self") (@Pos.mk 95 8 95 12)) (@Str.ofString "at") (@Pos.mk 95 8 95 15))] (@Expr.Name (@Str.ofString "at") (@Pos.mk 95 18 95 20)) (@Pos.mk 95 8 95 20))]) (@Scope.mk @ScopeKind.function [(@Prod.mk.{0, 0} @Str @NameKind (@Str.ofString "self") @NameKind.local), (@Prod.mk.{0, 0} @Str @NameKind (@Str.ofString "at") @NameKind.local)] @Bool.false @Bool.false []) 0 [] @Value.none @Value.none @Value.none @Value.none (@Option.none.{0} @Nat) @Value.none @Value.none 0)) (@List.toArray.{0} (@Option.{0} @Value) []))
def m484 : Obj := (@Obj.mk (@Value.type "code") (@Option.none.{0} @Nat) (@Data.fields (@List.toArray.{0} @Value [(@Value.str (@Str.ofString "__init__") 815), (@Value.str (@Str.ofString "BadCodes.__init__") 816), (@Value.str (@Str.ofString "/claim/cut.py") 817), (@Value.int (@OfNat.ofNat.{0} @Int (nat_lit 94) (@instOfNat (nat_lit 94))) 0), (@Value.int (@OfNat.ofNat.{0} @Int (nat_lit 2) (@instOfNat (nat_lit 2))) 0), (@Value.int (@OfNat.ofNat.{0} @Int (nat_lit 0) (@instOfNat (nat_lit 0))) 0), (@Value.int (@OfNat.ofNat.{0} @Int (nat_lit 0) (@instOfNat (nat_lit 0))) 0), (@Value.int (@OfNat.ofNat.{0} @Int (nat_lit 3) (@instOfNat (nat_lit 3))) 0), (@Value.ref 479), (@Value.bool @Bool.true), (@Value.int (@OfNat.ofNat.{0} @Int (nat_lit 181) (@instOfNat (nat_lit 181))) 0), (@Value.ref 480), @Value.none, (@Value.ref 481), (@Value.ref 482), (@Value.ref 483), (@Value.int (@OfNat.ofNat.{0} @Int (nat_lit 820) (@instOfNat (nat_lit 820))) 0), (@Value.int (@OfNat.ofNat.{0} @Int (nat_lit 94) (@instOfNat (nat_lit 94))) 0), (@Value.str (@Str.ofString "/claim/cut.py") 821)])) (@List.toArray.{0} (@Option.{0} @Value) []))
def m485 : Obj := (@Obj.mk (@Value.type "function") (@Option.none.{0} @Nat) (@Data.func (@FuncData.mk (@Str.ofString "__init__") (@Str.ofString "BadCodes.__init__") (@Arguments.mk [] [(@Arg.mk (@Str.ofString "self") (@Option.none.{0} @Expr) (@Pos.mk 94 17 94 21)), (@Arg.mk (@Str.ofString "at") (@Option.none.{0} @Expr) (@Pos.mk 94 23 94 25))] (@Option.none.{0} @Arg) [] [] (@Option.none.{0} @Arg) []) (@FuncBody.stmts [(@Stmt.Assign [(@Expr.Attribute (@Expr.Name (@Str.ofString "self") (@Pos.mk 95 8 95 12)) (@Str.ofString "at") (@Pos.mk 95 8 95 15))] (@Expr.Name (@Str.ofString "at") (@Pos.mk 95 18 95 20)) (@Pos.mk 95 8 95 20))]) (@Scope.mk @ScopeKind.function [(@Prod.mk.{0, 0} @Str @NameKind (@Str.ofString "self") @NameKind.local), (@Prod.mk.{0, 0} @Str @NameKind (@Str.ofString "at") @NameKind.local)] @Bool.false @Bool.false []) 3 [] @Value.none @Value.none @Value.none (@Value.str (@Str.ofString "stopanywhere.errors") 187) (@Option.none.{0} @Nat) (@Value.ref 484) @Value.none 0)) (@List.toArray.{0} (@Option.{0} @Value) []))
def m486 : Obj := (@Obj.mk (@Value.type "tuple") (@Option.none.{0} @Nat) (@Data.seq (@List.toArray.{0} @Value [(@Value.str (@Str.ofString "at") 823)]) 0) (@List.toArray.{0} (@Option.{0} @Value) []))
def m487 (P : Params) : Obj := (@Obj.mk (@Value.type "dict") (@Option.none.{0} @Nat) (@Data.dict (@List.toArray.{0} @DictEntry [(@DictEntry.mk (@PyData.keyHash P (@Str.ofString "__module__")) (@Value.str (@Str.ofString "__module__") 810) (@Value.str (@Str.ofString "stopanywhere.errors") 187)), (@DictEntry.mk (@PyData.keyHash P (@Str.ofString "__firstlineno__")) (@Value.str (@Str.ofString "__firstlineno__") 814) (@Value.int (@OfNat.ofNat.{0} @Int (nat_lit 92) (@instOfNat (nat_lit 92))) 813)), (@DictEntry.mk (@PyData.keyHash P (@Str.ofString "__init__")) (@Value.str (@Str.ofString "__init__") 822) (@Value.ref 485)), (@DictEntry.mk (@PyData.keyHash P (@Str.ofString "__static_attributes__")) (@Value.str (@Str.ofString "__static_attributes__") 824) (@Value.ref 486)), (@DictEntry.mk (@PyData.keyHash P (@Str.ofString "__doc__")) (@Value.str (@Str.ofString "__doc__") 825) @Value.none)]) 2) (@List.toArray.{0} (@Option.{0} @Value) []))
def m488 : Obj := (@Obj.mk (@Value.type "type") (@Option.none.{0} @Nat) (@Data.cls (@ClassData.mk (@Str.ofString "BadCodes") [(@Value.ref 24)] [(@Value.ref 488), (@Value.ref 24), (@Value.type "ValueError"), (@Value.type "Exception"), (@Value.type "BaseException"), (@Value.type "object")] 487 (@Str.ofString "BadCodes") @Bool.true [] [] @Bool.false (@Option.none.{0} @Bool) @Bool.false)) (@List.toArray.{0} (@Option.{0} @Value) [(@Option.some.{0} @Value (@Value.ref 472)), (@Option.none.{0} @Value), (@Option.some.{0} @Value (@Value.str (@Str.ofString "BadCodes") 803)), (@Option.some.{0} @Value (@Value.str (@Str.ofString "BadCodes") 811)), (@Option.some.{0} @Value (@Value.builtin "ValueError.__new__")), (@Option.some.{0} @Value (@Value.bool @Bool.true))]))
def m489 : Obj := (@Obj.mk (@Value.type "super") (@Option.none.{0} @Nat) (@Data.fields (@List.toArray.{0} @Value [(@Value.ref 488), (@Value.ref 488), (@Value.ref 488)])) (@List.toArray.{0} (@Option.{0} @Value) []))
def m490 : Obj := (@Obj.mk (@Value.type "builtin_function_or_method") (@Option.none.{0} @Nat) (@Data.fields (@List.toArray.{0} @Value [(@Value.builtin "object.__init_subclass__"), (@Value.ref 488)])) (@List.toArray.{0} (@Option.{0} @Value) []))
def m491 : Obj := (@Obj.mk (@Value.type "tuple") (@Option.none.{0} @Nat) (@Data.seq (@List.toArray.{0} @Value [(@Value.ref 24)]) 0) (@List.toArray.{0} (@Option.{0} @Value) []))
def m492 : Obj := (@Obj.mk (@Value.type "builtin_function_or_method") (@Option.none.{0} @Nat) (@Data.fields (@List.toArray.{0} @Value [(@Value.builtin "type.__prepare__"), (@Value.type "type")])) (@List.toArray.{0} (@Option.{0} @Value) []))
def m493 (P : Params) : Obj := (@Obj.mk (@Value.type "dict") (@Option.none.{0} @Nat) (@Data.dict (@List.toArray.{0} @DictEntry [(@DictEntry.mk (@PyData.keyHash P (@Str.ofString "__module__")) (@Value.str (@Str.ofString "__module__") 835) (@Value.str (@Str.ofString "stopanywhere.errors") 187)), (@DictEntry.mk (@PyData.keyHash P (@Str.ofString "__qualname__")) (@Value.str (@Str.ofString "__qualname__") 837) (@Value.str (@Str.ofString "BadSpot") 836)), (@DictEntry.mk (@PyData.keyHash P (@Str.ofString "__firstlineno__")) (@Value.str (@Str.ofString "__firstlineno__") 839) (@Value.int (@OfNat.ofNat.{0} @Int (nat_lit 96) (@instOfNat (nat_lit 96))) 838)), (@DictEntry.mk (@PyData.keyHash P (@Str.ofString "__static_attributes__")) (@Value.str (@Str.ofString "__static_attributes__") 840) (@Value.ref 498))]) 4) (@List.toArray.{0} (@Option.{0} @Value) []))
def m494 : Obj := (@Obj.mk (@Value.type "tuple") (@Option.none.{0} @Nat) (@Data.seq (@List.toArray.{0} @Value []) 0) (@List.toArray.{0} (@Option.{0} @Value) []))
def m495 : Obj := (@Obj.mk @Value.none (@Option.none.{0} @Nat) (@Data.fields (@List.toArray.{0} @Value [])) (@List.toArray.{0} (@Option.{0} @Value) []))
def m496 : Obj := (@Obj.mk (@Value.type "code") (@Option.none.{0} @Nat) (@Data.fields (@List.toArray.{0} @Value [(@Value.str (@Str.ofString "BadSpot") 830), (@Value.str (@Str.ofString "BadSpot") 831), (@Value.str (@Str.ofString "/claim/cut.py") 832), (@Value.int (@OfNat.ofNat.{0} @Int (nat_lit 96) (@instOfNat (nat_lit 96))) 0), (@Value.int (@OfNat.ofNat.{0} @Int (nat_lit 0) (@instOfNat (nat_lit 0))) 0), (@Value.int (@OfNat.ofNat.{0} @Int (nat_lit 0) (@instOfNat (nat_lit 0))) 0), (@Value.int (@OfNat.ofNat.{0} @Int (nat_lit 0) (@instOfNat (nat_lit 0))) 0), (@Value.int (@OfNat.ofNat.{0} @Int (nat_lit 0) (@instOfNat (nat_lit 0))) 0), (@Value.ref 494), (@Value.bool @Bool.false), (@Value.int (@OfNat.ofNat.{0} @Int (nat_lit 181) (@instOfNat (nat_lit 181))) 0), (@Value.ref 495), @Value.none, @Value.none, @Value.none, @Value.none, (@Value.int (@OfNat.ofNat.{0} @Int (nat_lit 833) (@instOfNat (nat_lit 833))) 0), (@Value.int (@OfNat.ofNat.{0} @Int (nat_lit 96) (@instOfNat (nat_lit 96))) 0), (@Value.str (@Str.ofString "/claim/cut.py") 834)])) (@List.toArray.{0} (@Option.{0} @Value) []))
def m497 : Obj := (@Obj.mk (@Value.type "frame") (@Option.none.{0} @Nat) @Data.plain (@List.toArray.{0} (@Option.{0} @Value) [(@Option.some.{0} @Value (@Value.ref 496)), (@Option.some.{0} @Value (@Value.ref 3)), (@Option.some.{0} @Value (@Value.ref 493)), (@Option.none.{0} @Value), (@Option.some.{0} @Value (@Value.str (@Str.ofString "stopanywhere.errors") 187)), (@Option.none.{0} @Value), (@Option.some.{0} @Value (@Value.ref 0))]))
def m498 : Obj := (@Obj.mk (@Value.type "tuple") (@Option.none.{0} @Nat) (@Data.seq (@List.toArray.{0} @Value []) 0) (@List.toArray.{0} (@Option.{0} @Value) []))
def m499 (P : Params) : Obj := (@Obj.mk (@Value.type "dict") (@Option.none.{0} @Nat) (@Data.dict (@List.toArray.{0} @DictEntry [(@DictEntry.mk (@PyData.keyHash P (@Str.ofString "__module__")) (@Value.str (@Str.ofString "__module__") 835) (@Value.str (@Str.ofString "stopanywhere.errors") 187)), (@DictEntry.mk (@PyData.keyHash P (@Str.ofString "__firstlineno__")) (@Value.str (@Str.ofString "__firstlineno__") 839) (@Value.int (@OfNat.ofNat.{0} @Int (nat_lit 96) (@instOfNat (nat_lit 96))) 838)), (@DictEntry.mk (@PyData.keyHash P (@Str.ofString "__static_attributes__")) (@Value.str (@Str.ofString "__static_attributes__") 840) (@Value.ref 498)), (@DictEntry.mk (@PyData.keyHash P (@Str.ofString "__doc__")) (@Value.str (@Str.ofString "__doc__") 841) @Value.none)]) 2) (@List.toArray.{0} (@Option.{0} @Value) []))
def m500 : Obj := (@Obj.mk (@Value.type "type") (@Option.none.{0} @Nat) (@Data.cls (@ClassData.mk (@Str.ofString "BadSpot") [(@Value.ref 24)] [(@Value.ref 500), (@Value.ref 24), (@Value.type "ValueError"), (@Value.type "Exception"), (@Value.type "BaseException"), (@Value.type "object")] 499 (@Str.ofString "BadSpot") @Bool.true [] [] @Bool.false (@Option.none.{0} @Bool) @Bool.false)) (@List.toArray.{0} (@Option.{0} @Value) [(@Option.some.{0} @Value (@Value.ref 491)), (@Option.none.{0} @Value), (@Option.some.{0} @Value (@Value.str (@Str.ofString "BadSpot") 828)), (@Option.some.{0} @Value (@Value.str (@Str.ofString "BadSpot") 836)), (@Option.some.{0} @Value (@Value.builtin "ValueError.__new__")), (@Option.some.{0} @Value (@Value.bool @Bool.true))]))
def m501 : Obj := (@Obj.mk (@Value.type "super") (@Option.none.{0} @Nat) (@Data.fields (@List.toArray.{0} @Value [(@Value.ref 500), (@Value.ref 500), (@Value.ref 500)])) (@List.toArray.{0} (@Option.{0} @Value) []))
def m502 : Obj := (@Obj.mk (@Value.type "builtin_function_or_method") (@Option.none.{0} @Nat) (@Data.fields (@List.toArray.{0} @Value [(@Value.builtin "object.__init_subclass__"), (@Value.ref 500)])) (@List.toArray.{0} (@Option.{0} @Value) []))
def m503 : Obj := (@Obj.mk (@Value.type "tuple") (@Option.none.{0} @Nat) (@Data.seq (@List.toArray.{0} @Value [(@Value.ref 24)]) 0) (@List.toArray.{0} (@Option.{0} @Value) []))
def m504 : Obj := (@Obj.mk (@Value.type "builtin_function_or_method") (@Option.none.{0} @Nat) (@Data.fields (@List.toArray.{0} @Value [(@Value.builtin "type.__prepare__"), (@Value.type "type")])) (@List.toArray.{0} (@Option.{0} @Value) []))
def m505 (P : Params) : Obj := (@Obj.mk (@Value.type "dict") (@Option.none.{0} @Nat) (@Data.dict (@List.toArray.{0} @DictEntry [(@DictEntry.mk (@PyData.keyHash P (@Str.ofString "__module__")) (@Value.str (@Str.ofString "__module__") 851) (@Value.str (@Str.ofString "stopanywhere.errors") 187)), (@DictEntry.mk (@PyData.keyHash P (@Str.ofString "__qualname__")) (@Value.str (@Str.ofString "__qualname__") 853) (@Value.str (@Str.ofString "BadState") 852)), (@DictEntry.mk (@PyData.keyHash P (@Str.ofString "__firstlineno__")) (@Value.str (@Str.ofString "__firstlineno__") 855) (@Value.int (@OfNat.ofNat.{0} @Int (nat_lit 98) (@instOfNat (nat_lit 98))) 854)), (@DictEntry.mk (@PyData.keyHash P (@Str.ofString "__static_attributes__")) (@Value.str (@Str.ofString "__static_attributes__") 856) (@Value.ref 510))]) 4) (@List.toArray.{0} (@Option.{0} @Value) []))
def m506 : Obj := (@Obj.mk (@Value.type "tuple") (@Option.none.{0} @Nat) (@Data.seq (@List.toArray.{0} @Value []) 0) (@List.toArray.{0} (@Option.{0} @Value) []))
def m507 : Obj := (@Obj.mk @Value.none (@Option.none.{0} @Nat) (@Data.fields (@List.toArray.{0} @Value [])) (@List.toArray.{0} (@Option.{0} @Value) []))
def m508 : Obj := (@Obj.mk (@Value.type "code") (@Option.none.{0} @Nat) (@Data.fields (@List.toArray.{0} @Value [(@Value.str (@Str.ofString "BadState") 846), (@Value.str (@Str.ofString "BadState") 847), (@Value.str (@Str.ofString "/claim/cut.py") 848), (@Value.int (@OfNat.ofNat.{0} @Int (nat_lit 98) (@instOfNat (nat_lit 98))) 0), (@Value.int (@OfNat.ofNat.{0} @Int (nat_lit 0) (@instOfNat (nat_lit 0))) 0), (@Value.int (@OfNat.ofNat.{0} @Int (nat_lit 0) (@instOfNat (nat_lit 0))) 0), (@Value.int (@OfNat.ofNat.{0} @Int (nat_lit 0) (@instOfNat (nat_lit 0))) 0), (@Value.int (@OfNat.ofNat.{0} @Int (nat_lit 0) (@instOfNat (nat_lit 0))) 0), (@Value.ref 506), (@Value.bool @Bool.false), (@Value.int (@OfNat.ofNat.{0} @Int (nat_lit 181) (@instOfNat (nat_lit 181))) 0), (@Value.ref 507), @Value.none, @Value.none, @Value.none, @Value.none, (@Value.int (@OfNat.ofNat.{0} @Int (nat_lit 849) (@instOfNat (nat_lit 849))) 0), (@Value.int (@OfNat.ofNat.{0} @Int (nat_lit 98) (@instOfNat (nat_lit 98))) 0), (@Value.str (@Str.ofString "/claim/cut.py") 850)])) (@List.toArray.{0} (@Option.{0} @Value) []))
def m509 : Obj := (@Obj.mk (@Value.type "frame") (@Option.none.{0} @Nat) @Data.plain (@List.toArray.{0} (@Option.{0} @Value) [(@Option.some.{0} @Value (@Value.ref 508)), (@Option.some.{0} @Value (@Value.ref 3)), (@Option.some.{0} @Value (@Value.ref 505)), (@Option.none.{0} @Value), (@Option.some.{0} @Value (@Value.str (@Str.ofString "stopanywhere.errors") 187)), (@Option.none.{0} @Value), (@Option.some.{0} @Value (@Value.ref 0))]))
def m510 : Obj := (@Obj.mk (@Value.type "tuple") (@Option.none.{0} @Nat) (@Data.seq (@List.toArray.{0} @Value []) 0) (@List.toArray.{0} (@Option.{0} @Value) []))
def m511 (P : Params) : Obj := (@Obj.mk (@Value.type "dict") (@Option.none.{0} @Nat) (@Data.dict (@List.toArray.{0} @DictEntry [(@DictEntry.mk (@PyData.keyHash P (@Str.ofString "__module__")) (@Value.str (@Str.ofString "__module__") 851) (@Value.str (@Str.ofString "stopanywhere.errors") 187)), (@DictEntry.mk (@PyData.keyHash P (@Str.ofString "__firstlineno__")) (@Value.str (@Str.ofString "__firstlineno__") 855) (@Value.int (@OfNat.ofNat.{0} @Int (nat_lit 98) (@instOfNat (nat_lit 98))) 854)), (@DictEntry.mk (@PyData.keyHash P (@Str.ofString "__static_attributes__")) (@Value.str (@Str.ofString "__static_attributes__") 856) (@Value.ref 510)), (@DictEntry.mk (@PyData.keyHash P (@Str.ofString "__doc__")) (@Value.str (@Str.ofString "__doc__") 857) @Value.none)]) 2) (@List.toArray.{0} (@Option.{0} @Value) []))
def m512 : Obj := (@Obj.mk (@Value.type "type") (@Option.none.{0} @Nat) (@Data.cls (@ClassData.mk (@Str.ofString "BadState") [(@Value.ref 24)] [(@Value.ref 512), (@Value.ref 24), (@Value.type "ValueError"), (@Value.type "Exception"), (@Value.type "BaseException"), (@Value.type "object")] 511 (@Str.ofString "BadState") @Bool.true [] [] @Bool.false (@Option.none.{0} @Bool) @Bool.false)) (@List.toArray.{0} (@Option.{0} @Value) [(@Option.some.{0} @Value (@Value.ref 503)), (@Option.none.{0} @Value), (@Option.some.{0} @Value (@Value.str (@Str.ofString "BadState") 844)), (@Option.some.{0} @Value (@Value.str (@Str.ofString "BadState") 852)), (@Option.some.{0} @Value (@Value.builtin "ValueError.__new__")), (@Option.some.{0} @Value (@Value.bool @Bool.true))]))
def m513 : Obj := (@Obj.mk (@Value.type "super") (@Option.none.{0} @Nat) (@Data.fields (@List.toArray.{0} @Value [(@Value.ref 512), (@Value.ref 512), (@Value.ref 512)])) (@List.toArray.{0} (@Option.{0} @Value) []))
def m514 : Obj := (@Obj.mk (@Value.type "builtin_function_or_method") (@Option.none.{0} @Nat) (@Data.fields (@List.toArray.{0} @Value [(@Value.builtin "object.__init_subclass__"), (@Value.ref 512)])) (@List.toArray.{0} (@Option.{0} @Value) []))
def m515 : Obj := (@Obj.mk (@Value.type "tuple") (@Option.none.{0} @Nat) (@Data.seq (@List.toArray.{0} @Value [(@Value.ref 24)]) 0) (@List.toArray.{0} (@Option.{0} @Value) []))
def m516 : Obj := (@Obj.mk (@Value.type "builtin_function_or_method") (@Option.none.{0} @Nat) (@Data.fields (@List.toArray.{0} @Value [(@Value.builtin "type.__prepare__"), (@Value.type "type")])) (@List.toArray.{0} (@Option.{0} @Value) []))
def m517 (P : Params) : Obj := (@Obj.mk (@Value.type "dict") (@Option.none.{0} @Nat) (@Data.dict (@List.toArray.{0} @DictEntry [(@DictEntry.mk (@PyData.keyHash P (@Str.ofString "__module__")) (@Value.str (@Str.ofString "__module__") 867) (@Value.str (@Str.ofString "stopanywhere.errors") 187)), (@DictEntry.mk (@PyData.keyHash P (@Str.ofString "__qualname__")) (@Value.str (@Str.ofString "__qualname__") 869) (@Value.str (@Str.ofString "BadWalk") 868)), (@DictEntry.mk (@PyData.keyHash P (@Str.ofString "__firstlineno__")) (@Value.str (@Str.ofString "__firstlineno__") 871) (@Value.int (@OfNat.ofNat.{0} @Int (nat_lit 100) (@instOfNat (nat_lit 100))) 870)), (@DictEntry.mk (@PyData.keyHash P (@Str.ofString "__static_attributes__")) (@Value.str (@Str.ofString "__static_attributes__") 872) (@Value.ref 522))]) 4) (@List.toArray.{0} (@Option.{0} @Value) []))
def m518 : Obj := (@Obj.mk (@Value.type "tuple") (@Option.none.{0} @Nat) (@Data.seq (@List.toArray.{0} @Value []) 0) (@List.toArray.{0} (@Option.{0} @Value) []))
def m519 : Obj := (@Obj.mk @Value.none (@Option.none.{0} @Nat) (@Data.fields (@List.toArray.{0} @Value [])) (@List.toArray.{0} (@Option.{0} @Value) []))
def m520 : Obj := (@Obj.mk (@Value.type "code") (@Option.none.{0} @Nat) (@Data.fields (@List.toArray.{0} @Value [(@Value.str (@Str.ofString "BadWalk") 862), (@Value.str (@Str.ofString "BadWalk") 863), (@Value.str (@Str.ofString "/claim/cut.py") 864), (@Value.int (@OfNat.ofNat.{0} @Int (nat_lit 100) (@instOfNat (nat_lit 100))) 0), (@Value.int (@OfNat.ofNat.{0} @Int (nat_lit 0) (@instOfNat (nat_lit 0))) 0), (@Value.int (@OfNat.ofNat.{0} @Int (nat_lit 0) (@instOfNat (nat_lit 0))) 0), (@Value.int (@OfNat.ofNat.{0} @Int (nat_lit 0) (@instOfNat (nat_lit 0))) 0), (@Value.int (@OfNat.ofNat.{0} @Int (nat_lit 0) (@instOfNat (nat_lit 0))) 0), (@Value.ref 518), (@Value.bool @Bool.false), (@Value.int (@OfNat.ofNat.{0} @Int (nat_lit 181) (@instOfNat (nat_lit 181))) 0), (@Value.ref 519), @Value.none, @Value.none, @Value.none, @Value.none, (@Value.int (@OfNat.ofNat.{0} @Int (nat_lit 865) (@instOfNat (nat_lit 865))) 0), (@Value.int (@OfNat.ofNat.{0} @Int (nat_lit 100) (@instOfNat (nat_lit 100))) 0), (@Value.str (@Str.ofString "/claim/cut.py") 866)])) (@List.toArray.{0} (@Option.{0} @Value) []))
def m521 : Obj := (@Obj.mk (@Value.type "frame") (@Option.none.{0} @Nat) @Data.plain (@List.toArray.{0} (@Option.{0} @Value) [(@Option.some.{0} @Value (@Value.ref 520)), (@Option.some.{0} @Value (@Value.ref 3)), (@Option.some.{0} @Value (@Value.ref 517)), (@Option.none.{0} @Value), (@Option.some.{0} @Value (@Value.str (@Str.ofString "stopanywhere.errors") 187)), (@Option.none.{0} @Value), (@Option.some.{0} @Value (@Value.ref 0))]))
def m522 : Obj := (@Obj.mk (@Value.type "tuple") (@Option.none.{0} @Nat) (@Data.seq (@List.toArray.{0} @Value []) 0) (@List.toArray.{0} (@Option.{0} @Value) []))
def m523 (P : Params) : Obj := (@Obj.mk (@Value.type "dict") (@Option.none.{0} @Nat) (@Data.dict (@List.toArray.{0} @DictEntry [(@DictEntry.mk (@PyData.keyHash P (@Str.ofString "__module__")) (@Value.str (@Str.ofString "__module__") 867) (@Value.str (@Str.ofString "stopanywhere.errors") 187)), (@DictEntry.mk (@PyData.keyHash P (@Str.ofString "__firstlineno__")) (@Value.str (@Str.ofString "__firstlineno__") 871) (@Value.int (@OfNat.ofNat.{0} @Int (nat_lit 100) (@instOfNat (nat_lit 100))) 870)), (@DictEntry.mk (@PyData.keyHash P (@Str.ofString "__static_attributes__")) (@Value.str (@Str.ofString "__static_attributes__") 872) (@Value.ref 522)), (@DictEntry.mk (@PyData.keyHash P (@Str.ofString "__doc__")) (@Value.str (@Str.ofString "__doc__") 873) @Value.none)]) 2) (@List.toArray.{0} (@Option.{0} @Value) []))
def m524 : Obj := (@Obj.mk (@Value.type "type") (@Option.none.{0} @Nat) (@Data.cls (@ClassData.mk (@Str.ofString "BadWalk") [(@Value.ref 24)] [(@Value.ref 524), (@Value.ref 24), (@Value.type "ValueError"), (@Value.type "Exception"), (@Value.type "BaseException"), (@Value.type "object")] 523 (@Str.ofString "BadWalk") @Bool.true [] [] @Bool.false (@Option.none.{0} @Bool) @Bool.false)) (@List.toArray.{0} (@Option.{0} @Value) [(@Option.some.{0} @Value (@Value.ref 515)), (@Option.none.{0} @Value), (@Option.some.{0} @Value (@Value.str (@Str.ofString "BadWalk") 860)), (@Option.some.{0} @Value (@Value.str (@Str.ofString "BadWalk") 868)), (@Option.some.{0} @Value (@Value.builtin "ValueError.__new__")), (@Option.some.{0} @Value (@Value.bool @Bool.true))]))
def m525 : Obj := (@Obj.mk (@Value.type "super") (@Option.none.{0} @Nat) (@Data.fields (@List.toArray.{0} @Value [(@Value.ref 524), (@Value.ref 524), (@Value.ref 524)])) (@List.toArray.{0} (@Option.{0} @Value) []))
def m526 : Obj := (@Obj.mk (@Value.type "builtin_function_or_method") (@Option.none.{0} @Nat) (@Data.fields (@List.toArray.{0} @Value [(@Value.builtin "object.__init_subclass__"), (@Value.ref 524)])) (@List.toArray.{0} (@Option.{0} @Value) []))
def m527 : Obj := (@Obj.mk (@Value.type "tuple") (@Option.none.{0} @Nat) (@Data.seq (@List.toArray.{0} @Value [(@Value.ref 24)]) 0) (@List.toArray.{0} (@Option.{0} @Value) []))
def m528 : Obj := (@Obj.mk (@Value.type "builtin_function_or_method") (@Option.none.{0} @Nat) (@Data.fields (@List.toArray.{0} @Value [(@Value.builtin "type.__prepare__"), (@Value.type "type")])) (@List.toArray.{0} (@Option.{0} @Value) []))
def m529 (P : Params) : Obj := (@Obj.mk (@Value.type "dict") (@Option.none.{0} @Nat) (@Data.dict (@List.toArray.{0} @DictEntry [(@DictEntry.mk (@PyData.keyHash P (@Str.ofString "__module__")) (@Value.str (@Str.ofString "__module__") 883) (@Value.str (@Str.ofString "stopanywhere.errors") 187)), (@DictEntry.mk (@PyData.keyHash P (@Str.ofString "__qualname__")) (@Value.str (@Str.ofString "__qualname__") 885) (@Value.str (@Str.ofString "BadBlock") 884)), (@DictEntry.mk (@PyData.keyHash P (@Str.ofString "__firstlineno__")) (@Value.str (@Str.ofString "__firstlineno__") 887) (@Value.int (@OfNat.ofNat.{0} @Int (nat_lit 102) (@instOfNat (nat_lit 102))) 886)), (@DictEntry.mk (@PyData.keyHash P (@Str.ofString "__static_attributes__")) (@Value.str (@Str.ofString "__static_attributes__") 888) (@Value.ref 534))]) 4) (@List.toArray.{0} (@Option.{0} @Value) []))
def m530 : Obj := (@Obj.mk (@Value.type "tuple") (@Option.none.{0} @Nat) (@Data.seq (@List.toArray.{0} @Value []) 0) (@List.toArray.{0} (@Option.{0} @Value) []))
def m531 : Obj := (@Obj.mk @Value.none (@Option.none.{0} @Nat) (@Data.fields (@List.toArray.{0} @Value [])) (@List.toArray.{0} (@Option.{0} @Value) []))
def m532 : Obj := (@Obj.mk (@Value.type "code") (@Option.none.{0} @Nat) (@Data.fields (@List.toArray.{0} @Value [(@Value.str (@Str.ofString "BadBlock") 878), (@Value.str (@Str.ofString "BadBlock") 879), (@Value.str (@Str.ofString "/claim/cut.py") 880), (@Value.int (@OfNat.ofNat.{0} @Int (nat_lit 102) (@instOfNat (nat_lit 102))) 0), (@Value.int (@OfNat.ofNat.{0} @Int (nat_lit 0) (@instOfNat (nat_lit 0))) 0), (@Value.int (@OfNat.ofNat.{0} @Int (nat_lit 0) (@instOfNat (nat_lit 0))) 0), (@Value.int (@OfNat.ofNat.{0} @Int (nat_lit 0) (@instOfNat (nat_lit 0))) 0), (@Value.int (@OfNat.ofNat.{0} @Int (nat_lit 0) (@instOfNat (nat_lit 0))) 0), (@Value.ref 530), (@Value.bool @Bool.false), (@Value.int (@OfNat.ofNat.{0} @Int (nat_lit 181) (@instOfNat (nat_lit 181))) 0), (@Value.ref 531), @Value.none, @Value.none, @Value.none, @Value.none, (@Value.int (@OfNat.ofNat.{0} @Int (nat_lit 881) (@instOfNat (nat_lit 881))) 0), (@Value.int (@OfNat.ofNat.{0} @Int (nat_lit 102) (@instOfNat (nat_lit 102))) 0), (@Value.str (@Str.ofString "/claim/cut.py") 882)])) (@List.toArray.{0} (@Option.{0} @Value) []))
def m533 : Obj := (@Obj.mk (@Value.type "frame") (@Option.none.{0} @Nat) @Data.plain (@List.toArray.{0} (@Option.{0} @Value) [(@Option.some.{0} @Value (@Value.ref 532)), (@Option.some.{0} @Value (@Value.ref 3)), (@Option.some.{0} @Value (@Value.ref 529)), (@Option.none.{0} @Value), (@Option.some.{0} @Value (@Value.str (@Str.ofString "stopanywhere.errors") 187)), (@Option.none.{0} @Value), (@Option.some.{0} @Value (@Value.ref 0))]))
def m534 : Obj := (@Obj.mk (@Value.type "tuple") (@Option.none.{0} @Nat) (@Data.seq (@List.toArray.{0} @Value []) 0) (@List.toArray.{0} (@Option.{0} @Value) []))
def m535 (P : Params) : Obj := (@Obj.mk (@Value.type "dict") (@Option.none.{0} @Nat) (@Data.dict (@List.toArray.{0} @DictEntry [(@DictEntry.mk (@PyData.keyHash P (@Str.ofString "__module__")) (@Value.str (@Str.ofString "__module__") 883) (@Value.str (@Str.ofString "stopanywhere.errors") 187)), (@DictEntry.mk (@PyData.keyHash P (@Str.ofString "__firstlineno__")) (@Value.str (@Str.ofString "__firstlineno__") 887) (@Value.int (@OfNat.ofNat.{0} @Int (nat_lit 102) (@instOfNat (nat_lit 102))) 886)), (@DictEntry.mk (@PyData.keyHash P (@Str.ofString "__static_attributes__")) (@Value.str (@Str.ofString "__static_attributes__") 888) (@Value.ref 534)), (@DictEntry.mk (@PyData.keyHash P (@Str.ofString "__doc__")) (@Value.str (@Str.ofString "__doc__") 889) @Value.none)]) 2) (@List.toArray.{0} (@Option.{0} @Value) []))
def m536 : Obj := (@Obj.mk (@Value.type "type") (@Option.none.{0} @Nat) (@Data.cls (@ClassData.mk (@Str.ofString "BadBlock") [(@Value.ref 24)] [(@Value.ref 536), (@Value.ref 24), (@Value.type "ValueError"), (@Value.type "Exception"), (@Value.type "BaseException"), (@Value.type "object")] 535 (@Str.ofString "BadBlock") @Bool.true [] [] @Bool.false (@Option.none.{0} @Bool) @Bool.false)) (@List.toArray.{0} (@Option.{0} @Value) [(@Option.some.{0} @Value (@Value.ref 527)), (@Option.none.{0} @Value), (@Option.some.{0} @Value (@Value.str (@Str.ofString "BadBlock") 876)), (@Option.some.{0} @Value (@Value.str (@Str.ofString "BadBlock") 884)), (@Option.some.{0} @Value (@Value.builtin "ValueError.__new__")), (@Option.some.{0} @Value (@Value.bool @Bool.true))]))
def m537 : Obj := (@Obj.mk (@Value.type "super") (@Option.none.{0} @Nat) (@Data.fields (@List.toArray.{0} @Value [(@Value.ref 536), (@Value.ref 536), (@Value.ref 536)])) (@List.toArray.{0} (@Option.{0} @Value) []))
def m538 : Obj := (@Obj.mk (@Value.type "builtin_function_or_method") (@Option.none.{0} @Nat) (@Data.fields (@List.toArray.{0} @Value [(@Value.builtin "object.__init_subclass__"), (@Value.ref 536)])) (@List.toArray.{0} (@Option.{0} @Value) []))
def m539 : Obj := (@Obj.mk (@Value.type "tuple") (@Option.none.{0} @Nat) (@Data.seq (@List.toArray.{0} @Value [(@Value.ref 24)]) 0) (@List.toArray.{0} (@Option.{0} @Value) []))
def m540 : Obj := (@Obj.mk (@Value.type "builtin_function_or_method") (@Option.none.{0} @Nat) (@Data.fields (@List.toArray.{0} @Value [(@Value.builtin "type.__prepare__"), (@Value.type "type")])) (@List.toArray.{0} (@Option.{0} @Value) []))
def m541 (P : Params) : Obj := (@Obj.mk (@Value.type "dict") (@Option.none.{0} @Nat) (@Data.dict (@List.toArray.{0} @DictEntry [(@DictEntry.mk (@PyData.keyHash P (@Str.ofString "__module__")) (@Value.str (@Str.ofString "__module__") 899) (@Value.str (@Str.ofString "stopanywhere.errors") 187)), (@DictEntry.mk (@PyData.keyHash P (@Str.ofString "__qualname__")) (@Value.str (@Str.ofString "__qualname__") 901) (@Value.str (@Str.ofString "BadStep") 900)), (@DictEntry.mk (@PyData.keyHash P (@Str.ofString "__firstlineno__")) (@Value.str (@Str.ofString "__firstlineno__") 903) (@Value.int (@OfNat.ofNat.{0} @Int (nat_lit 104) (@instOfNat (nat_lit 104))) 902)), (@DictEntry.mk (@PyData.keyHash P (@Str.ofString "__static_attributes__")) (@Value.str (@Str.ofString "__static_attributes__") 904) (@Value.ref 546))]) 4) (@List.toArray.{0} (@Option.{0} @Value) []))
def m542 : Obj := (@Obj.mk (@Value.type "tuple") (@Option.none.{0} @Nat) (@Data.seq (@List.toArray.{0} @Value []) 0) (@List.toArray.{0} (@Option.{0} @Value) []))
def m543 : Obj := (@Obj.mk @Value.none (@Option.none.{0} @Nat) (@Data.fields (@List.toArray.{0} @Value [])) (@List.toArray.{0} (@Option.{0} @Value) []))
def m544 : Obj := (@Obj.mk (@Value.type "code") (@Option.none.{0} @Nat) (@Data.fields (@List.toArray.{0} @Value [(@Value.str (@Str.ofString "BadStep") 894), (@Value.str (@Str.ofString "BadStep") 895), (@Value.str (@Str.ofString "/claim/cut.py") 896), (@Value.int (@OfNat.ofNat.{0} @Int (nat_lit 104) (@instOfNat (nat_lit 104))) 0), (@Value.int (@OfNat.ofNat.{0} @Int (nat_lit 0) (@instOfNat (nat_lit 0))) 0), (@Value.int (@OfNat.ofNat.{0} @Int (nat_lit 0) (@instOfNat (nat_lit 0))) 0), (@Value.int (@OfNat.ofNat.{0} @Int (nat_lit 0) (@instOfNat (nat_lit 0))) 0), (@Value.int (@OfNat.ofNat.{0} @Int (nat_lit 0) (@instOfNat (nat_lit 0))) 0), (@Value.ref 542), (@Value.bool @Bool.false), (@Value.int (@OfNat.ofNat.{0} @Int (nat_lit 181) (@instOfNat (nat_lit 181))) 0), (@Value.ref 543), @Value.none, @Value.none, @Value.none, @Value.none, (@Value.int (@OfNat.ofNat.{0} @Int (nat_lit 897) (@instOfNat (nat_lit 897))) 0), (@Value.int (@OfNat.ofNat.{0} @Int (nat_lit 104) (@instOfNat (nat_lit 104))) 0), (@Value.str (@Str.ofString "/claim/cut.py") 898)])) (@List.toArray.{0} (@Option.{0} @Value) []))
def m545 : Obj := (@Obj.mk (@Value.type "frame") (@Option.none.{0} @Nat) @Data.plain (@List.toArray.{0} (@Option.{0} @Value) [(@Option.some.{0} @Value (@Value.ref 544)), (@Option.some.{0} @Value (@Value.ref 3)), (@Option.some.{0} @Value (@Value.ref 541)), (@Option.none.{0} @Value), (@Option.some.{0} @Value (@Value.str (@Str.ofString "stopanywhere.errors") 187)), (@Option.none.{0} @Value), (@Option.some.{0} @Value (@Value.ref 0))]))
def m546 : Obj := (@Obj.mk (@Value.type "tuple") (@Option.none.{0} @Nat) (@Data.seq (@List.toArray.{0} @Value []) 0) (@List.toArray.{0} (@Option.{0} @Value) []))
def m547 (P : Params) : Obj := (@Obj.mk (@Value.type "dict") (@Option.none.{0} @Nat) (@Data.dict (@List.toArray.{0} @DictEntry [(@DictEntry.mk (@PyData.keyHash P (@Str.ofString "__module__")) (@Value.str (@Str.ofString "__module__") 899) (@Value.str (@Str.ofString "stopanywhere.errors") 187)), (@DictEntry.mk (@PyData.keyHash P (@Str.ofString "__firstlineno__")) (@Value.str (@Str.ofString "__firstlineno__") 903) (@Value.int (@OfNat.ofNat.{0} @Int (nat_lit 104) (@instOfNat (nat_lit 104))) 902)), (@DictEntry.mk (@PyData.keyHash P (@Str.ofString "__static_attributes__")) (@Value.str (@Str.ofString "__static_attributes__") 904) (@Value.ref 546)), (@DictEntry.mk (@PyData.keyHash P (@Str.ofString "__doc__")) (@Value.str (@Str.ofString "__doc__") 905) @Value.none)]) 2) (@List.toArray.{0} (@Option.{0} @Value) []))
def m548 : Obj := (@Obj.mk (@Value.type "type") (@Option.none.{0} @Nat) (@Data.cls (@ClassData.mk (@Str.ofString "BadStep") [(@Value.ref 24)] [(@Value.ref 548), (@Value.ref 24), (@Value.type "ValueError"), (@Value.type "Exception"), (@Value.type "BaseException"), (@Value.type "object")] 547 (@Str.ofString "BadStep") @Bool.true [] [] @Bool.false (@Option.none.{0} @Bool) @Bool.false)) (@List.toArray.{0} (@Option.{0} @Value) [(@Option.some.{0} @Value (@Value.ref 539)), (@Option.none.{0} @Value), (@Option.some.{0} @Value (@Value.str (@Str.ofString "BadStep") 892)), (@Option.some.{0} @Value (@Value.str (@Str.ofString "BadStep") 900)), (@Option.some.{0} @Value (@Value.builtin "ValueError.__new__")), (@Option.some.{0} @Value (@Value.bool @Bool.true))]))
def m549 : Obj := (@Obj.mk (@Value.type "super") (@Option.none.{0} @Nat) (@Data.fields (@List.toArray.{0} @Value [(@Value.ref 548), (@Value.ref 548), (@Value.ref 548)])) (@List.toArray.{0} (@Option.{0} @Value) []))
def m550 : Obj := (@Obj.mk (@Value.type "builtin_function_or_method") (@Option.none.{0} @Nat) (@Data.fields (@List.toArray.{0} @Value [(@Value.builtin "object.__init_subclass__"), (@Value.ref 548)])) (@List.toArray.{0} (@Option.{0} @Value) []))
def m551 : Obj := (@Obj.mk (@Value.type "tuple") (@Option.none.{0} @Nat) (@Data.seq (@List.toArray.{0} @Value [(@Value.ref 24)]) 0) (@List.toArray.{0} (@Option.{0} @Value) []))
def m552 : Obj := (@Obj.mk (@Value.type "builtin_function_or_method") (@Option.none.{0} @Nat) (@Data.fields (@List.toArray.{0} @Value [(@Value.builtin "type.__prepare__"), (@Value.type "type")])) (@List.toArray.{0} (@Option.{0} @Value) []))
def m553 (P : Params) : Obj := (@Obj.mk (@Value.type "dict") (@Option.none.{0} @Nat) (@Data.dict (@List.toArray.{0} @DictEntry [(@DictEntry.mk (@PyData.keyHash P (@Str.ofString "__module__")) (@Value.str (@Str.ofString "__module__") 915) (@Value.str (@Str.ofString "stopanywhere.errors") 187)), (@DictEntry.mk (@PyData.keyHash P (@Str.ofString "__qualname__")) (@Value.str (@Str.ofString "__qualname__") 917) (@Value.str (@Str.ofString "Refused") 916)), (@DictEntry.mk (@PyData.keyHash P (@Str.ofString "__firstlineno__")) (@Value.str (@Str.ofString "__firstlineno__") 919) (@Value.int (@OfNat.ofNat.{0} @Int (nat_lit 106) (@instOfNat (nat_lit 106))) 918)), (@DictEntry.mk (@PyData.keyHash P (@Str.ofString "__init__")) (@Value.str (@Str.ofString "__init__") 927) (@Value.ref 564)), (@DictEntry.mk (@PyData.keyHash P (@Str.ofString "__static_attributes__")) (@Value.str (@Str.ofString "__static_attributes__") 929) (@Value.ref 565))]) 5) (@List.toArray.{0} (@Option.{0} @Value) []))
def m554 : Obj := (@Obj.mk (@Value.type "tuple") (@Option.none.{0} @Nat) (@Data.seq (@List.toArray.{0} @Value []) 0) (@List.toArray.{0} (@Option.{0} @Value) []))
def m555 : Obj := (@Obj.mk @Value.none (@Option.none.{0} @Nat) (@Data.fields (@List.toArray.{0} @Value [(@Value.int (@OfNat.ofNat.{0} @Int (nat_lit 108) (@instOfNat (nat_lit 108))) 0), (@Value.int (@OfNat.ofNat.{0} @Int (nat_lit 4) (@instOfNat (nat_lit 4))) 0), (@Value.ref 563)])) (@List.toArray.{0} (@Option.{0} @Value) []))
def m556 : Obj := (@Obj.mk (@Value.type "code") (@Option.none.{0} @Nat) (@Data.fields (@List.toArray.{0} @Value [(@Value.str (@Str.ofString "Refused") 910), (@Value.str (@Str.ofString "Refused") 911), (@Value.str (@Str.ofString "/claim/cut.py") 912), (@Value.int (@OfNat.ofNat.{0} @Int (nat_lit 106) (@instOfNat (nat_lit 106))) 0), (@Value.int (@OfNat.ofNat.{0} @Int (nat_lit 0) (@instOfNat (nat_lit 0))) 0), (@Value.int (@OfNat.ofNat.{0} @Int (nat_lit 0) (@instOfNat (nat_lit 0))) 0), (@Value.int (@OfNat.ofNat.{0} @Int (nat_lit 0) (@instOfNat (nat_lit 0))) 0), (@Value.int (@OfNat.ofNat.{0} @Int (nat_lit 0) (@instOfNat (nat_lit 0))) 0), (@Value.ref 554), (@Value.bool @Bool.false), (@Value.int (@OfNat.ofNat.{0} @Int (nat_lit 181) (@instOfNat (nat_lit 181))) 0), (@Value.ref 555), @Value.none, @Value.none, @Value.none, @Value.none, (@Value.int (@OfNat.ofNat.{0} @Int (nat_lit 913) (@instOfNat (nat_lit 913))) 0), (@Value.int (@OfNat.ofNat.{0} @Int (nat_lit 106) (@instOfNat (nat_lit 106))) 0), (@Value.str (@Str.ofString "/claim/cut.py") 914)])) (@List.toArray.{0} (@Option.{0} @Value) []))
def m557 : Obj := (@Obj.mk (@Value.type "frame") (@Option.none.{0} @Nat) @Data.plain (@List.toArray.{0} (@Option.{0} @Value) [(@Option.some.{0} @Value (@Value.ref 556)), (@Option.some.{0} @Value (@Value.ref 3)), (@Option.some.{0} @Value (@Value.ref 553)), (@Option.none.{0} @Value), (@Option.some.{0} @Value (@Value.str (@Str.ofString "stopanywhere.errors") 187)), (@Option.none.{0} @Value), (@Option.some.{0} @Value (@Value.ref 0))]))
def m558 : Obj := (@Obj.mk (@Value.type "tuple") (@Option.none.{0} @Nat) (@Data.seq (@List.toArray.{0} @Value []) 0) (@List.toArray.{0} (@Option.{0} @Value) []))
def m559 : Obj := (@Obj.mk @Value.none (@Option.none.{0} @Nat) (@Data.fields (@List.toArray.{0} @Value [])) (@List.toArray.{0} (@Option.{0} @Value) []))
def m560 : Obj := (@Obj.mk (@Value.type "tuple") (@Option.none.{0} @Nat) (@Data.seq (@List.toArray.{0} @Value [(@Value.str (@Str.ofString "self") 923), (@Value.str (@Str.ofString "why") 924)]) 0) (@List.toArray.{0} (@Option.{0} @Value) []))
def m561 : Obj := (@Obj.mk (@Value.type "tuple") (@Option.none.{0} @Nat) (@Data.seq (@List.toArray.{0} @Value []) 0) (@List.toArray.{0} (@Option.{0} @Value) []))
def m562 : Obj := (@Obj.mk @Value.none (@Option.none.{0} @Nat) (@Data.func (@FuncData.mk (@Str.ofString "__init__") (@Str.ofString "Refused.__init__") (@Arguments.mk [] [(@Arg.mk (@Str.ofString "self") (@Option.none.{0} @Expr) (@Pos.mk 108 17 108 21)), (@Arg.mk (@Str.ofString "why") (@Option.none.{0} @Expr) (@Pos.mk 108 23 108 26))] (@Option.none.{0} @Arg) [] [] (@Option.none.{0} @Arg) []) (@FuncBody.stmts [(@Stmt.Assign [(@Expr.Attribute (@Expr.Name (@Str.ofString "self") (@Pos.mk 109 8 109 12)) (@Str.ofString "why") (@Pos.mk 109 8 109 16))] (@Expr.Name (@Str.ofString "why") (@Pos.mk 109 19 109 22)) (@Pos.mk 109 8 109 22))]) (@Scope.mk @ScopeKind.function [(@Prod.mk.{0, 0} @Str @NameKind (@Str.ofString "self") @NameKind.local), (@Prod.mk.{0, 0} @Str @NameKind (@Str.ofString "why") @NameKind.local)] @Bool.false @Bool.false []) 0 [] @Value.none @Value.none @Value.none @Value.none (@Option.none.{0} @Nat) @Value.none @Value.none 0)) (@List.toArray.{0} (@Option.{0} @Value) []))
def m563 : Obj := (@Obj.mk (@Value.type "code") (@Option.none.{0} @Nat) (@Data.fields (@List.toArray.{0} @Value [(@Value.str (@Str.ofString "__init__") 920), (@Value.str (@Str.ofString "Refused.__init__") 921), (@Value.str (@Str.ofString "/claim/cut.py") 922), (@Value.int (@OfNat.ofNat.{0} @Int (nat_lit 108) (@instOfNat (nat_lit 108))) 0), (@Value.int (@OfNat.ofNat.{0} @Int (nat_lit 2) (@instOfNat (nat_lit 2))) 0), (@Value.int (@OfNat.ofNat.{0} @Int (nat_lit 0) (@instOfNat (nat_lit 0))) 0), (@Value.int (@OfNat.ofNat.{0} @Int (nat_lit 0) (@instOfNat (nat_lit 0))) 0), (@Value.int (@OfNat.ofNat.{0} @Int (nat_lit 3) (@instOfNat (nat_lit 3))) 0), (@Value.ref 558), (@Value.bool @Bool.true), (@Value.int (@OfNat.ofNat.{0} @Int (nat_lit 181) (@instOfNat (nat_lit 181))) 0), (@Value.ref 559), @Value.none, (@Value.ref 560), (@Value.ref 561), (@Value.ref 562), (@Value.int (@OfNat.ofNat.{0} @Int (nat_lit 925) (@instOfNat (nat_lit 925))) 0), (@Value.int (@OfNat.ofNat.{0} @Int (nat_lit 108) (@instOfNat (nat_lit 108))) 0), (@Value.str (@Str.ofString "/claim/cut.py") 926)])) (@List.toArray.{0} (@Option.{0} @Value) []))
def m564 : Obj := (@Obj.mk (@Value.type "function") (@Option.none.{0} @Nat) (@Data.func (@FuncData.mk (@Str.ofString "__init__") (@Str.ofString "Refused.__init__") (@Arguments.mk [] [(@Arg.mk (@Str.ofString "self") (@Option.none.{0} @Expr) (@Pos.mk 108 17 108 21)), (@Arg.mk (@Str.ofString "why") (@Option.none.{0} @Expr) (@Pos.mk 108 23 108 26))] (@Option.none.{0} @Arg) [] [] (@Option.none.{0} @Arg) []) (@FuncBody.stmts [(@Stmt.Assign [(@Expr.Attribute (@Expr.Name (@Str.ofString "self") (@Pos.mk 109 8 109 12)) (@Str.ofString "why") (@Pos.mk 109 8 109 16))] (@Expr.Name (@Str.ofString "why") (@Pos.mk 109 19 109 22)) (@Pos.mk 109 8 109 22))]) (@Scope.mk @ScopeKind.function [(@Prod.mk.{0, 0} @Str @NameKind (@Str.ofString "self") @NameKind.local), (@Prod.mk.{0, 0} @Str @NameKind (@Str.ofString "why") @NameKind.local)] @Bool.false @Bool.false []) 3 [] @Value.none @Value.none @Value.none (@Value.str (@Str.ofString "stopanywhere.errors") 187) (@Option.none.{0} @Nat) (@Value.ref 563) @Value.none 0)) (@List.toArray.{0} (@Option.{0} @Value) []))
def m565 : Obj := (@Obj.mk (@Value.type "tuple") (@Option.none.{0} @Nat) (@Data.seq (@List.toArray.{0} @Value [(@Value.str (@Str.ofString "why") 928)]) 0) (@List.toArray.{0} (@Option.{0} @Value) []))
def m566 (P : Params) : Obj := (@Obj.mk (@Value.type "dict") (@Option.none.{0} @Nat) (@Data.dict (@List.toArray.{0} @DictEntry [(@DictEntry.mk (@PyData.keyHash P (@Str.ofString "__module__")) (@Value.str (@Str.ofString "__module__") 915) (@Value.str (@Str.ofString "stopanywhere.errors") 187)), (@DictEntry.mk (@PyData.keyHash P (@Str.ofString "__firstlineno__")) (@Value.str (@Str.ofString "__firstlineno__") 919) (@Value.int (@OfNat.ofNat.{0} @Int (nat_lit 106) (@instOfNat (nat_lit 106))) 918)), (@DictEntry.mk (@PyData.keyHash P (@Str.ofString "__init__")) (@Value.str (@Str.ofString "__init__") 927) (@Value.ref 564)), (@DictEntry.mk (@PyData.keyHash P (@Str.ofString "__static_attributes__")) (@Value.str (@Str.ofString "__static_attributes__") 929) (@Value.ref 565)), (@DictEntry.mk (@PyData.keyHash P (@Str.ofString "__doc__")) (@Value.str (@Str.ofString "__doc__") 930) @Value.none)]) 2) (@List.toArray.{0} (@Option.{0} @Value) []))
def m567 : Obj := (@Obj.mk (@Value.type "type") (@Option.none.{0} @Nat) (@Data.cls (@ClassData.mk (@Str.ofString "Refused") [(@Value.ref 24)] [(@Value.ref 567), (@Value.ref 24), (@Value.type "ValueError"), (@Value.type "Exception"), (@Value.type "BaseException"), (@Value.type "object")] 566 (@Str.ofString "Refused") @Bool.true [] [] @Bool.false (@Option.none.{0} @Bool) @Bool.false)) (@List.toArray.{0} (@Option.{0} @Value) [(@Option.some.{0} @Value (@Value.ref 551)), (@Option.none.{0} @Value), (@Option.some.{0} @Value (@Value.str (@Str.ofString "Refused") 908)), (@Option.some.{0} @Value (@Value.str (@Str.ofString "Refused") 916)), (@Option.some.{0} @Value (@Value.builtin "ValueError.__new__")), (@Option.some.{0} @Value (@Value.bool @Bool.true))]))
def m568 : Obj := (@Obj.mk (@Value.type "super") (@Option.none.{0} @Nat) (@Data.fields (@List.toArray.{0} @Value [(@Value.ref 567), (@Value.ref 567), (@Value.ref 567)])) (@List.toArray.{0} (@Option.{0} @Value) []))
def m569 : Obj := (@Obj.mk (@Value.type "builtin_function_or_method") (@Option.none.{0} @Nat) (@Data.fields (@List.toArray.{0} @Value [(@Value.builtin "object.__init_subclass__"), (@Value.ref 567)])) (@List.toArray.{0} (@Option.{0} @Value) []))
def m570 : Obj := (@Obj.mk (@Value.type "tuple") (@Option.none.{0} @Nat) (@Data.seq (@List.toArray.{0} @Value [(@Value.ref 24)]) 0) (@List.toArray.{0} (@Option.{0} @Value) []))
def m571 : Obj := (@Obj.mk (@Value.type "builtin_function_or_method") (@Option.none.{0} @Nat) (@Data.fields (@List.toArray.{0} @Value [(@Value.builtin "type.__prepare__"), (@Value.type "type")])) (@List.toArray.{0} (@Option.{0} @Value) []))
def m572 (P : Params) : Obj := (@Obj.mk (@Value.type "dict") (@Option.none.{0} @Nat) (@Data.dict (@List.toArray.{0} @DictEntry [(@DictEntry.mk (@PyData.keyHash P (@Str.ofString "__module__")) (@Value.str (@Str.ofString "__module__") 940) (@Value.str (@Str.ofString "stopanywhere.errors") 187)), (@DictEntry.mk (@PyData.keyHash P (@Str.ofString "__qualname__")) (@Value.str (@Str.ofString "__qualname__") 942) (@Value.str (@Str.ofString "BadRows") 941)), (@DictEntry.mk (@PyData.keyHash P (@Str.ofString "__firstlineno__")) (@Value.str (@Str.ofString "__firstlineno__") 944) (@Value.int (@OfNat.ofNat.{0} @Int (nat_lit 110) (@instOfNat (nat_lit 110))) 943)), (@DictEntry.mk (@PyData.keyHash P (@Str.ofString "__init__")) (@Value.str (@Str.ofString "__init__") 952) (@Value.ref 583)), (@DictEntry.mk (@PyData.keyHash P (@Str.ofString "__static_attributes__")) (@Value.str (@Str.ofString "__static_attributes__") 954) (@Value.ref 584))]) 5) (@List.toArray.{0} (@Option.{0} @Value) []))
def m573 : Obj := (@Obj.mk (@Value.type "tuple") (@Option.none.{0} @Nat) (@Data.seq (@List.toArray.{0} @Value []) 0) (@List.toArray.{0} (@Option.{0} @Value) []))
def m574 : Obj := (@Obj.mk @Value.none (@Option.none.{0} @Nat) (@Data.fields (@List.toArray.{0} @Value [(@Value.int (@OfNat.ofNat.{0} @Int (nat_lit 112) (@instOfNat (nat_lit 112))) 0), (@Value.int (@OfNat.ofNat.{0} @Int (nat_lit 4) (@instOfNat (nat_lit 4))) 0), (@Value.ref 582)])) (@List.toArray.{0} (@Option.{0} @Value) []))
def m575 : Obj := (@Obj.mk (@Value.type "code") (@Option.none.{0} @Nat) (@Data.fields (@List.toArray.{0} @Value [(@Value.str (@Str.ofString "BadRows") 935), (@Value.str (@Str.ofString "BadRows") 936), (@Value.str (@Str.ofString "/claim/cut.py") 937), (@Value.int (@OfNat.ofNat.{0} @Int (nat_lit 110) (@instOfNat (nat_lit 110))) 0), (@Value.int (@OfNat.ofNat.{0} @Int (nat_lit 0) (@instOfNat (nat_lit 0))) 0), (@Value.int (@OfNat.ofNat.{0} @Int (nat_lit 0) (@instOfNat (nat_lit 0))) 0), (@Value.int (@OfNat.ofNat.{0} @Int (nat_lit 0) (@instOfNat (nat_lit 0))) 0), (@Value.int (@OfNat.ofNat.{0} @Int (nat_lit 0) (@instOfNat (nat_lit 0))) 0), (@Value.ref 573), (@Value.bool @Bool.false), (@Value.int (@OfNat.ofNat.{0} @Int (nat_lit 181) (@instOfNat (nat_lit 181))) 0), (@Value.ref 574), @Value.none, @Value.none, @Value.none, @Value.none, (@Value.int (@OfNat.ofNat.{0} @Int (nat_lit 938) (@instOfNat (nat_lit 938))) 0), (@Value.int (@OfNat.ofNat.{0} @Int (nat_lit 110) (@instOfNat (nat_lit 110))) 0), (@Value.str (@Str.ofString "/claim/cut.py") 939)])) (@List.toArray.{0} (@Option.{0} @Value) []))
def m576 : Obj := (@Obj.mk (@Value.type "frame") (@Option.none.{0} @Nat) @Data.plain (@List.toArray.{0} (@Option.{0} @Value) [(@Option.some.{0} @Value (@Value.ref 575)), (@Option.some.{0} @Value (@Value.ref 3)), (@Option.some.{0} @Value (@Value.ref 572)), (@Option.none.{0} @Value), (@Option.some.{0} @Value (@Value.str (@Str.ofString "stopanywhere.errors") 187)), (@Option.none.{0} @Value), (@Option.some.{0} @Value (@Value.ref 0))]))
def m577 : Obj := (@Obj.mk (@Value.type "tuple") (@Option.none.{0} @Nat) (@Data.seq (@List.toArray.{0} @Value []) 0) (@List.toArray.{0} (@Option.{0} @Value) []))
def m578 : Obj := (@Obj.mk @Value.none (@Option.none.{0} @Nat) (@Data.fields (@List.toArray.{0} @Value [])) (@List.toArray.{0} (@Option.{0} @Value) []))
def m579 : Obj := (@Obj.mk (@Value.type "tuple") (@Option.none.{0} @Nat) (@Data.seq (@List.toArray.{0} @Value [(@Value.str (@Str.ofString "self") 948), (@Value.str (@Str.ofString "at") 949)]) 0) (@List.toArray.{0} (@Option.{0} @Value) []))
def m580 : Obj := (@Obj.mk (@Value.type "tuple") (@Option.none.{0} @Nat) (@Data.seq (@List.toArray.{0} @Value []) 0) (@List.toArray.{0} (@Option.{0} @Value) []))
def m581 : Obj := (@Obj.mk @Value.none (@Option.none.{0} @Nat) (@Data.func (@FuncData.mk (@Str.ofString "__init__") (@Str.ofString "BadRows.__init__") (@Arguments.mk [] [(@Arg.mk (@Str.ofString "self") (@Option.none.{0} @Expr) (@Pos.mk 112 17 112 21)), (@Arg.mk (@Str.ofString "at") (@Option.none.{0} @Expr) (@Pos.mk 112 23 112 25))] (@Option.none.{0} @Arg) [] [] (@Option.none.{0} @Arg) []) (@FuncBody.stmts [(@Stmt.Assign [(@Expr.Attribute (@Expr.Name (@Str.ofString "self") (@Pos.mk 113 8 113 12)) (@Str.ofString "at") (@Pos.mk 113 8 113 15))] (@Expr.Name (@Str.ofString "at") (@Pos.mk 113 18 113 20)) (@Pos.mk 113 8 113 20))]) (@Scope.mk @ScopeKind.function [(@Prod.mk.{0, 0} @Str @NameKind (@Str.ofString "self") @NameKind.local), (@Prod.mk.{0, 0} @Str @NameKind (@Str.ofString "at") @NameKind.local)] @Bool.false @Bool.false []) 0 [] @Value.none @Value.none @Value.none @Value.none (@Option.none.{0} @Nat) @Value.none @Value.none 0)) (@List.toArray.{0} (@Option.{0} @Value) []))
def m582 : Obj := (@Obj.mk (@Value.type "code") (@Option.none.{0} @Nat) (@Data.fields (@List.toArray.{0} @Value [(@Value.str (@Str.ofString "__init__") 945), (@Value.str (@Str.ofString "BadRows.__init__") 946), (@Value.str (@Str.ofString "/claim/cut.py") 947), (@Value.int (@OfNat.ofNat.{0} @Int (nat_lit 112) (@instOfNat (nat_lit 112))) 0), (@Value.int (@OfNat.ofNat.{0} @Int (nat_lit 2) (@instOfNat (nat_lit 2))) 0), (@Value.int (@OfNat.ofNat.{0} @Int (nat_lit 0) (@instOfNat (nat_lit 0))) 0), (@Value.int (@OfNat.ofNat.{0} @Int (nat_lit 0) (@instOfNat (nat_lit 0))) 0), (@Value.int (@OfNat.ofNat.{0} @Int (nat_lit 3) (@instOfNat (nat_lit 3))) 0), (@Value.ref 577), (@Value.bool @Bool.true), (@Value.int (@OfNat.ofNat.{0} @Int (nat_lit 181) (@instOfNat (nat_lit 181))) 0), (@Value.ref 578), @Value.none, (@Value.ref 579), (@Value.ref 580), (@Value.ref 581), (@Value.int (@OfNat.ofNat.{0} @Int (nat_lit 950) (@instOfNat (nat_lit 950))) 0), (@Value.int (@OfNat.ofNat.{0} @Int (nat_lit 112) (@instOfNat (nat_lit 112))) 0), (@Value.str (@Str.ofString "/claim/cut.py") 951)])) (@List.toArray.{0} (@Option.{0} @Value) []))
def m583 : Obj := (@Obj.mk (@Value.type "function") (@Option.none.{0} @Nat) (@Data.func (@FuncData.mk (@Str.ofString "__init__") (@Str.ofString "BadRows.__init__") (@Arguments.mk [] [(@Arg.mk (@Str.ofString "self") (@Option.none.{0} @Expr) (@Pos.mk 112 17 112 21)), (@Arg.mk (@Str.ofString "at") (@Option.none.{0} @Expr) (@Pos.mk 112 23 112 25))] (@Option.none.{0} @Arg) [] [] (@Option.none.{0} @Arg) []) (@FuncBody.stmts [(@Stmt.Assign [(@Expr.Attribute (@Expr.Name (@Str.ofString "self") (@Pos.mk 113 8 113 12)) (@Str.ofString "at") (@Pos.mk 113 8 113 15))] (@Expr.Name (@Str.ofString "at") (@Pos.mk 113 18 113 20)) (@Pos.mk 113 8 113 20))]) (@Scope.mk @ScopeKind.function [(@Prod.mk.{0, 0} @Str @NameKind (@Str.ofString "self") @NameKind.local), (@Prod.mk.{0, 0} @Str @NameKind (@Str.ofString "at") @NameKind.local)] @Bool.false @Bool.false []) 3 [] @Value.none @Value.none @Value.none (@Value.str (@Str.ofString "stopanywhere.errors") 187) (@Option.none.{0} @Nat) (@Value.ref 582) @Value.none 0)) (@List.toArray.{0} (@Option.{0} @Value) []))
def m584 : Obj := (@Obj.mk (@Value.type "tuple") (@Option.none.{0} @Nat) (@Data.seq (@List.toArray.{0} @Value [(@Value.str (@Str.ofString "at") 953)]) 0) (@List.toArray.{0} (@Option.{0} @Value) []))
def m585 (P : Params) : Obj := (@Obj.mk (@Value.type "dict") (@Option.none.{0} @Nat) (@Data.dict (@List.toArray.{0} @DictEntry [(@DictEntry.mk (@PyData.keyHash P (@Str.ofString "__module__")) (@Value.str (@Str.ofString "__module__") 940) (@Value.str (@Str.ofString "stopanywhere.errors") 187)), (@DictEntry.mk (@PyData.keyHash P (@Str.ofString "__firstlineno__")) (@Value.str (@Str.ofString "__firstlineno__") 944) (@Value.int (@OfNat.ofNat.{0} @Int (nat_lit 110) (@instOfNat (nat_lit 110))) 943)), (@DictEntry.mk (@PyData.keyHash P (@Str.ofString "__init__")) (@Value.str (@Str.ofString "__init__") 952) (@Value.ref 583)), (@DictEntry.mk (@PyData.keyHash P (@Str.ofString "__static_attributes__")) (@Value.str (@Str.ofString "__static_attributes__") 954) (@Value.ref 584)), (@DictEntry.mk (@PyData.keyHash P (@Str.ofString "__doc__")) (@Value.str (@Str.ofString "__doc__") 955) @Value.none)]) 2) (@List.toArray.{0} (@Option.{0} @Value) []))
def m586 : Obj := (@Obj.mk (@Value.type "type") (@Option.none.{0} @Nat) (@Data.cls (@ClassData.mk (@Str.ofString "BadRows") [(@Value.ref 24)] [(@Value.ref 586), (@Value.ref 24), (@Value.type "ValueError"), (@Value.type "Exception"), (@Value.type "BaseException"), (@Value.type "object")] 585 (@Str.ofString "BadRows") @Bool.true [] [] @Bool.false (@Option.none.{0} @Bool) @Bool.false)) (@List.toArray.{0} (@Option.{0} @Value) [(@Option.some.{0} @Value (@Value.ref 570)), (@Option.none.{0} @Value), (@Option.some.{0} @Value (@Value.str (@Str.ofString "BadRows") 933)), (@Option.some.{0} @Value (@Value.str (@Str.ofString "BadRows") 941)), (@Option.some.{0} @Value (@Value.builtin "ValueError.__new__")), (@Option.some.{0} @Value (@Value.bool @Bool.true))]))
def m587 : Obj := (@Obj.mk (@Value.type "super") (@Option.none.{0} @Nat) (@Data.fields (@List.toArray.{0} @Value [(@Value.ref 586), (@Value.ref 586), (@Value.ref 586)])) (@List.toArray.{0} (@Option.{0} @Value) []))
def m588 : Obj := (@Obj.mk (@Value.type "builtin_function_or_method") (@Option.none.{0} @Nat) (@Data.fields (@List.toArray.{0} @Value [(@Value.builtin "object.__init_subclass__"), (@Value.ref 586)])) (@List.toArray.{0} (@Option.{0} @Value) []))
def m589 : Obj := (@Obj.mk (@Value.type "tuple") (@Option.none.{0} @Nat) (@Data.seq (@List.toArray.{0} @Value [(@Value.ref 24)]) 0) (@List.toArray.{0} (@Option.{0} @Value) []))
def m590 : Obj := (@Obj.mk (@Value.type "builtin_function_or_method") (@Option.none.{0} @Nat) (@Data.fields (@List.toArray.{0} @Value [(@Value.builtin "type.__prepare__"), (@Value.type "type")])) (@List.toArray.{0} (@Option.{0} @Value) []))
def m591 (P : Params) : Obj := (@Obj.mk (@Value.type "dict") (@Option.none.{0} @Nat) (@Data.dict (@List.toArray.{0} @DictEntry [(@DictEntry.mk (@PyData.keyHash P (@Str.ofString "__module__")) (@Value.str (@Str.ofString "__module__") 965) (@Value.str (@Str.ofString "stopanywhere.errors") 187)), (@DictEntry.mk (@PyData.keyHash P (@Str.ofString "__qualname__")) (@Value.str (@Str.ofString "__qualname__") 967) (@Value.str (@Str.ofString "BadSlots") 966)), (@DictEntry.mk (@PyData.keyHash P (@Str.ofString "__firstlineno__")) (@Value.str (@Str.ofString "__firstlineno__") 969) (@Value.int (@OfNat.ofNat.{0} @Int (nat_lit 114) (@instOfNat (nat_lit 114))) 968)), (@DictEntry.mk (@PyData.keyHash P (@Str.ofString "__static_attributes__")) (@Value.str (@Str.ofString "__static_attributes__") 970) (@Value.ref 596))]) 4) (@List.toArray.{0} (@Option.{0} @Value) []))
def m592 : Obj := (@Obj.mk (@Value.type "tuple") (@Option.none.{0} @Nat) (@Data.seq (@List.toArray.{0} @Value []) 0) (@List.toArray.{0} (@Option.{0} @Value) []))
def m593 : Obj := (@Obj.mk @Value.none (@Option.none.{0} @Nat) (@Data.fields (@List.toArray.{0} @Value [])) (@List.toArray.{0} (@Option.{0} @Value) []))
def m594 : Obj := (@Obj.mk (@Value.type "code") (@Option.none.{0} @Nat) (@Data.fields (@List.toArray.{0} @Value [(@Value.str (@Str.ofString "BadSlots") 960), (@Value.str (@Str.ofString "BadSlots") 961), (@Value.str (@Str.ofString "/claim/cut.py") 962), (@Value.int (@OfNat.ofNat.{0} @Int (nat_lit 114) (@instOfNat (nat_lit 114))) 0), (@Value.int (@OfNat.ofNat.{0} @Int (nat_lit 0) (@instOfNat (nat_lit 0))) 0), (@Value.int (@OfNat.ofNat.{0} @Int (nat_lit 0) (@instOfNat (nat_lit 0))) 0), (@Value.int (@OfNat.ofNat.{0} @Int (nat_lit 0) (@instOfNat (nat_lit 0))) 0), (@Value.int (@OfNat.ofNat.{0} @Int (nat_lit 0) (@instOfNat (nat_lit 0))) 0), (@Value.ref 592), (@Value.bool @Bool.false), (@Value.int (@OfNat.ofNat.{0} @Int (nat_lit 181) (@instOfNat (nat_lit 181))) 0), (@Value.ref 593), @Value.none, @Value.none, @Value.none, @Value.none, (@Value.int (@OfNat.ofNat.{0} @Int (nat_lit 963) (@instOfNat (nat_lit 963))) 0), (@Value.int (@OfNat.ofNat.{0} @Int (nat_lit 114) (@instOfNat (nat_lit 114))) 0), (@Value.str (@Str.ofString "/claim/cut.py") 964)])) (@List.toArray.{0} (@Option.{0} @Value) []))
def m595 : Obj := (@Obj.mk (@Value.type "frame") (@Option.none.{0} @Nat) @Data.plain (@List.toArray.{0} (@Option.{0} @Value) [(@Option.some.{0} @Value (@Value.ref 594)), (@Option.some.{0} @Value (@Value.ref 3)), (@Option.some.{0} @Value (@Value.ref 591)), (@Option.none.{0} @Value), (@Option.some.{0} @Value (@Value.str (@Str.ofString "stopanywhere.errors") 187)), (@Option.none.{0} @Value), (@Option.some.{0} @Value (@Value.ref 0))]))
def m596 : Obj := (@Obj.mk (@Value.type "tuple") (@Option.none.{0} @Nat) (@Data.seq (@List.toArray.{0} @Value []) 0) (@List.toArray.{0} (@Option.{0} @Value) []))
def m597 (P : Params) : Obj := (@Obj.mk (@Value.type "dict") (@Option.none.{0} @Nat) (@Data.dict (@List.toArray.{0} @DictEntry [(@DictEntry.mk (@PyData.keyHash P (@Str.ofString "__module__")) (@Value.str (@Str.ofString "__module__") 965) (@Value.str (@Str.ofString "stopanywhere.errors") 187)), (@DictEntry.mk (@PyData.keyHash P (@Str.ofString "__firstlineno__")) (@Value.str (@Str.ofString "__firstlineno__") 969) (@Value.int (@OfNat.ofNat.{0} @Int (nat_lit 114) (@instOfNat (nat_lit 114))) 968)), (@DictEntry.mk (@PyData.keyHash P (@Str.ofString "__static_attributes__")) (@Value.str (@Str.ofString "__static_attributes__") 970) (@Value.ref 596)), (@DictEntry.mk (@PyData.keyHash P (@Str.ofString "__doc__")) (@Value.str (@Str.ofString "__doc__") 971) @Value.none)]) 2) (@List.toArray.{0} (@Option.{0} @Value) []))
def m598 : Obj := (@Obj.mk (@Value.type "type") (@Option.none.{0} @Nat) (@Data.cls (@ClassData.mk (@Str.ofString "BadSlots") [(@Value.ref 24)] [(@Value.ref 598), (@Value.ref 24), (@Value.type "ValueError"), (@Value.type "Exception"), (@Value.type "BaseException"), (@Value.type "object")] 597 (@Str.ofString "BadSlots") @Bool.true [] [] @Bool.false (@Option.none.{0} @Bool) @Bool.false)) (@List.toArray.{0} (@Option.{0} @Value) [(@Option.some.{0} @Value (@Value.ref 589)), (@Option.none.{0} @Value), (@Option.some.{0} @Value (@Value.str (@Str.ofString "BadSlots") 958)), (@Option.some.{0} @Value (@Value.str (@Str.ofString "BadSlots") 966)), (@Option.some.{0} @Value (@Value.builtin "ValueError.__new__")), (@Option.some.{0} @Value (@Value.bool @Bool.true))]))
def m599 : Obj := (@Obj.mk (@Value.type "super") (@Option.none.{0} @Nat) (@Data.fields (@List.toArray.{0} @Value [(@Value.ref 598), (@Value.ref 598), (@Value.ref 598)])) (@List.toArray.{0} (@Option.{0} @Value) []))
def m600 : Obj := (@Obj.mk (@Value.type "builtin_function_or_method") (@Option.none.{0} @Nat) (@Data.fields (@List.toArray.{0} @Value [(@Value.builtin "object.__init_subclass__"), (@Value.ref 598)])) (@List.toArray.{0} (@Option.{0} @Value) []))
def midT (P : Params) : BT := (.node (boot_o_0 P) (.node (boot_o_1 P) (.node (m3 P) (.node (boot_o_7 P) (.node m15 (.node m31 (.node m63 (.node m127 (.node m255 (.node (m511 P) .nil .nil) .nil) (.node m383 .nil .nil)) (.node m191 (.node m319 (.node m575 .nil .nil) .nil) (.node m447 .nil .nil))) (.node m95 (.node m159 (.node m287 (.node m543 .nil .nil) .nil) (.node m415 .nil .nil)) (.node m223 (.node (m351 P) .nil .nil) (.node m479 .nil .nil)))) (.node m47 (.node (m79 P) (.node m143 (.node m271 (.node m527 .nil .nil) .nil) (.node m399 .nil .nil)) (.node m207 (.node m335 (.node (m591 P) .nil .nil) .nil) (.node m463 .nil .nil))) (.node m111 (.node m175 (.node m303 (.node m559 .nil .nil) .nil) (.node m431 .nil .nil)) (.node (m239 P) (.node m367 .nil .nil) (.node m495 .nil .nil))))) (.node (m23 P) (.node m39 (.node m71 (.node m135 (.node m263 (.node m519 .nil .nil) .nil) (.node m391 .nil .nil)) (.node m199 (.node (m327 P) (.node m583 .nil .nil) .nil) (.node m455 .nil .nil))) (.node (m103 P) (.node m167 (.node m295 (.node m551 .nil .nil) .nil) (.node m423 .nil .nil)) (.node m231 (.node m359 .nil .nil) (.node (m487 P) .nil .nil)))) (.node m55 (.node m87 (.node m151 (.node m279 (.node (m535 P) .nil .nil) .nil) (.node m407 .nil .nil)) (.node (m215 P) (.node m343 (.node m599 .nil .nil) .nil) (.node m471 .nil .nil))) (.node m119 (.node m183 (.node m311 (.node m567 .nil .nil) .nil) (.node m439 .nil .nil)) (.node m247 (.node m375 .nil .nil) (.node m503 .nil .nil)))))) (.node m11 (.node m19 (.node m35 (.node (m67 P) (.node m131 (.node m259 (.node m515 .nil .nil) .nil) (.node m387 .nil .nil)) (.node m195 (.node m323 (.node m579 .nil .nil) .nil) (.node m451 .nil .nil))) (.node m99 (.node m163 (.node m291 (.node (m547 P) .nil .nil) .nil) (.node m419 .nil .nil)) (.node (m227 P) (.node m355 .nil .nil) (.node m483 .nil .nil)))) (.node m51 (.node m83 (.node m147 (.node m275 (.node m531 .nil .nil) .nil) (.node m403 .nil .nil)) (.node m211 (.node (m339 P) (.node m595 .nil .nil) .nil) (.node m467 .nil .nil))) (.node (m115 P) (.node m179 (.node m307 (.node m563 .nil .nil) .nil) (.node m435 .nil .nil)) (.node m243 (.node m371 .nil .nil) (.node (m499 P) .nil .nil))))) (.node m27 (.node m43 (.node m75 (.node m139 (.node m267 (.node (m523 P) .nil .nil) .nil) (.node m395 .nil .nil)) (.node (m203 P) (.node m331 (.node m587 .nil .nil) .nil) (.node m459 .nil .nil))) (.node m107 (.node (m171 P) (.node m299 (.node m555 .nil .nil) .nil) (.node m427 .nil .nil)) (.node m235 (.node m363 .nil .nil) (.node m491 .nil .nil)))) (.node m59 (.node (m91 P) (.node m155 (.node (m283 P) (.node m539 .nil .nil) .nil) (.node m411 .nil .nil)) (.node m219 (.node m347 .nil .nil) (.node m475 .nil .nil))) (.node m123 (.node m187 (.node (m315 P) (.node m571 .nil .nil) .nil) (.node (m443 P) .nil .nil)) (.node m251 (.node m379 .nil .nil) (.node m507 .nil .nil))))))) (.node (boot_o_5 P) (.node (boot_o_9 P) (.node (m17 P) (.node m33 (.node m65 (.node m129 (.node m257 (.node m513 .nil .nil) .nil) (.node m385 .nil .nil)) (.node m193 (.node (m321 P) (.node m577 .nil .nil) .nil) (.node m449 .nil .nil))) (.node (m97 P) (.node m161 (.node m289 (.node m545 .nil .nil) .nil) (.node m417 .nil .nil)) (.node m225 (.node m353 .nil .nil) (.node m481 .nil .nil)))) (.node m49 (.node m81 (.node m145 (.node m273 (.node (m529 P) .nil .nil) .nil) (.node m401 .nil .nil)) (.node (m209 P) (.node m337 (.node m593 .nil .nil) .nil) (.node m465 .nil .nil))) (.node m113 (.node m177 (.node m305 (.node m561 .nil .nil) .nil) (.node m433 .nil .nil)) (.node m241 (.node m369 .nil .nil) (.node m497 .nil .nil))))) (.node m25 (.node m41 (.node (m73 P) (.node m137 (.node m265 (.node m521 .nil .nil) .nil) (.node m393 .nil .nil)) (.node m201 (.node m329 (.node (m585 P) .nil .nil) .nil) (.node m457 .nil .nil))) (.node m105 (.node m169 (.node m297 (.node (m553 P) .nil .nil) .nil) (.node m425 .nil .nil)) (.node (m233 P) (.node m361 .nil .nil) (.node m489 .nil .nil)))) (.node m57 (.node m89 (.node m153 (.node m281 (.node m537 .nil .nil) .nil) (.node m409 .nil .nil)) (.node m217 (.node (m345 P) .nil .nil) (.node m473 .nil .nil))) (.node (m121 P) (.node m185 (.node m313 (.node m569 .nil .nil) .nil) (.node m441 .nil .nil)) (.node m249 (.node m377 .nil .nil) (.node (m505 P) .nil .nil)))))) (.node m13 (.node m21 (.node m37 (.node m69 (.node m133 (.node m261 (.node (m517 P) .nil .nil) .nil) (.node m389 .nil .nil)) (.node m197 (.node m325 (.node m581 .nil .nil) .nil) (.node m453 .nil .nil))) (.node m101 (.node (m165 P) (.node m293 (.node m549 .nil .nil) .nil) (.node m421 .nil .nil)) (.node m229 (.node (m357 P) .nil .nil) (.node m485 .nil .nil)))) (.node m53 (.node (m85 P) (.node m149 (.node (m277 P) (.node m533 .nil .nil) .nil) (.node m405 .nil .nil)) (.node m213 (.node m341 (.node (m597 P) .nil .nil) .nil) (.node m469 .nil .nil))) (.node m117 (.node m181 (.node m309 (.node m565 .nil .nil) .nil) (.node (m437 P) .nil .nil)) (.node (m245 P) (.node m373 .nil .nil) (.node m501 .nil .nil))))) (.node m29 (.node m45 (.node m77 (.node m141 (.node m269 (.node m525 .nil .nil) .nil) (.node m397 .nil .nil)) (.node m205 (.node (m333 P) (.node m589 .nil .nil) .nil) (.node m461 .nil .nil))) (.node (m109 P) (.node m173 (.node m301 (.node m557 .nil .nil) .nil) (.node m429 .nil .nil)) (.node m237 (.node m365 .nil .nil) (.node (m493 P) .nil .nil)))) (.node m61 (.node m93 (.node m157 (.node m285 (.node (m541 P) .nil .nil) .nil) (.node m413 .nil .nil)) (.node (m221 P) (.node m349 .nil .nil) (.node m477 .nil .nil))) (.node m125 (.node m189 (.node m317 (.node m573 .nil .nil) .nil) (.node m445 .nil .nil)) (.node m253 (.node m381 .nil .nil) (.node m509 .nil .nil)))))))) (.node (boot_o_2 P) (.node (boot_o_4 P) (.node (boot_o_8 P) (.node m16 (.node m32 (.node m64 (.node m128 (.node m256 (.node m512 .nil .nil) .nil) (.node m384 .nil .nil)) (.node m192 (.node m320 (.node m576 .nil .nil) .nil) (.node m448 .nil .nil))) (.node m96 (.node m160 (.node m288 (.node m544 .nil .nil) .nil) (.node m416 .nil .nil)) (.node m224 (.node m352 .nil .nil) (.node m480 .nil .nil)))) (.node (m48 P) (.node m80 (.node m144 (.node m272 (.node m528 .nil .nil) .nil) (.node (m400 P) .nil .nil)) (.node m208 (.node m336 (.node m592 .nil .nil) .nil) (.node m464 .nil .nil))) (.node m112 (.node m176 (.node m304 (.node m560 .nil .nil) .nil) (.node m432 .nil .nil)) (.node m240 (.node m368 .nil .nil) (.node m496 .nil .nil))))) (.node m24 (.node m40 (.node m72 (.node m136 (.node (m264 P) (.node m520 .nil .nil) .nil) (.node m392 .nil .nil)) (.node m200 (.node m328 (.node m584 .nil .nil) .nil) (.node (m456 P) .nil .nil))) (.node m104 (.node m168 (.node (m296 P) (.node m552 .nil .nil) .nil) (.node (m424 P) .nil .nil)) (.node m232 (.node m360 .nil .nil) (.node m488 .nil .nil)))) (.node m56 (.node m88 (.node (m152 P) (.node m280 (.node m536 .nil .nil) .nil) (.node m408 .nil .nil)) (.node m216 (.node m344 (.node m600 .nil .nil) .nil) (.node m472 .nil .nil))) (.node m120 (.node (m184 P) (.node m312 (.node m568 .nil .nil) .nil) (.node m440 .nil .nil)) (.node m248 (.node (m376 P) .nil .nil) (.node m504 .nil .nil)))))) (.node m12 (.node m20 (.node (m36 P) (.node m68 (.node m132 (.node m260 (.node m516 .nil .nil) .nil) (.node (m388 P) .nil .nil)) (.node m196 (.node m324 (.node m580 .nil .nil) .nil) (.node m452 .nil .nil))) (.node m100 (.node m164 (.node m292 (.node m548 .nil .nil) .nil) (.node m420 .nil .nil)) (.node m228 (.node m356 .nil .nil) (.node m484 .nil .nil)))) (.node m52 (.node m84 (.node m148 (.node m276 (.node m532 .nil .nil) .nil) (.node m404 .nil .nil)) (.node m212 (.node m340 (.node m596 .nil .nil) .nil) (.node (m468 P) .nil .nil))) (.node m116 (.node m180 (.node m308 (.node m564 .nil .nil) .nil) (.node m436 .nil .nil)) (.node m244 (.node m372 .nil .nil) (.node m500 .nil .nil))))) (.node m28 (.node m44 (.node m76 (.node (m140 P) (.node m268 (.node m524 .nil .nil) .nil) (.node m396 .nil .nil)) (.node m204 (.node m332 (.node m588 .nil .nil) .nil) (.node m460 .nil .nil))) (.node m108 (.node m172 (.node m300 (.node m556 .nil .nil) .nil) (.node m428 .nil .nil)) (.node m236 (.node m364 .nil .nil) (.node m492 .nil .nil)))) (.node m60 (.node m92 (.node m156 (.node m284 (.node m540 .nil .nil) .nil) (.node (m412 P) .nil .nil)) (.node m220 (.node m348 .nil .nil) (.node m476 .nil .nil))) (.node m124 (.node m188 (.node m316 (.node (m572 P) .nil .nil) .nil) (.node m444 .nil .nil)) (.node m252 (.node m380 .nil .nil) (.node m508 .nil .nil))))))) (.node (boot_o_6 P) (.node (boot_o_10 P) (.node m18 (.node m34 (.node m66 (.node m130 (.node (m258 P) (.node m514 .nil .nil) .nil) (.node m386 .nil .nil)) (.node m194 (.node m322 (.node m578 .nil .nil) .nil) (.node m450 .nil .nil))) (.node m98 (.node m162 (.node m290 (.node m546 .nil .nil) .nil) (.node (m418 P) .nil .nil)) (.node m226 (.node m354 .nil .nil) (.node m482 .nil .nil)))) (.node m50 (.node m82 (.node (m146 P) (.node m274 (.node m530 .nil .nil) .nil) (.node m402 .nil .nil)) (.node m210 (.node m338 (.node m594 .nil .nil) .nil) (.node m466 .nil .nil))) (.node m114 (.node m178 (.node m306 (.node m562 .nil .nil) .nil) (.node m434 .nil .nil)) (.node m242 (.node (m370 P) .nil .nil) (.node m498 .nil .nil))))) (.node m26 (.node (m42 P) (.node m74 (.node m138 (.node m266 (.node m522 .nil .nil) .nil) (.node (m394 P) .nil .nil)) (.node m202 (.node m330 (.node m586 .nil .nil) .nil) (.node m458 .nil .nil))) (.node m106 (.node m170 (.node m298 (.node m554 .nil .nil) .nil) (.node m426 .nil .nil)) (.node m234 (.node m362 .nil .nil) (.node m490 .nil .nil)))) (.node m58 (.node m90 (.node m154 (.node m282 (.node m538 .nil .nil) .nil) (.node m410 .nil .nil)) (.node m218 (.node m346 .nil .nil) (.node (m474 P) .nil .nil))) (.node m122 (.node m186 (.node m314 (.node m570 .nil .nil) .nil) (.node m442 .nil .nil)) (.node m250 (.node m378 .nil .nil) (.node m506 .nil .nil)))))) (.node m14 (.node m22 (.node m38 (.node m70 (.node (m134 P) (.node m262 (.node m518 .nil .nil) .nil) (.node m390 .nil .nil)) (.node m198 (.node m326 (.node m582 .nil .nil) .nil) (.node m454 .nil .nil))) (.node m102 (.node m166 (.node m294 (.node m550 .nil .nil) .nil) (.node m422 .nil .nil)) (.node m230 (.node m358 .nil .nil) (.node m486 .nil .nil)))) (.node (m54 P) (.node m86 (.node m150 (.node m278 (.node m534 .nil .nil) .nil) (.node (m406 P) .nil .nil)) (.node m214 (.node m342 (.node m598 .nil .nil) .nil) (.node m470 .nil .nil))) (.node m118 (.node m182 (.node m310 (.node (m566 P) .nil .nil) .nil) (.node m438 .nil .nil)) (.node m246 (.node m374 .nil .nil) (.node m502 .nil .nil))))) (.node (m30 P) (.node m46 (.node m78 (.node m142 (.node m270 (.node m526 .nil .nil) .nil) (.node m398 .nil .nil)) (.node m206 (.node m334 (.node m590 .nil .nil) .nil) (.node (m462 P) .nil .nil))) (.node m110 (.node m174 (.node (m302 P) (.node m558 .nil .nil) .nil) (.node m430 .nil .nil)) (.node m238 (.node m366 .nil .nil) (.node m494 .nil .nil)))) (.node m62 (.node m94 (.node m158 (.node m286 (.node m542 .nil .nil) .nil) (.node m414 .nil .nil)) (.node m222 (.node m350 .nil .nil) (.node m478 .nil .nil))) (.node m126 (.node (m190 P) (.node m318 (.node m574 .nil .nil) .nil) (.node m446 .nil .nil)) (.node m254 (.node (m382 P) .nil .nil) (.node m510 .nil .nil)))))))))
end SA

set_option Elab.async false
set_option linter.all false
set_option maxRecDepth 100000
set_option maxHeartbeats 0
noncomputable section
namespace SA
open PySem PySem.W PySem.Calls PyProof.Rows

section
variable (st : SharedT → Thread → Option (SharedT × Thread)) (n0 : Nat) (ann : Option Value)
/-- so many steps of the top -/
def goP : Nat → SharedT → Thread → Option (SharedT × Thread)
  | 0, s, t => some (s, t)
  | m + 1, s, t => bif through t then none else bif stepOk n0 ann t then
      (match st s t with
      | some q => HandSHeadRun.frS q.1 fun z => goP m z q.2
      | none => none) else none
/-- statements of the top, to their end -/
def segF : Nat → SharedT → Thread → Option (Flow × SharedT × Code × Pos)
  | 0, _, _ => none
  | m + 1, s, t => match endAt 1 t with
    | some f => some (f, s, t.code, t.pos)
    | none => bif stepOk n0 ann t then
      (match st s t with
      | some q => HandSHeadRun.frS q.1 fun z => segF m z q.2
      | none => none) else none
end
theorem goP_top {tb : String → Option Builtin} {p : Program} {w : World} {n0 : Nat} {ann : Option Value} : ∀ {m : Nat} {s s' : SharedT} {t t' : Thread}, goP (stepT (denote tb) p w) n0 ann m s t = some (s', t') → topGo tb p w n0 ann m s.abs t = some (s'.abs, t')
  | 0, _, _, _, _, h => by
    cases h
    rfl
  | m + 1, s, s', t, t', h => by
    unfold goP at h
    unfold topGo
    cases a : through t <;> rw [a] at h
    · cases b : stepOk n0 ann t <;> rw [b] at h
      · cases h
      · cases c : stepT (denote tb) p w s t with
        | none =>
          rw [c] at h
          cases h
        | some q =>
          rw [c] at h
          have h2 : HandSHeadRun.frS q.1 (fun z => goP (stepT (denote tb) p w) n0 ann m z q.2) = some (s', t') := h
          rw [HandSHeadRun.frS_eq] at h2
          have z := stepT_spec (s' := q.1) (t' := q.2) c
          rw [z]
          exact goP_top h2
    · cases h
theorem segF_seg {tb : String → Option Builtin} {p : Program} {w : World} {n0 : Nat} {ann : Option Value} : ∀ {m : Nat} {s s' : SharedT} {t : Thread} {f : Flow} {c : Code} {q : Pos}, segF (stepT (denote tb) p w) n0 ann m s t = some (f, s', c, q) → segRun tb p w n0 ann 1 m s.abs t = some (f, s'.abs, c, q)
  | 0, _, _, _, _, _, _, h => by cases h
  | m + 1, s, s', t, f, c, q, h => by
    unfold segF at h
    unfold segRun
    cases a : endAt 1 t with
    | some x =>
      rw [a] at h
      cases h
      rfl
    | none =>
      rw [a] at h
      cases b : stepOk n0 ann t <;> rw [b] at h
      · cases h
      · cases d : stepT (denote tb) p w s t with
        | none =>
          rw [d] at h
          cases h
        | some r =>
          rw [d] at h
          have h2 : HandSHeadRun.frS r.1 (fun z => segF (stepT (denote tb) p w) n0 ann m z r.2) = some (f, s', c, q) := h
          rw [HandSHeadRun.frS_eq] at h2
          have z := stepT_spec (s' := r.1) (t' := r.2) d
          rw [z]
          exact segF_seg h2
abbrev stQ (p : Program) (w : World) : SharedT → Thread → Option (SharedT × Thread) := HandSHeadRun.stepQ (HandSHeadRun.denQ HandSHeadRun.tabQ) p w
theorem stQ_eq (p : Program) (w : World) : stQ p w = stepT (denote treeTable) p w := by
  unfold stQ
  rw [← HandSHeadRun.stepQ_eq, ← HandSHeadRun.denQ_eq, ← HandSHeadRun.tabQ_eq]
/-- a head whose run is told by its end alone -/
theorem left_run {p q : Program} {loose : List Str} {Xt : Shared → Bool} {α : Type} {Yf : Shared → α} {Ya : World → α} {N M : Nat}
    (e : opening p = plainProg p.main.scope.names) (hN : Nat.ble 600 N = true) (f : ∀ s, fenceModules? p s = some s) (le : Nat.ble M N = true)
    (run : ∀ (w : World) (os : OsState), ∃ z : Shared, topRun treeTable p w (boot_heap w.params).objs.size (HandSHeadRun.bootAnn w) M ⟨boot_heap w.params, #[], boot_drawn, boot_toks, os⟩ (topStub p) = some z ∧
      HandSHeadRun.looksF p (boot_heap w.params) z = true ∧ openSeen q loose (importedModules p.main.body) Xt true z = openGood q loose ∧ Yf z = Ya w) :
    LeftO p q loose Xt Yf Ya N true := fun w => by
  obtain ⟨⟨h, g, d, k, os⟩, x, x'⟩ := Option.map_eq_some_iff.mp (boot_open e hN f w)
  obtain ⟨rfl, rfl, rfl, rfl⟩ : h = boot_heap w.params ∧ g = Array.mk [] ∧ d = boot_drawn ∧ k = boot_toks := by simpa using x'
  obtain ⟨z, r, y1, y2, y3⟩ := run w os
  have r2 := topRun_mono (N - M) _ _ _ _ r
  have hM : M + (N - M) = N := by
    have := Nat.le_of_ble_eq_true le
    omega
  rw [hM] at r2
  have t : topFrom treeTable p w N ⟨boot_heap w.params, Array.mk [], boot_drawn, boot_toks, os⟩ = some z := by
    unfold topFrom
    dsimp only
    rw [HandSHeadRun.boot_ns]
    have r3 : topRun treeTable p w (boot_heap w.params).objs.size ((boot_heap w.params).nsMap mainGlobals "__annotations__") N ⟨boot_heap w.params, Array.mk [], boot_drawn, boot_toks, os⟩ (topStub p) = some z := r2
    have y1' : (staticsOk (importedModules p.main.body) (boot_heap w.params) z.heap && namesBound p z.heap && gensDone z && laidKept (boot_heap w.params) z.heap) = true := y1
    simp [r3, y1']
  unfold openEnds
  rw [x, Option.bind_some, t]
  exact congrArg some (Prod.ext y2 y3)
end SA

set_option Elab.async false
set_option linter.all false
set_option maxRecDepth 100000
set_option maxHeartbeats 0
noncomputable section
namespace SA
open PySem PySem.W PySem.Calls PyProof.Rows

def ln0 : List PySem.Str := ["StopError", "BadTree", "BadWord", "BadText", "BadPlace", "BadNames", "BadTexts", "BadName", "BadCount", "BadUnit", "BadUnits", "NoUnit", "UsesRing", "BadFaces", "BadPoint", "BadPath", "NoFunction", "Faulty", "KindClash", "TwoNames"]
def ln1 : List PySem.Str := ["BadProgram", "BadArguments", "BadMost", "NotNow", "BadMoment", "BadChosen", "BadScope", "BadKinds", "BadFunctions", "Unknown", "BadCode", "BadCodes", "BadSpot", "BadState", "BadWalk", "BadBlock", "BadStep", "Refused", "BadRows", "BadSlots"]
def ln2 : List PySem.Str := ["BadSpans", "BadRoom", "BadPrices", "NotStraight", "BadPairs", "BadHelpers", "BadPlaces", "BadPaper", "BadChanges", "BadWaiting", "BadHeap", "BadWords", "BadAddresses", "BadDepth", "NotTold", "BadRegisters", "BadObject", "BadObjects", "TwoUnits", "BadOrder"]
def ln3 : List PySem.Str := ["OtherRegisters", "Missing", "OtherFace", "BadBundle", "BadNumber", "BadBits", "BadInstruction", "BadOrders", "BadLong", "BadLeap", "BadLayout", "BadImage", "BadAddress", "_law_begun", "_law_mixed", "_law_take", "_law_pick", "_law_plain_errors", "_law_told_errors", "_law_classes"]
def names : List PySem.Str := ln0 ++ ln1 ++ ln2 ++ ln3

def body24 : List Stmt := R.prog.main.body
def env24 : Env := { scope := R.prog.main.scope, locals := mainNs, globals := mainNs, cells := [], code := .ref 13, frame := some 14 }
def cE : Code := .body body24 env24
def pos0 : Pos := ⟨0, 0, 0, 0⟩
def pos1 : Pos := ⟨114, 0, 115, 8⟩
def l1 : List Stmt := body24.take 41
def l2 : List Stmt := body24.drop 41
def execsQ : List Stmt → Env → Sem Flow := PySem.W.Fast.tw12563942051412417395
theorem execsQ_eq : @PySem.execs = execsQ := PySem.W.Fast.te12563942051412417395
def thr (l : List Stmt) (p : Pos) : Thread := ⟨(execsQ l env24).wrap doneF deadEnd id id, cE, p, [topFrame pos0]⟩
theorem thr_eq (l : List Stmt) (p : Pos) : thr l p = piecesOf l env24 cE p [topFrame pos0] := by
  unfold thr
  rw [← execsQ_eq]
def bT (w : World) : BT × Nat := (HandSHeadRun.putAll (boot_heap w.params).objs.toList .nil 0).getD (.nil, 0)
theorem bT_eq (w : World) : HandSHeadRun.putAll (boot_heap w.params).objs.toList .nil 0 = some (bT w) := by
  kernel_rfl
def sB (w : World) (os : OsState) : SharedT := HandSHeadRun.bootT w os (bT w)
theorem sB_abs (w : World) (os : OsState) : (sB w os).abs = ⟨boot_heap w.params, #[], boot_drawn, boot_toks, os⟩ := by
  have eh := HandSHeadRun.putAll_heap (h := boot_heap w.params) (t := (bT w).1) (n := (bT w).2) (bT_eq w)
  show (⟨absHeap (bT w).1 (bT w).2 (boot_heap w.params).life, #[], boot_drawn, boot_toks, os⟩ : Shared) = _
  rw [eh]
abbrev an (w : World) : Option Value := HandSHeadRun.bootAnn w
def sA (w : World) (os : OsState) : SharedT := ((goP (stQ R.prog w) 11 (an w) 12 (sB w os) (topStub R.prog)).map (·.1)).getD (sB w os)
theorem pre24 (w : World) (os : OsState) : goP (stQ R.prog w) 11 (an w) 12 (sB w os) (topStub R.prog) = some (sA w os, ⟨HandSHeadRun.denQ HandSHeadRun.tabQ cE, cE, pos0, [topFrame pos0]⟩) := by
  kernel_rfl
theorem block24 (w : World) (os : OsState) : segF (stQ R.prog w) 11 (an w) 1 (sA w os) (blockOf body24 env24 cE pos0 [topFrame pos0]) = some (.next, sA w os, cE, pos0) := by
  kernel_rfl
def sM (w : World) (os : OsState) : SharedT := ⟨midT w.params, 601, (boot_heap w.params).life, #[], boot_drawn, 974, os⟩
theorem half1 (w : World) (os : OsState) : segF (stQ R.prog w) 11 (an w) 8991 (sA w os) (thr l1 pos0) = some (.next, sM w os, cE, pos1) := by
  kernel_rfl
end SA

set_option Elab.async false
set_option linter.all false
set_option maxRecDepth 100000
set_option maxHeartbeats 0
noncomputable section
namespace SA
open PySem PySem.W PySem.Calls PyProof.Rows

abbrev go2 (w : World) (os : OsState) : Option (Flow × SharedT × Code × Pos) := segF (stQ R.prog w) 11 (an w) 7625 (sM w os) (thr l2 pos1)
def sE (w : World) (os : OsState) : SharedT := match go2 w os with
  | some q => q.2.1
  | none => sM w os
def pE (w : World) (os : OsState) : Pos := match go2 w os with
  | some q => q.2.2.2
  | none => pos1
abbrev q24 : Program := view R.prog [82]
abbrev xt24 (s : Shared) : Bool := xlAt q24 [] s && recOk R.toRowW.records s
theorem half2 (w : World) (os : OsState) : go2 w os = some (.next, sE w os, cE, pE w os) := by
  kernel_rfl
theorem see0 (w : World) (os : OsState) : HandSHeadRun.looksF R.prog (boot_heap w.params) (sE w os).abs = true := by
  kernel_rfl
theorem see1 (w : World) (os : OsState) : HandSHeadRun.seenQ q24 names (importedModules R.prog.main.body) xt24 (sE w os).abs = openGood q24 names := by
  kernel_rfl
theorem see2 (w : World) (os : OsState) : c24 (fragM (HandSHeadRun.getT (sE w os))) = true := by
  kernel_rfl
theorem see3 (w : World) (os : OsState) : He.obsD fa fn (fragM (HandSHeadRun.getT (sE w os))) = He.valD fn := by
  kernel_rfl
end SA

set_option Elab.async false
set_option linter.all false
set_option maxRecDepth 100000
set_option maxHeartbeats 0
namespace SA
open PySem PySem.W PySem.Calls PyProof.Rows

theorem fin24 (w : World) (p : Pos) (s : Shared) : topRun treeTable R.prog w 11 (an w) 5 s (restOf [] env24 cE p [topFrame pos0]) = some s := by
  obtain ⟨h, g, d, k, os⟩ := s
  rfl
theorem run24 (w : World) (os : OsState) : topRun treeTable R.prog w (boot_heap w.params).objs.size (an w) (12 + (1 + (8991 + (7625 + 5)))) ⟨boot_heap w.params, #[], boot_drawn, boot_toks, os⟩ (topStub R.prog) = some (sE w os).abs := by
  have e0 : (boot_heap w.params).objs.size = 11 := by kernel_rfl
  have h0 := pre24 w os
  have h1 := block24 w os
  have h2 := half1 w os
  have h3 := half2 w os
  unfold go2 at h3
  rw [thr_eq] at h2 h3
  rw [stQ_eq] at h0 h1 h2 h3
  have g0 := goP_top h0
  have g1 := segF_seg h1
  have g2 := segF_seg h2
  have g3 := segF_seg h3
  rw [e0, ← sB_abs w os]
  refine go_top g0 ?_
  rw [← HandSHeadRun.denQ_eq, ← HandSHeadRun.tabQ_eq]
  refine piece_block g1 ?_
  rw [show body24 = l1 ++ l2 from (List.take_append_drop 41 body24).symm]
  refine piece_app g2 ?_
  rw [show l2 = l2 ++ [] from (List.append_nil l2).symm]
  exact piece_app g3 (fin24 w (pE w os) (sE w os).abs)
theorem left24 : LeftO R.prog q24 names xt24 hkM.obs hkM.val 20000 true := by
  refine left_run (M := 12 + (1 + (8991 + (7625 + 5)))) (by kernel_rfl) (Nat.ble_eq_true_of_le (by omega)) (fun s => by kernel_rfl) (Nat.ble_eq_true_of_le (by omega)) fun w os => ⟨_, run24 w os, see0 w os, ?_, ?_⟩
  · rw [HandSHeadRun.seenQ_eq]
    exact see1 w os
  · rw [← ob_eq]
    show (c24 (fragM (HandSHeadRun.getT (sE w os))), He.obsD fa fn (fragM (HandSHeadRun.getT (sE w os)))) = (true, He.valD fn)
    rw [see2, see3]
end SA
open PySem PySem.W PySem.Calls PyProof.Rows
theorem PySem.Challenge.cw_stopanywhere_k24_errors_made_and_bases_holds : PySem.Challenge.rw_stopanywhere_k24_errors_made_and_bases.Holds := by
  w_on; o_law
  refine holds_open (r := SA.R) (q := SA.q24) (loose := SA.names) (XP := XL SA.q24 []) (YP := SA.hkM.says)
    (d := HandSHeadRun.topDef SA.R.prog 82) (kwd := []) SA.left24 SA.hkM.of SA.hkM.keeps
    (fun s z => xl_of s (Bool.and_eq_true_iff.mp z).1)
    XL.keeps (by kernel_rfl) (by kernel_rfl) (by kernel_rfl)
    (fun s z => recFacts_of (Bool.and_eq_true_iff.mp z).2)
    (by rfl) (by first | assumption | decide +kernel) (by decide +kernel) ⟨rfl, rfl, rfl, rfl, rfl, by decide +kernel⟩ ?hw ?hc
  case hw => w_witness2
  case hc =>
    refine SA.walk_G (l := PySem.Challenge.rw_stopanywhere_k24_errors_made_and_bases) (n := 63) rfl (by decide) (by kernel_rfl) ?F
    intro w mg fa h Y G hmg0
    obtain ⟨K, KX, c⟩ := Y
    have hmg : mg ("law" : PySem.Str) = some (.ref fa) := by
      have e : (HandSHeadRun.topDef SA.R.prog 82).name = ("law" : PySem.Str) := by kernel_rfl
      rw [← e]
      exact hmg0
    exact ⟨K, KX, fun base _ _ => SA.law_of KX G hmg c base⟩
#print axioms PySem.Challenge.cw_stopanywhere_k24_errors_made_and_bases_holds
