import PyProof.Rows.All
import Wide.All
import OpenK.AllK
import Wide.FinOn
import HandS.ForMost
import HandS.Evl
import HandS.ExcInit
import HandS.ExcValue
import HandS.ExcIs
import HandS.ExcField
import HandS.IsInst
import PyProof.ReprRoads
import HandS.Head0
import HandS.Head1
import HandS.Head2
import HandS.HeadEnd
import HandS.HeadHook1
import HandS.HeadHook2
import HandS.Lambda
import HandS.TryOnly
import PySem.Challenge.RW_stopanywhere_k30_scopes_meant
import HandS.Walk
import HandS.SetKeys
import HandS.More
import KE.SortKeyHeap
import HandS.MakeKwOnly
import HandS.SetBool
import HandS.NoneIn
import HandS.Iter
import HandS.DictComp
import KE.KEqDict
import PyProof.InstEq
import HandS.ForExc
import HandS.Conv
import KE.DataMinMax
import HandS.List
import HandS.Finally
import HandS.Style
import HandS.EndTab
import HandS.HeadHook4
set_option Elab.async false
set_option linter.all false
set_option maxRecDepth 100000
set_option maxHeartbeats 4000000
/-! ### exceptions held as values: isinstance, fields, made with their own __init__; repr of data -/
namespace SA
section
open PySem PySem.Spec PySem.Calls PyProof.Rows PySem.W
variable {prog : Program} {w : World} {A : Around} {E : Value → Shared → Prop} {s : Shared} {K : Frag} {x D : Addr} {ox : Obj} {od : Option Obj}
/-- a data descriptor of the class is found first, whatever the object's own dict holds -/
theorem find_data {name : Str} {a g : Value} (hc : (clsIn K D).isSome = true) (ha : findIn K (.ref D) name = some (some a)) (hg : specialIn K a "__get__" = some (some g))
    (ht : takesIn K a = some true) : findObj K D od name = some (.bind g a) := by
  obtain ⟨cd, e⟩ := Option.isSome_iff_exists.mp hc
  unfold findObj
  rw [e, Option.bind_some, ha, Option.bind_some]
  simp [hg, ht]
/-- e.__class__ of an exception object of the class at D -/
theorem exc_class {Q : Option Value → Shared → Prop} (C : L2.ExcC K D) (X : K.In s.heap) (I : InstAt s.heap x ox D od) (h : Q (some (.ref D)) { s with toks := s.toks + 1 }) :
    wpAny (model prog w) A (getAttr? (.ref x) "__class__") Q E s := by
  have hcd : (clsIn K D).isSome = true := by
    obtain ⟨cd, hc, _⟩ := any_some C.hd
    rw [hc] <;> rfl
  have hf : findObj K D od "__class__" = some (.bind (.builtin "getset_descriptor.__get__") (.builtin "object.__class__")) := find_data hcd C.ha C.hn C.ht
  obtain ⟨hp, g, d, t, os⟩ := s
  have t0 := I.type (M := model prog w)
  have t1 := looks_findIn (M := model prog w) X C.hg
  have t2 := looks_findIn (M := model prog w) X C.hk
  have t3 := looks_find (M := model prog w) X I hf
  have sub : Looks (model prog w) hp (isInstance (.ref x) (.type "BaseException")) true := t0.andThen (looks_subIn X C.hs)
  have n0 : (false && onTheHeap (Value.builtin "BaseException.__getattribute__")) = false := rfl
  have n2 : (Value.builtin "BaseException.__getattribute__" == Value.builtin "object.__getattribute__") = false := by decide +kernel
  have n1 : (onTheHeap (Value.ref D) && Value.builtin "BaseException.__getattribute__" == Value.builtin "object.__getattribute__") = false := by rw [n2] <;> rfl
  unfold getAttr? getAttrBy? getAttrBy
  refine wpAny_bind (wpAny_mkText (wpAny_bind (wpAny_attempt (wpAny_holding (wpAny_bind (t0.at (wpAny_bind (t1.at ?_))))))))
  show wpAny _ _ (if (onTheHeap (Value.ref D) && Value.builtin "BaseException.__getattribute__" == Value.builtin "object.__getattribute__") = true then _ else _) _ _ _
  rw [n1, if_neg Bool.false_ne_true]
  unfold getAttrByItsOwn hookBefore
  refine wpAny_bind ?_
  rw [if_pos (show onTheHeap (Value.ref D) = true from rfl)]
  refine t2.at ?_
  refine wpAny_bind (wpAny_attempt (wpAny_holding ?_))
  unfold callGetattribute
  rw [n0, if_neg Bool.false_ne_true]
  unfold boundAndCalled
  rw [PySem.F.excAttr_ValueError.ga.bind (.ref x)]
  refine wpAny_bind (wpAny_pure ?_)
  show wpAny _ _ (call (.builtin "BaseException.__getattribute__") [.ref x, .str "__class__" t]) _ _ _
  refine wpAny_call (codeAny_call_builtin PySem.F.excAttr_ValueError.ga.plain PySem.F.entry_bexc_ga ?_)
  refine @check_slot (model prog w) _ _ ⟨hp, g, d, t + 1, os⟩ "BaseException.__getattribute__" "BaseException" "__getattribute__" (.ref x) [.str "__class__" t] [] _ (by decide +kernel) (by decide +kernel) sub (PySem.F.args_bexc_ga (.ref x) (.str "__class__" t)) ?_
  unfold Builtin.«object.__getattribute__»
  refine wpAny_bind (wpAny_of_eq (a := ((Value.ref x : Value), [Value.str "__class__" t])) (by first | rfl | (simp only [slotArgs]; rfl)) ?_)
  refine wpAny_bind (wpAny_pure (wpAny_bind (t0.at (wpAny_bind (t3.at ?_)))))
  show wpAny _ _ (holding [Value.builtin "object.__class__"] (call (.builtin "getset_descriptor.__get__") [.builtin "object.__class__", .ref x, .ref D]) >>= ret) _ _ _
  refine wpAny_bind (wpAny_holding (wpAny_call (class_get (s := ⟨hp, g, d, t + 1, os⟩) (ox := ox) (od := od) X I C.hm ?_)))
  refine wpAny_pure ?_
  show wpAny _ _ (handedOut (.ref D)) _ _ _
  rw [handedOut_of (v := .ref D) rfl]
  first
    | exact wpAny_pure (wpAny_pure h)
    | exact wpAny_pure h
    | exact wpAny_pure (wpAny_bind (wpAny_pure (wpAny_pure h)))
theorem is_class {c : Addr} (h : hasDictIn K c = true) : ∃ oc od cd sl, K.lookup c = some ⟨oc, od, .cls cd, sl⟩ := by
  obtain ⟨cd, hc, _⟩ := any_some h
  unfold clsIn at hc
  split at hc
  · rename_i c' d' cd' sl' ho
    exact ⟨_, _, _, _, ho⟩
  · cases hc
theorem kit_exc (C : L2.ExcC K D) : KitX K (.ref x) (.ref D) (fun h => InstAt h x ox D od) where
  ty := fun _ _ _ I => I.type
  it := fun _ _ X _ => by
    obtain ⟨oc, dd, cd, sl, ho⟩ := is_class C.hd
    intro A' Q' E' s' k q
    unfold isType loadHead
    exact wpAny_bind (wpAny_loadPart (k _ _ (X _ _ ho)) (wpAny_pure q))
  ne := fun h tp dd its n sl X htp => Bool.eq_false_iff.mpr fun q => by
    obtain ⟨oc, d2, cd, sl2, ho⟩ := is_class C.hd
    have e : D = tp := Value.ref.inj (beq_iff_eq.mp q)
    subst e
    have z := (X _ _ ho).symm.trans htp
    cases z
  ca := fun X I k => exc_class C X I k
end
section
open PySem PySem.Spec PyProof.Rows L2
/-- at a stands an exception of the class at C, not raised: without a dict | with its dict at d -/
def XAt (H : Hp) (a C : Addr) : Prop := H a = some (ExO (.ref C) a) ∨ ∃ (d : Addr) (fs : List (Str × V)), H a = some (exo a C (some d)) ∧ H d = some (exd d fs)
variable {X : Cx}
theorem XAt.inst {pins : List (Addr × Obj)} {σ : L2.St} {H : Hp} {s : Shared} {a C : Addr} (I : Inv X pins σ H s) (h : XAt H a C) : ∃ ox od, PySem.W.InstAt s.heap a ox C od := by
  rcases h with h | ⟨d, fs, h1, h2⟩
  · obtain ⟨⟨oe, vs, e, z, dt, _⟩, _⟩ := I.hok a _ h
    refine ⟨oe, none, e, z.1, ?_, ?_⟩
    · unfold PySem.W.notCls
      rw [dt] <;> rfl
    · rw [z.2]
      trivial
  · obtain ⟨t1, e⟩ := exo_at I.hok h1
    obtain ⟨mA, hn, _⟩ := exd_at I.hok h2
    obtain ⟨od, ho, _⟩ := lookIn_ns hn
    exact ⟨_, some od, e, rfl, rfl, ho⟩
/-- isinstance(e, c), e an exception held as a value -/
def rIsX (K : PySem.W.Frag) : List V → Hp → VK → Prop := fun xs H Q => ∃ (a D : Addr) (c : V) (cv : Value) (b : Bool), xs = [.ref a, c] ∧ ClsV c cv ∧ XAt H a D ∧ ExcC K D ∧ PySem.W.kitOne K (.ref D) cv = some b ∧ Q (.bl b) H
theorem call_isX : CallR X (.builtin "isinstance") (rIsX X.K) := by
  intro pins s σ H xs us Q I r h
  obtain ⟨a, D, c, cv, b, rfl, k, hx, hC, e, q⟩ := h
  obtain ⟨u1, u2, rfl, r1, r2⟩ := vals2 r
  have e2 := k.eq r2
  subst e2
  obtain rfl : u1 = Value.ref a := r1
  obtain ⟨ox, od, J⟩ := hx.inst I
  exact PySem.W.kia_one (kit_exc hC) I.kIn J e (fun z => nomatch z) fun tk => ⟨.bl b, H, I.kept (t' := tk) fun _ _ z => z, rfl, q⟩
/-- e.f, e an exception held as a value -/
def tXfld (K : PySem.W.Frag) (te : TE) (f : Str) : TE := fun σ H Q => te σ H fun x H1 => ∃ (a C d : Addr) (fs : List (Str × V)) (v : V), x = .ref a ∧ H1 a = some (exo a C (some d)) ∧ H1 d = some (exd d fs) ∧ XfC K C ∧
  PySem.W.findIn K (.ref C) f = some none ∧ fs.lookup f = some v ∧ Q v H1
theorem pe_xfld {e : Expr} {te : TE} {f : Str} {pos : Pos} (he : PE X e te) (hb : attributeBase e f X.env (eval e X.env) = eval e X.env := by rfl) : PE X (.Attribute e f pos) (tXfld X.K te f) := by
  refine ⟨fun pins s σ H Q I h => ?_⟩
  refine attr_of hb (thn (he.run pins s σ H _ I h) fun u s1 hh => ?_)
  obtain ⟨x, H1, I1, rx, a, C, d, fs, v, ex, h1, h2, T, hno, hl, q⟩ := hh
  subst ex
  obtain rfl : u = Value.ref a := rx
  obtain ⟨t1, ha⟩ := exo_at I1.hok h1
  obtain ⟨mA, hns, hr⟩ := exd_at I1.hok h2
  obtain ⟨od, ho, hlk⟩ := lookIn_ns hns
  obtain ⟨u, hu, ru⟩ := RelO.some_of (v := v) (o := mA f) (by rw [← hl]; exact hr f)
  have J : PySem.W.InstAt s1.heap a _ C (some od) := ⟨ha, rfl, rfl, ho⟩
  exact HandSPX.exc_get I1.kIn J T.ga T.gg T.exC (PySem.W.findObj_own T.hdC hno rfl (by rw [hlk, hu])) (handed_of ru) ⟨v, H1, I1.tok _, ru, q⟩
end
end SA
set_option Elab.async false
set_option linter.all false
set_option maxRecDepth 100000
set_option maxHeartbeats 4000000
namespace SA
open PySem PySem.Spec PyProof.Rows L2
/-! ### data of any depth, dicts too, and its repr -/
def keyD : Key → PyData
  | .inl i => .int i
  | .inr x => .str x
mutual
inductive Dx (K : PySem.W.Frag) (H : Hp) : V → PyData → Prop
  | non : Dx K H .non .none
  | bl (b : Bool) : Dx K H (.bl b) (.bool b)
  | int (i : Int) : Dx K H (.int i) (.int i)
  | str (x : Str) : Dx K H (.str x) (.str x)
  | lst {a : Addr} {xs : List V} {ds : List PyData} : SqL K H a xs → DxAll K H xs ds → Dx K H (.ref a) (.list ds)
  | tup {a : Addr} {xs : List V} {ds : List PyData} : SqT K H a xs → DxAll K H xs ds → Dx K H (.ref a) (.tuple ds)
  | dct {a : Addr} {kvs : List (Key × V)} {ds : List (PyData × PyData)} : H a = some (.dK kvs) → kvs.map (fun p => keyD p.1) = ds.map (·.1) → DxAll K H (kvs.map (·.2)) (ds.map (·.2)) → Dx K H (.ref a) (.dict ds)
inductive DxAll (K : PySem.W.Frag) (H : Hp) : List V → List PyData → Prop
  | nil : DxAll K H [] []
  | cons {v : V} {vs : List V} {d : PyData} {ds : List PyData} : Dx K H v d → DxAll K H vs ds → DxAll K H (v :: vs) (d :: ds)
end
/-- the written part knows sys.modules, a dict -/
def SysK (K : PySem.W.Frag) : Prop := ∃ o, K.lookup sysModules = some o ∧ o.cls = .type "dict"
section
variable {X : Cx} {pins : List (Addr × Obj)} {σ : L2.St} {H : Hp} {s : Shared}
theorem SysK.trk (S : SysK X.K) (I : Inv X pins σ H s) {a : Addr} {o : HO} (h : H a = some o) : sysModules ≠ a := fun e => by
  obtain ⟨ob, h1, _⟩ := S
  obtain ⟨_, z⟩ := I.bs sysModules ob (I.mod.kin _ _ h1)
  rw [e, h] at z
  cases z
theorem SysK.seqL (S : SysK X.K) (I : Inv X pins σ H s) {a : Addr} {xs : List V} (h : SqL X.K H a xs) : sysModules ≠ a := by
  rcases h with (h | ⟨o, h⟩) | ⟨o, its, n, h, hc, _⟩
  · exact S.trk I h
  · exact S.trk I h
  · intro e
    obtain ⟨ob, h1, h2⟩ := S
    rw [e, h] at h1
    cases h1
    rw [hc] at h2
    exact absurd (Value.type.inj h2) (by decide)
theorem pairs_keys {P : Program} {w : World} : ∀ {es : List DictEntry} {vs : List (Key × Value)}, Pairs (mixKind P w) es vs → ∃ as, ReadsAll s.heap (es.map (·.key)) (vs.map fun p => keyD p.1) as ∧ as = []
  | _, _, .nil => ⟨[], .nil, rfl⟩
  | _, _, .cons (e := e) (kv := kv) h1 h2 t => by
    obtain ⟨as, r, rfl⟩ := pairs_keys t
    have hk : Reads s.heap e.key (keyD kv.1) [] := by
      rcases keyIs_shape (k := kv.1) (v := e.key) h1 with ⟨i, t, e1, e2⟩ | ⟨x, t, e1, e2⟩
      · rw [e1, e2]
        exact .int i t
      · rw [e1, e2]
        exact .str x t
    exact ⟨[] ++ [], .cons hk r, rfl⟩
theorem pairs_vals {P : Program} {w : World} : ∀ {es : List DictEntry} {vs : List (Key × Value)}, Pairs (mixKind P w) es vs → es.map (·.val) = vs.map (·.2)
  | _, _, .nil => rfl
  | _, _, .cons h1 h2 t => by
    rw [List.map_cons, List.map_cons, pairs_vals t, h2]
theorem kv_keys : ∀ {kvs : List (Key × V)} {vs : List (Key × Value)}, KV kvs vs → kvs.map (fun p => keyD p.1) = vs.map (fun p => keyD p.1) ∧ Vals (kvs.map (·.2)) (vs.map (·.2))
  | _, _, .nil => ⟨rfl, .nil⟩
  | _, _, .cons r t => by
    obtain ⟨h1, h2⟩ := kv_keys t
    obtain ⟨q1, q2⟩ := r
    exact ⟨by rw [List.map_cons, List.map_cons, h1, q1], .cons q2 h2⟩
mutual
theorem Dx.reads (S : SysK X.K) (I : Inv X pins σ H s) : ∀ {d : PyData} {v : V} {u : Value}, Dx X.K H v d → RelV v u → ∃ as, Reads s.heap u d as ∧ sysModules ∉ as
  | _, _, u, .non, r => ⟨[], by obtain rfl : u = Value.none := r; exact .none, by simp⟩
  | _, _, u, .bl b, r => ⟨[], by obtain rfl : u = Value.bool b := r; exact .bool b, by simp⟩
  | _, _, u, .int i, r => by
    obtain ⟨t, rfl⟩ := r
    exact ⟨[], .int i t, by simp⟩
  | _, _, u, .str x, r => by
    obtain ⟨t, rfl⟩ := r
    exact ⟨[], .str x t, by simp⟩
  | _, _, u, .lst (a := a) hs ha, r => by
    obtain rfl : u = Value.ref a := r
    obtain ⟨its, rv, ⟨o, n, ho, hc, _, hd⟩, _⟩ := I.list hs
    obtain ⟨as, hr, hn⟩ := DxAll.reads S I ha rv
    exact ⟨_, .list ho hc hd hr, fun m => (List.mem_cons.mp m).elim (S.seqL I hs) hn⟩
  | _, _, u, .tup (a := a) hs ha, r => by
    obtain rfl : u = Value.ref a := r
    obtain ⟨its, rv, ⟨o, ho, hc, n, hd⟩, _⟩ := I.tuple hs
    obtain ⟨as, hr, hn⟩ := DxAll.reads S I ha rv
    exact ⟨_, .tuple ho hc hd hr, hn⟩
  | _, _, u, .dct (a := a) (kvs := kvs) (ds := ds) h1 hk ha, r => by
    obtain rfl : u = Value.ref a := r
    obtain ⟨_, hsm, vs, kv, o, es, ep, ho, hx, hd, _, hp, _⟩ := (show ObjOk X.prog X.w H s.heap a (.dK kvs) from I.hok a _ h1)
    obtain ⟨e1, e2⟩ := kv_keys kv
    obtain ⟨bs, hr, hn⟩ := DxAll.reads S I ha e2
    obtain ⟨as, hr2, rfl⟩ := pairs_keys (s := s) hp
    refine ⟨a :: [] ++ bs, .dict ho hx.1 hd (by rw [← hk, e1]; exact hr2) (by rw [pairs_vals hp]; exact hr), fun m => ?_⟩
    have m2 : sysModules ∈ a :: bs := m
    exact (List.mem_cons.mp m2).elim (S.trk I h1) hn
theorem DxAll.reads (S : SysK X.K) (I : Inv X pins σ H s) : ∀ {ds : List PyData} {vs : List V} {us : List Value}, DxAll X.K H vs ds → Vals vs us → ∃ as, ReadsAll s.heap us ds as ∧ sysModules ∉ as
  | _, _, _, .nil, .nil => ⟨[], .nil, by simp⟩
  | _, _, _, .cons h1 h2, .cons r1 r2 => by
    obtain ⟨as, q1, n1⟩ := Dx.reads S I h1 r1
    obtain ⟨bs, q2, n2⟩ := DxAll.reads S I h2 r2
    exact ⟨_, .cons q1 q2, fun m => (List.mem_append.mp m).elim n1 n2⟩
end
end
/-- repr of a list, a tuple, a dict -/
def rRepr (K : PySem.W.Frag) : List V → Hp → VK → Prop := fun xs H Q => ∃ (a : Addr) (d : PyData), xs = [.ref a] ∧ Dx K H (.ref a) d ∧ d.showable = true ∧ d.shown.length ≤ sizeLine ∧ d.depth ≤ 60 ∧ Q (.str d.shown) H
theorem call_repr {X : Cx} (S : SysK X.K) (hg : X.A.guards = some []) (hu : X.A.units + 64 < cLine) : CallR X (.builtin "repr") (rRepr X.K) := by
  intro pins s σ H xs us Q I r h
  obtain ⟨a, d, rfl, hd, hs, hz, hp, q⟩ := h
  obtain ⟨u, rfl, ru⟩ := vals1 r
  obtain rfl : u = Value.ref a := ru
  obtain ⟨as, hr, hn⟩ := Dx.reads S I hd (u := .ref a) rfl
  exact repr_of_reads' hr hs (fun _ => hn) hg (by omega) (fun _ _ e => e) (fun h' u tk hk => ⟨.str d.shown, H, I.kept (t' := tk) hk, ⟨u, rfl⟩, q⟩) hz
/-! ### X(e, ..) by its own __init__, as a value -/
def tOex (C : Addr) (sp : Sp) (dvs : List V) (ta : TA) : TE := fun σ H Q => ta σ H fun vs H1 => vs.length ≤ 1000 ∧ ∀ a, H1 a = none → sp (.ref a :: (vs ++ dvs)) (upd H1 a (exo a C none)) (fun v H2 => v = .non ∧ Q (.ref a) H2) (fun _ _ _ => False)
theorem pe_oex {X : Cx} {CX : CXT} {x : Str} {C fI : Addr} {k : Nat} {fd : FuncData} {ps : List Str} {sp : Sp} {ds : List Value} {dvs : List V} {e : Expr} {es : List Expr} {ta : TA} {p pos : Pos}
    (T : OexC X.K C) (iC : PySem.W.findIn X.K (.ref C) "__init__" = some (some (.ref fI))) (tI : PySem.W.typeIn X.K (.ref fI) = some (.type "function"))
    (F1 : FnOk X.prog X.w X.K X.mg X.base CX k fI fd ps sp) (hr : Room (k + 1) X.A) (hb : L2.Binds X.K fd ps ds) (hd : Vals dvs ds) (hx : Passes CX X (fun _ _ _ => False)) (hg : Gl X x) (hm : X.mg x = some (.ref C)) (ha : PA X (e :: es) ta)
    (hdb : (x == ("__debug__" : Str)) = false := by decide) (he : starEach (e :: es) X.env = (false, eval e X.env) :: starEach es X.env := by rfl) (hpl : (backTo pos (starEach es X.env)).any (·.1) = false := by rfl) :
    PE X (.Call (.Name x p) (e :: es) [] pos) (tOex C sp dvs ta) := by
  refine ⟨fun pins s σ H Q I h => ?_⟩
  obtain ⟨nm, q, N, bs, bm, sn, sub, ab, col, dd, k0, k1, k2, k3, k5, hC, hbm⟩ := T.cls
  refine wpAny_Call_Name_kw (ld_glob I hg hm ?_ hdb)
  refine PySem.W.callWith_K (h₀ := X.base) I.ok.mod.kin T.kC (thn (ha.run pos pins s σ H _ I h) fun us s1 ⟨vs, H1, I1, r1, hz, q1⟩ => ⟨I1.kIn, ?_⟩) he hpl
  show wpAny _ _ (call (.ref C) us) _ _ _
  obtain ⟨hp, g, dr, tk, os⟩ := s1
  have hsz : hp.objs.size ≤ hp.objs.size + 1 := Nat.le_succ _
  have hn : H1 (hp.objs.size + 1) = none := I1.hok.fresh hsz
  have hq := q1 (hp.objs.size + 1) hn
  have hget : ((hp.push (PySem.W.kdv_tup us)).push (PySem.HandSPX.excO C hp.objs.size)).get? (hp.objs.size + 1) = some (PySem.HandSPX.excO C hp.objs.size) := by heap_get
  have I2 : Inv X pins σ (upd H1 (hp.objs.size + 1) (exo (hp.objs.size + 1) C none)) ⟨(hp.push (PySem.W.kdv_tup us)).push (PySem.HandSPX.excO C hp.objs.size), g, dr, tk, os⟩ :=
    I1.laid (t' := tk) (fun b o z => Heap.get?_push_of_some _ (Heap.get?_push_of_some _ z)) hsz (exo_ok hget)
  have r2 : Vals (V.ref (hp.objs.size + 1) :: (vs ++ dvs)) (Value.ref (hp.objs.size + 1) :: (us ++ ds)) := .cons rfl (r1.append hd)
  have hl : (Value.ref (hp.objs.size + 1) :: us ++ ds).length = ps.length := r2.length.symm.trans (F1.len _ _ _ _ hq)
  have hus : us.length ≤ sizeLine := by
    have z := Paired.length r1
    rw [sizeLine_eq]
    omega
  refine wpAny_call (PySem.HandSPX.call_own F.excBase_ValueError (fun Y => PySem.HandSPX.refsVE_contains Y bm hbm) (I1.kIn _ _ hC) (PySem.W.looks_findIn I1.kIn iC) (fun self => PySem.W.bind_fn I1.kIn self tI) hus
    (codeAny_mono (F1.run _ X.stack _ _ ⟨Value.ref (hp.objs.size + 1) :: us, []⟩ (Value.ref (hp.objs.size + 1) :: (us ++ ds)) _ _ (fun _ _ _ => False) (hr.make C us []) (I2.env0.make C us []) (hb _ (Value.ref (hp.objs.size + 1) :: us) I2.kIn hl) r2 hq) fun r s' hq' => ?_))
  cases r with
  | error er => exact hx pins σ _ _ er s' I2 hq'
  | ok fl =>
    cases fl with
    | ret u =>
      obtain ⟨v, H2, J, rv, ev, q2⟩ := I2.after hq'
      subst ev
      exact ⟨rv, .ref (hp.objs.size + 1), H2, J, rfl, q2⟩
    | next => exact False.elim hq'
    | brk => exact False.elim hq'
    | cont => exact False.elim hq'
end SA
set_option Elab.async false
set_option linter.all false
set_option maxRecDepth 100000
set_option maxHeartbeats 4000000
namespace SA
open PySem PySem.Spec PyProof.Rows L2
/-! ### the law's def, entered where no repr is under way -/
/-- what the law's def does when the claim's caller calls it -/
def LawRun (P : Program) (w : World) (K : PySem.W.Frag) (mg : Str → Option Value) (base : Heap) (fa : Addr) (n : Nat) : Prop :=
  ∀ (s : Shared) (H : Hp) (a : Addr) (ns : List Int), Env0 P w K mg base callerA [] s H → SqL K H a (ns.map V.int) → ns.length ≤ n →
    codeAny (model P w) callerA (.call (.ref fa) ⟨[.ref a], []⟩) (CR CX0 [] P w H s (fun v _ => v = .bl true) E0) s
section
variable {P : Program} {w : World} {K : PySem.W.Frag} {mg mb : Str → Option Value} {fa a : Addr} {s : Shared} {vs : List Value} {ns : List Int} {n : Nat}
abbrev Done (s : Shared) : Result → Shared → Prop := fun r s' => r = .ok (.ret (.bool true)) ∧ OldK s.heap s'.heap ∧ s'.os = s.os ∧ AllBare s'.gens
/-- from an abstract heap in which at most the script is tracked -/
theorem law_from (KX : K.In s.heap) (hns : s.heap.Ns mainGlobals mg) (hb : s.heap.Ns builtinsNs mb) (hbb : ∀ x : Str, x ≠ "__name__" → mb x = bootBuiltins x) (hlim : s.heap.NoLimit) (hg : s.gens = #[])
    (ha : s.heap.get? a = some { cls := .type "list", data := .seq vs.toArray }) (hn : ns.length ≤ n) (F : ∀ base : Heap, K.In base → base.Ns mainGlobals mg → LawRun P w K mg base fa n)
    (H : Hp) (hO : Only H) (hS : SqL K H a (ns.map V.int)) (hok : HOk P w H s.heap) (hA : ∀ b, H b ≠ none → b = a) (hK : H a ≠ none → K.lookup a = none) : codeAny (model P w) callerA (.call (.ref fa) ⟨[.ref a], []⟩) (Done s) s := by
  have only : ∀ {b : Addr}, b ≠ a → H b = none := fun {b} nb => by
    cases q : H b with
    | none => rfl
    | some u => exact absurd (hA b (by rw [q]; simp)) nb
  have nsd : ∀ {b : Addr} {m : Str → Option Value}, s.heap.Ns b m → (hidT s.heap H).Ns b m := fun {b m} z => by
    obtain ⟨o, es, ep, e, d, r⟩ := z
    refine ⟨o, es, ep, hidT_get e (only fun eb => ?_), d, r⟩
    rw [eb, ha] at e
    cases e
    cases d
  have kin : K.In (hidT s.heap H) := fun b o e => hidT_get (KX b o e) (by
    by_cases eb : b = a
    · cases q : H b with
      | none => rfl
      | some u =>
        have z := hK (by rw [← eb, q]; simp)
        rw [← eb, e] at z
        cases z
    · exact only eb)
  have env : Env0 P w K mg (hidT s.heap H) callerA [] s H :=
    ⟨rfl, ⟨kin, nsd hns, ⟨mb, nsd hb, hbb⟩, let ⟨mc, h1, h2⟩ := hlim; ⟨mc, nsd h1, h2⟩⟩, fun b o e => of_hidT e, Nat.le_of_eq (hidT_size _ _), trivial, fun b z => absurd (show b ∈ ([] : List Addr) from z) (by simp), hok, .of_eq hg⟩
  refine codeAny_mono (F _ kin (nsd hns) s H a ns env hS hn) fun r s' h => ?_
  match r, h with
  | .error _, h => exact False.elim h
  | .ok .next, h => exact False.elim h
  | .ok .brk, h => exact False.elim h
  | .ok .cont, h => exact False.elim h
  | .ok (.ret u), ⟨v, H', os, bare, un, hok', rv, q⟩ =>
    have ev : v = .bl true := q
    subst ev
    obtain rfl : u = Value.bool true := rv
    refine ⟨rfl, OldK.of_keep fun b o e => ?_, os, bare⟩
    rcases hO b with z | ⟨ob, xs, z⟩
    · exact un.keep b o e z (fun y => absurd (show b ∈ ([] : List Addr) from y) (by simp)) (by simp)
    · obtain ⟨e1, _⟩ := hok b _ z
      obtain ⟨e2, _⟩ := hok' b _ (un.frzs b ob _ z)
      rw [e] at e1
      cases e1
      exact e2
theorem law_callG (KX : K.In s.heap) (hns : s.heap.Ns mainGlobals mg) (hb : s.heap.Ns builtinsNs mb) (hbb : ∀ x : Str, x ≠ "__name__" → mb x = bootBuiltins x) (hlim : s.heap.NoLimit) (hg : s.gens = #[])
    (ha : s.heap.get? a = some { cls := .type "list", data := .seq vs.toArray }) (hi : IntsAre vs ns) (hl : ns.length ≤ sizeLine) (hn : ns.length ≤ n) (F : ∀ base : Heap, K.In base → base.Ns mainGlobals mg → LawRun P w K mg base fa n) :
    codeAny (model P w) callerA (.call (.ref fa) ⟨[.ref a], []⟩) (Done s) s := by
  have rv := vals_ints hi
  cases hk : K.lookup a with
  | some o =>
    have e := KX a o hk
    rw [ha] at e
    cases e
    exact law_from KX hns hb hbb hlim hg ha hn F (fun _ => none) (fun _ => .inl rfl) (.inr ⟨_, vs.toArray, _, hk, rfl, rfl, rfl, by rw [List.size_toArray, hi.length]; exact hl, by simpa using rv⟩)
      (fun b u z => absurd (show (none : Option HO) = some u from z) (by simp)) (fun b z => absurd rfl z) fun z => absurd rfl z
  | none =>
    have at_ : ∀ b, (fun b => if b = a then some (HO.frz { cls := .type "list", data := .seq vs.toArray } (.lst (ns.map V.int))) else none : Hp) b ≠ none → b = a := fun b z => by
      by_cases hb : b = a
      · exact hb
      · exact absurd (if_neg hb) z
    refine law_from KX hns hb hbb hlim hg ha hn F (fun b => if b = a then some (.frz { cls := .type "list", data := .seq vs.toArray } (.lst (ns.map V.int))) else none) (fun b => ?_) (.inl (.inr ⟨_, if_pos rfl⟩)) (fun b u z => ?_) at_ fun _ => hk
    · by_cases hb : b = a
      · exact .inr ⟨_, _, if_pos hb⟩
      · exact .inl (if_neg hb)
    · have eb := at_ b (by rw [z]; simp)
      subst eb
      have z2 := (if_pos rfl).symm.trans z
      cases z2
      exact ⟨ha, by rw [List.length_map]; exact hl, vs, _, rv, ha⟩
end
/-- the goal that the head leaves, from what the law's def does -/
theorem walk_G {l : PySem.W.OpenLaw} {n : Nat} {q : Program} {loose : List Str} {XP : (Str → Option Value) → Heap → Prop} {YP : World → Heap → Prop} {d : DefRec} (hn : l.most = some n) (hn2 : n ≤ sizeLine) (hdf : d.params.defaults = [])
    (F : ∀ (w : World) (mg : Str → Option Value) (fa : Addr) (h : Heap), YP w h → h.Ns mainGlobals mg → mg d.name = some (.ref fa) →
      ∃ K : PySem.W.Frag, K.In h ∧ ∀ base : Heap, K.In base → base.Ns mainGlobals mg → LawRun l.prog w K mg base fa n) :
    PySem.W.WalkO q loose XP YP l.row.toRowW d [] (fun f vs => PySem.call f vs) := by
  refine Att.attach_call hn hdf fun w s₀ s₁ mg mb fa o pm cd doc a vs ns G Y ho hd hcd hmg hobj hints hlen hg => ?_
  obtain ⟨K, KX, hF⟩ := F w mg fa _ Y G.T.g hmg
  exact law_callG KX G.T.g G.T.b G.T.builtins G.T.nolimit hg hobj hints (Nat.le_trans hlen hn2) hlen hF
/-- LawRun from the body of the law's def -/
theorem law_run {P : Program} {w : World} {K : PySem.W.Frag} {mg : Str → Option Value} {base : Heap} {fa : Addr} {fd : FuncData} {st : Stmt} {N : List Str} {x : Str} {n k : Nat} (F : Fun K "law" "law" st fa fd) (S : FnScope N [x] (defScope st))
    (hb : ∀ (s : Shared) (u : Value), BindsTo s fd ⟨[u], []⟩ [(x, u)]) (hr : Room (k + 1) callerA)
    (body : ∀ (cdv : Value) (s : Shared) (H : Hp) (a : Addr) (ns : List Int), Room k (callerA.deeper (envOfC "law" (defScope st) s.heap.objs.size fa cdv)) → SqL K H a (ns.map V.int) → ns.length ≤ n →
      ∃ t, PSs (cxOf CX0 P w K mg base N "law" (defScope st) fa cdv callerA [] s H E0).nox (defBody st) t ∧ t { nx := fun _ _ => V.non = V.bl true, rt := fun v _ => v = .bl true } (start N [.ref a]) H) :
    LawRun P w K mg base fa n := by
  intro s H a ns env hS hn
  obtain ⟨oc, od, kV, doc, pm, an, cdv, ct, osl, rfl, lk, hcd⟩ := F.ex
  refine LamX.run_ofS (k := k) (N := N) (ps := [x]) (us := [.ref a]) (vs := [.ref a]) (Q := fun v _ => v = .bl true) (E := E0) lk hcd S hr env (hb s (.ref a)) (.cons rfl .nil) rfl fun hr' => ?_
  obtain ⟨t, h1, h2⟩ := body cdv s H a ns hr' hS hn
  exact ⟨t, h1.nox, h2⟩
theorem FunD.toFun {K : PySem.W.Frag} {x qual : Str} {st : Stmt} {f : Addr} {fd : FuncData} (F : FunD K x qual (defArgs st) (defBody st) (defScope st) [] [] f fd) : Fun K x qual st f fd := by
  obtain ⟨⟨oc, od, dV, kV, doc, pm, an, cdv, ct, osl, e, l, c, hD, hK⟩, kp⟩ := F
  rcases hD with ⟨_, rfl⟩ | ⟨z, _⟩
  · exact ⟨⟨oc, od, kV, doc, pm, an, cdv, ct, osl, e, l, c⟩, kp⟩
  · exact absurd rfl z
end SA
set_option linter.all false
namespace K1
abbrev L := List Nat
def inn (c : Nat) : Bool := decide (97 ≤ c ∧ c ≤ 122) || decide (65 ≤ c ∧ c ≤ 90) || decide (48 ≤ c ∧ c ≤ 57) || decide (c = 95)
def digit (c : Nat) : Bool := decide (48 ≤ c ∧ c ≤ 57)
def okc (c : Nat) : Bool := decide (c = 10) || (decide (32 ≤ c ∧ c ≤ 126) && decide (c ≠ 37))
def blank (c : Nat) : Bool := decide (c = 32) || decide (c = 10)
/-- how long the first word is -/
def wl : L → Nat
  | [] => 1
  | c :: r => if inn c then 1 + (r.takeWhile inn).length else match r with
    | [] => 1
    | d :: q => if c = 45 ∧ digit d = true then 2 + (q.takeWhile inn).length else if d = 61 ∧ (c = 60 ∨ c = 61) then 2 else 1
theorem wl_inn {c : Nat} {r : L} (h : inn c = true) : wl (c :: r) = 1 + (r.takeWhile inn).length := by
  show (if inn c = true then _ else _) = _
  rw [if_pos h]
theorem wl_one {c : Nat} (h : ¬ inn c = true) : wl [c] = 1 := by
  show (if inn c = true then _ else 1) = _
  rw [if_neg h]
theorem wl_two {c d : Nat} {q : L} (h : ¬ inn c = true) : wl (c :: d :: q) = if c = 45 ∧ digit d = true then 2 + (q.takeWhile inn).length else if d = 61 ∧ (c = 60 ∨ c = 61) then 2 else 1 := by
  show (if inn c = true then _ else _) = _
  rw [if_neg h]
theorem wl_pos : ∀ t : L, 1 ≤ wl t
  | [] => Nat.le_refl 1
  | c :: r => by
    by_cases h : inn c = true
    · rw [wl_inn h]
      omega
    · cases r with
      | nil => rw [wl_one h]; omega
      | cons d q =>
        rw [wl_two h]
        split
        · omega
        · split <;> omega
theorem tw_le (p : Nat → Bool) : ∀ l : L, (l.takeWhile p).length ≤ l.length
  | [] => Nat.le_refl 0
  | c :: r => by
    rw [List.takeWhile_cons]
    split
    · have := tw_le p r
      simp only [List.length_cons]
      omega
    · simp
theorem wl_le : ∀ (c : Nat) (r : L), wl (c :: r) ≤ r.length + 1 := by
  intro c r
  by_cases h : inn c = true
  · rw [wl_inn h]
    have := tw_le inn r
    omega
  · cases r with
    | nil =>
      rw [wl_one h]
      simp
    | cons d q =>
      rw [wl_two h]
      have := tw_le inn q
      simp only [List.length_cons]
      split
      · omega
      · split <;> omega
/-- the words of a text with lines and columns -/
def cut : L → Int → Int → List (L × Int × Int)
  | [], _, _ => []
  | c :: r, l, k => if c = 10 then cut r (l + 1) 1 else if c = 32 then cut r l (k + 1) else ((c :: r).take (wl (c :: r)), l, k) :: cut ((c :: r).drop (wl (c :: r))) l (k + wl (c :: r))
termination_by t => t.length
decreasing_by
  · simp
  · simp
  · have h := wl_pos (c :: r)
    simp only [List.length_drop, List.length_cons]
    omega
theorem cut_nl {r : L} {l k : Int} : cut (10 :: r) l k = cut r (l + 1) 1 := by
  rw [cut]
  simp
theorem cut_sp {r : L} {l k : Int} : cut (32 :: r) l k = cut r l (k + 1) := by
  rw [cut]
  simp
theorem cut_w {c : Nat} {r : L} {l k : Int} (h : blank c = false) : cut (c :: r) l k = ((c :: r).take (wl (c :: r)), l, k) :: cut ((c :: r).drop (wl (c :: r))) l (k + wl (c :: r)) := by
  unfold blank at h
  simp only [Bool.or_eq_false_iff, decide_eq_false_iff_not] at h
  rw [cut, if_neg h.2, if_neg h.1]
theorem cut_nil {l k : Int} : cut [] l k = [] := by rw [cut]
/-- a word is no longer than the text -/
theorem cut_len : ∀ (t : L) (l k : Int), ∀ x ∈ cut t l k, x.1.length ≤ t.length := by
  intro t l k
  fun_induction cut t l k with
  | case1 l k => simp
  | case2 r l k ih =>
    intro x hx
    have := ih x hx
    simp only [List.length_cons]
    omega
  | case3 r l k h ih =>
    intro x hx
    have := ih x hx
    simp only [List.length_cons]
    omega
  | case4 c r l k h1 h2 ih =>
    intro x hx
    rcases List.mem_cons.mp hx with rfl | hx
    · simp only [List.length_take]
      omega
    · have := ih x hx
      simp only [List.length_drop] at this
      omega
/-- the whole text is one word -/
theorem cut_one (t : L) (w : L) : cut t 1 1 = [(t, 1, 1)] ↔ ∃ c r, t = c :: r ∧ blank c = false ∧ wl (c :: r) = (c :: r).length := by
  cases t with
  | nil =>
    rw [cut_nil]
    simp
  | cons c r =>
    by_cases hb : blank c = true
    · have h0 : ∀ l k, cut r l k = [(c :: r, 1, 1)] → False := fun l k e => by
        have := cut_len r l k (c :: r, 1, 1) (by rw [e]; simp)
        simp at this
        omega
      unfold blank at hb
      simp only [Bool.or_eq_true, decide_eq_true_eq] at hb
      constructor
      · intro e
        rcases hb with rfl | rfl
        · rw [cut_sp] at e
          exact (h0 _ _ e).elim
        · rw [cut_nl] at e
          exact (h0 _ _ e).elim
      · rintro ⟨c', r', e, h1, _⟩
        cases e
        rcases hb with rfl | rfl
        · exact absurd h1 (by decide)
        · exact absurd h1 (by decide)
    · have hb : blank c = false := by simpa using hb
      rw [cut_w hb]
      have h1 := wl_le c r
      constructor
      · intro e
        refine ⟨c, r, rfl, hb, ?_⟩
        have e1 := (List.cons.inj e).1
        have e2 : (c :: r).take (wl (c :: r)) = c :: r := (Prod.mk.inj e1).1
        have := congrArg List.length e2
        rw [List.length_take] at this
        simp only [List.length_cons] at this ⊢
        omega
      · rintro ⟨c', r', e, _, h2⟩
        cases e
        rw [h2, List.take_of_length_le (Nat.le_refl _), List.drop_of_length_le (Nat.le_refl _), cut_nil]
/-- wl of a word is its length -/
theorem tw_all {p : Nat → Bool} : ∀ {l : L}, (∀ c ∈ l, p c = true) → l.takeWhile p = l
  | [], _ => rfl
  | c :: r, h => by
    rw [List.takeWhile_cons, if_pos (h c (by simp)), tw_all fun d hd => h d (by simp [hd])]
theorem tw_mem {p : Nat → Bool} : ∀ {l : L}, ∀ c ∈ l.takeWhile p, p c = true
  | [], c, h => by simp at h
  | d :: r, c, h => by
    rw [List.takeWhile_cons] at h
    split at h
    · rename_i hd
      rcases List.mem_cons.mp h with rfl | h
      · exact hd
      · exact tw_mem c h
    · simp at h
theorem tw_take {p : Nat → Bool} : ∀ (l : L), l.take (l.takeWhile p).length = l.takeWhile p
  | [] => rfl
  | c :: r => by
    rw [List.takeWhile_cons]
    split
    · simp only [List.length_cons, List.take_succ_cons, tw_take r]
    · rfl
theorem wl_word (c : Nat) (r : L) : wl ((c :: r).take (wl (c :: r))) = ((c :: r).take (wl (c :: r))).length := by
  by_cases h1 : inn c = true
  · have e : wl (c :: r) = (r.takeWhile inn).length + 1 := by
      rw [wl_inn h1]
      omega
    rw [e, List.take_succ_cons, tw_take, wl_inn h1, tw_all tw_mem, List.length_cons]
    omega
  · cases r with
    | nil =>
      rw [wl_one h1]
      exact wl_one h1
    | cons d q =>
      by_cases h2 : c = 45 ∧ digit d = true
      · have e : wl (c :: d :: q) = (q.takeWhile inn).length + 1 + 1 := by
          rw [wl_two h1, if_pos h2]
          omega
        rw [e, List.take_succ_cons, List.take_succ_cons, tw_take, wl_two h1, if_pos h2, tw_all tw_mem, List.length_cons, List.length_cons]
        omega
      · by_cases h3 : d = 61 ∧ (c = 60 ∨ c = 61)
        · have e : ∀ q, wl (c :: d :: q) = 2 := fun q => by rw [wl_two h1, if_neg h2, if_pos h3]
          rw [e]
          exact e []
        · have e : wl (c :: d :: q) = 1 := by rw [wl_two h1, if_neg h2, if_neg h3]
          rw [e]
          exact wl_one h1
/-- each word of a text: not empty, its signs are the text's, no blank ahead, one word -/
theorem cut_word : ∀ (t : L) (l k : Int), ∀ x ∈ cut t l k, (∀ c ∈ x.1, c ∈ t) ∧ ∃ c r, x.1 = c :: r ∧ blank c = false ∧ wl (c :: r) = (c :: r).length := by
  intro t l k
  fun_induction cut t l k with
  | case1 l k => simp
  | case2 r l k ih =>
    intro x hx
    exact ⟨fun c hc => List.mem_cons_of_mem _ ((ih x hx).1 c hc), (ih x hx).2⟩
  | case3 r l k h ih =>
    intro x hx
    exact ⟨fun c hc => List.mem_cons_of_mem _ ((ih x hx).1 c hc), (ih x hx).2⟩
  | case4 c r l k h1 h2 ih =>
    intro x hx
    rcases List.mem_cons.mp hx with rfl | hx
    · have h3 := wl_pos (c :: r)
      refine ⟨fun d hd => List.mem_of_mem_take hd, c, r.take (wl (c :: r) - 1), ?_, by unfold blank; simp [h1, h2], ?_⟩
      · obtain ⟨n, e⟩ : ∃ n, wl (c :: r) = n + 1 := ⟨wl (c :: r) - 1, by omega⟩
        show (c :: r).take (wl (c :: r)) = _
        rw [e, List.take_succ_cons]
        rfl
      · have e : c :: r.take (wl (c :: r) - 1) = (c :: r).take (wl (c :: r)) := by
          obtain ⟨n, e⟩ : ∃ n, wl (c :: r) = n + 1 := ⟨wl (c :: r) - 1, by omega⟩
          rw [e, List.take_succ_cons]
          rfl
        rw [e]
        exact wl_word c r
    · exact ⟨fun d hd => List.mem_of_mem_drop ((ih x hx).1 d hd), (ih x hx).2⟩
end K1
set_option Elab.async false
set_option linter.all false
set_option maxRecDepth 100000
set_option maxHeartbeats 4000000
namespace K1
open PySem L2
abbrev tl (z : Str) : L := z.cps.toList
def mk (l : L) : Str := ⟨l.toArray⟩
theorem tl_mk (l : L) : tl (mk l) = l := by simp [mk]
theorem mk_tl (z : Str) : mk (tl z) = z := by simp [mk]
theorem tl_inj {a b : Str} (h : tl a = tl b) : a = b := by rw [← mk_tl a, ← mk_tl b, h]
theorem len_tl (z : Str) : z.length = (tl z).length := rfl
theorem len_mk (l : L) : (mk l).length = l.length := by simp [mk, Str.length]
theorem cut_nn (z : Str) (a b : Nat) : cutS z (some (a : Int)) (some (b : Int)) = mk (((tl z).drop a).take (b - a)) := by
  unfold cutS mk tl
  rw [HT.sIx_nat, HT.sIx_nat, show z.length = z.cps.toList.length from rfl]
  generalize z.cps.toList = l
  congr 1
  by_cases h : a ≤ l.length
  · rw [Nat.min_eq_left h]
    by_cases hb : b ≤ l.length
    · rw [Nat.min_eq_left hb]
    · rw [Nat.min_eq_right (by omega), List.take_of_length_le (by rw [List.length_drop]; omega), List.take_of_length_le (by rw [List.length_drop]; omega)]
  · have e : l.drop (min a l.length) = [] := List.drop_of_length_le (by omega)
    have e2 : l.drop a = [] := List.drop_of_length_le (by omega)
    rw [e, e2]
    simp
theorem cut_n (z : Str) (a : Nat) : cutS z (some (a : Int)) none = mk ((tl z).drop a) := by
  unfold cutS mk tl
  rw [HT.sIx_nat, HT.sIx_none, show z.length = z.cps.toList.length from rfl]
  generalize z.cps.toList = l
  congr 1
  by_cases h : a ≤ l.length
  · rw [Nat.min_eq_left h, List.take_of_length_le (by rw [List.length_drop]; omega)]
  · rw [Nat.min_eq_right (by omega), List.drop_of_length_le (Nat.le_refl _), List.drop_of_length_le (by omega)]
    simp
theorem cut_0n (z : Str) (b : Nat) : cutS z none (some (b : Int)) = mk ((tl z).take b) := by
  unfold cutS mk tl
  rw [HT.sIx_nat, HT.sIx_none, show z.length = z.cps.toList.length from rfl]
  generalize z.cps.toList = l
  congr 1
  rw [List.drop_zero, Nat.sub_zero]
  by_cases h : b ≤ l.length
  · rw [Nat.min_eq_left h]
  · rw [Nat.min_eq_right (by omega), List.take_of_length_le (Nat.le_refl _), List.take_of_length_le (by omega)]
theorem lt1 (a b : Nat) : decide ([a] < [b]) = decide (a < b) := by
  rw [decide_eq_decide]
  constructor
  · intro h
    cases h with
    | rel h => exact h
    | cons h => cases h
  · intro h
    exact List.Lex.rel h
theorem lt_nil (a : L) : decide (a < ([] : L)) = false := by
  rw [decide_eq_false_iff_not]
  intro h
  cases h
theorem nil_lt (a : Nat) : decide (([] : L) < [a]) = true := by
  rw [decide_eq_true_eq]
  exact List.Lex.nil
theorem dig : ∀ c < 128, Unicode.isDigit c = digit c := by decide +kernel
theorem isdigit_mk (l : L) (h : ∀ c ∈ l, c < 128) : Txt.isdigit (mk l) = (!l.isEmpty && l.all digit) := by
  unfold Txt.isdigit
  rw [len_mk]
  have e : (mk l).cps.all Unicode.isDigit = l.all digit := by
    show l.toArray.all Unicode.isDigit = _
    rw [List.all_toArray]
    rw [Bool.eq_iff_iff, List.all_eq_true, List.all_eq_true]
    exact ⟨fun z c hc => by rw [← dig c (h c hc)]; exact z c hc, fun z c hc => by rw [dig c (h c hc)]; exact z c hc⟩
  rw [e]
  cases l <;> simp
theorem inV_str (w : Str) : ∀ l : List Str, inV (.str w) (l.map V.str) = decide (w ∈ l)
  | [] => rfl
  | a :: l => by
    have ih := inV_str w l
    have e : inV (.str w) ((a :: l).map V.str) = ((a == w) || inV (.str w) (l.map V.str)) := rfl
    rw [e, ih, Bool.eq_iff_iff, Bool.or_eq_true, beq_iff_eq, decide_eq_true_eq, decide_eq_true_eq, List.mem_cons]
    exact or_congr ⟨Eq.symm, Eq.symm⟩ Iff.rfl
theorem flat_strs : ∀ l : List Str, (l.map V.str).all flatV = true
  | [] => rfl
  | a :: l => by
    rw [List.map_cons, List.all_cons, flat_strs l]
    rfl
/-! ### the sorts -/
def keptS : List Str := ["and", "at", "choice", "else", "fail", "false", "function", "if", "let", "long", "make", "match", "new", "not", "number", "of", "or", "over", "put", "rest", "return", "row", "set", "show", "true", "truth", "try", "unit", "uses", "while"]
def signsS : List Str := ["(", ")", "{", "}", ",", ":", "=", "|", "+", "-", "*", "<", "<=", "=="]
def small (c : Nat) : Bool := decide (97 ≤ c ∧ c ≤ 122)
def isName (w : Str) : Bool := decide (1 ≤ w.length) && (decide (w.length ≤ 8) && (!decide (w ∈ keptS) && (tl w).all small))
def figs (w : Str) : L := if (tl w).head? = some 45 then (tl w).drop 1 else tl w
def isFig (w : Str) : Bool := decide (w = "0") || (!(figs w).isEmpty && ((figs w).all digit && !decide ((figs w).head? = some 48)))
def sortW (w : Str) : Str := if w ∈ keptS ∨ w ∈ signsS then w else if isName w = true then "name" else if isFig w = true then "figures" else "strange"
end K1
set_option Elab.async false
set_option linter.all false
set_option maxRecDepth 100000
set_option maxHeartbeats 4000000
/-! ### a caught exception that outlives its except suite -/
namespace SA
open PySem PySem.Spec PyProof.Rows L2
/-- at a stands an exception of the class cls, its dict at d, that was caught -/
def HX (cls : Value) (d : Option Addr) (a : Addr) : HO := .ext fun h => ∃ (oe : Obj) (vs : Array Value), h.get? a = some oe ∧ Zc cls d oe ∧ oe.data = .fields vs
theorem hx_ok {P : Program} {w : World} {H : Hp} {h : Heap} {a : Addr} {cls : Value} {d : Option Addr} {oe : Obj} {vs : Array Value} (e : h.get? a = some oe) (z : Zc cls d oe) (q : oe.data = .fields vs) : ObjOk P w H h a (HX cls d a) :=
  ⟨⟨oe, vs, e, z, q⟩, ⟨oe, e⟩, fun _ _ ⟨o, v, q, r⟩ k => ⟨o, v, k o q, r⟩⟩
section
variable {X : Cx} {pins : List (Addr × Obj)} {σ : L2.St} {H : Hp} {s : Shared}
theorem Inv.track {a : Addr} {o : HO} (I : Inv X pins σ H s) (hn : H a = none) (h0 : X.s_0.heap.get? a = none) (nL : a ≠ X.env.locals) (nC : ∀ x c, X.env.cells.lookup x = some c → c ≠ a) (nP : ∀ p ∈ X.pn ++ pins, p.1 ≠ a) (new : ObjOk X.prog X.w (upd H a o) s.heap a o) :
    Inv X pins σ (upd H a o) s := by
  have up : ∀ {b : Addr} {u : HO}, H b = some u → upd H a o b = some u := fun {b u} e => by
    rw [upd_ne (ne_of_none e hn)]
    exact e
  refine ⟨I.ok, I.os, I.bare, ⟨I.base.keep, I.base.slot, fun b u e n hx => ?_, I.base.there, fun b xs e => up (I.base.tups b xs e), fun b u v e => up (I.base.frzs b u v e), fun b ps e => ?_⟩, I.loc, I.cell, ?_, fun x c e => ?_, fun p hp => ?_, ?_, I.len⟩
  · rw [upd_ne (fun z => by rw [z, h0] at e; cases e)]
    exact I.base.free b u e n hx
  · obtain ⟨more, q⟩ := I.base.tbls b ps e
    exact ⟨more, up q⟩
  · rw [upd_ne nL.symm]
    exact I.free
  · rw [upd_ne (nC x c e)]
    exact I.freeC x c e
  · obtain ⟨e, n, q⟩ := I.pin p hp
    refine ⟨e, ?_, q⟩
    rw [upd_ne (nP p hp)]
    exact n
  · exact I.hok.laidN (fun _ _ e => e) hn new
/-- an object of fields is no frame -/
theorem fields_noframe {B h : Heap} {l : List Env} {a : Addr} {o : Obj} {vs : Array Value} (ff : h.FunFrames B l) (e : h.get? a = some o) (d : o.data = .fields vs) : a ∉ frs l := fun m => by
  obtain ⟨_, o2, e2, z⟩ := ff.mem m
  cases e.symm.trans e2
  exact z _ d
/-- an exception that came up within is new to the def: no frame, no pin, nothing that stood at the entry -/
structure NewX (X : Cx) (pins : List (Addr × Obj)) (a : Addr) : Prop where
  nloc : a ≠ X.env.locals
  nfs : a ∉ X.fs
  old : X.s_0.heap.get? a = none
  npin : ∀ p ∈ X.pn ++ pins, p.1 ≠ a
theorem newX {B h : Heap} {a : Addr} {o : Obj} {vs : Array Value} {sI : Shared} (hs : X.stack = X.env :: X.outer) (hf : X.env.frame = some X.env.locals) (hex : X.ex = []) (J : Inv X pins σ H sI)
    (nb : ∀ b u, sI.heap.get? b = some u → b ∉ frs X.stack → B.get? b = some u) (hB : B.get? a = none) (ff : h.FunFrames B (X.env :: X.outer)) (e : h.get? a = some o) (d : o.data = .fields vs) : NewX X pins a := by
  have nf := fields_noframe ff e d
  have gone : ∀ u, sI.heap.get? a ≠ some u := fun u q => by
    have z := nb a u q (hs ▸ nf)
    rw [hB] at z
    cases z
  refine ⟨fun z => nf (List.mem_filterMap.mpr ⟨X.env, List.mem_cons_self, z ▸ hf⟩), fun m => ?_, ?_, fun p hp z => gone _ (z ▸ (J.pin p hp).1)⟩
  · obtain ⟨v, hv, q⟩ := List.mem_filterMap.mp m
    exact nf (List.mem_filterMap.mpr ⟨v, List.mem_cons_of_mem _ hv, q⟩)
  · match q : X.s_0.heap.get? a with
    | none => rfl
    | some u =>
      obtain ⟨u', q'⟩ := J.base.there a u q (hex ▸ List.not_mem_nil)
      exact (gone u' q').elim
/-- what the clause 'except x as n' wishes whose suite keeps the exception: behind the suite it stands at a, told by HX -/
def wHold (K : PySem.W.Frag) (c : Value) (m i : Nat) (ts : Addr → Value → Option Addr → TS) (Wout : WX) (D : Ends) : WX := fun cls d σ H =>
  ∃ b, PySem.W.exmOne K cls c = some b ∧ (b = false → Wout cls d σ H) ∧
    (b = true → σ.length = m → ∀ a, H a = none → ts a cls d { nx := fun σ1 H1 => D.nx (σ1.set i none) (upd H1 a (HX cls d a)), rt := fun _ _ => False, bk := fun _ _ => False, ct := fun _ _ => False } (σ.set i (some (.ref a))) H)
end
section
variable {X : Cx} {x n : Str} {c : Value} {i : Nat} {body suite : List Stmt} {b₀ : Stmt} {np p1 p2 : Pos} {tb : WX → TS} {ts : Addr → Value → Option Addr → TS} {Wout : WX}
/-- try: body / except x as n: suite, the suite neither returning nor leaving a loop: the exception may be kept under another name -/
theorem ps_try_hold (hs : X.stack = X.env :: X.outer) (hf : X.env.frame = some X.env.locals) (hex : X.ex = []) (hN : X.N.Nodup) (hi : X.N[i]? = some n) (hln : X.env.kindOf n = some .local) (hc : Names X x c) (tk : Takes X Wout)
    (hb : ∀ (W : WX) (pn : List (Addr × Obj)) (xe : Value → Shared → Prop), Takes (X.tr pn xe) W → PassesOwn (model X.prog X.w) X.A X.env xe → PSs (X.tr pn xe) body (tb W))
    (hsu : ∀ (a : Addr) (oe : Obj) (cls : Value) (d : Option Addr) (pn : List (Addr × Obj)), Zc cls d oe → (∃ vs, oe.data = .fields vs) → PSs (X.suite a ((a, oe) :: pn)) (b₀ :: suite) (ts a cls d)) :
    PS X (.Try body [.ExceptHandler (some (.Name x np)) (some n) (b₀ :: suite) p1] [] [] p2) (fun D σ H => tb (wHold X.K c X.N.length i ts Wout D) D σ H) := ⟨fun pins s σ H D I hw => by
  have ok := I.ok
  have fr : X.A.frames = some (X.env :: X.outer) := hs ▸ ok.frames
  -- what is done with an exception that the body lets out
  let caught : Value → Shared → Prop := fun e t1 => wpAny (model X.prog X.w) X.A (noteFrame e X.env) (fun _ t2 => wpAny (model X.prog X.w) X.A (setFlight e none) (fun _ t3 => wpAny (model X.prog X.w) X.A (handleBy e X.env [.ExceptHandler (some (.Name x np)) (some n) (b₀ :: suite) p1]) (SP X pins D) X.xe t3) X.xe t2) X.xe t1
  have takes : Takes (X.tr (X.pn ++ pins) caught) (wHold X.K c X.N.length i ts Wout D) := fun u t ⟨a, B, sI, _, σ1, H1, cls, d, eu, I1, nb, up, sky, na, os, ag, b, hcls, hno, hyes⟩ => by
    subst eu
    have J : Inv X pins σ1 H1 sI := I1.ofTry ok
    refine Sky.land Zc.steady fr hf (show Sky B (X.env :: X.outer) a (Zc cls d) X.env.locals t.heap from hs ▸ sky) fun h3 fl3 up3 => ?_
    obtain ⟨o3, v3, g3, z3, d3⟩ := fl3.there
    have nx := newX hs hf hex J nb fl3.2.1 fl3.2.2.1 g3 d3
    have J3 : Inv X pins σ1 H1 { t with heap := h3 } := J.landed nb fl3.1 (up.trans up3) os ag
    have T3 := J3.suite g3 d3 na nx.nloc nx.nfs
    have cl : PySem.W.Looks (model X.prog X.w) h3 (typeOf (.ref a)) cls := fun _ _ _ t' k q => wpAny_typeOf_ref (k _ _ g3) (z3.1.symm ▸ q)
    refine wpAny_handleBy_cons (codeAny_handlers_test ?_) (fun q => nomatch q)
    have named : ∀ {Q E : Value → Shared → Prop}, Q c { t with heap := h3 } → wpAny (model X.prog X.w) (X.A.mark (some (.ref a))) (eval (.Name x np) X.env) Q E { t with heap := h3 } := fun q => by
      obtain ⟨hg, hdb, hm⟩ := hc
      rcases hm with hm | ⟨hm, hv, hnn⟩
      · exact ld_glob (X := X.suite a ((a, o3) :: (X.pn ++ pins))) T3 hg hm q hdb
      · exact ld_blt (X := X.suite a ((a, o3) :: (X.pn ++ pins))) T3 hg hm hv q hnn hdb
    refine named ((PySem.W.exm_one (M := model X.prog X.w) J3.kIn cl hcls).here ?_)
    match b, hno, hyes with
    | false, hno, _ =>
      show wpAny _ X.A (handleBy (.ref a) X.env []) _ _ _
      obtain ⟨_, _, _, oe, vs, T, _, _, g, _, dd, h1, _⟩ := id fl3
      have out : wpAny (model X.prog X.w) X.A (setFlight (.ref a) X.env.frame) (fun _ t4 => wpAny (model X.prog X.w) X.A (throw (.ref a) : Sem Flow) (SP X pins D) X.xe t4) X.xe { t with heap := h3 } := by
        rw [hf]
        refine HandSPX.setFlight_upZ fl3 fun h4 k4 up4 => wpAny_throw (tk _ _ ⟨a, B, sI, pins, σ1, H1, cls, d, rfl, J, nb, (up.trans up3).trans up4, .inr (.inr (hs ▸ k4)), na, os, ag, hno rfl⟩)
      refine wpAny_handleBy_nil ?_
      unfold PySem.passOn
      refine wpAny_bind (wpAny_field g dd h1 ?_)
      rw [if_neg (show ¬ ((Value.ref T == Value.none) = true) from by simp)]
      first
        | exact wpAny_bind out
        | exact wpAny_bind (wpAny_pure (wpAny_bind out))
    | true, _, hyes =>
      refine codeAny_handlers_suite_as (HandSPX.lands_againZ fl3 fun h4 fl4 up4 => ?_)
      obtain ⟨o4, v4, g4, z4, d4⟩ := fl4.there
      have J4 : Inv X pins σ1 H1 { t with heap := h4 } := J.landed nb fl4.1 ((up.trans up3).trans up4) os ag
      refine store_ok (X := X.suite a ((a, o4) :: (X.pn ++ pins))) (v := .ref a) (J4.suite g4 d4 na nx.nloc nx.nfs) hN hi (.inl hln) rfl (fun s5 T5 => ?_) (.inr hln)
      refine wpAny_mono ((hsu a o4 cls d (X.pn ++ pins) z4 ⟨_, d4⟩).run [] s5 _ H1 _ T5 (hyes rfl J.len a na)) (fun f s6 q => ?_) (fun _ _ z => z.elim)
      match f, q with
      | .brk, ⟨_, _, _, z⟩ => exact z.elim
      | .cont, ⟨_, _, _, z⟩ => exact z.elim
      | .ret _, ⟨_, _, _, _, _, z⟩ => exact z.elim
      | .next, ⟨σ6, H6, T6, q6⟩ =>
        refine gone_ok (X := X.suite a ((a, o4) :: (X.pn ++ pins))) T6 hN hi hln fun s7 T7 => ?_
        obtain ⟨g7, n7, _, _, c7⟩ := T7.pin (a, o4) (by rw [List.append_nil]; exact List.mem_cons_self)
        have J7 : Inv X pins (σ6.set i none) H6 s7 := T7.unsuite ok
        refine ⟨_, _, Inv.track J7 n7 nx.old nx.nloc (fun y c' e z => ?_) nx.npin (hx_ok g7 z4 d4), q6⟩
        obtain ⟨v, o, ho, hd⟩ := J7.cell y c' e
        rw [z] at ho
        cases g7.symm.trans ho
        exact c7 v hd
  refine wpAny_Try_except (wpAny_mono ((hb _ (X.pn ++ pins) caught takes PassesOwn.looking).run [] s σ H D (I.toTry _) hw) (fun f s1 q => ?_) fun e s1 q => q)
  match f, q with
  | .next, ⟨_, _, T, q⟩ => exact wpAny_execs_nil ⟨_, _, T.ofTry ok, q⟩
  | .brk, ⟨_, _, T, q⟩ => exact ⟨_, _, T.ofTry ok, q⟩
  | .cont, ⟨_, _, T, q⟩ => exact ⟨_, _, T.ofTry ok, q⟩
  | .ret _, ⟨_, _, _, T, r, q⟩ => exact ⟨_, _, _, T.ofTry ok, r, q⟩⟩
end
section
variable {X : Cx}
/-- it is an instance of its class -/
theorem HX.inst {pins : List (Addr × Obj)} {σ : L2.St} {H : Hp} {s : Shared} {a C : Addr} {d : Option Addr} (I : Inv X pins σ H s) (h : H a = some (HX (.ref C) d a)) (hd : ∀ dx, d = some dx → ∃ fs, H dx = some (.xd fs)) : ∃ ox od, PySem.W.InstAt s.heap a ox C od ∧
    (∀ dx fs, d = some dx → H dx = some (.xd fs) → ∃ o mA, od = some o ∧ s.heap.Ns1 dx mA ∧ s.heap.get? dx = some o ∧ ∀ f, RelO (fs.lookup f) (mA f)) := by
  obtain ⟨⟨oe, vs, e, z, dt⟩, _⟩ := I.hok a _ h
  have hnc : PySem.W.notCls oe = true := by
    unfold PySem.W.notCls
    rw [dt] <;> rfl
  cases d with
  | none =>
    refine ⟨oe, none, ⟨e, z.1, hnc, ?_⟩, fun dx fs q => by cases q⟩
    rw [z.2]
    trivial
  | some dx =>
    obtain ⟨fs, hx⟩ := hd dx rfl
    obtain ⟨mA, hns, hr⟩ := I.hok dx _ hx
    obtain ⟨od, ho, hlk⟩ := lookIn_ns hns
    refine ⟨oe, some od, ⟨e, z.1, hnc, ?_⟩, fun dx' fs' q hx' => ?_⟩
    · rw [z.2]
      exact ho
    · cases q
      rw [hx] at hx'
      cases hx'
      exact ⟨od, mA, rfl, hns, ho, hr⟩
end
end SA
set_option Elab.async false
set_option linter.all false
set_option maxRecDepth 100000
set_option maxHeartbeats 4000000
/-! ### what is asked of a caught exception -/
namespace SA
open PySem PySem.Spec PyProof.Rows L2
section
variable {X : Cx}
/-- isinstance(e, c), e a caught exception -/
def rIsH (K : PySem.W.Frag) : List V → Hp → VK → Prop := fun xs H Q => ∃ (a D : Addr) (d : Option Addr) (c : V) (cv : Value) (b : Bool), xs = [.ref a, c] ∧ ClsV c cv ∧ H a = some (HX (.ref D) d a) ∧ (∀ dx, d = some dx → ∃ fs, H dx = some (.xd fs)) ∧ ExcC K D ∧ PySem.W.kitOne K (.ref D) cv = some b ∧ Q (.bl b) H
theorem call_isH : CallR X (.builtin "isinstance") (rIsH X.K) := by
  intro pins s σ H xs us Q I r h
  obtain ⟨a, D, d, c, cv, b, rfl, k, hx, hd, hC, e, q⟩ := h
  obtain ⟨u1, u2, rfl, r1, r2⟩ := vals2 r
  have e2 := k.eq r2
  subst e2
  obtain rfl : u1 = Value.ref a := r1
  obtain ⟨ox, od, J, _⟩ := HX.inst I hx hd
  exact PySem.W.kia_one (kit_exc hC) I.kIn J e (fun z => nomatch z) fun tk => ⟨.bl b, H, I.kept (t' := tk) fun _ _ z => z, rfl, q⟩
/-- e.f, e a caught exception whose dict is told -/
def tHfld (K : PySem.W.Frag) (te : TE) (f : Str) : TE := fun σ H Q => te σ H fun x H1 => ∃ (a C dx : Addr) (fs : List (Str × V)) (v : V), x = .ref a ∧ H1 a = some (HX (.ref C) (some dx) a) ∧ H1 dx = some (.xd fs) ∧ XfC K C ∧
  PySem.W.findIn K (.ref C) f = some none ∧ fs.lookup f = some v ∧ Q v H1
theorem pe_hfld {e : Expr} {te : TE} {f : Str} {pos : Pos} (he : PE X e te) (hb : attributeBase e f X.env (eval e X.env) = eval e X.env := by rfl) : PE X (.Attribute e f pos) (tHfld X.K te f) := by
  refine ⟨fun pins s σ H Q I h => ?_⟩
  refine attr_of hb (thn (he.run pins s σ H _ I h) fun u s1 hh => ?_)
  obtain ⟨x, H1, I1, rx, a, C, dx, fs, v, ex, h1, h2, T, hno, hl, q⟩ := hh
  subst ex
  obtain rfl : u = Value.ref a := rx
  obtain ⟨ox, od, J, g⟩ := HX.inst I1 h1 fun dx' e => ⟨fs, by cases e; exact h2⟩
  obtain ⟨o, mA, eo, hns, ho, hr⟩ := g dx fs rfl h2
  obtain ⟨o', ho', hlk⟩ := lookIn_ns hns
  rw [ho] at ho'
  cases ho'
  subst eo
  obtain ⟨w, hw, rw'⟩ := RelO.some_of (v := v) (o := mA f) (by rw [← hl]; exact hr f)
  exact HandSPX.exc_get I1.kIn J T.ga T.gg T.exC (PySem.W.findObj_own T.hdC hno rfl (by rw [hlk, hw])) (handed_of rw') ⟨v, H1, I1.tok _, rw', q⟩
end
end SA
set_option Elab.async false
set_option linter.all false
set_option maxRecDepth 100000
set_option maxHeartbeats 4000000
namespace SA
open PySem PySem.Spec PyProof.Rows L2
def topS (i : Nat) : Stmt := PySem.Challenge.pw_stopanywhere_k30_scopes_meant.main.body.getD i (.Pass ⟨0, 0, 0, 0⟩)
abbrev sBegun : Stmt := topS 28
abbrev sMixed : Stmt := topS 29
abbrev sTake : Stmt := topS 30
abbrev sPick : Stmt := topS 31
/-! ### the draw -/
abbrev kW : Key := Sum.inr "wide"
abbrev kC : Key := Sum.inr "cells"
abbrev kR : Key := Sum.inr "rest"
abbrev kT : Key := Sum.inr "turn"
theorem kWC : ¬ kW = kC := by decide +kernel
theorem kWR : ¬ kW = kR := by decide +kernel
theorem kWT : ¬ kW = kT := by decide +kernel
theorem kCR : ¬ kC = kR := by decide +kernel
theorem kCT : ¬ kC = kT := by decide +kernel
theorem kRT : ¬ kR = kT := by decide +kernel
def dkv (w c : Addr) (r t : Int) : List (Key × V) := [(kW, .ref w), (kC, .ref c), (kR, .int r), (kT, .int t)]
theorem dkv_w (w c : Addr) (r t : Int) : valV (dkv w c r t) kW = some (.ref w) := valV_pos rfl
theorem dkv_c (w c : Addr) (r t : Int) : valV (dkv w c r t) kC = some (.ref c) := (valV_neg kWC).trans (valV_pos rfl)
theorem dkv_r (w c : Addr) (r t : Int) : valV (dkv w c r t) kR = some (.int r) := (valV_neg kWR).trans ((valV_neg kCR).trans (valV_pos rfl))
theorem dkv_t (w c : Addr) (r t : Int) : valV (dkv w c r t) kT = some (.int t) := (valV_neg kWT).trans ((valV_neg kCT).trans ((valV_neg kRT).trans (valV_pos rfl)))
theorem get_w {H : Hp} {d w c : Addr} {r t : Int} (e : H d = some (.dK (dkv w c r t))) : DGet H d (.str "wide") (some (.ref w)) := dkv_w w c r t ▸ DGet.k (k := kW) e
theorem get_c {H : Hp} {d w c : Addr} {r t : Int} (e : H d = some (.dK (dkv w c r t))) : DGet H d (.str "cells") (some (.ref c)) := dkv_c w c r t ▸ DGet.k (k := kC) e
theorem get_r {H : Hp} {d w c : Addr} {r t : Int} (e : H d = some (.dK (dkv w c r t))) : DGet H d (.str "rest") (some (.int r)) := dkv_r w c r t ▸ DGet.k (k := kR) e
theorem get_t {H : Hp} {d w c : Addr} {r t : Int} (e : H d = some (.dK (dkv w c r t))) : DGet H d (.str "turn") (some (.int t)) := dkv_t w c r t ▸ DGet.k (k := kT) e
theorem put3 {a b c d : Key} {va vb vc vd x : V} (h1 : ¬ a = c) (h2 : ¬ b = c) (h3 : ¬ c = d) : putK [(a, va), (b, vb), (c, vc), (d, vd)] c x = [(a, va), (b, vb), (c, x), (d, vd)] := by
  have h4 : ¬ d = c := fun e => h3 e.symm
  simp [putK, h1, h2, h4]
theorem put4 {a b c d : Key} {va vb vc vd x : V} (h1 : ¬ a = d) (h2 : ¬ b = d) (h3 : ¬ c = d) : putK [(a, va), (b, vb), (c, vc), (d, vd)] d x = [(a, va), (b, vb), (c, vc), (d, x)] := by
  simp [putK, h1, h2, h3]
theorem dkv_putR (w c : Addr) (r t x : Int) : putK (dkv w c r t) kR (.int x) = dkv w c x t := put3 kWR kCR kRT
theorem dkv_putT (w c : Addr) (r t x : Int) : putK (dkv w c r t) kT (.int x) = dkv w c r x := put4 kWT kCT kRT
theorem merge4 (a b c d : V) : mergeK [] [(kW, a), (kC, b), (kR, c), (kT, d)] = [(kW, a), (kC, b), (kR, c), (kT, d)] := by
  have h1 := kWC
  have h2 := kWR
  have h3 := kWT
  have h4 := kCR
  have h5 := kCT
  have h6 := kRT
  generalize kW = k1 at *
  generalize kC = k2 at *
  generalize kR = k3 at *
  generalize kT = k4 at *
  simp [mergeK, putK, h1, h2, h3, h4, h5, h6]
/-- the draw's dict at d, its lists at w and c; at most n turns so far -/
structure DrawAt (H : Hp) (d w c : Addr) (n : Nat) : Prop where
  dict : ∃ r t : Int, 0 ≤ t ∧ t ≤ n ∧ H d = some (.dK (dkv w c r t))
  wide : ∃ ws : List Int, H w = some (.lst (ws.map V.int))
  cells : ∃ cs : List Int, H c = some (.lst (cs.map V.int))
  ne : w ≠ c
theorem Same.new {H : Hp} {p : Addr} {o : HO} (h : H p = none) : Same H (upd H p o) := fun b x e => by
  rw [upd_ne (ne_of_none e h)]
  exact e
/-- a comprehension without an if -/
theorem yes {σ : L2.St} {H : Hp} {A B : Hp → Prop} (h : A H) : tYes σ H fun b H' => if b = true then A H' else B H' := by
  show (if true = true then A H else B H)
  rw [if_pos rfl]
  exact h
/-- all but d and w stand as they stood -/
def But2 (d w : Addr) (H H' : Hp) : Prop := ∀ b o, H b = some o → b ≠ d → b ≠ w → H' b = some o
theorem But2.refl (d w : Addr) (H : Hp) : But2 d w H H := fun _ _ e _ _ => e
theorem But2.trans {d w : Addr} {H H1 H2 : Hp} (a : But2 d w H H1) (b : But2 d w H1 H2) : But2 d w H H2 := fun x o e h1 h2 => b x o (a x o e h1 h2) h1 h2
theorem But2.d {d w : Addr} {H H' : Hp} {o : HO} (a : But2 d w H H') : But2 d w H (upd H' d o) := fun x u e h1 h2 => by rw [upd_ne h1]; exact a x u e h1 h2
theorem But2.w {d w : Addr} {H H' : Hp} {o : HO} (a : But2 d w H H') : But2 d w H (upd H' w o) := fun x u e h1 h2 => by rw [upd_ne h2]; exact a x u e h1 h2
theorem But2.new {d w p : Addr} {H H' : Hp} {o : HO} (a : But2 d w H H') (h : H' p = none) : But2 d w H (upd H' p o) := fun x u e h1 h2 => by
  have q := a x u e h1 h2
  rw [upd_ne (ne_of_none q h)]; exact q
theorem DrawAt.dw {H : Hp} {d w c : Addr} {n : Nat} (h : DrawAt H d w c n) : d ≠ w := by
  obtain ⟨⟨r, t, _, _, e⟩, ⟨ws, e2⟩, _, _⟩ := h
  exact ne_of e e2 (by intro z; cases z)
theorem DrawAt.dc {H : Hp} {d w c : Addr} {n : Nat} (h : DrawAt H d w c n) : d ≠ c := by
  obtain ⟨⟨r, t, _, _, e⟩, _, ⟨cs, e2⟩, _⟩ := h
  exact ne_of e e2 (by intro z; cases z)
/-- what is new is none of the three -/
theorem DrawAt.new {H : Hp} {d w c p : Addr} {n : Nat} {o : HO} (h : DrawAt H d w c n) (hp : H p = none) : DrawAt (upd H p o) d w c n := by
  obtain ⟨⟨r, t, a1, a2, e⟩, ⟨ws, e2⟩, ⟨cs, e3⟩, ne⟩ := h
  exact ⟨⟨r, t, a1, a2, by rw [upd_ne (ne_of_none e hp)]; exact e⟩, ⟨ws, by rw [upd_ne (ne_of_none e2 hp)]; exact e2⟩, ⟨cs, by rw [upd_ne (ne_of_none e3 hp)]; exact e3⟩, ne⟩
theorem DrawAt.mono {H : Hp} {d w c : Addr} {n m : Nat} (h : DrawAt H d w c n) (hn : n ≤ m) : DrawAt H d w c m := by
  obtain ⟨⟨r, t, a1, a2, e⟩, h2, h3, ne⟩ := h
  exact ⟨⟨r, t, a1, by omega, e⟩, h2, h3, ne⟩
theorem dp_ints {K : PySem.W.Frag} {H : Hp} : ∀ ns : List Int, DpAll K H (ns.map V.int) (ns.map PyData.int)
  | [] => .nil
  | n :: ns => .cons (.int n) (dp_ints ns)
theorem canLay_ints : ∀ ns : List Int, PyData.canLayAll0 (ns.map PyData.int) = true
  | [] => rfl
  | n :: ns => by
    rw [List.map_cons]
    simp only [PyData.canLayAll0, PyData.canLay0, canLay_ints ns, Bool.and_self]
theorem depth_ints : ∀ ns : List Int, (PyData.list (ns.map PyData.int)).depth ≤ 2 := by
  intro ns
  have h : ∀ l : List Int, PyData.depthAll (l.map PyData.int) = 0 := by
    intro l
    induction l with
    | nil => rfl
    | cons n l ih => rw [List.map_cons]; simp only [PyData.depthAll, PyData.depth, ih]; rfl
  simp only [PyData.depth, h]
  decide
theorem shaped_ints (ns : List Int) : SeqAt.shaped (.list (ns.map PyData.int)) = true := by
  show (PyData.canLay0 _ && decide _) = true
  rw [Bool.and_eq_true]
  refine ⟨?_, decide_eq_true (Nat.le_trans (depth_ints ns) (by decide))⟩
  simp only [PyData.canLay0, canLay_ints]
theorem seq0 {α : Type} (x : α) (xs : List α) : seqIndex? 0 (x :: xs).length = some 0 := by
  unfold seqIndex?
  simp
theorem DrawAt.setR {H : Hp} {d w c : Addr} {n : Nat} {r t x : Int} (h : DrawAt H d w c n) (e : H d = some (.dK (dkv w c r t))) : DrawAt (upd H d (.dK (dkv w c x t))) d w c n := by
  have h1 := h.dw
  have h2 := h.dc
  obtain ⟨⟨r', t', a1, a2, e'⟩, ⟨ws, e2⟩, ⟨cs, e3⟩, ne⟩ := h
  have et : t = t' := by
    rw [e] at e'
    injection e' with e'
    injection e' with e'
    have := congrArg (fun l => valV l kT) e'
    simp only [dkv_t] at this
    injection this with this
    injection this
  exact ⟨⟨x, t, by omega, by omega, upd_same⟩, ⟨ws, by rw [upd_ne h1.symm]; exact e2⟩, ⟨cs, by rw [upd_ne h2.symm]; exact e3⟩, ne⟩
/-- one more long number -/
def spMixed : Sp := fun vs H Q _ => ∃ (d w c : Addr) (n : Nat), vs = [.ref d] ∧ DrawAt H d w c n ∧ n < 2 ^ 40 ∧ ∀ (i : Int) (H' : Hp), DrawAt H' d w c (n + 1) → But2 d w H H' → Q (.int i) H'
/-- a number from 0 to many - 1 -/
def spTake : Sp := fun vs H Q _ => ∃ (d w c : Addr) (n : Nat) (m : Int), vs = [.ref d, .int m] ∧ DrawAt H d w c n ∧ n < 2 ^ 40 ∧ 0 < m ∧ m < 2 ^ 29 ∧ ∀ (i : Int) (H' : Hp), 0 ≤ i → i < m → DrawAt H' d w c (n + 1) → But2 d w H H' → Q (.int i) H'
section
variable {P : Program} {w0 : World} {K : PySem.W.Frag} {mg : Str → Option Value} {base : Heap}
theorem scTake : FnScope ["draw", "many", "found"] ["draw", "many"] (defScope sTake) := ⟨rfl, rfl, rfl, by decide +kernel, rfl, by decide +kernel, by decide +kernel⟩
theorem ok_take {f fM : Addr} {fd fdM : FuncData} (F : Fun K "_law_take" "_law_take" sTake f fd) (FM : Fun K "_law_mixed" "_law_mixed" sMixed fM fdM) (bM : Binds K fdM ["draw"] []) (gM : mg "_law_mixed" = some (.ref fM)) (gi : mg "int" = none)
    (GM : FnOk P w0 K mg base CX0 1 fM fdM ["draw"] spMixed) : FnOk P w0 K mg base CX0 2 f fd ["draw", "many"] spTake := by
  refine F.ok scTake (fun vs H Q E h => ?_) (fun cdv A outer s H vs Q E hr h => ?_)
  · obtain ⟨d, w, c, n, m, rfl, _⟩ := h
    rfl
  · obtain ⟨d, w, c, n, m, rfl, hD, hn, hm0, hm, k⟩ := h
    have hu := hu_of hr
    refine ⟨_, Evl.pss_cut (ps_if (pt_cmpR op_eq (pe_dget hu (pv 0) pe_str (fun _ _ => rfl)) pe_int (nomark _))
        (pss_one (ps_dput hu (pv 0) pe_str (pe_ifExp (pt_cmpR (op_neD hr.units) (pe_dget hu (pv 0) pe_str (fun _ _ => rfl)) (pe_lst pa_nil) (nomark _))
          (pe_bm PySem.F.plainAttrs_list PySem.F.slot_list_pop PySem.F.type_list_pop mt_popAt (pe_dget hu (pv 0) pe_str (fun _ _ => rfl)) (pa_cons pe_int pa_nil))
          (pe_call GM hr (by rfl) gM FM.kp bM .nil pass0 (pa_cons (pv 0) pa_nil))) rfl)) pss_nil)
      (pss_cons (ps_set (i := 2) scTake.nd rfl (.inl rfl) (pe_op op_mod (pe_callTy call_int1 (by rfl) gi PySem.Pv.boot_int (pa_cons (pe_dget hu (pv 0) pe_str (fun _ _ => rfl)) pa_nil)) (pv 1)))
      (pss_cons (ps_dput hu (pv 0) pe_str (pe_op op_fdiv (pe_dget hu (pv 0) pe_str (fun _ _ => rfl)) (pv 1)) rfl)
      (pss_one (ps_ret (pv 2))))), ?_⟩
    obtain ⟨⟨r, t, ht0, htn, hd⟩, ⟨ws, hw⟩, ⟨cs, hc⟩, ne⟩ := id hD
    have hdw : d ≠ w := hD.dw
    refine ⟨fun σ H1 => σ = [some (.ref d), some (.int m), none] ∧ DrawAt H1 d w c (n + 1) ∧ But2 d w H H1, ?_, ?_⟩
    · refine ⟨_, rfl, d, _, rfl, get_r hd, rfl, _, rfl, ?_⟩
      refine ite2 (fun _ => ?_) (fun _ => ?_)
      · -- draw['wide'] != []
        refine ⟨_, rfl, d, _, rfl, get_w hd, Nat.zero_le _, fun p hp => ?_⟩
        have hd1 : (upd H p (.lst [])) d = some (.dK (dkv w c r t)) := by rw [upd_ne (ne_of_none hd hp)]; exact hd
        have hw1 : (upd H p (.lst [])) w = some (.lst (ws.map V.int)) := by rw [upd_ne (ne_of_none hw hp)]; exact hw
        have hD1 : DrawAt (upd H p (.lst [])) d w c n := hD.new hp
        refine ⟨_, _, .lst (SqL.of hw1) (dp_ints ws), .lst (SqL.of upd_same) .nil, shaped_ints ws, rfl, _, rfl, ?_⟩
        cases ws with
        | nil =>
          refine iteF ?_
          refine ⟨_, rfl, d, w, c, n, rfl, hD1, hn, fun i H2 hD2 b2 => ?_⟩
          obtain ⟨⟨r2, t2, a1, a2, e2⟩, q2, q3, q4⟩ := id hD2
          refine ⟨_, rfl, d, _, rfl, DPut.k (k := kR) e2 (by show 4 < sizeLine; decide), ?_⟩
          rw [dkv_putR]
          exact ⟨rfl, hD2.setR e2, ((But2.refl d w H).new hp |>.trans b2).d⟩
        | cons x ws =>
          refine iteT ?_
          refine ⟨_, rfl, d, _, rfl, get_w hd1, Or.inl ⟨rfl, _, SqL.of hw1⟩, w, _, 0, 0, _, rfl, rfl, hw1, by decide, by decide, seq0 _ _, rfl, ?_⟩
          have hd2 : ∀ o, (upd (upd H p (.lst [])) w o) d = some (.dK (dkv w c r t)) := fun o => by rw [upd_ne hdw]; exact hd1
          refine ⟨_, rfl, d, _, rfl, DPut.k (k := kR) (hd2 _) (by show 4 < sizeLine; decide), ?_⟩
          rw [dkv_putR]
          refine ⟨rfl, ⟨⟨x, t, ht0, by omega, upd_same⟩, ⟨ws, ?_⟩, ⟨cs, ?_⟩, ne⟩, (((But2.refl d w H).new hp).w).d⟩
          · rw [upd_ne hdw.symm, upd_same]
            rfl
          · rw [upd_ne hD.dc.symm, upd_ne ne.symm, upd_ne (ne_of_none hc hp)]
            exact hc
      · exact ⟨rfl, hD.mono (Nat.le_succ n), But2.refl d w H⟩
    · rintro σ H1 ⟨rfl, hD1, b1⟩
      obtain ⟨⟨r1, t1, a1, a2, e1⟩, q2, q3, q4⟩ := id hD1
      refine ⟨_, rfl, d, _, rfl, get_r e1, .inl ⟨r1, rfl, _, rfl, r1, m, rfl, rfl, hm0, ?_⟩⟩
      refine ⟨_, rfl, d, _, rfl, get_r e1, _, rfl, r1, m, rfl, rfl, ⟨hm0, by omega⟩, _, rfl, d, _, rfl, DPut.k (k := kR) e1 (by show 4 < sizeLine; decide), ?_⟩
      rw [dkv_putR]
      exact ⟨_, rfl, k _ _ (Int.emod_nonneg _ (by omega)) (Int.emod_lt_of_pos _ hm0) (hD1.setR e1) b1.d⟩
abbrev nMixed : List Str := ["draw", "turn", "found", "prime", "blend", "cell"]
theorem scMixed : FnScope nMixed ["draw"] (defScope sMixed) := ⟨rfl, rfl, rfl, by decide +kernel, rfl, by decide +kernel, by decide +kernel⟩
def primes : List Int := [2147483629, 2147483587, 2147483579, 2147483563]
theorem prime_bd {i : Nat} {x : V} (h : (primes.map V.int)[i]? = some x) : ∃ p : Int, x = .int p ∧ 2147483563 ≤ p ∧ p ≤ 2147483629 := by
  have hx : x ∈ primes.map V.int := List.mem_of_getElem? h
  obtain ⟨p, hp, rfl⟩ := List.mem_map.mp hx
  refine ⟨p, rfl, ?_⟩
  simp [primes] at hp
  omega
theorem ok_mixed {f : Addr} {fd : FuncData} (F : Fun K "_law_mixed" "_law_mixed" sMixed f fd) (gi : mg "int" = none) : FnOk P w0 K mg base CX0 1 f fd ["draw"] spMixed := by
  refine F.ok scMixed (fun vs H Q E h => ?_) (fun cdv A outer s H vs Q E hr h => ?_)
  · obtain ⟨d, w, c, n, rfl, _⟩ := h
    rfl
  · obtain ⟨d, w, c, n, rfl, hD, hn, k⟩ := h
    have hu := hu_of hr
    refine ⟨_, pss_cons (ps_par (i := 1) (j := 2) rfl scMixed.nd rfl rfl (by decide) rfl rfl (pa_cons (pe_op op_add (pe_dget hu (pv 0) pe_str (fun _ _ => rfl)) pe_int) (pa_cons pe_int pa_nil)) rfl)
      (pss_cons (ps_dput hu (pv 0) pe_str (pv 1) rfl)
      (pss_cons (ps_for PassesOwn.never rfl (pi_list (pe_lst (pa_cons pe_int (pa_cons pe_int (pa_cons pe_int (pa_cons pe_int pa_nil)))))) (pg_name (i := 3) scMixed.nd rfl (.inl rfl))
        (pss_cons (ps_set (i := 4) scMixed.nd rfl (.inl rfl) (pe_op op_add (pe_op op_mul pe_int (pv 1)) (pe_op op_fdiv (pv 3) pe_int)))
        (pss_cons (ps_for PassesOwn.never rfl (pi_list (pe_dget hu (pv 0) pe_str (fun _ _ => rfl))) (pg_name (i := 5) scMixed.nd rfl (.inl rfl))
          (pss_one (ps_set (i := 4) scMixed.nd rfl (.inl rfl) (pe_op op_mod (pe_callTy call_int1 (by rfl) gi PySem.Pv.boot_int (pa_cons (pe_op op_add (pe_op op_add (pe_op op_mul (pv 4) pe_int) (pv 5)) (pv 1)) pa_nil)) (pv 3)))))
        (pss_one (ps_set (i := 2) scMixed.nd rfl (.inl rfl) (pe_op op_add (pe_op op_mul (pv 2) pe_int) (pe_op op_mod (pe_callTy call_int1 (by rfl) gi PySem.Pv.boot_int (pa_cons (pe_op op_pow (pv 4) pe_int) pa_nil)) (pv 3))))))))
      (pss_one (ps_ret (pv 2))))), ?_⟩
    obtain ⟨⟨r, t, ht0, htn, hd⟩, ⟨ws, hw⟩, ⟨cs, hc⟩, ne⟩ := id hD
    refine ⟨_, rfl, d, _, rfl, get_t hd, _, _, rfl, rfl, _, _, rfl, ?_⟩
    refine ⟨_, rfl, _, rfl, d, _, rfl, DPut.k (k := kT) hd (by show 4 < sizeLine; decide), ?_⟩
    rw [dkv_putT]
    have hD1 : DrawAt (upd H d (.dK (dkv w c r (t + 1)))) d w c (n + 1) := ⟨⟨r, t + 1, by omega, by omega, upd_same⟩, ⟨ws, by rw [upd_ne hD.dw.symm]; exact hw⟩, ⟨cs, by rw [upd_ne hD.dc.symm]; exact hc⟩, ne⟩
    have b1 : But2 d w H (upd H d (.dK (dkv w c r (t + 1)))) := (But2.refl d w H).d
    refine ⟨by show 4 ≤ sizeLine; decide, fun p hp => ?_⟩
    have hD2 := hD1.new (o := HO.lst (primes.map V.int)) hp
    have b2 := b1.new (o := HO.lst (primes.map V.int)) hp
    have hd2 : (upd (upd H d (.dK (dkv w c r (t + 1)))) p (.lst (primes.map V.int))) d = some (.dK (dkv w c r (t + 1))) := by
      rw [upd_ne (ne_of_none (upd_same (o := HO.dK (dkv w c r (t + 1)))) hp), upd_same]
    have hc2 : (upd (upd H d (.dK (dkv w c r (t + 1)))) p (.lst (primes.map V.int))) c = some (.lst (cs.map V.int)) := by
      have hc1 : (upd H d (.dK (dkv w c r (t + 1)))) c = some (.lst (cs.map V.int)) := by rw [upd_ne hD.dc.symm]; exact hc
      rw [upd_ne (ne_of_none hc1 hp)]
      exact hc1
    have hp2 : (upd (upd H d (.dK (dkv w c r (t + 1)))) p (.lst (primes.map V.int))) p = some (.lst (primes.map V.int)) := upd_same
    refine ⟨p, rfl, ⟨_, SqL.of hp2⟩, for_list (K := K) (a := p) (xs := primes.map V.int) (fun i σ H' => H' = upd (upd H d (.dK (dkv w c r (t + 1)))) p (.lst (primes.map V.int)) ∧ ∃ (f : Int) (x y z : Option V), σ = [some (.ref d), some (.int (t + 1)), some (.int f), x, y, z])
      ⟨rfl, 0, none, none, none, rfl⟩ (fun i σ H' _ ⟨e, _⟩ => e ▸ SqL.of hp2) ?_ ?_⟩
    · rintro i x σ H' hx ⟨rfl, f, y3, y4, y5, rfl⟩
      obtain ⟨q, rfl, q1, q2⟩ := prime_bd hx
      refine ⟨_, rfl, _, _, rfl, rfl, .inl ⟨by decide, by decide⟩, _, rfl, _, _, rfl, rfl, ⟨by decide, by decide⟩, _, _, rfl, rfl, ?_⟩
      -- the inner loop: blend is never far
      refine ⟨_, rfl, d, _, rfl, get_c hd2, c, rfl, ⟨_, SqL.of hc2⟩, for_list (K := K) (a := c) (xs := cs.map V.int) (fun i σ H' => H' = upd (upd H d (.dK (dkv w c r (t + 1)))) p (.lst (primes.map V.int)) ∧ ∃ (b : Int) (z : Option V), 0 ≤ b ∧ b < 2 ^ 62 ∧ σ = [some (.ref d), some (.int (t + 1)), some (.int f), some (.int q), some (.int b), z])
        ⟨rfl, _, y5, ?_, ?_, rfl⟩ (fun i σ H' _ ⟨e, _⟩ => e ▸ SqL.of hc2) ?_ ?_⟩
      · omega
      · omega
      · rintro i x σ H' hx ⟨rfl, b, z, hb0, hb, rfl⟩
        obtain ⟨v, hv⟩ : ∃ v : Int, x = .int v := by
          have hm : x ∈ cs.map V.int := List.mem_of_getElem? hx
          obtain ⟨v, _, e⟩ := List.mem_map.mp hm
          exact ⟨v, e.symm⟩
        subst hv
        refine ⟨_, rfl, _, _, rfl, rfl, .inr ⟨by decide, by decide⟩, _, rfl, _, _, rfl, rfl, _, rfl, _, _, rfl, rfl, .inl ⟨_, rfl, _, rfl, _, _, rfl, rfl, (show (0 : Int) < q by omega), ?_⟩⟩
        exact ⟨rfl, _, _, Int.emod_nonneg _ (by omega), Int.lt_of_lt_of_le (Int.emod_lt_of_pos _ (by omega)) (by omega), rfl⟩
      · rintro σ H' ⟨rfl, b, z, hb0, hb, rfl⟩
        refine ⟨_, rfl, _, _, rfl, rfl, .inr ⟨by decide, by decide⟩, _, rfl, _, _, rfl, rfl, ⟨by decide, by decide, by omega⟩, .inl ⟨_, rfl, _, rfl, _, _, rfl, rfl, (show (0 : Int) < q by omega), _, _, rfl, rfl, ?_⟩⟩
        exact ⟨rfl, _, _, _, _, rfl⟩
    · rintro σ H' ⟨rfl, f, x, y, z, rfl⟩
      exact ⟨_, rfl, k _ _ hD2 b2⟩
/-- one of a list's items -/
def spPick (K : PySem.W.Frag) : Sp := fun vs H Q _ => ∃ (d w c a : Addr) (n : Nat) (xs : List V), vs = [.ref d, .ref a] ∧ DrawAt H d w c n ∧ n < 2 ^ 40 ∧ a ≠ d ∧ a ≠ w ∧ SqL K H a xs ∧ xs ≠ [] ∧ xs.length < 2 ^ 29 ∧
  ∀ (x : V) (H' : Hp), x ∈ xs → DrawAt H' d w c (n + 1) → But2 d w H H' → Q x H'
theorem But2.seq {d w a : Addr} {H H' : Hp} {xs : List V} (b : But2 d w H H') (h1 : a ≠ d) (h2 : a ≠ w) (h : SqL K H a xs) : SqL K H' a xs := by
  rcases h with (h | ⟨o, h⟩) | h
  · exact .inl (.inl (b _ _ h h1 h2))
  · exact .inl (.inr ⟨o, b _ _ h h1 h2⟩)
  · exact .inr h
theorem scPick : FnScope ["draw", "some"] ["draw", "some"] (defScope sPick) := ⟨rfl, rfl, rfl, by decide +kernel, rfl, by decide +kernel, by decide +kernel⟩
theorem ok_pick {f fT : Addr} {fd fdT : FuncData} (F : Fun K "_law_pick" "_law_pick" sPick f fd) (FT : Fun K "_law_take" "_law_take" sTake fT fdT) (bT : Binds K fdT ["draw", "many"] []) (gT : mg "_law_take" = some (.ref fT)) (gl : mg "len" = none)
    (GT : FnOk P w0 K mg base CX0 2 fT fdT ["draw", "many"] spTake) : FnOk P w0 K mg base CX0 3 f fd ["draw", "some"] (spPick K) := by
  refine F.ok scPick (fun vs H Q E h => ?_) (fun cdv A outer s H vs Q E hr h => ?_)
  · obtain ⟨d, w, c, a, n, xs, rfl, _⟩ := h
    rfl
  · obtain ⟨d, w, c, a, n, xs, rfl, hD, hn, ad, aw, hS, hx, hl, k⟩ := h
    refine ⟨_, pss_one (ps_ret (pe_ix ix_list (pv 1) (pe_call GT hr (by rfl) gT FT.kp bT .nil pass0 (pa_cons (pv 0) (pa_cons (pe_callB call_len_seq (by rfl) gl PySem.boot_len (pa_cons (pv 1) pa_nil)) pa_nil))) (fun _ _ => rfl))), ?_⟩
    have h0 : 0 < xs.length := List.length_pos_iff.mpr hx
    refine ⟨_, rfl, _, rfl, _, rfl, a, xs, rfl, .inl hS, d, w, c, n, xs.length, rfl, hD, hn, by omega, by omega, fun i H1 i0 i1 hD1 b1 => ?_⟩
    have hi : i.toNat < xs.length := by omega
    refine ⟨a, xs, i, xs[i.toNat], rfl, rfl, b1.seq ad aw hS, ?_, k _ _ (List.getElem_mem hi) hD1 b1⟩
    obtain ⟨j, rfl⟩ := Int.eq_ofNat_of_zero_le i0
    exact atI_nat (List.getElem?_eq_getElem (by omega))
/-- the state of all draws -/
def spBegun (K : PySem.W.Frag) : Sp := fun vs H Q _ => ∃ (a : Addr) (ns : List Int), vs = [.ref a] ∧ SqL K H a (ns.map V.int) ∧ ns.length ≤ 63 ∧ ∀ (d w c : Addr) (H' : Hp), H d = none → H w = none → H c = none → DrawAt H' d w c 0 → Same H H' → Q (.ref d) H'
abbrev nBegun : List Str := ["script", "wide", "cell"]
theorem scBegun : FnScope nBegun ["script"] (defScope sBegun) := ⟨rfl, rfl, rfl, by decide +kernel, rfl, by decide +kernel, by decide +kernel⟩
theorem ok_begun {f : Addr} {fd : FuncData} (F : Fun K "_law_begun" "_law_begun" sBegun f fd) (gi : mg "int" = none) (ga : mg "abs" = none) : FnOk P w0 K mg base CX0 1 f fd ["script"] (spBegun K) := by
  refine F.ok scBegun (fun vs H Q E h => ?_) (fun cdv A outer s H vs Q E hr h => ?_)
  · obtain ⟨a, ns, rfl, _⟩ := h
    rfl
  · obtain ⟨a, ns, rfl, hS, hl, k⟩ := h
    have hu := hu_of hr
    refine ⟨_, pss_cons (ps_setLc (i := 1) (own := [("cell", 2)]) (g := gName 2) (tt := _) (by rfl) scBegun.nd rfl rfl (sw_true rfl rfl rfl (by decide +kernel)) (pi_list (pv 0)) (blkOk_by (N := nBegun) (sc := defScope sBegun) (by decide +kernel))
        (fun _ _ _ _ _ => pg_name (i := 2) scBegun.nd rfl (Or.inl rfl))
        (fun _ _ _ _ _ => pts_one (pt_cmpR op_ge (pe_callB call_abs (by rfl) ga (by decide +kernel) (pa_cons (pv 2) pa_nil)) (pe_op op_pow pe_int pe_int) (nomark _)))
        (fun _ _ _ _ _ => pe_op op_sub (pe_callB call_abs (by rfl) ga (by decide +kernel) (pa_cons (pv 2) pa_nil)) (pe_op op_pow pe_int pe_int)))
      (pss_one (ps_ret (pe_disp (pps_cons pe_str (pv 1) (pps_cons pe_str (pe_lc (own := [("cell", 2)]) (g := gName 2) (tt := tYes) (by rfl) scBegun.nd (pi_list (pv 0)) (blkOk_by (N := nBegun) (sc := defScope sBegun) (by decide +kernel))
          (fun _ _ _ _ _ => pg_name (i := 2) scBegun.nd rfl (Or.inl rfl)) (fun _ _ _ _ _ => pts_nil)
          (fun _ _ _ _ _ => pe_op op_mod (pe_callTy call_int1 (by rfl) gi PySem.Pv.boot_int (pa_cons (pe_callB call_abs (by rfl) ga (by decide +kernel) (pa_cons (pv 2) pa_nil)) pa_nil)) pe_int))
        (pps_cons pe_str pe_int (pps_cons pe_str pe_int pps_nil)))) (by rfl) (by rfl) (fun z => by cases z) (by decide)))), ?_⟩
    have h18 : CPow 10 18 := ⟨by decide, by decide, by decide⟩
    have hint : ∀ (i : Nat) (x : V), (ns.map V.int)[i]? = some x → ∃ v : Int, x = .int v := fun i x hx => by
      obtain ⟨v, _, e⟩ := List.mem_map.mp (List.mem_of_getElem? hx)
      exact ⟨v, e.symm⟩
    refine ⟨_, rfl, a, rfl, ⟨_, hS⟩, fun w hw => lc_list (K := K) (a := a) (xs := ns.map V.int) (fun i H' => Same H H' ∧ ∃ ws : List Int, H' w = some (.lst (ws.map V.int)) ∧ ws.length ≤ i)
      ⟨Same.new hw, [], upd_same, Nat.le_refl _⟩ (fun i H' _ ⟨e, _⟩ => e.seq hS) ?_ ?_⟩
    · rintro i x H' hx ⟨s1, ws, hw1, hwl⟩
      obtain ⟨v, rfl⟩ := hint i x hx
      have hi : i < ns.length := by
        have := (List.getElem?_eq_some_iff.mp hx).1
        rw [List.length_map] at this
        exact this
      refine ⟨rfl, _, rfl, _, rfl, _, _, rfl, rfl, h18, _, _, rfl, rfl, _, rfl, ite2 (fun _ => ?_) (fun _ => ?_)⟩
      · refine ⟨_, rfl, _, rfl, _, _, rfl, rfl, h18, _, _, rfl, rfl, _, hw1, small1000 (by rw [List.length_map]; omega), fun b o e => ?_, ws ++ [(if v < 0 then -v else v) - 10 ^ 18], ?_, ?_⟩
        · rw [upd_ne (ne_of_none e hw)]
          exact s1 b o e
        · rw [upd_same, List.map_append]
          rfl
        · rw [List.length_append, List.length_singleton]
          omega
      · exact ⟨s1, ws, hw1, by omega⟩
    · rintro H1 ⟨s1, ws, hw1, hwl⟩
      intro d hd
      have nd : d ≠ w := fun z => by rw [z, hw1] at hd; cases hd
      have s2 : Same H (upd H1 d (.dK [])) := s1.trans (Same.new hd)
      have hw2 : (upd H1 d (.dK [])) w = some (.lst (ws.map V.int)) := by rw [upd_ne nd.symm]; exact hw1
      refine ⟨_, rfl, _, rfl, a, rfl, ⟨_, s2.seq hS⟩, fun c hc => lc_list (K := K) (a := a) (xs := ns.map V.int) (fun i H' => Same (upd H1 d (.dK [])) H' ∧ ∃ cs : List Int, H' c = some (.lst (cs.map V.int)) ∧ cs.length ≤ i)
        ⟨Same.new hc, [], upd_same, Nat.le_refl _⟩ (fun i H' _ ⟨e, _⟩ => e.seq (s2.seq hS)) ?_ ?_⟩
      · rintro i x H' hx ⟨s3, cs, hc1, hcl⟩
        obtain ⟨v, rfl⟩ := hint i x hx
        have hi : i < ns.length := by
          have := (List.getElem?_eq_some_iff.mp hx).1
          rw [List.length_map] at this
          exact this
        refine ⟨rfl, yes ?_⟩
        refine ⟨_, rfl, _, rfl, .inl ⟨_, rfl, _, _, rfl, rfl, (by show (0 : Int) < 2147483629; decide), _, hc1, small1000 (by rw [List.length_map]; omega), fun b o e => ?_, cs ++ [(if v < 0 then -v else v) % 2147483629], ?_, ?_⟩⟩
        · rw [upd_ne (ne_of_none e hc)]
          exact s3 b o e
        · rw [upd_same, List.map_append]
          rfl
        · rw [List.length_append, List.length_singleton]
          omega
      · rintro H3 ⟨s3, cs, hc3, hcl⟩
        have hd3 : H3 d = some (.dK []) := s3 _ _ upd_same
        have hw3 : H3 w = some (.lst (ws.map V.int)) := s3 _ _ hw2
        have ndc : c ≠ d := fun z => by rw [z, upd_same] at hc; cases hc
        have nwc : w ≠ c := fun z => by rw [← z, hw2] at hc; cases hc
        refine ⟨hd3, [(kW, .ref w), (kC, .ref c), (kR, .int 0), (kT, .int 0)], rfl, (by show 4 ≤ 15; decide), ?_⟩
        rw [merge4]
        refine k d w c _ (s1.free hd) hw ?_ ⟨⟨0, 0, by decide, by decide, upd_same⟩, ⟨ws, ?_⟩, ⟨cs, ?_⟩, nwc⟩ fun b o e => ?_
        · exact s2.free hc
        · rw [upd_ne nd.symm]
          exact hw3
        · rw [upd_ne ndc]
          exact hc3
        · rw [upd_ne (ne_of_none e (s1.free hd))]
          exact s3 _ _ (s2 _ _ e)
end
end SA
set_option Elab.async false
set_option linter.all false
set_option maxRecDepth 100000
set_option maxHeartbeats 4000000
/-! ### data in the heap -/
namespace SA
open PySem PySem.Spec PyProof.Rows L2 K1
mutual
/-- x is the data d: None, truths, numbers, texts, tracked lists and tuples of such, the empty dict -/
inductive Da (H : Hp) : V → PyData → Prop
  | non : Da H .non .none
  | bl (b : Bool) : Da H (.bl b) (.bool b)
  | int (i : Int) : Da H (.int i) (.int i)
  | str (x : Str) : Da H (.str x) (.str x)
  | lst {a : Addr} {xs : List V} {ds : List PyData} : H a = some (.lst xs) → DaAll H xs ds → Da H (.ref a) (.list ds)
  | tup {a : Addr} {xs : List V} {ds : List PyData} : H a = some (.tup xs) → DaAll H xs ds → Da H (.ref a) (.tuple ds)
  | dct {a : Addr} : H a = some (.dK []) → Da H (.ref a) (.dict [])
inductive DaAll (H : Hp) : List V → List PyData → Prop
  | nil : DaAll H [] []
  | cons {v : V} {vs : List V} {d : PyData} {ds : List PyData} : Da H v d → DaAll H vs ds → DaAll H (v :: vs) (d :: ds)
end
theorem DaAll.len {H : Hp} : ∀ {xs : List V} {ds : List PyData}, DaAll H xs ds → xs.length = ds.length
  | _, _, .nil => rfl
  | _, _, .cons _ t => by rw [List.length_cons, List.length_cons, t.len]
theorem DaAll.get {H : Hp} : ∀ {xs : List V} {ds : List PyData}, DaAll H xs ds → ∀ {i : Nat} {x : V}, xs[i]? = some x → ∃ d, ds[i]? = some d ∧ Da H x d
  | _, _, .nil, i, x, h => by simp at h
  | _, _, .cons (d := d) h1 t, 0, x, h => by
    simp at h
    subst h
    exact ⟨d, by simp, h1⟩
  | _, _, .cons h1 t, i + 1, x, h => by
    simp only [List.getElem?_cons_succ] at h ⊢
    exact t.get h
theorem DaAll.app {H : Hp} : ∀ {xs ys : List V} {ds es : List PyData}, DaAll H xs ds → DaAll H ys es → DaAll H (xs ++ ys) (ds ++ es)
  | _, _, _, _, .nil, h => h
  | _, _, _, _, .cons h1 t, h => .cons h1 (t.app h)
theorem DaAll.one {H : Hp} {v : V} {d : PyData} (h : Da H v d) : DaAll H [v] [d] := .cons h .nil
mutual
theorem Da.same {H H' : Hp} (e : Same H H') : ∀ {d : PyData} {v : V}, Da H v d → Da H' v d
  | _, _, .non => .non
  | _, _, .bl b => .bl b
  | _, _, .int i => .int i
  | _, _, .str x => .str x
  | _, _, .lst h t => .lst (e _ _ h) (DaAll.same e t)
  | _, _, .tup h t => .tup (e _ _ h) (DaAll.same e t)
  | _, _, .dct h => .dct (e _ _ h)
theorem DaAll.same {H H' : Hp} (e : Same H H') : ∀ {ds : List PyData} {vs : List V}, DaAll H vs ds → DaAll H' vs ds
  | _, _, .nil => .nil
  | _, _, .cons h t => .cons (Da.same e h) (DaAll.same e t)
end
mutual
/-- data of texts and tuples alone -/
def tupO : PyData → Bool
  | .str _ => true
  | .none => true
  | .bool _ => true
  | .int _ => true
  | .tuple ds => tupOs ds
  | .list _ => false
  | .dict _ => false
def tupOs : List PyData → Bool
  | [] => true
  | d :: ds => tupO d && tupOs ds
end
/-- all but the addresses in S and the tables of code stay, and all tuples stay -/
def Kp (S : List Addr) (H H' : Hp) : Prop := (∀ b o, H b = some o → b ∉ S → (∀ ps, o ≠ .tbl ps) → H' b = some o) ∧ ∀ a xs, H a = some (.tup xs) → H' a = some (.tup xs)
theorem Kp.refl (S : List Addr) (H : Hp) : Kp S H H := ⟨fun _ _ e _ _ => e, fun _ _ e => e⟩
theorem Kp.trans {S : List Addr} {H H1 H2 : Hp} (a : Kp S H H1) (b : Kp S H1 H2) : Kp S H H2 := ⟨fun x o e n t => b.1 x o (a.1 x o e n t) n t, fun x o e => b.2 x o (a.2 x o e)⟩
theorem Kp.mono {S T : List Addr} {H H' : Hp} (a : Kp S H H') (h : ∀ x ∈ S, x ∈ T) : Kp T H H' := ⟨fun x o e n t => a.1 x o e (fun m => n (h x m)) t, a.2⟩
theorem Kp.of {S : List Addr} {H H' : Hp} (e : Same H H') : Kp S H H' := ⟨fun b o h _ _ => e b o h, fun b o h => e b _ h⟩
theorem Kp.ext {S : List Addr} {H H' : Hp} (e : LamX.ExtN H H') : Kp S H H' := ⟨fun b o h _ t => e b o h t, fun b o h => e b _ h fun ps z => nomatch z⟩
theorem Kp.upd {S : List Addr} {H : Hp} {p : Addr} {o o' : HO} (hp : H p = some o') (hn : ∀ xs, o' ≠ .tup xs) (m : p ∈ S) : Kp S H (upd H p o) :=
  ⟨fun b u e n _ => by rw [upd_ne (fun z => by rw [z] at n; exact n m)]; exact e, fun b xs e => by
    rw [upd_ne (fun z => ?_)]
    · exact e
    · rw [z, hp] at e
      exact hn xs (Option.some.inj e)⟩
theorem Kp.new {S : List Addr} {H H' : Hp} {p : Addr} {o : HO} (k : Kp S H H') (h : H' p = none) : Kp S H (L2.upd H' p o) := k.trans (.of (Same.new h))
theorem Kp.of2 {d w c : Addr} {n : Nat} {H H' : Hp} (hD : DrawAt H d w c n) (b : But2 d w H H') : Kp [d, w] H H' := by
  obtain ⟨⟨r, t, _, _, e1⟩, ⟨ws, e2⟩, _, _⟩ := hD
  refine ⟨fun x o e n _ => b x o e (fun z => n (by simp [z])) (fun z => n (by simp [z])), fun x xs e => b x _ e (fun z => ?_) (fun z => ?_)⟩
  · rw [z, e1] at e
    cases e
  · rw [z, e2] at e
    cases e
theorem DrawAt.kp {S : List Addr} {H H' : Hp} {d w c : Addr} {n : Nat} (h : DrawAt H d w c n) (k : Kp S H H') (h1 : d ∉ S) (h2 : w ∉ S) (h3 : c ∉ S) : DrawAt H' d w c n := by
  obtain ⟨⟨r, t, a1, a2, e1⟩, ⟨ws, e2⟩, ⟨cs, e3⟩, ne⟩ := h
  exact ⟨⟨r, t, a1, a2, k.1 _ _ e1 h1 fun ps z => nomatch z⟩, ⟨ws, k.1 _ _ e2 h2 fun ps z => nomatch z⟩, ⟨cs, k.1 _ _ e3 h3 fun ps z => nomatch z⟩, ne⟩
mutual
theorem Da.kp {S : List Addr} {H H' : Hp} (k : Kp S H H') : ∀ {d : PyData} {v : V}, tupO d = true → Da H v d → Da H' v d
  | _, _, _, .non => .non
  | _, _, _, .bl b => .bl b
  | _, _, _, .int i => .int i
  | _, _, _, .str x => .str x
  | _, _, h, .lst _ _ => by simp [tupO] at h
  | _, _, h, .tup e t => .tup (k.2 _ _ e) (DaAll.kp k (by simpa [tupO] using h) t)
  | _, _, h, .dct _ => by simp [tupO] at h
theorem DaAll.kp {S : List Addr} {H H' : Hp} (k : Kp S H H') : ∀ {ds : List PyData} {vs : List V}, tupOs ds = true → DaAll H vs ds → DaAll H' vs ds
  | _, _, _, .nil => .nil
  | _, _, h, .cons e t => by
    simp only [tupOs, Bool.and_eq_true] at h
    exact .cons (Da.kp k h.1 e) (DaAll.kp k h.2 t)
end
/-! ### types -/
def tyD : PyData → String
  | .none => "NoneType"
  | .bool _ => "bool"
  | .int _ => "int"
  | .str _ => "str"
  | .list _ => "list"
  | .tuple _ => "tuple"
  | .dict _ => "dict"
theorem Da.ty {K : PySem.W.Frag} {H : Hp} {x : V} {d : PyData} (h : Da H x d) : TyX K H x (.type (tyD d)) := by
  cases h with
  | non => exact .base .non
  | bl b => exact .base (.bl b)
  | int i => exact .base (.int i)
  | str z => exact .base (.str z)
  | lst h t => exact .base (.lst h)
  | tup h t => exact .base (.tup h)
  | dct h => exact .base (.dK h)
def isStrD : PyData → Bool
  | .str _ => true
  | _ => false
def isTupD : PyData → Bool
  | .tuple _ => true
  | _ => false
def isLstD : PyData → Bool
  | .list _ => true
  | _ => false
def isDctD : PyData → Bool
  | .dict _ => true
  | _ => false
def isBlD : PyData → Bool
  | .bool _ => true
  | _ => false
theorem kitStr {K : PySem.W.Frag} (d : PyData) : PySem.W.kitOne K (.type (tyD d)) (.type "str") = some (isStrD d) := by cases d <;> (simp only [tyD, isStrD]; exact kit_ty (by decide +kernel))
theorem kitTup {K : PySem.W.Frag} (d : PyData) : PySem.W.kitOne K (.type (tyD d)) (.type "tuple") = some (isTupD d) := by cases d <;> (simp only [tyD, isTupD]; exact kit_ty (by decide +kernel))
theorem kitDct {K : PySem.W.Frag} (d : PyData) : PySem.W.kitOne K (.type (tyD d)) (.type "dict") = some (isDctD d) := by cases d <;> (simp only [tyD, isDctD]; exact kit_ty (by decide +kernel))
theorem kitBl {K : PySem.W.Frag} (d : PyData) : PySem.W.kitOne K (.type (tyD d)) (.type "bool") = some (isBlD d) := by cases d <;> (simp only [tyD, isBlD]; exact kit_ty (by decide +kernel))
theorem kitLT {K : PySem.W.Frag} (d : PyData) : PySem.W.kitAny K (.type (tyD d)) [.type "list", .type "tuple"] = some (isLstD d || isTupD d) := by
  cases d <;> rfl
/-! ### data that may be compared -/
mutual
theorem Da.dp {K : PySem.W.Frag} {H : Hp} : ∀ {d : PyData} {v : V}, isDctD d = false → Da H v d → tupO d = true → Dp K H v d
  | _, _, _, .non, _ => .non
  | _, _, _, .bl b, _ => .bl b
  | _, _, _, .int i, _ => .int i
  | _, _, _, .str x, _ => .str x
  | _, _, _, .lst _ _, h => by simp [tupO] at h
  | _, _, _, .tup e t, h => .tup (SqT.of e) (DaAll.dp t (by simpa [tupO] using h))
  | _, _, h, .dct _, _ => by simp [isDctD] at h
theorem DaAll.dp {K : PySem.W.Frag} {H : Hp} : ∀ {ds : List PyData} {vs : List V}, DaAll H vs ds → tupOs ds = true → DpAll K H vs ds
  | _, _, .nil, _ => .nil
  | _, _, .cons (d := d) e t, h => by
    simp only [tupOs, Bool.and_eq_true] at h
    exact .cons (Da.dp (by cases d <;> simp_all [isDctD, tupO]) e h.1) (DaAll.dp t h.2)
end
end SA
set_option Elab.async false
set_option linter.all false
set_option maxRecDepth 100000
set_option maxHeartbeats 4000000
namespace SA
open PySem PySem.Spec PyProof.Rows L2 K1
/-- a comprehension without an if, each item worked out without a change of what stands: the data ds -/
theorem lc_da {J : It} {xs : List V} {G : Hp → Prop} (w : Walk J xs.length G (YAt xs)) {g : TG} {te : TE} {vs : List Nat} {σ : L2.St} {H1 : Hp} {D : Addr} {Qd : Hp → Prop} (ds : List PyData) (hn : ds.length = xs.length) (ht : tupOs ds = true) (hz : xs.length < sizeLine)
    (hD : H1 D = none) (hG : ∀ H', Same H1 H' → G H')
    (hs : ∀ (i : Nat) (x : V) (d : PyData) (R : VK) (H' : Hp), xs[i]? = some x → ds[i]? = some d → Same H1 H' → (∀ y H'', Same H' H'' → Da H'' y d → R y H'') → g x (wipe σ vs) H' fun σ2 H2 => wipe σ2 vs = wipe σ vs ∧ te σ2 H2 R)
    (hd : ∀ H' ys, Same H1 H' → H' D = some (.lst ys) → DaAll H' ys ds → Qd H') :
    ∃ W : Nat → Nat → Hp → Prop, (∃ m, W 0 m (upd H1 D (.lst []))) ∧ ∀ i m H, W i m H →
      (J.stop i H ∧ Qd H) ∨ (J.go i H ∧ ∃ Nx : Hp → Prop, (∀ H', Nx H' → ∃ m', m' < m ∧ W (i + 1) m' H') ∧ ∀ x H', J.yld i H x H' → g x (wipe σ vs) H' fun σ2 H2 => wipe σ2 vs = wipe σ vs ∧ tYes σ2 H2 fun b H3 =>
        if b = true then te σ2 H3 fun y H4 => ∃ acc, H4 D = some (.lst acc) ∧ acc.length < sizeLine ∧ Nx (upd H4 D (.lst (acc ++ [y]))) else Nx H3) := by
  have tk : ∀ (l : List PyData) i, tupOs l = true → tupOs (l.take i) = true := by
    intro l
    induction l with
    | nil => intro i _; simp [tupOs]
    | cons a l ih =>
      intro i h
      simp only [tupOs, Bool.and_eq_true] at h
      cases i with
      | zero => rfl
      | succ i => simp only [List.take_succ_cons, tupOs, Bool.and_eq_true]; exact ⟨h.1, ih i h.2⟩
  refine lc_it w (fun i H' => Same H1 H' ∧ ∃ ys, H' D = some (.lst ys) ∧ DaAll H' ys (ds.take i)) ⟨Same.new hD, [], upd_same, by rw [List.take_zero]; exact .nil⟩ (fun i H' _ ⟨e, _⟩ => hG H' e) ?_ ?_
  · rintro i x H H' hi ⟨s1, ys, e1, d1⟩ ⟨rfl, hx⟩
    obtain ⟨d, hd'⟩ : ∃ d, ds[i]? = some d := ⟨ds[i]'(by omega), List.getElem?_eq_getElem (by omega)⟩
    refine hs i x d (fun y H4 => ∃ acc, H4 D = some (.lst acc) ∧ acc.length < sizeLine ∧ (Same H1 (upd H4 D (.lst (acc ++ [y]))) ∧ ∃ ys, upd H4 D (.lst (acc ++ [y])) D = some (.lst ys) ∧ DaAll (upd H4 D (.lst (acc ++ [y]))) ys (ds.take (i + 1)))) H' hx hd' s1 (fun y H'' s2 hy => ?_)
    · have e2 := s2 _ _ e1
      have k : Kp [D] H'' (upd H'' D (.lst (ys ++ [y]))) := Kp.upd e2 (fun xs z => nomatch z) (by simp)
      refine ⟨ys, e2, ?_, fun b o e => ?_, ys ++ [y], upd_same, ?_⟩
      · rw [d1.len, List.length_take]
        omega
      · rw [upd_ne (ne_of_none e hD)]
        exact s2 _ _ (s1 b o e)
      · rw [List.take_add_one, hd']
        have h1 : tupO d = true := by
          have : ∀ (l : List PyData) (i : Nat), tupOs l = true → l[i]? = some d → tupO d = true := by
            intro l
            induction l with
            | nil => intro i _ h; simp at h
            | cons a l ih =>
              intro i h h2
              simp only [tupOs, Bool.and_eq_true] at h
              cases i with
              | zero => simp at h2; exact h2 ▸ h.1
              | succ i => simp only [List.getElem?_cons_succ] at h2; exact ih i h.2 h2
          exact this ds i ht hd'
        exact (DaAll.kp k (tk ds i ht) (DaAll.same s2 d1)).app (.one (Da.kp k h1 hy))
  · rintro H ⟨s1, ys, e1, d1⟩
    rw [List.take_of_length_le (by omega)] at d1
    exact hd H ys s1 e1 d1
theorem da_bools {H : Hp} : ∀ {bs : List Bool} {ys : List V}, DaAll H ys (bs.map .bool) → ys = bs.map V.bl
  | [], _, h => by
    cases h
    rfl
  | b :: bs, _, h => by
    rw [List.map_cons] at h
    cases h with
    | cons h1 t =>
      cases h1
      rw [da_bools t, List.map_cons]
theorem da_strs {H : Hp} : ∀ {bs : List Str} {ys : List V}, DaAll H ys (bs.map .str) → ys = bs.map V.str
  | [], _, h => by
    cases h
    rfl
  | b :: bs, _, h => by
    rw [List.map_cons] at h
    cases h with
    | cons h1 t =>
      cases h1
      rw [da_strs t, List.map_cons]
theorem strs_da {H : Hp} : ∀ (bs : List Str), DaAll H (bs.map V.str) (bs.map .str)
  | [] => .nil
  | b :: bs => .cons (.str b) (strs_da bs)
theorem tupOs_bools : ∀ bs : List Bool, tupOs (bs.map PyData.bool) = true
  | [] => rfl
  | b :: bs => by simp [tupOs, tupO, tupOs_bools bs]
theorem tupOs_strs : ∀ bs : List Str, tupOs (bs.map PyData.str) = true
  | [] => rfl
  | b :: bs => by simp [tupOs, tupO, tupOs_strs bs]
/-- the built-in names are nobody else's -/
structure Gb (mg : Str → Option Value) : Prop where
  isi : mg "isinstance" = none
  str : mg "str" = none
  len : mg "len" = none
  all : mg "all" = none
  tuple : mg "tuple" = none
  list : mg "list" = none
  dict : mg "dict" = none
  bool : mg "bool" = none
  set : mg "set" = none
  enum : mg "enumerate" = none
  sorted : mg "sorted" = none
  range : mg "range" = none
  min : mg "min" = none
  int : mg "int" = none
  abs : mg "abs" = none
abbrev sTupOf : Stmt := topS 1
abbrev sIsList : Stmt := topS 2
abbrev sFirst : Stmt := topS 3
abbrev sIsName : Stmt := topS 12
abbrev sDeclN : Stmt := topS 14
abbrev sIsKind : Stmt := topS 16
abbrev sIsDecl : Stmt := topS 17
abbrev sTupB : Stmt := topS 18
abbrev sIsVar : Stmt := topS 19
/-- a tuple of n -/
def isTupN (n : Int) : PyData → Bool
  | .tuple ds => decide ((ds.length : Int) = n)
  | _ => false
def isTupB (lo hi : Int) : PyData → Bool
  | .tuple ds => decide (lo ≤ (ds.length : Int)) && decide ((ds.length : Int) ≤ hi)
  | _ => false
def spTupOf : Sp := fun vs H Q _ => ∃ x d n, vs = [x, .int n] ∧ Da H x d ∧ Q (.bl (isTupN n d)) H
def spTupB : Sp := fun vs H Q _ => ∃ x d lo hi, vs = [x, .int lo, .int hi] ∧ Da H x d ∧ Q (.bl (isTupB lo hi d)) H
def spIsList : Sp := fun vs H Q _ => ∃ x d, vs = [x] ∧ Da H x d ∧ ∀ H', Same H H' → Q (.bl (isLstD d || isTupD d)) H'
section
variable {P : Program} {w0 : World} {K : PySem.W.Frag} {mg : Str → Option Value} {base : Heap}
theorem scTupOf : FnScope ["thing", "many"] ["thing", "many"] (defScope sTupOf) := ⟨rfl, rfl, rfl, by decide +kernel, rfl, by decide +kernel, by decide +kernel⟩
theorem ok_tupOf {f : Addr} {fd : FuncData} (F : Fun K "is_tuple_of" "is_tuple_of" sTupOf f fd) (B : Gb mg) : FnOk P w0 K mg base CX0 1 f fd ["thing", "many"] spTupOf := by
  refine F.ok scTupOf (fun vs H Q E h => ?_) (fun cdv A outer s H vs Q E hr h => ?_)
  · obtain ⟨x, d, n, rfl, _⟩ := h
    rfl
  · obtain ⟨x, d, n, rfl, hx, q⟩ := h
    refine ⟨_, pss_one (ps_ret (pe_and (pe_callB call_isi (by rfl) B.isi boot_isinstance (pa_cons (pv 0) (pa_cons (pe_bltn (v := .ty "tuple") (by rfl) B.tuple (by decide +kernel) rfl) pa_nil)))
      (pe_one (pe_cmpR op_eq (pe_callB call_len_seq (by rfl) B.len PySem.boot_len (pa_cons (pv 0) pa_nil)) (pv 1) (nomark _))))), ?_⟩
    refine ⟨_, rfl, x, .ty "tuple", .type (tyD d), .type "tuple", isTupD d, rfl, .ty _, hx.ty, kitTup d, _, rfl, ?_⟩
    cases hx with
    | @tup a xs ds e t =>
      refine iteT ⟨_, rfl, _, _, rfl, .inr (SqT.of e), _, rfl, rfl, ?_⟩
      rw [t.len]
      have e2 : decide (V.int (ds.length : Int) = V.int n) = isTupN n (.tuple ds) := by
        unfold isTupN
        rw [decide_eq_decide]
        exact ⟨fun z => by injection z, fun z => by rw [z]⟩
      rw [e2]
      exact q
    | _ => exact iteF q
theorem scTupB : FnScope ["thing", "least", "most"] ["thing", "least", "most"] (defScope sTupB) := ⟨rfl, rfl, rfl, by decide +kernel, rfl, by decide +kernel, by decide +kernel⟩
theorem ok_tupB {f : Addr} {fd : FuncData} (F : Fun K "_is_tuple_between" "_is_tuple_between" sTupB f fd) (B : Gb mg) : FnOk P w0 K mg base CX0 1 f fd ["thing", "least", "most"] spTupB := by
  refine F.ok scTupB (fun vs H Q E h => ?_) (fun cdv A outer s H vs Q E hr h => ?_)
  · obtain ⟨x, d, lo, hi, rfl, _⟩ := h
    rfl
  · obtain ⟨x, d, lo, hi, rfl, hx, q⟩ := h
    refine ⟨_, pss_one (ps_ret (pe_and (pe_callB call_isi (by rfl) B.isi boot_isinstance (pa_cons (pv 0) (pa_cons (pe_bltn (v := .ty "tuple") (by rfl) B.tuple (by decide +kernel) rfl) pa_nil)))
      (pe_one (pe_chain op_le op_le (pv 1) (pe_callB call_len_seq (by rfl) B.len PySem.boot_len (pa_cons (pv 0) pa_nil)) (pv 2))))), ?_⟩
    refine ⟨_, rfl, x, .ty "tuple", .type (tyD d), .type "tuple", isTupD d, rfl, .ty _, hx.ty, kitTup d, _, rfl, ?_⟩
    cases hx with
    | @tup a xs ds e t =>
      refine iteT ⟨_, rfl, _, rfl, _, _, rfl, .inr (SqT.of e), _, _, rfl, rfl, _, rfl, ?_⟩
      have el := t.len
      refine ite2 (fun h1 => ?_) (fun h1 => ?_)
      · refine ⟨_, rfl, _, _, rfl, rfl, ?_⟩
        rw [el] at h1 ⊢
        have e2 : isTupB lo hi (.tuple ds) = decide ((ds.length : Int) ≤ hi) := by
          show (decide _ && decide _) = _
          rw [h1, Bool.true_and]
        rw [e2] at q
        exact q
      · rw [el] at h1
        have e2 : isTupB lo hi (.tuple ds) = false := by
          rw [Bool.not_eq_true] at h1
          show (decide _ && decide _) = _
          rw [h1, Bool.false_and]
        rw [e2] at q
        exact q
    | _ => exact iteF q
theorem scIsList : FnScope ["thing"] ["thing"] (defScope sIsList) := ⟨rfl, rfl, rfl, by decide +kernel, rfl, by decide +kernel, by decide +kernel⟩
theorem ok_isList {f : Addr} {fd : FuncData} (F : Fun K "is_list" "is_list" sIsList f fd) (B : Gb mg) : FnOk P w0 K mg base CX0 1 f fd ["thing"] spIsList := by
  refine F.ok scIsList (fun vs H Q E h => ?_) (fun cdv A outer s H vs Q E hr h => ?_)
  · obtain ⟨x, d, rfl, _⟩ := h
    rfl
  · obtain ⟨x, d, rfl, hx, q⟩ := h
    refine ⟨_, pss_one (ps_ret (pe_callB call_isiT (by rfl) B.isi boot_isinstance (pa_cons (pv 0) (pa_cons (pe_tup (pa_cons (pe_bltn (v := .ty "list") (by rfl) B.list (by decide +kernel) rfl) (pa_cons (pe_bltn (v := .ty "tuple") (by rfl) B.tuple (by decide +kernel) rfl) pa_nil))) pa_nil)))), ?_⟩
    refine ⟨_, rfl, (by show 2 ≤ sizeLine; decide), fun t ht => ?_⟩
    exact ⟨x, t, _, .type (tyD d), [.type "list", .type "tuple"], _, rfl, upd_same, .cons (.ty _) (.cons (.ty _) .nil), (hx.same (Same.new ht)).ty, kitLT d, q _ (Same.new ht)⟩
end
end SA
set_option Elab.async false
set_option linter.all false
set_option maxRecDepth 100000
set_option maxHeartbeats 4000000
namespace SA
open PySem PySem.Spec PyProof.Rows L2 K1
def lettersS : Str := "abcdefghijklmnopqrstuvwxyz"
/-- what the top's constants are -/
structure Top3 (K : PySem.W.Frag) (mg : Str → Option Value) (kA : Addr) : Prop where
  kept : mg "KEPT" = some (.ref kA)
  keptT : ∀ H, SqT K H kA (keptS.map V.str)
  letters : ∃ t, mg "LETTERS" = some (.str lettersS t)
theorem small_letters (c : Nat) : decide (c ∈ tl lettersS) = small c := by
  unfold small
  rw [decide_eq_decide]
  have e : tl lettersS = [97, 98, 99, 100, 101, 102, 103, 104, 105, 106, 107, 108, 109, 110, 111, 112, 113, 114, 115, 116, 117, 118, 119, 120, 121, 122] := by decide +kernel
  rw [e]
  simp only [List.mem_cons, List.not_mem_nil, or_false]
  omega
theorem at_tl {w : Str} {i c : Nat} (h : w.cps[i]? = some c) : (tl w)[i]? = some c := by simpa using h
theorem all_map (p : Nat → Bool) : ∀ l : L, (l.map p).all id = l.all p
  | [] => rfl
  | c :: l => by rw [List.map_cons, List.all_cons, List.all_cons, all_map p l]; rfl
def isNameD : PyData → Bool
  | .str w => isName w
  | _ => false
def lenOk : PyData → Prop
  | .str w => w.length ≤ 100000
  | _ => True
def spName : Sp := fun vs H Q _ => ∃ x d, vs = [x] ∧ Da H x d ∧ lenOk d ∧ ∀ H', Same H H' → Q (.bl (isNameD d)) H'
theorem isName_len {w : Str} (h : isName w = true) : w.length ≤ 8 := by
  unfold isName at h
  simp only [Bool.and_eq_true, decide_eq_true_eq] at h
  exact h.2.1
section
variable {P : Program} {w0 : World} {K : PySem.W.Frag} {mg : Str → Option Value} {base : Heap} {kA : Addr}
theorem scIsName : FnScope ["thing", "letter"] ["thing"] (defScope sIsName) := ⟨rfl, rfl, rfl, by decide +kernel, rfl, by decide +kernel, by decide +kernel⟩
theorem ok_isName {f : Addr} {fd : FuncData} (F : Fun K "is_name" "is_name" sIsName f fd) (T : Top3 K mg kA) (B : Gb mg) : FnOk P w0 K mg base CX0 1 f fd ["thing"] spName := by
  obtain ⟨tl1, mL⟩ := T.letters
  refine F.ok scIsName (fun vs H Q E h => ?_) (fun cdv A outer s H vs Q E hr h => ?_)
  · obtain ⟨x, d, rfl, _⟩ := h
    rfl
  · obtain ⟨x, d, rfl, hx, hl, k⟩ := h
    refine ⟨_, pss_cons (ps_if (PW.pt (pw_or (pt_not (pt_val (pe_callB call_isi (by rfl) B.isi boot_isinstance (pa_cons (pv 0) (pa_cons (pe_bltn (v := .ty "str") (by rfl) B.str (by decide +kernel) rfl) pa_nil)))))
        (pw_or (pt_not (pt_chain op_le op_le pe_int (pe_callB call_len_str (by rfl) B.len PySem.boot_len (pa_cons (pv 0) pa_nil)) pe_int))
          (pw_or1 (pt_cmpR op_in_seq (pv 0) (pe_glob (v := .ref kA) (by rfl) T.kept rfl) rfl))))) (pss_one (ps_ret pe_bl)) pss_nil)
      (pss_one (ps_ret (pe_callB (cr_all rfl) (by rfl) B.all (by decide +kernel) (pa_cons (pe_lc (own := [("letter", 1)]) (g := gName 1) (tt := tYes) (te := tOp (fun x y H Q => ∃ (c : Nat) (z : Str), x = .str ⟨#[c]⟩ ∧ y = .str z ∧ Q (.bl (decide (c ∈ z.cps.toList))) H) (tVar 1) (tC (.str lettersS))) (by rfl) scIsName.nd (pi_str (pv 0))
        (blkOk_by (N := ["thing", "letter"]) (sc := defScope sIsName) (by decide +kernel)) (fun _ _ _ _ _ => pg_name (i := 1) scIsName.nd rfl (Or.inl rfl)) (fun _ _ _ _ _ => pts_nil) (fun _ _ _ _ _ => pe_cmpR op_in_sign (pv 1) (pe_glob (v := .str lettersS) (by rfl) mL ⟨_, rfl⟩) rfl)) pa_nil)))), ?_⟩
    refine ⟨_, rfl, x, .ty "str", .type (tyD d), .type "str", isStrD d, rfl, .ty _, hx.ty, kitStr d, _, rfl, ?_⟩
    cases hx with
    | str w =>
      have hw : w.length ≤ 100000 := hl
      have hz : w.length ≤ sizeLine := Nat.le_trans hw (by decide)
      have k : ∀ H', Same H H' → Q (.bl (isName w)) H' := k
      refine iteF ?_
      have k0 : isName w = false → Q (.bl false) H := fun e => e ▸ k H (Same.refl H)
      refine ⟨_, rfl, w, rfl, hz, _, _, rfl, rfl, _, rfl, ite2 (fun h1 => ?_) (fun h1 => ?_)⟩
      · have h1 : (1 : Int) ≤ w.length := of_decide_eq_true h1
        refine ⟨_, _, rfl, rfl, _, rfl, ?_⟩
        by_cases h2 : (w.length : Int) ≤ 8
        · rw [decide_eq_true h2]
          refine iteF ?_
          refine ⟨_, rfl, kA, _, rfl, .inr (T.keptT H), rfl, flat_strs _, _, rfl, ?_⟩
          rw [inV_str]
          by_cases h3 : w ∈ keptS
          · rw [decide_eq_true h3]
            refine iteT (k0 ?_)
            simp [isName, h3]
          · rw [decide_eq_false h3]
            refine iteF ?_
            refine ⟨_, rfl, w, rfl, fun p hp => lc_it walk_str (fun i H' => Same H H' ∧ H' p = some (.lst (((tl w).take i).map fun c => V.bl (small c)))) ⟨Same.new hp, upd_same⟩ (fun _ _ _ _ => trivial) ?_ ?_⟩
            · rintro i x H1 H' hi ⟨s1, e1⟩ ⟨rfl, c, hc, rfl⟩
              refine ⟨rfl, yes ?_⟩
              refine ⟨_, rfl, c, lettersS, rfl, rfl, _, e1, ?_, fun b o e => ?_, ?_⟩
              · rw [List.length_map, List.length_take]
                exact Nat.lt_of_le_of_lt (Nat.min_le_right _ _) (Nat.lt_of_le_of_lt hw (by decide))
              · rw [upd_ne (ne_of_none e hp)]
                exact s1 b o e
              · rw [upd_same, small_letters, List.take_add_one, at_tl hc, List.map_append]
                rfl
            · rintro H1 ⟨s1, e1⟩
              rw [List.take_of_length_le (Nat.le_of_eq (by simp))] at e1
              have e2 : (tl w).map (fun c => V.bl (small c)) = ((tl w).map small).map V.bl := by rw [List.map_map]; rfl
              rw [e2] at e1
              refine ⟨p, _, rfl, SqL.of e1, ?_⟩
              have := k H1 s1
              rw [all_map]
              have e3 : isName w = (tl w).all small := by simp [isName, h3, show 1 ≤ w.length by omega, show w.length ≤ 8 by omega]
              rw [← e3]
              exact this
        · rw [decide_eq_false h2]
          refine iteT (k0 ?_)
          simp [isName, show ¬ w.length ≤ 8 by omega]
      · have h1 : ¬ (1 : Int) ≤ w.length := fun z => h1 (decide_eq_true z)
        refine ⟨_, rfl, ?_⟩
        refine iteT (k0 ?_)
        simp [isName, show ¬ 1 ≤ w.length by omega]
    | _ => exact k H (Same.refl H)
/-! ### kinds -/
def numS : List Str := ["number", "truth"]
def isKindS (w : Str) : Bool := decide (w ∈ numS) || isName w
/-- a value that may be asked by is_kind, and the answer -/
inductive KindRes : PyData → Bool → Prop
  | str (w : Str) (h : w.length ≤ 100000) : KindRes (.str w) (isKindS w)
  | int (i : Int) : KindRes (.int i) false
  | non : KindRes .none false
def spKind : Sp := fun vs H Q _ => ∃ x d b, vs = [x] ∧ Da H x d ∧ KindRes d b ∧ ∀ H', Same H H' → Q (.bl b) H'
theorem scIsKind : FnScope ["thing"] ["thing"] (defScope sIsKind) := ⟨rfl, rfl, rfl, by decide +kernel, rfl, by decide +kernel, by decide +kernel⟩
theorem ok_isKind {f fN : Addr} {fd fdN : FuncData} (F : Fun K "is_kind" "is_kind" sIsKind f fd) (FN : Fun K "is_name" "is_name" sIsName fN fdN) (bN : Binds K fdN ["thing"] []) (gN : mg "is_name" = some (.ref fN)) (GN : FnOk P w0 K mg base CX0 1 fN fdN ["thing"] spName) :
    FnOk P w0 K mg base CX0 2 f fd ["thing"] spKind := by
  refine F.ok scIsKind (fun vs H Q E h => ?_) (fun cdv A outer s H vs Q E hr h => ?_)
  · obtain ⟨x, d, b, rfl, _⟩ := h
    rfl
  · obtain ⟨x, d, b, rfl, hx, hb, k⟩ := h
    refine ⟨_, pss_one (ps_ret (pe_or (pe_cmpR op_in_seq (pv 0) (pe_tup (pa_cons pe_str (pa_cons pe_str pa_nil))) rfl) (pe_one (pe_call GN hr (by rfl) gN FN.kp bN .nil pass0 (pa_cons (pv 0) pa_nil))))), ?_⟩
    refine ⟨_, rfl, (by show 2 ≤ sizeLine; decide), fun t ht => ?_⟩
    have st : Same H (upd H t (.tup [.str "number", .str "truth"])) := Same.new ht
    have hx2 := hx.same st
    have hT : SqT K (upd H t (.tup [.str "number", .str "truth"])) t [.str "number", .str "truth"] := SqT.of upd_same
    cases hb with
    | str w hw =>
      cases hx with
      | str _ =>
      refine ⟨t, _, rfl, .inr hT, rfl, rfl, _, rfl, ?_⟩
      have e : inV (.str w) [V.str "number", V.str "truth"] = decide (w ∈ numS) := inV_str w numS
      have e' : (if false = true then !inV (.str w) [V.str "number", V.str "truth"] else inV (.str w) [V.str "number", V.str "truth"]) = decide (w ∈ numS) := by rw [if_neg Bool.false_ne_true, e]
      show if _ = true then _ else _
      rw [e']
      by_cases h1 : w ∈ numS
      · rw [decide_eq_true h1]
        refine iteT ?_
        have := k _ st
        unfold isKindS at this
        rw [decide_eq_true h1] at this
        exact this
      · rw [decide_eq_false h1]
        refine iteF ⟨_, rfl, .str w, .str w, rfl, hx2, hw, fun H' s' => ?_⟩
        have := k _ (st.trans s')
        unfold isKindS at this
        rw [decide_eq_false h1] at this
        exact this
    | int i =>
      cases hx with
      | int _ =>
      refine ⟨t, _, rfl, .inr hT, rfl, rfl, _, rfl, ?_⟩
      refine iteF ⟨_, rfl, .int i, .int i, rfl, hx2, trivial, fun H' s' => k _ (st.trans s')⟩
    | non =>
      cases hx with
      | non =>
      refine ⟨t, _, rfl, .inr hT, rfl, rfl, _, rfl, ?_⟩
      refine iteF ⟨_, rfl, .non, .none, rfl, hx2, trivial, fun H' s' => k _ (st.trans s')⟩
end
end SA
set_option Elab.async false
set_option linter.all false
set_option maxRecDepth 100000
set_option maxHeartbeats 4000000
namespace SA
open PySem PySem.Spec PyProof.Rows L2 K1
/-! ### declarations -/
abbrev Vr := Str × List Str
def fldD (l : List Str) : PyData := .tuple (l.map .str)
def varD (v : Vr) : PyData := .tuple [.str v.1, fldD v.2]
structure OkV (v : Vr) : Prop where
  name : isName v.1 = true
  len : v.2.length ≤ 3
  kinds : ∀ k ∈ v.2, isKindS k = true ∧ k.length ≤ 8
inductive Dcl where
  | row (n i : Str)
  | cho (n : Str) (vs : List Vr)
def Dcl.name : Dcl → Str
  | .row n _ => n
  | .cho n _ => n
def Dcl.d : Dcl → PyData
  | .row n i => .tuple [.str "row", .str n, .str i]
  | .cho n vs => .tuple [.str "choice", .str n, .tuple (vs.map varD)]
def Dcl.names : Dcl → List Str
  | .row n _ => [n]
  | .cho n vs => n :: vs.map (·.1)
inductive Dcl.Ok : Dcl → Prop
  | row {n i : Str} (h : isName n = true) (k : isKindS i = true) (l : i.length ≤ 8) : Dcl.Ok (.row n i)
  | cho {n : Str} {vs : List Vr} (h : isName n = true) (h1 : 1 ≤ vs.length) (h4 : vs.length ≤ 4) (ok : ∀ v ∈ vs, OkV v) : Dcl.Ok (.cho n vs)
theorem tupO_fld (l : List Str) : tupO (fldD l) = true := by
  unfold fldD
  simp only [tupO, tupOs_strs]
theorem tupO_var (v : Vr) : tupO (varD v) = true := by
  unfold varD
  simp only [tupO, tupOs, tupO_fld, Bool.and_self]
theorem tupOs_vars : ∀ vs : List Vr, tupOs (vs.map varD) = true
  | [] => rfl
  | v :: vs => by rw [List.map_cons]; simp only [tupOs, tupO_var, tupOs_vars vs, Bool.and_self]
theorem tupO_dcl (D : Dcl) : tupO D.d = true := by
  cases D <;> simp [Dcl.d, tupO, tupOs, tupOs_vars]
theorem tupOs_dcls : ∀ l : List Dcl, tupOs (l.map Dcl.d) = true
  | [] => rfl
  | v :: vs => by rw [List.map_cons]; simp only [tupOs, tupO_dcl, tupOs_dcls vs, Bool.and_self]
/-- what is_declaration says of a value -/
inductive DeclRes : PyData → Bool → Prop
  | notT {d : PyData} (h : isTupN 3 d = false) : DeclRes d false
  | noName (a n : Str) (c : PyData) (h : isName n = false) (l : n.length ≤ 1000) : DeclRes (.tuple [.str a, .str n, c]) false
  | row (n : Str) (c : PyData) {b : Bool} (h : isName n = true) (k : KindRes c b) : DeclRes (.tuple [.str "row", .str n, c]) b
  | cho (n : Str) (vs : List Vr) (h : isName n = true) (ok : ∀ v ∈ vs, OkV v) : DeclRes (.tuple [.str "choice", .str n, .tuple (vs.map varD)]) (decide (1 ≤ vs.length) && decide (vs.length ≤ 4))
  | other (a n : Str) (c : PyData) (h : isName n = true) (h1 : a ≠ "row") (h2 : a ≠ "choice") : DeclRes (.tuple [.str a, .str n, c]) false
theorem Dcl.Ok.res {D : Dcl} (h : D.Ok) : DeclRes D.d true := by
  cases h with
  | row h k l => exact k ▸ .row _ _ h (.str _ (Nat.le_trans l (by decide)))
  | cho h h1 h4 ok =>
    have := DeclRes.cho _ _ h ok
    rw [decide_eq_true h1, decide_eq_true h4] at this
    exact this
def spVar : Sp := fun vs H Q _ => ∃ x v, vs = [x] ∧ Da H x (varD v) ∧ OkV v ∧ ∀ H', Same H H' → Q (.bl true) H'
def spDecl : Sp := fun vs H Q _ => ∃ x d b, vs = [x] ∧ Da H x d ∧ DeclRes d b ∧ ∀ H', Same H H' → Q (.bl b) H'
theorem da_tup {H : Hp} {x : V} {ds : List PyData} (h : Da H x (.tuple ds)) : ∃ a xs, x = .ref a ∧ H a = some (.tup xs) ∧ DaAll H xs ds := by
  cases h with
  | tup e t => exact ⟨_, _, rfl, e, t⟩
theorem da_str {H : Hp} {x : V} {w : Str} (h : Da H x (.str w)) : x = .str w := by
  cases h
  rfl
theorem da_cons {H : Hp} {xs : List V} {d : PyData} {ds : List PyData} (h : DaAll H xs (d :: ds)) : ∃ y ys, xs = y :: ys ∧ Da H y d ∧ DaAll H ys ds := by
  cases h with
  | cons h t => exact ⟨_, _, rfl, h, t⟩
theorem da_nil {H : Hp} {xs : List V} (h : DaAll H xs []) : xs = [] := by
  cases h
  rfl
/-- a variant in the heap -/
theorem da_var {H : Hp} {x : V} {v : Vr} (h : Da H x (varD v)) : ∃ a b, x = .ref a ∧ H a = some (.tup [.str v.1, .ref b]) ∧ H b = some (.tup (v.2.map V.str)) := by
  obtain ⟨a, xs, rfl, e, t⟩ := da_tup h
  obtain ⟨y, ys, rfl, h1, t⟩ := da_cons t
  obtain ⟨z, zs, rfl, h2, t⟩ := da_cons t
  cases da_nil t
  cases da_str h1
  obtain ⟨b, ws, rfl, e2, t2⟩ := da_tup h2
  rw [da_strs t2] at e2
  exact ⟨a, b, rfl, e, e2⟩
theorem da_row {H : Hp} {x : V} {n i : Str} (h : Da H x (Dcl.row n i).d) : ∃ a, x = .ref a ∧ H a = some (.tup [.str "row", .str n, .str i]) := by
  obtain ⟨a, xs, rfl, e, t⟩ := da_tup h
  obtain ⟨y, ys, rfl, h1, t⟩ := da_cons t
  obtain ⟨z, zs, rfl, h2, t⟩ := da_cons t
  obtain ⟨w, ws, rfl, h3, t⟩ := da_cons t
  cases da_nil t
  cases da_str h1
  cases da_str h2
  cases da_str h3
  exact ⟨a, rfl, e⟩
theorem da_cho {H : Hp} {x : V} {n : Str} {vs : List Vr} (h : Da H x (Dcl.cho n vs).d) : ∃ a b rs, x = .ref a ∧ H a = some (.tup [.str "choice", .str n, .ref b]) ∧ H b = some (.tup rs) ∧ DaAll H rs (vs.map varD) := by
  obtain ⟨a, xs, rfl, e, t⟩ := da_tup h
  obtain ⟨y, ys, rfl, h1, t⟩ := da_cons t
  obtain ⟨z, zs, rfl, h2, t⟩ := da_cons t
  obtain ⟨w, ws, rfl, h3, t⟩ := da_cons t
  cases da_nil t
  cases da_str h1
  cases da_str h2
  obtain ⟨b, rs, rfl, e2, t2⟩ := da_tup h3
  exact ⟨a, b, rs, rfl, e, e2, t2⟩
theorem da_t3 {H : Hp} {x : V} {a n : Str} {c : PyData} (h : Da H x (.tuple [.str a, .str n, c])) : ∃ p y, x = .ref p ∧ H p = some (.tup [.str a, .str n, y]) ∧ Da H y c := by
  obtain ⟨p, xs, rfl, e, t⟩ := da_tup h
  obtain ⟨y, ys, rfl, h1, t⟩ := da_cons t
  obtain ⟨z, zs, rfl, h2, t⟩ := da_cons t
  obtain ⟨w, ws, rfl, h3, t⟩ := da_cons t
  cases da_nil t
  cases da_str h1
  cases da_str h2
  exact ⟨p, w, rfl, e, h3⟩
theorem all_true : ∀ n : Nat, (List.replicate n true).all id = true
  | 0 => rfl
  | n + 1 => by rw [List.replicate_succ, List.all_cons, all_true n]; rfl
theorem at0 {x : V} {xs : List V} : atI (x :: xs) 0 = some x := atI_nat (j := 0) rfl
theorem at1 {x y : V} {xs : List V} : atI (x :: y :: xs) 1 = some y := atI_nat (j := 1) rfl
theorem at2 {x y z : V} {xs : List V} : atI (x :: y :: z :: xs) 2 = some z := atI_nat (j := 2) rfl
theorem streq {a b : Str} : decide (V.str a = V.str b) = decide (a = b) := by
  rw [decide_eq_decide]
  exact ⟨fun z => by injection z, fun z => by rw [z]⟩
section
variable {P : Program} {w0 : World} {K : PySem.W.Frag} {mg : Str → Option Value} {base : Heap} {kA : Addr}
theorem scIsVar : FnScope ["thing", "kind"] ["thing"] (defScope sIsVar) := ⟨rfl, rfl, rfl, by decide +kernel, rfl, by decide +kernel, by decide +kernel⟩
theorem ok_isVar {f fN fK fT fB : Addr} {fd fdN fdK fdT fdB : FuncData} (F : Fun K "_is_variant" "_is_variant" sIsVar f fd) (B : Gb mg)
    (FN : Fun K "is_name" "is_name" sIsName fN fdN) (bN : Binds K fdN ["thing"] []) (gN : mg "is_name" = some (.ref fN)) (GN : FnOk P w0 K mg base CX0 1 fN fdN ["thing"] spName)
    (FK : Fun K "is_kind" "is_kind" sIsKind fK fdK) (bK : Binds K fdK ["thing"] []) (gK : mg "is_kind" = some (.ref fK)) (GK : FnOk P w0 K mg base CX0 2 fK fdK ["thing"] spKind)
    (FT : Fun K "is_tuple_of" "is_tuple_of" sTupOf fT fdT) (bT : Binds K fdT ["thing", "many"] []) (gT : mg "is_tuple_of" = some (.ref fT)) (GT : FnOk P w0 K mg base CX0 1 fT fdT ["thing", "many"] spTupOf)
    (FB : Fun K "_is_tuple_between" "_is_tuple_between" sTupB fB fdB) (bB : Binds K fdB ["thing", "least", "most"] []) (gB : mg "_is_tuple_between" = some (.ref fB)) (GB : FnOk P w0 K mg base CX0 1 fB fdB ["thing", "least", "most"] spTupB) :
    FnOk P w0 K mg base CX0 3 f fd ["thing"] spVar := by
  refine F.ok scIsVar (fun vs H Q E h => ?_) (fun cdv A outer s H vs Q E hr h => ?_)
  · obtain ⟨x, v, rfl, _⟩ := h
    rfl
  · obtain ⟨x, v, rfl, hx, ok, k⟩ := h
    refine ⟨_, pss_cons (ps_if (PW.pt (pw_or (pt_not (pt_val (pe_call GT (hr.mono (by decide)) (by rfl) gT FT.kp bT .nil pass0 (pa_cons (pv 0) (pa_cons pe_int pa_nil)))))
        (pw_or (pt_not (pt_val (pe_call GN (hr.mono (by decide)) (by rfl) gN FN.kp bN .nil pass0 (pa_cons (pe_ix ix_tup (pv 0) pe_int (fun _ _ => rfl)) pa_nil))))
          (pw_or1 (pt_not (pt_val (pe_call GB (hr.mono (by decide)) (by rfl) gB FB.kp bB .nil pass0 (pa_cons (pe_ix ix_tup (pv 0) pe_int (fun _ _ => rfl)) (pa_cons pe_int (pa_cons pe_int pa_nil)))))))))) (pss_one (ps_ret pe_bl)) pss_nil)
      (pss_one (ps_ret (pe_callB (cr_all rfl) (by rfl) B.all (by decide +kernel) (pa_cons (pe_lc (own := [("kind", 1)]) (g := gName 1) (tt := tYes) (by rfl) scIsVar.nd (pi_tup (pe_ix ix_tup (pv 0) pe_int (fun _ _ => rfl)))
        (blkOk_by (N := ["thing", "kind"]) (sc := defScope sIsVar) (by decide +kernel)) (fun _ _ _ _ _ => pg_name (i := 1) scIsVar.nd rfl (Or.inl rfl)) (fun _ _ _ _ _ => pts_nil) (fun _ _ _ _ _ => pe_call GK (hr.mono (by decide)) (by rfl) gK FK.kp bK .nil pass0 (pa_cons (pv 1) pa_nil))) pa_nil)))), ?_⟩
    have hx0 := hx
    obtain ⟨a, b, rfl, ea, eb⟩ := da_var hx
    have hb : Da H (.ref b) (fldD v.2) := .tup eb (strs_da v.2)
    refine ⟨_, rfl, .ref a, varD v, 2, rfl, hx0, true, rfl, ?_⟩
    refine iteF ⟨_, rfl, a, _, _, _, rfl, rfl, SqT.of ea, at0, .str v.1, .str v.1, rfl, .str v.1, Nat.le_trans (isName_len ok.name) (by decide), fun H1 s1 => ⟨true, ?_, ?_⟩⟩
    · show V.bl (isName v.1) = V.bl true
      rw [ok.name]
    · refine iteF ⟨_, rfl, a, _, _, _, rfl, rfl, SqT.of (s1 _ _ ea), at1, .ref b, fldD v.2, 0, 3, rfl, hb.same s1, true, ?_, ?_⟩
      · show V.bl (decide (0 ≤ ((v.2.map PyData.str).length : Int)) && decide (((v.2.map PyData.str).length : Int) ≤ 3)) = V.bl true
        rw [List.length_map, decide_eq_true (by omega), decide_eq_true (by have := ok.len; omega)]
        rfl
      · refine iteF ?_
        refine ⟨_, rfl, a, _, _, _, rfl, rfl, SqT.of (s1 _ _ ea), at1, b, rfl, ⟨_, SqT.of (s1 _ _ eb)⟩, fun p hp => lc_da walk_tup (List.map PyData.bool (List.replicate v.2.length true)) (by simp) (tupOs_bools _) ?_ hp (fun H' s' => SqT.of (s' _ _ (s1 _ _ eb))) ?_ ?_⟩
        · rw [List.length_map]
          exact small1000 (by have := ok.len; omega)
        · intro i x d R H' hx' hd' s' hR
          rw [List.getElem?_map] at hx' hd'
          obtain ⟨w, hw, rfl⟩ := Option.map_eq_some_iff.mp hx'
          obtain ⟨t, ht, rfl⟩ := Option.map_eq_some_iff.mp hd'
          have et : t = true := List.eq_of_mem_replicate (List.mem_of_getElem? ht)
          subst et
          obtain ⟨k1, k2⟩ := ok.kinds w (List.mem_of_getElem? hw)
          refine ⟨rfl, _, rfl, .str w, .str w, _, rfl, .str w, .str w (Nat.le_trans k2 (by decide)), fun H'' s'' => ?_⟩
          rw [k1]
          exact hR _ _ s'' (.bl true)
        · intro H' ys s' e' dy
          rw [da_bools dy] at e'
          refine ⟨p, _, rfl, SqL.of e', ?_⟩
          rw [all_true]
          exact k H' (s1.trans s')
theorem scIsDecl : FnScope ["thing", "variant"] ["thing"] (defScope sIsDecl) := ⟨rfl, rfl, rfl, by decide +kernel, rfl, by decide +kernel, by decide +kernel⟩
theorem ok_isDecl {f fN fK fT fB fV : Addr} {fd fdN fdK fdT fdB fdV : FuncData} (F : Fun K "is_declaration" "is_declaration" sIsDecl f fd) (B : Gb mg)
    (FN : Fun K "is_name" "is_name" sIsName fN fdN) (bN : Binds K fdN ["thing"] []) (gN : mg "is_name" = some (.ref fN)) (GN : FnOk P w0 K mg base CX0 1 fN fdN ["thing"] spName)
    (FK : Fun K "is_kind" "is_kind" sIsKind fK fdK) (bK : Binds K fdK ["thing"] []) (gK : mg "is_kind" = some (.ref fK)) (GK : FnOk P w0 K mg base CX0 2 fK fdK ["thing"] spKind)
    (FT : Fun K "is_tuple_of" "is_tuple_of" sTupOf fT fdT) (bT : Binds K fdT ["thing", "many"] []) (gT : mg "is_tuple_of" = some (.ref fT)) (GT : FnOk P w0 K mg base CX0 1 fT fdT ["thing", "many"] spTupOf)
    (FB : Fun K "_is_tuple_between" "_is_tuple_between" sTupB fB fdB) (bB : Binds K fdB ["thing", "least", "most"] []) (gB : mg "_is_tuple_between" = some (.ref fB)) (GB : FnOk P w0 K mg base CX0 1 fB fdB ["thing", "least", "most"] spTupB)
    (FV : Fun K "_is_variant" "_is_variant" sIsVar fV fdV) (bV : Binds K fdV ["thing"] []) (gV : mg "_is_variant" = some (.ref fV)) (GV : FnOk P w0 K mg base CX0 3 fV fdV ["thing"] spVar) :
    FnOk P w0 K mg base CX0 4 f fd ["thing"] spDecl := by
  refine F.ok scIsDecl (fun vs H Q E h => ?_) (fun cdv A outer s H vs Q E hr h => ?_)
  · obtain ⟨x, d, b, rfl, _⟩ := h
    rfl
  · obtain ⟨x, d, b, rfl, hx, res, k⟩ := h
    refine ⟨_, pss_cons (ps_if (PW.pt (pw_or (pt_not (pt_val (pe_call GT (hr.mono (by decide)) (by rfl) gT FT.kp bT .nil pass0 (pa_cons (pv 0) (pa_cons pe_int pa_nil)))))
        (pw_or1 (pt_not (pt_val (pe_call GN (hr.mono (by decide)) (by rfl) gN FN.kp bN .nil pass0 (pa_cons (pe_ix ix_tup (pv 0) pe_int (fun _ _ => rfl)) pa_nil))))))) (pss_one (ps_ret pe_bl)) pss_nil)
      (pss_cons (ps_if (pt_cmpR op_eq (pe_ix ix_tup (pv 0) pe_int (fun _ _ => rfl)) pe_str (nomark _)) (pss_one (ps_ret (pe_call GK (hr.mono (by decide)) (by rfl) gK FK.kp bK .nil pass0 (pa_cons (pe_ix ix_tup (pv 0) pe_int (fun _ _ => rfl)) pa_nil)))) pss_nil)
      (pss_cons (ps_if (PW.pt (pw_or (pt_cmpR op_ne (pe_ix ix_tup (pv 0) pe_int (fun _ _ => rfl)) pe_str (nomark _))
          (pw_or1 (pt_not (pt_val (pe_call GB (hr.mono (by decide)) (by rfl) gB FB.kp bB .nil pass0 (pa_cons (pe_ix ix_tup (pv 0) pe_int (fun _ _ => rfl)) (pa_cons pe_int (pa_cons pe_int pa_nil))))))))) (pss_one (ps_ret pe_bl)) pss_nil)
      (pss_one (ps_ret (pe_callB (cr_all rfl) (by rfl) B.all (by decide +kernel) (pa_cons (pe_lc (own := [("variant", 1)]) (g := gName 1) (tt := tYes) (by rfl) scIsDecl.nd (pi_tup (pe_ix ix_tup (pv 0) pe_int (fun _ _ => rfl)))
        (blkOk_by (N := ["thing", "variant"]) (sc := defScope sIsDecl) (by decide +kernel)) (fun _ _ _ _ _ => pg_name (i := 1) scIsDecl.nd rfl (Or.inl rfl)) (fun _ _ _ _ _ => pts_nil) (fun _ _ _ _ _ => pe_call GV hr (by rfl) gV FV.kp bV .nil pass0 (pa_cons (pv 1) pa_nil))) pa_nil)))))), ?_⟩
    refine ⟨_, rfl, x, d, 3, rfl, hx, _, rfl, ?_⟩
    -- behind the two looks at the form
    have t3 : ∀ (a n : Str) (c : PyData), isTupN 3 (.tuple [.str a, .str n, c]) = true := fun a n c => rfl
    cases res with
    | notT h =>
      rw [h]
      exact iteT (k H (Same.refl H))
    | noName a n c h l =>
      obtain ⟨p, y, rfl, e, hy⟩ := da_t3 hx
      rw [t3]
      refine iteF ⟨_, rfl, p, _, _, _, rfl, rfl, SqT.of e, at1, .str n, .str n, rfl, .str n, Nat.le_trans l (by decide), fun H1 s1 => ⟨false, ?_, ?_⟩⟩
      · show V.bl (isName n) = V.bl false
        rw [h]
      · exact iteT (k H1 s1)
    | row n c h kr =>
      obtain ⟨p, y, rfl, e, hy⟩ := da_t3 hx
      rw [t3]
      refine iteF ⟨_, rfl, p, _, _, _, rfl, rfl, SqT.of e, at1, .str n, .str n, rfl, .str n, Nat.le_trans (isName_len h) (by decide), fun H1 s1 => ⟨true, ?_, ?_⟩⟩
      · show V.bl (isName n) = V.bl true
        rw [h]
      · refine iteF ⟨_, rfl, p, _, _, _, rfl, rfl, SqT.of (s1 _ _ e), at0, rfl, _, rfl, ?_⟩
        rw [streq]
        refine iteT ⟨_, rfl, p, _, _, _, rfl, rfl, SqT.of (s1 _ _ e), at2, y, c, b, rfl, hy.same s1, kr, fun H2 s2 => k H2 (s1.trans s2)⟩
    | cho n vs h ok =>
      obtain ⟨p, b, rs, rfl, e, eb, dr⟩ := da_cho (n := n) (vs := vs) hx
      rw [t3]
      refine iteF ⟨_, rfl, p, _, _, _, rfl, rfl, SqT.of e, at1, .str n, .str n, rfl, .str n, Nat.le_trans (isName_len h) (by decide), fun H1 s1 => ⟨true, ?_, ?_⟩⟩
      · show V.bl (isName n) = V.bl true
        rw [h]
      · refine iteF ⟨_, rfl, p, _, _, _, rfl, rfl, SqT.of (s1 _ _ e), at0, rfl, _, rfl, ?_⟩
        rw [streq]
        refine iteF ⟨_, rfl, p, _, _, _, rfl, rfl, SqT.of (s1 _ _ e), at0, rfl, _, rfl, ?_⟩
        rw [streq]
        have hb : Da H1 (.ref b) (.tuple (vs.map varD)) := .tup (s1 _ _ eb) (dr.same s1)
        refine iteF ⟨_, rfl, p, _, _, _, rfl, rfl, SqT.of (s1 _ _ e), at2, .ref b, _, 1, 4, rfl, hb, _, rfl, ?_⟩
        have eB : isTupB 1 4 (.tuple (vs.map varD)) = (decide (1 ≤ vs.length) && decide (vs.length ≤ 4)) := by
          show (decide (1 ≤ ((vs.map varD).length : Int)) && decide (((vs.map varD).length : Int) ≤ 4)) = _
          rw [List.length_map]
          congr 1 <;> rw [decide_eq_decide] <;> omega
        rw [eB]
        cases hB : (decide (1 ≤ vs.length) && decide (vs.length ≤ 4)) with
        | false =>
          rw [hB] at k
          exact iteT (k H1 s1)
        | true =>
          rw [hB] at k
          have hl : vs.length ≤ 4 := by
            simp only [Bool.and_eq_true, decide_eq_true_eq] at hB
            exact hB.2
          have el : rs.length = vs.length := by rw [dr.len, List.length_map]
          refine iteF ?_
          refine ⟨_, rfl, p, _, _, _, rfl, rfl, SqT.of (s1 _ _ e), at2, b, rfl, ⟨_, SqT.of (s1 _ _ eb)⟩, fun q hq => lc_da walk_tup (List.map PyData.bool (List.replicate vs.length true)) (by simp [el]) (tupOs_bools _) (small1000 (by omega)) hq (fun H' s' => SqT.of (s' _ _ (s1 _ _ eb))) ?_ ?_⟩
          · intro i x d R H' hx' hd' s' hR
            obtain ⟨d', hd2, hx2⟩ := dr.get hx'
            rw [List.getElem?_map] at hd' hd2
            obtain ⟨v, hv, rfl⟩ := Option.map_eq_some_iff.mp hd2
            obtain ⟨t, ht, rfl⟩ := Option.map_eq_some_iff.mp hd'
            have et : t = true := List.eq_of_mem_replicate (List.mem_of_getElem? ht)
            subst et
            exact ⟨rfl, _, rfl, x, v, rfl, hx2.same (s1.trans s'), ok v (List.mem_of_getElem? hv), fun H'' s'' => hR _ _ s'' (.bl true)⟩
          · intro H' ys s' e' dy
            rw [da_bools dy] at e'
            refine ⟨q, _, rfl, SqL.of e', ?_⟩
            rw [all_true]
            exact k H' (s1.trans s')
    | other a n c h h1 h2 =>
      obtain ⟨p, y, rfl, e, hy⟩ := da_t3 hx
      rw [t3]
      refine iteF ⟨_, rfl, p, _, _, _, rfl, rfl, SqT.of e, at1, .str n, .str n, rfl, .str n, Nat.le_trans (isName_len h) (by decide), fun H1 s1 => ⟨true, ?_, ?_⟩⟩
      · show V.bl (isName n) = V.bl true
        rw [h]
      · refine iteF ⟨_, rfl, p, _, _, _, rfl, rfl, SqT.of (s1 _ _ e), at0, rfl, _, rfl, ?_⟩
        rw [streq, decide_eq_false h1]
        refine iteF ⟨_, rfl, p, _, _, _, rfl, rfl, SqT.of (s1 _ _ e), at0, rfl, _, rfl, ?_⟩
        rw [streq, decide_eq_false h2]
        exact iteT (k H1 s1)
end
end SA
set_option Elab.async false
set_option linter.all false
set_option maxRecDepth 100000
set_option maxHeartbeats 4000000
namespace SA
open PySem PySem.Spec PyProof.Rows L2 K1
abbrev sKic : Stmt := topS 22
abbrev sKsic : Stmt := topS 23
abbrev sInC : Stmt := topS 24
abbrev sChk : Stmt := topS 25
abbrev sTold : Stmt := topS 26
def codedS (w : Str) : Str := if w = "truth" then "number" else w
abbrev Fn := List Str × Str
def fnD (f : Fn) : PyData := .tuple [fldD f.1, .str f.2]
def codedF (f : Fn) : Fn := (f.1.map codedS, codedS f.2)
structure OkF (f : Fn) : Prop where
  len : f.1.length ≤ 3
  kinds : ∀ k ∈ f.1, isKindS k = true ∧ k.length ≤ 8
  res : isKindS f.2 = true ∧ f.2.length ≤ 8
theorem tupO_fn (f : Fn) : tupO (fnD f) = true := by
  unfold fnD
  simp only [tupO, tupOs, tupO_fld, Bool.and_self]
theorem tupOs_fns : ∀ l : List Fn, tupOs (l.map fnD) = true
  | [] => rfl
  | v :: vs => by rw [List.map_cons]; simp only [tupOs, tupO_fn, tupOs_fns vs, Bool.and_self]
theorem da_fn {H : Hp} {x : V} {f : Fn} (h : Da H x (fnD f)) : ∃ a b, x = .ref a ∧ H a = some (.tup [.ref b, .str f.2]) ∧ H b = some (.tup (f.1.map V.str)) := by
  obtain ⟨a, xs, rfl, e, t⟩ := da_tup h
  obtain ⟨y, ys, rfl, h1, t⟩ := da_cons t
  obtain ⟨z, zs, rfl, h2, t⟩ := da_cons t
  cases da_nil t
  cases da_str h2
  obtain ⟨b, ws, rfl, e2, t2⟩ := da_tup h1
  rw [da_strs t2] at e2
  exact ⟨a, b, rfl, e, e2⟩
def spDeclN : Sp := fun vs H Q _ => ∃ x D, vs = [x] ∧ Da H x (Dcl.d D) ∧ D.Ok ∧ ∀ H' p, Same H H' → H p = none → H' p = some (.lst (D.names.map V.str)) → Q (.ref p) H'
def spFirst : Sp := fun vs H Q _ => ∃ a ws, vs = [.ref a] ∧ H a = some (.lst (List.map V.str ws)) ∧ ws.length ≤ 1000 ∧ ∀ H' v, Same H H' → (ws.Nodup → v = .non) → (¬ ws.Nodup → ∃ i, v = .int i) → Q v H'
def spKic : Sp := fun vs H Q _ => ∃ w, vs = [.str w] ∧ Q (.str (codedS w)) H
def spKsic : Sp := fun vs H Q _ => ∃ x ks, vs = [x] ∧ Da H x (fldD ks) ∧ ks.length ≤ 1000 ∧ ∀ H' y, Same H H' → Da H' y (fldD (ks.map codedS)) → Q y H'
def spInC : Sp := fun vs H Q _ => ∃ x f, vs = [x] ∧ Da H x (fnD f) ∧ f.1.length ≤ 1000 ∧ ∀ H' y, Same H H' → Da H' y (fnD (codedF f)) → Q y H'
section
variable {P : Program} {w0 : World} {K : PySem.W.Frag} {mg : Str → Option Value} {base : Heap} {kA : Addr}
theorem scDeclN : FnScope ["declaration", "variant"] ["declaration"] (defScope sDeclN) := ⟨rfl, rfl, rfl, by decide +kernel, rfl, by decide +kernel, by decide +kernel⟩
theorem ok_declN {f : Addr} {fd : FuncData} (F : Fun K "declared_names" "declared_names" sDeclN f fd) : FnOk P w0 K mg base CX0 1 f fd ["declaration"] spDeclN := by
  refine F.ok scDeclN (fun vs H Q E h => ?_) (fun cdv A outer s H vs Q E hr h => ?_)
  · obtain ⟨x, D, rfl, _⟩ := h
    rfl
  · obtain ⟨x, D, rfl, hx, ok, k⟩ := h
    refine ⟨_, pss_cons (ps_if (pt_cmpR op_eq (pe_ix ix_tup (pv 0) pe_int (fun _ _ => rfl)) pe_str (nomark _)) (pss_one (ps_ret (pe_lst (pa_cons (pe_ix ix_tup (pv 0) pe_int (fun _ _ => rfl)) pa_nil)))) pss_nil)
      (pss_one (ps_ret (pe_op op_cat (pe_lst (pa_cons (pe_ix ix_tup (pv 0) pe_int (fun _ _ => rfl)) pa_nil))
        (pe_lc (own := [("variant", 1)]) (g := gName 1) (tt := tYes) (te := tOp (rIxT K) (tVar 1) (tC (.int 0))) (by rfl) scDeclN.nd (pi_tup (pe_ix ix_tup (pv 0) pe_int (fun _ _ => rfl)))
        (blkOk_by (N := ["declaration", "variant"]) (sc := defScope sDeclN) (by decide +kernel)) (fun _ _ _ _ _ => pg_name (i := 1) scDeclN.nd rfl (Or.inl rfl)) (fun _ _ _ _ _ => pts_nil) (fun _ _ _ _ _ => pe_ix ix_tup (pv 1) pe_int (fun _ _ => rfl)))))), ?_⟩
    cases D with
    | row n i =>
      obtain ⟨a, rfl, e⟩ := da_row hx
      refine ⟨_, rfl, a, _, _, _, rfl, rfl, SqT.of e, at0, rfl, _, rfl, ?_⟩
      rw [streq]
      refine iteT ⟨_, rfl, a, _, _, _, rfl, rfl, SqT.of e, at1, (by show 1 ≤ sizeLine; decide), fun p hp => k _ p (Same.new hp) hp upd_same⟩
    | cho n vs =>
      obtain ⟨a, b, rs, rfl, e, eb, dr⟩ := da_cho hx
      have hl : vs.length ≤ 4 := by
        cases ok with
        | cho h h1 h4 ok => exact h4
      have el : rs.length = vs.length := by rw [dr.len, List.length_map]
      refine ⟨_, rfl, a, _, _, _, rfl, rfl, SqT.of e, at0, rfl, _, rfl, ?_⟩
      rw [streq]
      refine iteF ⟨_, rfl, a, _, _, _, rfl, rfl, SqT.of e, at1, (by show 1 ≤ sizeLine; decide), fun p hp => ?_⟩
      have s1 : Same H (upd H p (.lst [.str n])) := Same.new hp
      refine ⟨_, rfl, a, _, _, _, rfl, rfl, SqT.of (s1 _ _ e), at2, b, rfl, ⟨_, SqT.of (s1 _ _ eb)⟩, fun q hq => lc_da walk_tup (vs.map fun v => PyData.str v.1) (by simp [el]) (by have := tupOs_strs (vs.map (·.1)); rw [List.map_map] at this; exact this) (small1000 (by omega)) hq (fun H' s' => SqT.of (s' _ _ (s1 _ _ eb))) ?_ ?_⟩
      · intro i x d R H' hx' hd' s' hR
        obtain ⟨d', hd2, hx2⟩ := dr.get hx'
        rw [List.getElem?_map] at hd' hd2
        obtain ⟨v, hv, rfl⟩ := Option.map_eq_some_iff.mp hd2
        obtain ⟨t, ht, rfl⟩ := Option.map_eq_some_iff.mp hd'
        rw [hv] at ht
        cases ht
        obtain ⟨a2, b2, rfl, e2, _⟩ := da_var (hx2.same (s1.trans s'))
        exact ⟨rfl, _, rfl, a2, _, _, _, rfl, rfl, SqT.of e2, at0, hR _ _ (Same.refl _) (.str _)⟩
      · intro H' ys s' e' dy
        have ey : ys = (vs.map (·.1)).map V.str := by
          have : DaAll H' ys ((vs.map (·.1)).map PyData.str) := by rw [List.map_map]; exact dy
          exact da_strs this
        subst ey
        refine ⟨p, q, _, _, rfl, rfl, s' _ _ upd_same, e', ?_, fun r hr' => ?_⟩
        · rw [List.length_map, List.length_map]
          exact Nat.le_of_lt (small1000 (by show 1 + vs.length ≤ 1000; omega))
        · exact k _ r ((s1.trans s').trans (Same.new hr')) (s1.trans s' |>.free hr') upd_same
theorem scFirst : FnScope ["names", "seen", "at", "name"] ["names"] (defScope sFirst) := ⟨rfl, rfl, rfl, by decide +kernel, rfl, by decide +kernel, by decide +kernel⟩
theorem nodup_take {ws : List Str} {i : Nat} {w : Str} (h : ws[i]? = some w) (n : (ws.take i).Nodup) (hw : w ∉ ws.take i) : (ws.take (i + 1)).Nodup := by
  rw [List.take_add_one, h]
  exact List.nodup_append.mpr ⟨n, by simp, fun a ha b hb => by simp at hb; subst hb; exact fun z => hw (z ▸ ha)⟩
theorem not_nodup {ws : List Str} {i : Nat} {w : Str} (h : ws[i]? = some w) (hw : w ∈ ws.take i) : ¬ ws.Nodup := fun n => by
  have e : ws = ws.take i ++ ws.drop i := (List.take_append_drop i ws).symm
  rw [e] at n
  have h2 : w ∈ ws.drop i := by
    have h3 : (ws.drop i)[0]? = some w := by rw [List.getElem?_drop]; simpa using h
    exact List.mem_of_getElem? h3
  exact (List.nodup_append.mp n).2.2 w hw w h2 rfl
theorem ok_first {f : Addr} {fd : FuncData} (F : Fun K "first_again" "first_again" sFirst f fd) (B : Gb mg) : FnOk P w0 K mg base CX0 1 f fd ["names"] spFirst := by
  refine F.ok scFirst (fun vs H Q E h => ?_) (fun cdv A outer s H vs Q E hr h => ?_)
  · obtain ⟨a, ws, rfl, _⟩ := h
    rfl
  · obtain ⟨a, ws, rfl, ha, hl, k⟩ := h
    refine ⟨_, pss_cons (ps_set (i := 1) scFirst.nd rfl (.inl rfl) (pe_callTy0 cr_set0K (by rfl) B.set (by decide +kernel)))
      (pss_cons (ps_for PassesOwn.never rfl (pi_enum (by rfl) B.enum (pa_cons (pv 0) pa_nil)) (pg_tup (by rfl) (pgs_cons (pg_name (i := 2) scFirst.nd rfl (Or.inl rfl)) (pgs_cons (pg_name (i := 3) scFirst.nd rfl (Or.inl rfl)) pgs_nil)))
        (pss_cons (ps_if (pt_cmpR or_sinK (pv 3) (pv 1) (by rfl)) (pss_one (ps_ret (pv 2))) pss_nil)
        (pss_one (ps_expr (pe_saddK (pv 1) (pa_cons (pv 3) pa_nil))))))
      (pss_one (ps_ret pe_non))), ?_⟩
    refine ⟨rfl, fun p hp => ?_⟩
    have s1 : Same H (upd H p (SetK P w0 p (fun _ => false) 0)) := Same.new hp
    refine ⟨_, rfl, a, _, rfl, SqL.of (s1 _ _ ha), for_it walk_enum (fun i σ H' => Same H H' ∧ (∃ S n, H' p = some (SetK P w0 p S n) ∧ n ≤ i ∧ ∀ w : Str, S (.inr w) = decide (w ∈ ws.take i)) ∧ (ws.take i).Nodup ∧ ∃ x y, σ = [some (.ref a), some (.ref p), x, y])
      ⟨s1, ⟨_, 0, upd_same, Nat.le_refl _, fun w => by simp⟩, by simp, none, none, rfl⟩ (fun i σ H' _ ⟨e, _⟩ => SqL.of (e _ _ ha)) ?_ ?_⟩
    · rintro i x σ H1 H2 hi ⟨s2, ⟨S, n, e1, hn, hS⟩, nd, y2, y3, rfl⟩ ⟨T, u, v, rfl, hT, rfl, hu, hv⟩
      cases hu
      have hv : (ws.map V.str)[i]? = some v := hv
      rw [List.getElem?_map] at hv
      obtain ⟨w, hw, rfl⟩ := Option.map_eq_some_iff.mp hv
      have s3 : Same H1 (upd H1 T (.tup [.int (i : Nat), .str w])) := Same.new hT
      have hi' : i < ws.length := by rw [List.length_map] at hi; exact hi
      refine ⟨T, _, rfl, SqT.of upd_same, rfl, ?_⟩
      refine ⟨_, _, rfl, _, _, rfl, rfl, ?_⟩
      refine ⟨_, rfl, _, rfl, .inr w, p, S, n, rfl, rfl, s3 _ _ e1, _, rfl, ?_⟩
      have e4 : (if false = true then !S (Sum.inr w) else S (Sum.inr w)) = decide (w ∈ ws.take i) := by rw [if_neg Bool.false_ne_true, hS]
      rw [e4]
      refine ite2 (fun h => ?_) (fun h => ?_)
      · have h : w ∈ ws.take i := of_decide_eq_true h
        exact ⟨_, rfl, k _ _ (s2.trans s3) (fun z => absurd z (not_nodup hw h)) fun _ => ⟨_, rfl⟩⟩
      · have h : w ∉ ws.take i := fun z => h (decide_eq_true z)
        refine ⟨_, rfl, ⟨p, S, n, rfl, s3 _ _ e1⟩, _, rfl, p, .inr w, S, n, rfl, rfl, s3 _ _ e1, ?_, ?_⟩
        · exact Nat.lt_of_le_of_lt (show n + 1 ≤ 1001 by omega) (by decide)
        · refine ⟨fun b o e => ?_, ⟨_, _, upd_same, ?_, fun w' => ?_⟩, nodup_take hw nd h, _, _, rfl⟩
          · rw [upd_ne (ne_of_none e hp)]
            exact s3 _ _ (s2 b o e)
          · split <;> omega
          · rw [hS, List.take_add_one, hw, Bool.eq_iff_iff]
            simp only [Bool.or_eq_true, decide_eq_true_eq, Option.toList_some, List.mem_append, List.mem_singleton]
            exact or_congr Iff.rfl ⟨fun z => by injection z, fun z => by rw [z]⟩
    · rintro σ H' ⟨s2, ⟨S, n, e1, hn, hS⟩, nd, y2, y3, rfl⟩
      rw [List.length_map, List.take_of_length_le (Nat.le_refl _)] at nd
      exact k _ _ s2 (fun _ => rfl) fun z => absurd nd z
theorem scKic : FnScope ["kind"] ["kind"] (defScope sKic) := ⟨rfl, rfl, rfl, by decide +kernel, rfl, by decide +kernel, by decide +kernel⟩
theorem ok_kic {f : Addr} {fd : FuncData} (F : Fun K "_kind_in_code" "_kind_in_code" sKic f fd) : FnOk P w0 K mg base CX0 1 f fd ["kind"] spKic := by
  refine F.ok scKic (fun vs H Q E h => ?_) (fun cdv A outer s H vs Q E hr h => ?_)
  · obtain ⟨w, rfl, _⟩ := h
    rfl
  · obtain ⟨w, rfl, k⟩ := h
    refine ⟨_, pss_one (ps_ret (pe_ifExp (pt_cmpR op_eq (pv 0) pe_str (nomark _)) pe_str (pv 0))), ?_⟩
    refine ⟨_, rfl, rfl, _, rfl, ?_⟩
    rw [streq]
    unfold codedS at k
    refine ite2 (fun h => ?_) (fun h => ?_)
    · rw [if_pos (of_decide_eq_true h)] at k
      exact k
    · rw [if_neg (fun z => h (decide_eq_true z))] at k
      exact ⟨_, rfl, k⟩
theorem scKsic : FnScope ["kinds", "kind"] ["kinds"] (defScope sKsic) := ⟨rfl, rfl, rfl, by decide +kernel, rfl, by decide +kernel, by decide +kernel⟩
theorem da_fld {H : Hp} {x : V} {ks : List Str} (h : Da H x (fldD ks)) : ∃ a, x = .ref a ∧ H a = some (.tup (ks.map V.str)) := by
  obtain ⟨a, xs, rfl, e, t⟩ := da_tup h
  rw [da_strs t] at e
  exact ⟨a, rfl, e⟩
theorem ok_ksic {f fK : Addr} {fd fdK : FuncData} (F : Fun K "_kinds_in_code" "_kinds_in_code" sKsic f fd) (B : Gb mg) (FK : Fun K "_kind_in_code" "_kind_in_code" sKic fK fdK) (bK : Binds K fdK ["kind"] []) (gK : mg "_kind_in_code" = some (.ref fK))
    (GK : FnOk P w0 K mg base CX0 1 fK fdK ["kind"] spKic) : FnOk P w0 K mg base CX0 2 f fd ["kinds"] spKsic := by
  refine F.ok scKsic (fun vs H Q E h => ?_) (fun cdv A outer s H vs Q E hr h => ?_)
  · obtain ⟨x, ks, rfl, _⟩ := h
    rfl
  · obtain ⟨x, ks, rfl, hx, hl, k⟩ := h
    refine ⟨_, pss_one (ps_ret (pe_callTy call_tuple_of (by rfl) B.tuple (by decide +kernel) (pa_cons (pe_lc (own := [("kind", 1)]) (g := gName 1) (tt := tYes) (by rfl) scKsic.nd (pi_tup (pv 0))
        (blkOk_by (N := ["kinds", "kind"]) (sc := defScope sKsic) (by decide +kernel)) (fun _ _ _ _ _ => pg_name (i := 1) scKsic.nd rfl (Or.inl rfl)) (fun _ _ _ _ _ => pts_nil) (fun _ _ _ _ _ => pe_call GK hr (by rfl) gK FK.kp bK .nil pass0 (pa_cons (pv 1) pa_nil))) pa_nil))), ?_⟩
    obtain ⟨a, rfl, e⟩ := da_fld hx
    refine ⟨_, rfl, a, rfl, ⟨_, SqT.of e⟩, fun q hq => lc_da walk_tup ((ks.map codedS).map PyData.str) (by simp) (tupOs_strs _) (small1000 (by simpa using hl)) hq (fun H' s' => SqT.of (s' _ _ e)) ?_ ?_⟩
    · intro i x d R H' hx' hd' s' hR
      rw [List.getElem?_map] at hx' hd'
      rw [List.getElem?_map] at hd'
      obtain ⟨w, hw, rfl⟩ := Option.map_eq_some_iff.mp hx'
      obtain ⟨t, ht, rfl⟩ := Option.map_eq_some_iff.mp hd'
      rw [hw] at ht
      cases ht
      exact ⟨rfl, _, rfl, w, rfl, hR _ _ (Same.refl _) (.str _)⟩
    · intro H' ys s' e' dy
      refine ⟨q, _, rfl, .inl ⟨SqL.of e', fun l hl' => ?_⟩⟩
      exact k _ _ (s'.trans (Same.new hl')) (.tup upd_same (dy.same (Same.new hl')))
theorem scInC : FnScope ["told", "parameters", "result"] ["told"] (defScope sInC) := ⟨rfl, rfl, rfl, by decide +kernel, rfl, by decide +kernel, by decide +kernel⟩
theorem ok_inC {f fK fS : Addr} {fd fdK fdS : FuncData} (F : Fun K "_in_code" "_in_code" sInC f fd) (FK : Fun K "_kind_in_code" "_kind_in_code" sKic fK fdK) (bK : Binds K fdK ["kind"] []) (gK : mg "_kind_in_code" = some (.ref fK)) (GK : FnOk P w0 K mg base CX0 1 fK fdK ["kind"] spKic)
    (FS : Fun K "_kinds_in_code" "_kinds_in_code" sKsic fS fdS) (bS : Binds K fdS ["kinds"] []) (gS : mg "_kinds_in_code" = some (.ref fS)) (GS : FnOk P w0 K mg base CX0 2 fS fdS ["kinds"] spKsic) : FnOk P w0 K mg base CX0 3 f fd ["told"] spInC := by
  refine F.ok scInC (fun vs H Q E h => ?_) (fun cdv A outer s H vs Q E hr h => ?_)
  · obtain ⟨x, g, rfl, _⟩ := h
    rfl
  · obtain ⟨x, g, rfl, hx, hl, k⟩ := h
    refine ⟨_, pss_cons (ps_asg (pv 0) (pg_tup (by rfl) (pgs_cons (pg_name (i := 1) scInC.nd rfl (Or.inl rfl)) (pgs_cons (pg_name (i := 2) scInC.nd rfl (Or.inl rfl)) pgs_nil))))
      (pss_one (ps_ret (pe_tup (pa_cons (pe_call GS hr (by rfl) gS FS.kp bS .nil pass0 (pa_cons (pv 1) pa_nil)) (pa_cons (pe_call GK (hr.mono (by decide)) (by rfl) gK FK.kp bK .nil pass0 (pa_cons (pv 2) pa_nil)) pa_nil))))), ?_⟩
    obtain ⟨a, b, rfl, e, eb⟩ := da_fn hx
    refine ⟨_, rfl, a, _, rfl, SqT.of e, rfl, _, _, rfl, _, _, rfl, rfl, ?_⟩
    refine ⟨_, rfl, .ref b, g.1, rfl, .tup eb (strs_da _), hl, fun H1 y s1 hy => ?_⟩
    refine ⟨_, rfl, g.2, rfl, (by show 2 ≤ sizeLine; decide), fun t ht => ?_⟩
    exact k _ _ (s1.trans (Same.new ht)) (.tup upd_same (.cons (hy.same (Same.new ht)) (.cons (.str _) .nil)))
/-! ### what functions are told -/
inductive ToldRes : PyData → Bool → Prop
  | notT {d : PyData} (h : isTupN 2 d = false) : ToldRes d false
  | notP (a c : PyData) (h : isTupD a = false) : ToldRes (.tuple [a, c]) false
  | many (ds : List PyData) (c : PyData) (h : 3 < ds.length) : ToldRes (.tuple [.tuple ds, c]) false
  | kinds (ds : List PyData) (bs : List Bool) (c : PyData) (b : Bool) (h : ds.length ≤ 3) (e : bs.length = ds.length) (hb : ∀ (i : Nat) (d : PyData) (b : Bool), ds[i]? = some d → bs[i]? = some b → KindRes d b) (k : KindRes c b) : ToldRes (.tuple [.tuple ds, c]) (bs.all id && b)
def spTold : Sp := fun vs H Q _ => ∃ x d b, vs = [x] ∧ Da H x d ∧ ToldRes d b ∧ ∀ H', Same H H' → Q (.bl b) H'
theorem OkF.res' {f : Fn} (h : OkF f) : ToldRes (fnD f) true := by
  have := ToldRes.kinds (f.1.map .str) (List.replicate f.1.length true) (.str f.2) true (by simpa using h.len) (by simp) (fun i d b h1 h2 => by
    rw [List.getElem?_map] at h1
    obtain ⟨w, hw, rfl⟩ := Option.map_eq_some_iff.mp h1
    have eb : b = true := List.eq_of_mem_replicate (List.mem_of_getElem? h2)
    obtain ⟨k1, k2⟩ := h.kinds w (List.mem_of_getElem? hw)
    have := KindRes.str w (Nat.le_trans k2 (by decide))
    rw [k1] at this
    rw [eb]
    exact this) (by
    have := KindRes.str f.2 (Nat.le_trans h.res.2 (by decide))
    rw [h.res.1] at this
    exact this)
  rw [all_true] at this
  exact this
theorem scTold : FnScope ["thing", "kind"] ["thing"] (defScope sTold) := ⟨rfl, rfl, rfl, by decide +kernel, rfl, by decide +kernel, by decide +kernel⟩
theorem ok_told {f fK fT : Addr} {fd fdK fdT : FuncData} (F : Fun K "_is_told" "_is_told" sTold f fd) (B : Gb mg)
    (FK : Fun K "is_kind" "is_kind" sIsKind fK fdK) (bK : Binds K fdK ["thing"] []) (gK : mg "is_kind" = some (.ref fK)) (GK : FnOk P w0 K mg base CX0 2 fK fdK ["thing"] spKind)
    (FT : Fun K "is_tuple_of" "is_tuple_of" sTupOf fT fdT) (bT : Binds K fdT ["thing", "many"] []) (gT : mg "is_tuple_of" = some (.ref fT)) (GT : FnOk P w0 K mg base CX0 1 fT fdT ["thing", "many"] spTupOf) :
    FnOk P w0 K mg base CX0 3 f fd ["thing"] spTold := by
  refine F.ok scTold (fun vs H Q E h => ?_) (fun cdv A outer s H vs Q E hr h => ?_)
  · obtain ⟨x, d, b, rfl, _⟩ := h
    rfl
  · obtain ⟨x, d, b, rfl, hx, res, k⟩ := h
    refine ⟨_, pss_cons (ps_if (PW.pt (pw_or (pt_not (pt_val (pe_call GT (hr.mono (by decide)) (by rfl) gT FT.kp bT .nil pass0 (pa_cons (pv 0) (pa_cons pe_int pa_nil)))))
        (pw_or (pt_not (pt_val (pe_callB call_isi (by rfl) B.isi boot_isinstance (pa_cons (pe_ix ix_tup (pv 0) pe_int (fun _ _ => rfl)) (pa_cons (pe_bltn (v := .ty "tuple") (by rfl) B.tuple (by decide +kernel) rfl) pa_nil)))))
          (pw_or1 (pt_cmpR op_gt (pe_callB call_len_seq (by rfl) B.len PySem.boot_len (pa_cons (pe_ix ix_tup (pv 0) pe_int (fun _ _ => rfl)) pa_nil)) pe_int (nomark _)))))) (pss_one (ps_ret pe_bl)) pss_nil)
      (pss_one (ps_ret (pe_and (pe_callB (cr_all rfl) (by rfl) B.all (by decide +kernel) (pa_cons (pe_lc (own := [("kind", 1)]) (g := gName 1) (tt := tYes) (by rfl) scTold.nd (pi_tup (pe_ix ix_tup (pv 0) pe_int (fun _ _ => rfl)))
        (blkOk_by (N := ["thing", "kind"]) (sc := defScope sTold) (by decide +kernel)) (fun _ _ _ _ _ => pg_name (i := 1) scTold.nd rfl (Or.inl rfl)) (fun _ _ _ _ _ => pts_nil) (fun _ _ _ _ _ => pe_call GK hr (by rfl) gK FK.kp bK .nil pass0 (pa_cons (pv 1) pa_nil))) pa_nil))
        (pe_one (pe_call GK hr (by rfl) gK FK.kp bK .nil pass0 (pa_cons (pe_ix ix_tup (pv 0) pe_int (fun _ _ => rfl)) pa_nil)))))), ?_⟩
    refine ⟨_, rfl, x, d, 2, rfl, hx, _, rfl, ?_⟩
    cases res with
    | notT h =>
      rw [h]
      exact iteT (k H (Same.refl H))
    | notP a c h =>
      obtain ⟨p, xs, rfl, e, t⟩ := da_tup hx
      obtain ⟨y, ys, rfl, h1, t⟩ := da_cons t
      obtain ⟨z, zs, rfl, h2, t⟩ := da_cons t
      cases da_nil t
      refine iteF ⟨_, rfl, p, _, _, _, rfl, rfl, SqT.of e, at0, y, .ty "tuple", .type (tyD a), .type "tuple", isTupD a, rfl, .ty _, h1.ty, kitTup a, _, rfl, ?_⟩
      rw [h]
      exact iteT (k H (Same.refl H))
    | many ds c h =>
      obtain ⟨p, xs, rfl, e, t⟩ := da_tup hx
      obtain ⟨y, ys, rfl, h1, t⟩ := da_cons t
      obtain ⟨z, zs, rfl, h2, t⟩ := da_cons t
      cases da_nil t
      refine iteF ⟨_, rfl, p, _, _, _, rfl, rfl, SqT.of e, at0, y, .ty "tuple", .type (tyD (.tuple ds)), .type "tuple", _, rfl, .ty _, h1.ty, kitTup (.tuple ds), true, rfl, ?_⟩
      obtain ⟨q, ws, rfl, e2, t2⟩ := da_tup h1
      refine iteF ⟨_, rfl, p, _, _, _, rfl, rfl, SqT.of e, at0, q, _, rfl, .inr (SqT.of e2), _, _, rfl, rfl, _, rfl, ?_⟩
      rw [decide_eq_true (show (3 : Int) < ws.length by rw [t2.len]; omega)]
      exact iteT (k H (Same.refl H))
    | kinds ds bs c b h eb hb kc =>
      obtain ⟨p, xs, rfl, e, t⟩ := da_tup hx
      obtain ⟨y, ys, rfl, h1, t⟩ := da_cons t
      obtain ⟨z, zs, rfl, h2, t⟩ := da_cons t
      cases da_nil t
      refine iteF ⟨_, rfl, p, _, _, _, rfl, rfl, SqT.of e, at0, y, .ty "tuple", .type (tyD (.tuple ds)), .type "tuple", _, rfl, .ty _, h1.ty, kitTup (.tuple ds), true, rfl, ?_⟩
      obtain ⟨q, ws, rfl, e2, t2⟩ := da_tup h1
      refine iteF ⟨_, rfl, p, _, _, _, rfl, rfl, SqT.of e, at0, q, _, rfl, .inr (SqT.of e2), _, _, rfl, rfl, _, rfl, ?_⟩
      rw [decide_eq_false (show ¬ (3 : Int) < ws.length by rw [t2.len]; omega)]
      refine iteF ⟨_, rfl, p, _, _, _, rfl, rfl, SqT.of e, at0, q, rfl, ⟨_, SqT.of e2⟩, fun r hr' => lc_da walk_tup (bs.map PyData.bool) (by rw [List.length_map, eb, t2.len]) (tupOs_bools _) (small1000 (by have := t2.len; omega)) hr' (fun H' s' => SqT.of (s' _ _ e2)) ?_ ?_⟩
      · intro i x d R H' hx' hd' s' hR
        obtain ⟨d', hd2, hx2⟩ := t2.get hx'
        rw [List.getElem?_map] at hd'
        obtain ⟨b', hb', rfl⟩ := Option.map_eq_some_iff.mp hd'
        exact ⟨rfl, _, rfl, x, d', b', rfl, hx2.same s', hb i d' b' hd2 hb', fun H'' s'' => hR _ _ s'' (.bl b')⟩
      · intro H' ys s' e' dy
        rw [da_bools dy] at e'
        refine ⟨r, _, rfl, SqL.of e', _, rfl, ?_⟩
        cases hbs : bs.all id with
        | false =>
          rw [hbs] at k
          exact iteF (k H' s')
        | true =>
          rw [hbs] at k
          exact iteT ⟨_, rfl, p, _, _, _, rfl, rfl, SqT.of (s' _ _ e), at1, z, c, b, rfl, h2.same s', kc, fun H2 s2 => k H2 (s'.trans s2)⟩
end
end SA
set_option Elab.async false
set_option linter.all false
set_option maxRecDepth 100000
set_option maxHeartbeats 4000000
/-! ### sorted(xs, key=lambda x: x[1]) of a list or a tuple -/
namespace SA
open PySem PySem.Spec PySem.W PyProof.Rows L2
section
variable {prog : Program} {w : World} {A : Around} {E : Value → Shared → Prop} {s : Shared}
theorem collect_seq {T : String} (hT : T = "list" ∨ T = "tuple") {l : Addr} {vs : List Value} {o : Obj} {n : Nat} {Q : List Value → Shared → Prop} (ho : s.heap.get? l = some o) (hc : o.cls = .type T) (hd : o.data = .seq vs.toArray n)
    (h : Q vs { s with heap := (s.heap.push (seqObj "list" #[] 0)).update s.heap.objs.size (Obj.mapSeq (· ++ vs.toArray)) }) (hsz : vs.length ≤ sizeLine) :
    wpAny (model prog w) A (collect (.ref l)) Q E s := by
  unfold collect
  refine wpAny_bind (wpAny_runValue (codeAny_builtin entry_proto_collect' ?_))
  show wpAny _ _ (do again (.builtin "list.__iadd__" ⟨[← newList [], .ref l], []⟩)) _ _ s
  refine wpAny_bind (wpAny_newList (wpAny_pure ⟨Code.quiet_builtin _ (by decide +kernel), codeAny_builtin entry_list_iadd' ?_⟩))
  show wpAny _ _ (Builtin.List.listExtendWith (.ref s.heap.objs.size) (.ref l) (.ref s.heap.objs.size)) _ _ { s with heap := s.heap.push (seqObj "list" #[] 0) }
  unfold Builtin.List.listExtendWith
  have ho' : (s.heap.push (seqObj "list" #[] 0)).get? l = some o := Heap.get?_push_of_some _ ho
  refine wpAny_bind (wpAny_typeOf (T := T) ⟨o, ho', hc⟩ ?_)
  have ht : (Value.type T == Value.type "list" || Value.type T == Value.type "tuple") = true := by
    rcases hT with rfl | rfl <;> rfl
  rw [if_pos (by rw [Bool.or_assoc, ht, Bool.or_true])]
  refine wpAny_bind (listItems_at ho' hd ?_)
  refine wpAny_bind (listItems_at (xs := #[]) (n := 0) (Heap.get?_push_size _ rfl) rfl ?_)
  rw [if_neg (by simp)]
  refine wpAny_bind (listUpdate_at (xs := #[]) (n := 0) (Heap.get?_push_size _ rfl) rfl ?_ (Nat.zero_le _) (by show (#[] ++ vs.toArray).size ≤ sizeLine + 1; simp only [Array.size_append, List.size_toArray, List.length_nil]; omega))
  refine wpAny_pure ?_
  show wpAny (model prog w) A (do
      let o ← load s.heap.objs.size
      match o.data with
      | .seq xs _ => pure xs.toList
      | _ => unsupported "internal:collect") Q E { s with heap := (s.heap.push (seqObj "list" #[] 0)).update s.heap.objs.size (Obj.mapSeq (· ++ vs.toArray)) }
  refine wpAny_bind (wpAny_load (get?_update_seq (Heap.get?_push_size _ rfl) _) ?_)
  show wpAny _ _ (pure ((#[] : Array Value) ++ vs.toArray).toList) Q E _
  rw [show ((#[] : Array Value) ++ vs.toArray).toList = vs by simp]
  exact wpAny_pure h
theorem sorted_of_seq {T : String} (hT : T = "list" ∨ T = "tuple") {l : Addr} {vs : List Value} {o : Obj} {n : Nat} {kw : List (Str × Value)} {Q : Value → Shared → Prop} (ho : s.heap.get? l = some o) (hc : o.cls = .type T) (hd : o.data = .seq vs.toArray n) (hL : vs.length ≤ sizeLine)
    (ha1 : argsOk "sorted" ⟨[.ref l], kw⟩) (ha2 : ∀ x, argsOk "list.sort" ⟨[.ref x], kw⟩)
    (body : ∀ E' : Value → Shared → Prop, wpAny (model prog w) A.in1.in1 (Builtin.«list.sort» ⟨[.ref (s.heap.objs.size + 1)], kw⟩) (fun f s' => f = .done (.ret .none) ∧ Q (.ref (s.heap.objs.size + 1)) s') E' { s with heap := copyHeap s.heap vs }) :
    wpAny (model prog w) A (call (.builtin "sorted") [.ref l] kw) Q E s := by
  refine call_function_entry_kw kind_sorted plain_sorted entry_sorted ha1 ?_
  unfold Builtin.«sorted»
  refine wpAny_bind (m := checkCount "sorted" 1 1 _) (wpAny_pure ?_)
  refine wpAny_bind (collect_seq hT ho hc hd ?_ hL)
  refine wpAny_bind (wpAny_newList ?_ hL)
  have hsz : ((s.heap.push (seqObj "list" #[] 0)).update s.heap.objs.size (Obj.mapSeq (· ++ vs.toArray))).objs.size = s.heap.objs.size + 1 := by
    rw [Heap.size_update, size_push']
  show wpAny _ _ _ _ _ { s with heap := copyHeap s.heap vs }
  rw [hsz]
  refine wpAny_bind (wpAny_holding (wpAny_call_entry_kw slot_list_sort ⟨_, copyHeap_at s.heap vs, rfl⟩ entry_list_sort ?body (ha2 _)))
  case body =>
    show wpAny (model prog w) A.in1.in1 (Builtin.«list.sort» ⟨[.ref (s.heap.objs.size + 1)], kw⟩) _ _ _
    refine wpAny_mono (body _) (fun f s' hf => ?_) fun _ _ e => e
    obtain ⟨rfl, hq⟩ := hf
    exact ⟨_, rfl, wpAny_pure ⟨_, rfl, hq⟩⟩
theorem sorted_key_seq {β : Type} {vs : List Value} {bs : List β} {R : Value → β → Prop} {T : String} (hT : T = "list" ∨ T = "tuple") {l : Addr} {o : Obj} {n : Nat} {f : Value} {kw : List (Str × Value)} {b : Bool} {Q : Value → Shared → Prop} (k : β → PyData) (ho : s.heap.get? l = some o) (hc : o.cls = .type T) (hd : o.data = .seq vs.toArray n) (e : EachIs R vs bs)
    (hal : AllAlike (bs.map k)) (hk : Sortable (bs.map k)) (hL : bs.length ≤ sizeLine)
    (hu : ∀ x, x ∈ bs → A.units + 2 + (k x).depth < cLine) (ha1 : argsOk "sorted" ⟨[.ref l], kw⟩) (ha2 : ∀ x, argsOk "list.sort" ⟨[.ref x], kw⟩) (ht : ∀ x, Builtin.«list.sort» ⟨[.ref x], kw⟩ = ksk_tree x f b)
    (turn : ∀ (v : Value) (x : β), R v x → x ∈ bs → ∀ (h : Heap) (tk : Nat), (∀ b o, s.heap.get? b = some o → h.get? b = some o) →
      wpAny (model prog w) A.in1.in1 (call f [v]) (KeyPure (k x) { s with heap := h, toks := tk }) (fun _ _ => False) { s with heap := h, toks := tk })
    (h : ∀ out c h' tk, (∀ b o, s.heap.get? b = some o → h'.get? b = some o) → s.heap.get? (s.heap.objs.size + 1) = none → h'.get? (s.heap.objs.size + 1) = some (seqObj "list" (List.toArray out) c) → out.length = bs.length → EachIs R out (bs.mergeSort (dataLe b k)) →
      Q (.ref (s.heap.objs.size + 1)) { s with heap := h', toks := tk }) :
    wpAny (model prog w) A (call (.builtin "sorted") [.ref l] kw) Q E s := by
  have fresh : s.heap.get? (s.heap.objs.size + 1) = none := Heap.get?_none_of_le (Nat.le_succ _)
  have up : ∀ {g : Heap}, KeepsBut (s.heap.objs.size + 1) (copyHeap s.heap vs) g → ∀ b o, s.heap.get? b = some o → g.get? b = some o := fun {g} kp b o q =>
    kp b o (Nat.ne_of_lt (Nat.lt_succ_of_lt (Heap.lt_size q))) (copyHeap_old q)
  refine sorted_of_seq hT ho hc hd (by rw [e.length]; exact hL) ha1 ha2 fun E' => ?_
  rw [ht]
  refine keyH_tree (kz := bs.map k) (s := { s with heap := copyHeap s.heap vs }) (copyHeap_at s.heap vs) (by rw [List.length_map]; exact e.length.symm) (by rw [e.length]; exact hL) hal hk (bound_map (A := A.in1.in1) hu)
    (keyH_turns (s := { s with heap := copyHeap s.heap vs }) e fun v x hR hx h tk kp => turn v x hR hx h tk (up kp)) fun h' tk out c kp hD ko => ⟨rfl, ?_⟩
  exact h out c h' tk (up kp) fresh hD ((ko.length (by rw [List.length_map]; exact e.length.symm)).trans e.length) (keyedOut_each k ko e)
end
/-- the order of texts -/
def leS (a b : Str) : Bool := decide (a.cps.toList ≤ b.cps.toList)
def tSortKey (K : PySem.W.Frag) (T : List (Addr × Str)) (t : TA) : TE := fun σ H Q => t σ H fun vs H1 => LamX.Tabs T H1 ∧ ∃ (β : Type) (a : Addr) (bs : List β) (ad : β → Addr) (nm : β → Str), vs = [.ref a] ∧
  (SqL K H1 a (bs.map fun b => V.ref (ad b)) ∨ SqT K H1 a (bs.map fun b => V.ref (ad b))) ∧ (∀ b ∈ bs, ∃ x r, H1 (ad b) = some (.tup (x :: .str (nm b) :: r))) ∧
  ∀ H2 p, LamX.ExtN H1 H2 → LamX.Tabs T H2 → H2 p = none → Q (.ref p) (upd H2 p (.lst ((bs.mergeSort fun a b => leS (nm a) (nm b)).map fun b => V.ref (ad b))))
theorem each_refs {β : Type} {ad : β → Addr} : ∀ {bs : List β} {us : List Value}, Vals (bs.map fun b => V.ref (ad b)) us → EachIs (fun v x => v = Value.ref (ad x)) us bs
  | [], _, h => by
    cases h
    exact .nil
  | b :: bs, _, h => by
    rw [List.map_cons] at h
    cases h with
    | cons h t => exact .cons h (each_refs t)
theorem refs_each {β : Type} {ad : β → Addr} : ∀ {bs : List β} {us : List Value}, EachIs (fun v x => v = Value.ref (ad x)) us bs → Vals (bs.map fun b => V.ref (ad b)) us
  | _, _, .nil => .nil
  | _, _, .cons h t => .cons h (refs_each t)
section
variable {X : Cx}
theorem pe_sortKey {T : List (Addr × Str)} {c P : Addr} {k j1 : Nat} {params : Arguments} {kn : Str} {p p1 p2 p3 lpos kpos pos : Pos} {scope : Scope} {e : Expr} {t : TA} (hg : Gl X "sorted") (hm : X.mg "sorted" = none) (ha : PA X [e] t)
    (TB : LamX.TabB X.base X.mg c P) (hcode : X.env.code = .ref c) (hmT : (P, X.env.qual ++ "<lambda>") ∈ T) (hu : ∀ p ∈ T, p.1 = P → p.2 = X.env.qual ++ "<lambda>") (hr : Room (k + 2) X.A) (hsc : scope.kind = .function) (hco : scope.isCoroutine = false) (hgen : scope.isGenerator = false) (hns : scope.names = [(kn, .local)])
    (hdef : defaultsOf params X.env = ([], [])) (hbind : ∀ (q : Str) (body : Expr) (cl : List (Str × Addr)) (pm cv ctv u : Value), bindArgs (PySem.W.kla_fn "<lambda>" q params body scope cl pm cv ctv) ⟨[u], []⟩ = pure [(kn, u)])
    (hkn : (kn == ("__debug__" : Str)) = false := by decide)
    (he : backTo pos (starEach [e] X.env) = (false, eval e X.env) :: backTo pos (starEach [] X.env) := by rfl) (hpl : (backTo pos (starEach [e] X.env)).any (·.1) = false := by rfl) :
    PE X (.Call (.Name "sorted" p) [e] [⟨some "key", .Lambda params (.Subscript (.Name kn p1) (.Constant (.int 1) j1 p2) p3) scope lpos, kpos⟩] pos) (tSortKey X.K T t) := by
  refine ⟨fun pins s σ H Q I h => ?_⟩
  refine wpAny_Call_Name_kw (ld_blt I hg hm PyProof.Rows.Boot.«sorted» ?_)
  refine PyProof.Rows.callWith_kw (thn (ha.run pos pins s σ H _ I h) fun us s1 ⟨vs, H1, I1, r1, hT, β, a, bs, ad, nm, ev, hq, hb, q⟩ => ?_) he hpl (by rfl) (by rfl)
  subst ev
  obtain ⟨u, rfl, ru⟩ := vals1 r1
  obtain rfl : u = Value.ref a := ru
  show wpAny _ _ (evalAll ((do let v ← eval (.Lambda params (.Subscript (.Name kn p1) (.Constant (.int 1) j1 p2) p3) scope lpos) X.env; standAt pos; pure v) :: [])) _ _ s1
  refine wpAny_evalAll_cons (wpAny_bind (LamX.lam_make2 I1 TB hcode hmT hu hT hdef (fun y hy e => by rw [hns] at hy; simp at hy; rw [hy] at e; cases e) fun f c' pm ctv H2 s2 I2 eN T2 hf hfn hfr hco2 => wpAny_bind (wpAny_standAt (wpAny_pure (wpAny_evalAll_nil ?_)))))
  show wpAny _ _ (call (.builtin "sorted") [.ref a] [(Str.ofString "key", .ref f)]) _ _ s2
  have tupS : ∀ b ∈ bs, ∃ (its : List Value) (tk : Nat), IsTup s2.heap (ad b) its.toArray ∧ its[1]? = some (.str (nm b) tk) ∧ its.length ≤ sizeLine := fun b hbm => by
    obtain ⟨x, r, hx⟩ := hb b hbm
    obtain ⟨hz, its, rv, pl⟩ := (show ObjOk X.prog X.w H2 s2.heap (ad b) (.tup _) from I2.hok _ _ (eN _ _ hx fun ps z => nomatch z))
    cases rv with
    | cons h1 t => cases t with
      | cons h2 t =>
        obtain ⟨tk, rfl⟩ := h2
        refine ⟨_, tk, pl, rfl, ?_⟩
        have := Paired.length t
        simp only [List.length_cons] at hz ⊢
        omega
  obtain ⟨Ty, its, o, n, hTy, hv, ho, hc, hd, hz⟩ : ∃ (Ty : String) (its : List Value) (o : Obj) (n : Nat), (Ty = "list" ∨ Ty = "tuple") ∧ Vals (bs.map fun b => V.ref (ad b)) its ∧ s2.heap.get? a = some o ∧ o.cls = .type Ty ∧ o.data = .seq its.toArray n ∧ bs.length ≤ sizeLine := by
    have kT : ∀ {a xs}, SqT X.K H1 a xs → SqT X.K H2 a xs := fun {a xs} h => by
      rcases h with (h | ⟨o, h⟩) | h
      · exact .inl (.inl (eN _ _ h fun ps z => nomatch z))
      · exact .inl (.inr ⟨o, eN _ _ h fun ps z => nomatch z⟩)
      · exact .inr h
    have kL : ∀ {a xs}, SqL X.K H1 a xs → SqL X.K H2 a xs := fun {a xs} h => by
      rcases h with (h | ⟨o, h⟩) | h
      · exact .inl (.inl (eN _ _ h fun ps z => nomatch z))
      · exact .inl (.inr ⟨o, eN _ _ h fun ps z => nomatch z⟩)
      · exact .inr h
    rcases hq with hq | hq
    · obtain ⟨its, rv, ⟨o, n, h1, h2, h3, h4⟩, hz⟩ := I2.list (kL hq)
      exact ⟨"list", its, o, n, .inl rfl, rv, h1, h2, h4, by simpa using hz⟩
    · obtain ⟨its, rv, ⟨o, h1, h2, n, h4⟩, hz⟩ := I2.tuple (kT hq)
      exact ⟨"tuple", its, o, n, .inr rfl, rv, h1, h2, h4, by simpa using hz⟩
  refine sorted_key_seq (b := false) (bs := bs) (R := fun v x => v = Value.ref (ad x)) (f := .ref f) hTy (fun x => .str (nm x)) ho hc hd (each_refs hv) (AllAlike.of fun _ _ => by simp [alike]) (Sortable.others fun _ => ⟨by simp, fun xs z => by simp at z⟩) hz (fun x _ => ?_) (ksk_s1 _ _) (fun _ => ksk_l1 _ _) (fun _ => ksk_t1 _ _)
    (fun v x hR hx h tk kp => ?_) fun out c h' tk kp _ hD hlen eo => ?_
  · have := hr.units
    simp only [PyData.depth]
    have h2 : X.A.units + 64 < cLine := by
      have := hr.units
      omega
    omega
  · subst hR
    obtain ⟨its2, tk2, pl, h1, hz2⟩ := tupS x hx
    obtain ⟨⟨oc, vs2, t2, hoc, hdc, hvc⟩, _, _⟩ := I2.hok c' _ hco2
    refine wpAny_call (codeAny_mono (R := fun r s' => ∃ u, r = .ok (.ret u) ∧ KeyPure (.str (nm x)) { s2 with heap := h, toks := tk } u s') ?_ fun r s' hq => ?_)
    · refine PySem.W.kla_callFunE hr.depth (kp _ _ hf) rfl hco hgen rfl ⟨c', oc, vs2, t2, rfl, kp _ _ hoc, hdc, hvc⟩ ?_
      rw [hbind]
      refine wpAny_pure (wpAny_newFunctionEnv (fun y hy => by show y.2 ≠ .cell; rw [show (PySem.W.kla_fn _ _ _ _ scope _ _ _ _).scope.names = [(kn, .local)] from hns] at hy; simp at hy; rw [hy]; simp) (fun y hy => ?_) (fun h₁ hn1 hsb => ⟨(I2.nolimit.keeps kp).fresh _ hsb, ?_⟩) hsc)
      · simp at hy
        rw [hy]
        show scope.names.lookup kn = some .local
        rw [hns]
        simp
      · have kp1 : ∀ b o, h.get? b = some o → h₁.get? b = some o := fun b o e => hsb.extBut b o (Nat.ne_of_lt (Heap.lt_size e)) (Heap.get?_push_of_some _ e)
        refine PySem.W.kla_codeExpr (Subscript_ (wpAny_Name (wpAny_loadName_local hsc ?_ hn1 (by show List.lookup kn [(kn, Value.ref (ad x))] = some (Value.ref (ad x)); simp [List.lookup]) ?_) hkn))
        · show scope.names.lookup kn = some .local
          rw [hns]
          simp
        · refine wpAny_Constant_int ?_
          obtain ⟨o2, e2, c2, n2, d2⟩ := pl
          refine subscriptTail_builtinR (x := .str (nm x) tk2) (IsTup.typeIs ⟨o2, kp1 _ _ (kp _ _ e2), c2, n2, d2⟩) slot_tuple_getitem.lookup (getItem_tuple (j := 1) (Q := fun r s' => r = .str (nm x) tk2 ∧ ∃ u, (Except.ok (Flow.ret r) : Result) = .ok (.ret u) ∧ KeyPure (.str (nm x)) { s2 with heap := h, toks := tk } u s') ⟨o2, kp1 _ _ (kp _ _ e2), c2, n2, d2⟩ (by decide) (by decide) ?_ (by simpa using h1) ⟨rfl, _, rfl, h₁, _, rfl, kp1, .str _ _⟩)
          have : 1 < its2.length := (List.getElem?_eq_some_iff.mp h1).1
          rw [List.size_toArray]
          unfold seqIndex?
          simp
          omega
    · obtain ⟨u, rfl, hq⟩ := hq
      exact hq
  · rw [dataLe_str] at eo
    have hsz : s2.heap.objs.size ≤ s2.heap.objs.size + 1 := Nat.le_succ _
    have nn : H2 (s2.heap.objs.size + 1) = none := I2.hok.fresh hsz
    refine ⟨.ref _, upd H2 (s2.heap.objs.size + 1) (.lst ((bs.mergeSort fun a b => leS (nm a) (nm b)).map fun b => V.ref (ad b))), I2.laid (t' := tk) kp hsz ⟨?_, out, c, refs_each eo, hD⟩, rfl, q _ _ eN T2 nn⟩
    rw [List.length_map, List.length_mergeSort]
    exact hz
end
end SA
set_option Elab.async false
set_option linter.all false
set_option maxRecDepth 100000
set_option maxHeartbeats 4000000
/-! ### o.m(k = v); x(lambda: .., y) -/
namespace SA
open PySem PySem.Spec PyProof.Rows L2
def tMethK (C : Addr) (m : Str) (sp : Sp) (gV : List V → List V → List V) (E : XK) (ta : TE) (tk : TA) : TE := fun σ H Q => ta σ H fun x H1 => ∃ a dx fs, x = .ref a ∧ H1 a = some (.ins C dx fs) ∧ fs.lookup m = none ∧
  tk σ H1 fun zs H2 => sp (gV [x] zs) H2 Q E
section
variable {X : Cx} {CX : CXT} {k : Nat} {f C : Addr} {fd : FuncData} {ps ks : List Str} {sp : Sp} {E : XK} {m : Str} {p pos apos : Pos} {o : Expr} {kws : List Keyword} {ta : TE} {tk : TA} {g : List Value → List Value → List Value} {gV : List V → List V → List V}
/-- o.m(k = v, ..) -/
theorem pe_methK {pl : Sem Bool} (he : PE X o ta) (c : Cls X.K C) (hm : Meth X.K C m f) (F : FnOk X.prog X.w X.K X.mg X.base CX k f fd ps sp) (hr : Room k X.A) (hb : KBinds X.K fd ps ks g gV) (hx : Passes CX X E) (hkw : PK X kws tk)
    (hall : (backToKw pos (keywordEach kws X.env)).all (·.1.isSome) = true := by rfl) (hks : (backToKw pos (keywordEach kws X.env)).filterMap (·.1) = ks := by rfl)
    (hpl : ((backTo pos (starEach [] X.env)).any (·.1) || (backToKw pos (keywordEach kws X.env)).any (·.1.isNone)) = false := by rfl)
    (ht : eval (.Call (.Attribute o m apos) [] kws pos) X.env = (do
      let ov ← eval o X.env
      standAt apos.atName
      let (f, first) ← holding [ov] (getMethod ov m pl)
      callWith pos f first (backTo pos (starEach [] X.env)) (backToKw pos (keywordEach kws X.env))) := by rfl) :
    PE X (.Call (.Attribute o m apos) [] kws pos) (tMethK C m sp gV E ta tk) := by
  refine ⟨fun pins s σ H Q I h => ?_⟩
  refine PySem.W.methodCall_KW (pl := pl) (thn (he.run pins s σ H _ I h) fun u s1 ⟨x, H1, I1, rx, a, dx, fs, ex, ea, l, q⟩ => ?_) ht
  subst ex
  obtain rfl : u = Value.ref a := rx
  refine getmeth_ok I1 ea c hm l ?_
  refine PySem.W.callWith_KW0 (first := [.ref a]) (h₀ := X.base) I.ok.mod.kin hm.kp hall ?_ hpl
  refine thn (hkw.run pos pins s1 σ H1 _ I1 q) fun ws s2 ⟨zs, H2, I2, rz, q2⟩ => ⟨I2.kIn, ?_⟩
  rw [hks]
  exact run_fnk (us := [.ref a]) (vs := [.ref a]) F hr hb hx I2 (.cons rfl .nil) rz q2
end
/-- a local or captured name's value, the state as it is -/
theorem var_at {X : Cx} {pins : List (Addr × Obj)} {σ : L2.St} {H : Hp} {s : Shared} {i : Nat} {x : Str} {pos : Pos} {v : V} {Q E : Value → Shared → Prop} (I : Inv X pins σ H s) (hN : X.N[i]? = some x) (hv : Vis X.env.scope x) (e : σ[i]? = some (some v)) (h : ∀ u, RelV v u → Q u s)
    (hd : (x == ("__debug__" : Str)) = false := by decide) (hcd : (x == ("__classdict__" : Str)) = false := by decide) : wpAny (model X.prog X.w) X.A (eval (.Name x pos) X.env) Q E s := by
  obtain ⟨m, hn, hl⟩ := I.loc
  obtain ⟨u, r, l⟩ := hl i x v hN e hv
  rcases l with ⟨hk, hm⟩ | ⟨hk, c, hc, hcell⟩
  · exact wpAny_Name (wpAny_loadName_local I.ok.kind hk hn hm (h u r)) hd
  · rcases hk with hk | hk
    · exact wpAny_Name (wpAny_loadName_cell I.ok.kind hk hc hcell (h u r)) hd
    · exact wpAny_Name (wpAny_loadName_free I.ok.kind hk hc hcell (h u r) hcd) hd
/-- the def that calls what it got, a second argument beside -/
def Gives2 (X : Cx) (Ng : List Str) (x : Str) (sg : Scope) (g : Addr) (cdg : Value) (bg : List Stmt) (a : Str) (q : Str) (TT : V → (XK → Hp → VK → Prop) → Hp → VK → Prop) : Prop :=
  ∀ (f c' : Addr) (y : V) (s : Shared) (H : Hp) (Q : VK) (tl : XK → Hp → VK → Prop),
    (∀ (W : WX) (pn : List (Addr × Obj)) (xe : Value → Shared → Prop) (E : XK) (p1 p2 : Pos), Takes ((cxOf C8.CX0 X.prog X.w X.K X.mg X.base Ng x sg g cdg X.A X.stack s H C8.E0).tr pn xe) W → (∀ cls d σ' H', E cls d H' → W cls d σ' H') →
      PE ((cxOf C8.CX0 X.prog X.w X.K X.mg X.base Ng x sg g cdg X.A X.stack s H C8.E0).tr pn xe) (.Call (.Name a p1) [] [] p2) (fun σZ HZ Q => σZ[0]? = some (some (.ref f)) ∧ HZ c' = some (LamX.CodeO c' q) ∧ tl E HZ Q)) →
    H c' = some (LamX.CodeO c' q) → TT y tl H Q →
    ∃ t, PSs (cxOf C8.CX0 X.prog X.w X.K X.mg X.base Ng x sg g cdg X.A X.stack s H C8.E0).nox bg t ∧ t { nx := fun _ H' => Q .non H', rt := Q } (L2.start Ng [.ref f, y]) H
def tLam2 (T : List (Addr × Str)) (TT : V → (XK → Hp → VK → Prop) → Hp → VK → Prop) (t : XK → TE) (j : Nat) : TE := fun σ H Q => LamX.Tabs T H ∧ ∃ y, σ[j]? = some (some y) ∧ ∀ H1, LamX.ExtN H H1 → LamX.Tabs T H1 → TT y (fun E H' Q' => t E σ H' Q') H1 Q
section
variable {X : Cx}
/-- x(lambda: body, y) -/
theorem pe_lamcall2 {T : List (Addr × Str)} {TT : V → (XK → Hp → VK → Prop) → Hp → VK → Prop} {x a b y : Str} {g c P : Addr} {k j : Nat} {pg : Arguments} {bg : List Stmt} {sg : Scope} {dV kV doc pm cdv ct oc : Value} {an od : Option Addr} {osl : Array (Option Value)} {Ng : List Str}
    {params : Arguments} {body : Expr} {scope : Scope} {t : XK → TE} {p lpos pos ypos : Pos} (hg : Gl X x) (hm : X.mg x = some (.ref g)) (hk : PySem.W.keepIn X.K (.ref g) = true)
    (lk : X.K.lookup g = some ⟨oc, od, .func (PySem.W.fnOf x x pg bg sg dV kV doc pm an cdv ct), osl⟩) (hcg : PySem.W.codeIn X.K cdv x = true) (hb : L2.Binds X.K (PySem.W.fnOf x x pg bg sg dV kV doc pm an cdv ct) [a, b] []) (Sg : FnScope Ng [a, b] sg) (hNg : Ng[0]? = some a) (hva : Vis sg a)
    (hG : Gives2 X Ng x sg g cdv bg a (X.env.qual ++ "<lambda>") TT)
    (TB : LamX.TabB X.base X.mg c P) (hcode : X.env.code = .ref c) (hmT : (P, X.env.qual ++ "<lambda>") ∈ T) (hu : ∀ p ∈ T, p.1 = P → p.2 = X.env.qual ++ "<lambda>") (hr : Room (k + 2) X.A) (L : LamX.LamS X.env.scope scope) (hdef : defaultsOf params X.env = ([], []))
    (hbind : ∀ (q : Str) (cl : List (Str × Addr)) (pm cv ctv : Value), bindArgs (PySem.W.kla_fn "<lambda>" q params body scope cl pm cv ctv) ⟨[], []⟩ = pure [])
    (hbody : ∀ (A : Around) (outer : List Env) (s : Shared) (H : Hp) (E : XK) (f c' : Addr), Room k (A.deeper (LamX.lamEnv X scope s.heap.objs.size f c')) → PE (LamX.lamCx X A outer s H E scope f c') body (t E))
    (hNy : X.N[j]? = some y) (hvy : Vis X.env.scope y) (hdy : (y == ("__debug__" : Str)) = false := by decide) (hcy : (y == ("__classdict__" : Str)) = false := by decide)
    (hdb : (x == ("__debug__" : Str)) = false := by decide) (hd : (a == ("__debug__" : Str)) = false := by decide) (hcd : (a == ("__classdict__" : Str)) = false := by decide) :
    PE X (.Call (.Name x p) [.Lambda params body scope lpos, .Name y ypos] [] pos) (tLam2 T TT t j) := by
  refine ⟨fun pins s σ H Q I h => ?_⟩
  obtain ⟨hT, v, hv, h⟩ := h
  refine wpAny_Call_Name_kw (ld_glob I hg hm ?_ hdb)
  refine PySem.W.callWith_K (h₀ := X.base) I.ok.mod.kin hk ?_ (by rfl) (by rfl)
  show wpAny _ _ (spliced ((false, eval (.Lambda params body scope lpos) X.env) :: (false, eval (.Name y ypos) X.env) :: backTo pos (starEach [] X.env))) _ _ s
  refine Calls.spliced_cons (LamX.lam_make2 I TB hcode hmT hu hT hdef (L.has I.ok) fun f c' pm' ctv H1 s' I1 eN T1 hf hfn hfr hco => ?_)
  refine Calls.spliced_cons (var_at I1 hNy hvy hv (fun u ru => ?_) hdy hcy)
  refine Calls.spliced_nil ⟨I1.kIn, ?_⟩
  have rc : codeAny (model X.prog X.w) X.A (.call (.ref g) ⟨[.ref f, u], []⟩) (CR C8.CX0 X.stack X.prog X.w H1 s' Q C8.E0) s' := by
    refine LamX.run_ofS (N := Ng) (ps := [a, b]) (us := [.ref f, u]) (vs := [.ref f, v]) lk hcg Sg hr I1.env0 (hb s' [.ref f, u] I1.kIn rfl) (.cons rfl (.cons ru .nil)) rfl fun hr' => ?_
    obtain ⟨t', ht', hq'⟩ := hG f c' v s' H1 Q (fun E H' Q' => t E σ H' Q') (fun W pn xe E p1 p2 tk hW => LamX.pe_act (i := 0) I1 L hf hfn hfr (hbind _ _ _ _ _) tk hW hr' (fun A outer s H hr2 => hbody A outer s H E f c' hr2) hNg hva hd hcd) hco (h H1 eN T1)
    exact ⟨t', ht'.nox, hq'⟩
  refine wpAny_call (codeAny_mono rc fun r s2 hq => ?_)
  cases r with
  | error e => exact (show False from hq).elim
  | ok fl =>
    cases fl with
    | ret u => exact I1.after hq
    | next => exact False.elim hq
    | brk => exact False.elim hq
    | cont => exact False.elim hq
end
end SA
set_option Elab.async false
set_option linter.all false
set_option maxRecDepth 100000
set_option maxHeartbeats 4000000
/-! ### a dict of texts, one key of which is None or True -/
namespace SA
open PySem PySem.Spec PyProof.Rows L2
inductive OK where
  | non | tru | str (x : Str)
  deriving DecidableEq
def okIs : OK → Value → Bool
  | .non, .none => true
  | .tru, .bool true => true
  | .str x, v => Value.isStrOf x v
  | _, _ => false
theorem okIs_shape {k : OK} {v : Value} (h : okIs k v = true) : (k = .non ∧ v = .none) ∨ (k = .tru ∧ v = .bool true) ∨ ∃ x t, k = .str x ∧ v = .str x t := by
  cases k with
  | non =>
    cases v with
    | none => exact .inl ⟨rfl, rfl⟩
    | _ => exact absurd h Bool.false_ne_true
  | tru =>
    cases v with
    | bool b =>
      cases b with
      | true => exact .inr (.inl ⟨rfl, rfl⟩)
      | false => exact absurd h Bool.false_ne_true
    | _ => exact absurd h Bool.false_ne_true
  | str x =>
    have h : Value.isStrOf x v = true := by
      cases v <;> first | exact h | exact absurd h Bool.false_ne_true
    obtain ⟨t, e⟩ := Value.isStrOf_shape (x := x) (v := v) h
    exact .inr (.inr ⟨x, t, rfl, e⟩)
def okH (w : World) : OK → Int
  | .non => reduceHash 0xFCA86420
  | .tru => PpSet.hB true
  | .str x => hashStr w x
theorem ok_str (x : Str) (v : Value) : okIs (.str x) v = Value.isStrOf x v := by cases v <;> rfl
def oddKind (prog : Program) (w : World) : PySem.KeyKind prog w OK where
  is := okIs
  hash := okH w
  inj := fun v a b ha hb => by
    rcases okIs_shape ha with ⟨rfl, rfl⟩ | ⟨rfl, rfl⟩ | ⟨x, t, rfl, rfl⟩ <;> rcases okIs_shape hb with ⟨rfl, e⟩ | ⟨rfl, e⟩ | ⟨y, u, rfl, e⟩ <;> first | rfl | (injection e with e1 _; rw [e1]) | cases e
  byValue := fun k v h => by
    rcases okIs_shape h with ⟨rfl, rfl⟩ | ⟨rfl, rfl⟩ | ⟨x, t, rfl, rfl⟩ <;> rfl
  pyHash := fun hv h => by
    rcases okIs_shape hv with ⟨rfl, rfl⟩ | ⟨rfl, rfl⟩ | ⟨x, t, rfl, rfl⟩
    · exact PySem.W.pyHash_slot (T := "NoneType") rfl PySem.F.slot_NoneType_hash PySem.F.entry_NoneType_hash (PySem.F.args_NoneType_hash_1 _) (beq_builtin_none _) (.inl rfl) (wpAny_bind (wpAny_pure (wpAny_bind (wpAny_mkInt (wpAny_pure ⟨_, _, rfl, h⟩)))))
    · exact PpSet.pyHash_bool h
    · exact wpAny_pyHash_str h
  eqBool := fun hu hv h => by
    rcases okIs_shape hu with ⟨rfl, rfl⟩ | ⟨rfl, rfl⟩ | ⟨x, t, rfl, rfl⟩ <;> rcases okIs_shape hv with ⟨rfl, rfl⟩ | ⟨rfl, rfl⟩ | ⟨y, u, rfl, rfl⟩
    · exact SeqAt.EqAt.same _ _ _ _ _ (by rw [decide_eq_true rfl] at h; exact h)
    · exact SeqAt.EqAt.none_bool _ _ _ _ _ (by rw [decide_eq_false (fun z => nomatch z)] at h; exact h)
    · exact SeqAt.EqAt.none_str _ _ _ _ _ _ (by rw [decide_eq_false (fun z => nomatch z)] at h; exact h)
    · exact SeqAt.EqAt.bool_none _ _ _ _ _ (by rw [decide_eq_false (fun z => nomatch z)] at h; exact h)
    · exact SeqAt.EqAt.bool_bool _ _ _ _ _ _ (by rw [decide_eq_true rfl] at h; exact h)
    · exact SeqAt.EqAt.bool_str _ _ _ _ _ _ _ (by rw [decide_eq_false (fun z => nomatch z)] at h; exact h)
    · exact SeqAt.EqAt.str_none _ _ _ _ _ _ (by rw [decide_eq_false (fun z => nomatch z)] at h; exact h)
    · exact SeqAt.EqAt.str_bool _ _ _ _ _ _ _ (by rw [decide_eq_false (fun z => nomatch z)] at h; exact h)
    · have e : decide (OK.str x = OK.str y) = decide (x = y) := by
        rw [decide_eq_decide]
        exact ⟨fun z => by injection z, fun z => by rw [z]⟩
      rw [e] at h
      exact wpAny_eqBool_str h
  «strs» := fun k x t v h => by
    rcases okIs_shape h with ⟨rfl, e⟩ | ⟨rfl, e⟩ | ⟨y, u, rfl, e⟩
    · exact nomatch e
    · exact nomatch e
    · injection e with e1 _
      subst e1
      rw [ok_str]
      cases v <;> rfl
def okV : OK → V
  | .non => .non
  | .tru => .bl true
  | .str x => .str x
theorem okV_rel {k : OK} {v : Value} (h : okIs k v = true) : RelV (okV k) v := by
  rcases okIs_shape h with ⟨rfl, rfl⟩ | ⟨rfl, rfl⟩ | ⟨x, t, rfl, rfl⟩
  · rfl
  · rfl
  · exact ⟨t, rfl⟩
/-- the object is such a dict -/
structure OddO (P : Program) (w : World) (ks : List OK) (o : Obj) (a : Addr) : Prop where
  sys : (a == sysModules) = false
  ex : o.ExactDict
  data : ∃ es ep vs, o.data = .dict es ep ∧ KeysOf (oddKind P w) es ∧ Pairs (oddKind P w) es.toList vs ∧ (vs.map (·.1)).Nodup ∧ vs.map (·.1) = ks
def OddD (o : Obj) (a : Addr) : HO := .ext fun h => h.get? a = some o
theorem oddD_ok {P : Program} {w : World} {H : Hp} {h : Heap} {a : Addr} {o : Obj} (e : h.get? a = some o) : ObjOk P w H h a (OddD o a) := ⟨e, ⟨o, e⟩, fun h1 h2 q k => k o q⟩
theorem pairs_odd {P : Program} {w : World} : ∀ (ws : List (Str × V)) (es : List DictEntry) (vs : List (Key × Value)), KV (ws.map fun p => ((Sum.inr p.1 : Key), p.2)) vs → Pairs (mixKind P w) es vs → ∃ us : List (OK × Value), Pairs (oddKind P w) es us ∧ us.map (·.1) = ws.map (fun p => OK.str p.1) := by
  intro ws
  induction ws with
  | nil =>
    intro es vs h1 h2
    cases h1
    cases h2
    exact ⟨[], .nil, rfl⟩
  | cons p ws ih =>
    intro es vs h1 h2
    cases h1 with
    | cons h1 h3 =>
      cases h2 with
      | @cons e _ _ _ k1 k2 t =>
        obtain ⟨us, q1, q2⟩ := ih _ _ h3 t
        refine ⟨(OK.str p.1, e.val) :: us, .cons ?_ rfl q1, by rw [List.map_cons, List.map_cons, q2]⟩
        have h3 := h1.1
        have k1 : keyIs _ e.key = true := k1
        rw [← h3] at k1
        show okIs (OK.str p.1) e.key = true
        rw [ok_str]
        exact k1
theorem inr_nodup : ∀ {ws : List Str}, (ws.map (Sum.inr : Str → Key)).Nodup → ws.Nodup
  | [], _ => .nil
  | w :: ws, h => by
    rw [List.map_cons, List.nodup_cons] at h
    rw [List.nodup_cons]
    exact ⟨fun m => h.1 (List.mem_map_of_mem m), inr_nodup h.2⟩
theorem nodup_okstr : ∀ {ws : List Str}, ws.Nodup → (ws.map OK.str).Nodup
  | [], _ => .nil
  | w :: ws, h => by
    rw [List.nodup_cons] at h
    rw [List.map_cons, List.nodup_cons]
    refine ⟨fun m => ?_, nodup_okstr h.2⟩
    obtain ⟨x, hx, e⟩ := List.mem_map.mp m
    injection e with e
    exact h.1 (e ▸ hx)
theorem odd_map {P : Program} {w : World} {h : Heap} {a : Addr} {ws : List (Str × V)} {vs : List (Key × Value)} (kv : KV (ws.map fun p => ((Sum.inr p.1 : Key), p.2)) vs) (d : h.DictOf (mixKind P w) a vs) :
    ∃ us : List (OK × Value), h.DictOf (oddKind P w) a us ∧ us.map (·.1) = ws.map (fun p => OK.str p.1) := by
  obtain ⟨o, es, ep, ho, hx, hdt, hk, hp, hn⟩ := d
  obtain ⟨us, q1, q2⟩ := pairs_odd _ _ _ kv hp
  refine ⟨us, ⟨o, es, ep, ho, hx, hdt, fun e he => ?_, q1, ?_⟩, q2⟩
  · obtain ⟨k, h1, h2⟩ := hk e he
    -- the key is a text of the list
    obtain ⟨kv', hm, hkv⟩ : ∃ kv' ∈ us, okIs kv'.1 e.key = true := by
      have : ∀ {es : List DictEntry} {us : List (OK × Value)}, Pairs (oddKind P w) es us → ∀ e ∈ es, ∃ kv' ∈ us, okIs kv'.1 e.key = true := by
        intro es us hp
        induction hp with
        | nil => intro e he; simp at he
        | cons k1 k2 t ih =>
          intro e he
          rcases List.mem_cons.mp he with rfl | he
          · exact ⟨_, List.mem_cons_self, k1⟩
          · obtain ⟨kv', m, q⟩ := ih e he
            exact ⟨kv', List.mem_cons_of_mem _ m, q⟩
      exact this q1 e (by simpa using he)
    refine ⟨kv'.1, hkv, ?_⟩
    obtain ⟨x, hx1, hx2⟩ : ∃ x, kv'.1 = OK.str x ∧ True := by
      have : kv'.1 ∈ us.map (·.1) := List.mem_map_of_mem hm
      rw [q2] at this
      obtain ⟨p, _, e⟩ := List.mem_map.mp this
      exact ⟨p.1, e.symm, trivial⟩
    rw [hx1] at hkv ⊢
    rw [ok_str] at hkv
    obtain ⟨t, et⟩ := Value.isStrOf_shape hkv
    have h1 : keyIs k e.key = true := h1
    rw [et] at h1
    rcases keyIs_shape h1 with ⟨i, u, rfl, z⟩ | ⟨y, u, rfl, z⟩
    · exact nomatch z
    · injection z with z1 _
      subst z1
      exact h2
  · rw [q2]
    have e1 : (ws.map fun p => OK.str p.1) = (ws.map (·.1)).map OK.str := by rw [List.map_map]; rfl
    rw [e1]
    refine nodup_okstr ?_
    have e2 : vs.map (·.1) = (ws.map (·.1)).map Sum.inr := by
      have : ∀ {ws : List (Str × V)} {vs : List (Key × Value)}, KV (ws.map fun p => ((Sum.inr p.1 : Key), p.2)) vs → vs.map (·.1) = (ws.map (·.1)).map Sum.inr := by
        intro ws
        induction ws with
        | nil => intro vs h; cases h; rfl
        | cons p ws ih =>
          intro vs h
          cases h with
          | cons h1 h2 =>
            rw [List.map_cons, List.map_cons, List.map_cons, ih h2]
            rw [← h1.1]
      exact this kv
    rw [e2] at hn
    exact inr_nodup hn
/-- d[None] = v, d[True] = v -/
def rSetO (P : Program) (w : World) : V → V → V → Hp → (Hp → Prop) → Prop := fun o i v H Q => ∃ (a : Addr) (ws : List (Str × V)) (k : OK), o = .ref a ∧ H a = some (.dK (ws.map fun p => ((Sum.inr p.1 : Key), p.2))) ∧ (k = .non ∨ k = .tru) ∧ i = okV k ∧ ws.length < sizeLine ∧
  ∀ ob, OddO P w (ws.map (fun p => OK.str p.1) ++ [k]) ob a → Q (upd H a (OddD ob a))
theorem okV_is {k : OK} {u : Value} (r : RelV (okV k) u) : okIs k u = true := by
  cases k with
  | non => obtain rfl : u = Value.none := r; rfl
  | tru => obtain rfl : u = Value.bool true := r; rfl
  | str x =>
    obtain ⟨t, rfl⟩ := r
    rw [ok_str]
    simp [Value.isStrOf]
section
variable {X : Cx}
theorem set_odd : PSet X (rSetO X.prog X.w) := by
  intro pins s σ H o i v ov iv u Q I ro ri rv h
  obtain ⟨a, ws, k, rfl, e, hk, rfl, hl, q⟩ := h
  cases ro
  obtain ⟨z, hd, vs, rel, dd⟩ := dk_of I.hok e
  obtain ⟨us, du, hu⟩ := odd_map rel dd
  have hlen : us.length = ws.length := by
    have := congrArg List.length hu
    simpa using this
  refine wpAny_setItem_pairs (hsz := by omega) (knd := oddKind X.prog X.w) (okV_is ri) du fun h' dd' hs => ?_
  have est : stored us k u = us ++ [(k, u)] := by
    unfold stored
    rw [if_neg]
    intro hz
    rw [List.any_eq_true] at hz
    obtain ⟨kv, hm, hkv⟩ := hz
    have hkv : kv.1 = k := of_decide_eq_true hkv
    have : kv.1 ∈ us.map (·.1) := List.mem_map_of_mem hm
    rw [hu, hkv] at this
    obtain ⟨p, _, ep⟩ := List.mem_map.mp this
    rcases hk with rfl | rfl <;> exact nomatch ep
  rw [est] at dd'
  obtain ⟨ob, es, ep, hob, hx, hdt, hk', hp, hn⟩ := dd'
  exact ⟨_, d_write I (by rw [e]; exact True.intro) hs ⟨ob, hob⟩ (oddD_ok hob), q ob ⟨hd, hx, es, ep, _, hdt, hk', hp, hn, by rw [List.map_append, hu]; rfl⟩⟩
/-- isinstance(d, dict) of such a dict -/
def rIsiO (P : Program) (w : World) : List V → Hp → VK → Prop := fun xs H Q => ∃ a ob ks, xs = [.ref a, .ty "dict"] ∧ H a = some (OddD ob a) ∧ OddO P w ks ob a ∧ Q (.bl true) H
theorem call_isiO : CallR X (.builtin "isinstance") (rIsiO X.prog X.w) := by
  intro pins s σ H xs us Q I r h
  obtain ⟨a, ob, ks, rfl, e, O, q⟩ := h
  obtain ⟨u1, u2, rfl, r1, r2⟩ := vals2 r
  obtain rfl : u1 = Value.ref a := r1
  obtain rfl : u2 = Value.type "dict" := r2
  obtain ⟨hob, _⟩ := (show ObjOk X.prog X.w H s.heap a (OddD ob a) from I.hok a _ e)
  exact PySem.W.kia_one PySem.W.kitx_dict I.kIn (⟨ob, hob, O.ex.1⟩ : ∃ o, _) (kit_ty (K := X.K) (a := "dict") (b := "dict") (by decide +kernel)) (fun z => nomatch z) fun tk => ⟨.bl true, H, I.tok tk, rfl, q⟩
/-- its keys -/
def Ito (d : Addr) (o : Obj) (ks : List OK) : It :=
  ⟨fun i H => H d = some (OddD o d) ∧ i < ks.length, fun i H x H' => H' = H ∧ ∃ k, ks[i]? = some k ∧ x = okV k, fun i H => H d = some (OddD o d) ∧ ks.length ≤ i⟩
theorem pairs_len {P : Program} {w : World} : ∀ {es : List DictEntry} {us : List (OK × Value)}, Pairs (oddKind P w) es us → es.length = us.length
  | _, _, .nil => rfl
  | _, _, .cons _ _ t => by rw [List.length_cons, List.length_cons, pairs_len t]
theorem turn_odd {P : Program} {w : World} {K : PySem.W.Frag} {tg : Expr} {d : Addr} {o : Obj} {es : Array DictEntry} {ep : Nat} {vs : List (OK × Value)} (it : Addr) (hx : o.ExactDict) (hdt : o.data = .dict es ep) (hk : KeysOf (oddKind P w) es) (hp : Pairs (oddKind P w) es.toList vs) (hn : (vs.map (·.1)).Nodup) :
    Turn P w K tg (Ito d o (vs.map (·.1))) [it] it (fun i h => h.IsKeyIter it d i vs.length ep) where
  mem := by simp
  obj := fun i h st b hb => by
    have e : b = it := by simpa using hb
    subst e
    obtain ⟨oi, e, c, dd⟩ := st
    exact ⟨oi, e, fun v z => by rw [dd] at z; cases z⟩
  keep := fun i h h' st k => st.at fun oi e => k it (by simp) oi e
  item := by
    intro X hP hw hK hc i pins s σ H E I hf st hg
    subst hP hw hK
    obtain ⟨hd, hi⟩ := hg
    obtain ⟨f0, f1, f2, f3, f4, f5⟩ := hf it (by simp)
    obtain ⟨hgd, _⟩ := (show ObjOk X.prog X.w H s.heap d (OddD o d) from I.hok d _ hd)
    have hgd : s.heap.get? d = some o := hgd
    rw [List.length_map] at hi
    obtain ⟨⟨k, v⟩, hkv⟩ : ∃ p, vs[i]? = some p := ⟨vs[i], List.getElem?_eq_getElem hi⟩
    refine wpAny_pyNext_dict_item st (knd := oddKind X.prog X.w) ⟨o, es, hgd, hx, hdt, hk, hp, hn⟩ hkv fun key h' hkey st' sb => ?_
    have I1 : Inv X pins σ H { s with heap := h' } := I.turned (t' := s.toks) (fun b ob hb e => (sb.2 b hb).trans e) f0 f1 f3 f4 f5
    obtain ⟨oi, e, c, dd⟩ := id st'
    exact ⟨key, rfl, go_of (s := { s with heap := h' }) e c dd (by decide) ⟨okV k, H, I1, okV_rel hkey, ⟨rfl, k, by rw [List.getElem?_map, hkv]; rfl, rfl⟩, st', fun b hb => (hf b hb).1⟩⟩
  done := by
    intro X hP hw hK hc i pins s σ H E I hf st hg
    subst hP hw hK
    obtain ⟨hd, hi⟩ := hg
    obtain ⟨f0, f1, f2, f3, f4, f5⟩ := hf it (by simp)
    obtain ⟨hgd, _⟩ := (show ObjOk X.prog X.w H s.heap d (OddD o d) from I.hok d _ hd)
    have hl := pairs_len hp
    rw [List.length_map] at hi
    exact next_key_end (I.ok.hd hc) st hgd hdt (by rw [← hl]; simp) hi fun h' eb => ⟨rfl, I.turned (t' := s.toks) (fun b ob hb e => eb b ob hb e) f0 f1 f3 f4 f5⟩
  self := fun A i s Q E st h => wpAny_pyIter_keyiter st h
/-- for k in d, d a dict of ints and texts (locked), or such a one -/
def iKeysO (P : Program) (w : World) (td : TE) : TI := fun σ H R => td σ H fun x H1 => ∃ d o ks, x = .ref d ∧ H1 d = some (OddD o d) ∧ OddO P w ks o d ∧ R (Ito d o ks) H1
theorem pi_keysO {tg e : Expr} {td : TE} (he : PE X e td) : PI X tg e (iKeysO X.prog X.w td) := by
  refine ⟨fun pins s σ H R I h => ?_⟩
  refine thn (he.run pins s σ H _ I h) fun u s1 ⟨x, H1, I1, rx, d, o, ks, ex, hd, O, q⟩ => ?_
  subst ex
  obtain rfl : u = Value.ref d := rx
  obtain ⟨hgd, _⟩ := (show ObjOk X.prog X.w H1 s1.heap d (OddD o d) from I1.hok d _ hd)
  obtain ⟨es, ep, vs, hdt, hk, hp, hn, rfl⟩ := O.data
  have hl := pairs_len hp
  refine iter_keys O.sys hgd O.ex hdt (pi_one (tk := s1.toks) I1 _ (turn_odd _ O.ex hdt hk hp hn) ⟨_, Heap.get?_push_size _ rfl, rfl, ?_⟩ q)
  rw [← hl] <;> simp
theorem walk_odd {d : Addr} {o : Obj} {ks : List OK} : Walk (Ito d o ks) ks.length (fun H => H d = some (OddD o d)) (fun i H x H' => H' = H ∧ ∃ k, ks[i]? = some k ∧ x = okV k) :=
  ⟨fun i H hi h => ⟨h, hi⟩, fun H h => ⟨h, Nat.le_refl _⟩, fun i H x H' hi h y => y⟩
/-- two ways to read one expression -/
theorem PE.or {e : Expr} {t t' : TE} (h : PE X e t) (h' : PE X e t') : PE X e (fun σ H Q => t σ H Q ∨ t' σ H Q) := ⟨fun pins s σ H Q I q => q.elim (h.run pins s σ H Q I) (h'.run pins s σ H Q I)⟩
theorem PS.or {st : Stmt} {t t' : TS} (h : PS X st t) (h' : PS X st t') : PS X st (fun D σ H => t D σ H ∨ t' D σ H) := ⟨fun pins s σ H Q I q => q.elim (h.run pins s σ H Q I) (h'.run pins s σ H Q I)⟩
theorem PT.or {e : Expr} {t t' : TT} (h : PT X e t) (h' : PT X e t') : PT X e (fun σ H Q => t σ H Q ∨ t' σ H Q) := ⟨fun pins s σ H Q I q => q.elim (h.run pins s σ H Q I) (h'.run pins s σ H Q I)⟩
end
end SA
set_option Elab.async false
set_option linter.all false
set_option maxRecDepth 100000
set_option maxHeartbeats 4000000
/-! ### == and != of dicts whose values are data -/
namespace SA
open PySem PySem.Spec PyProof.Rows L2
inductive DHits (K : PySem.W.Frag) (H : Hp) (ls : List (Key × V)) : List (Key × V) → Bool → Prop
  | nil : DHits K H ls [] true
  | miss {k : Key} {v : V} {r : List (Key × V)} : valV ls k = none → DHits K H ls ((k, v) :: r) false
  | hit {k : Key} {v u : V} {r : List (Key × V)} {d e : PyData} {b : Bool} : valV ls k = some u → Dp K H v d → Dp K H u e → SeqAt.shaped d = true → SeqAt.shaped e = true → DHits K H ls r b → DHits K H ls ((k, v) :: r) (PyData.eqv d e && b)
section
variable {X : Cx} {pins : List (Addr × Obj)} {σ : L2.St} {H : Hp} {s : Shared}
theorem DHits.run (I : Inv X pins σ H s) {A : Around} (hu : A.in1.units + 64 < cLine) {ls : List (Key × V)} {vb : List (Key × Value)} (rb : KV ls vb) : ∀ {ks : List (Key × V)} {r : Bool}, DHits X.K H ls ks r → ∀ {va : List (Key × Value)}, KV ks va → PySem.W.KeqHits A.in1 s vb va r := by
  intro ks r h
  induction h with
  | nil =>
    intro va ra
    cases ra
    exact .nil
  | @miss k v r hn =>
    intro va ra
    cases ra with
    | @cons _ q _ qs h1 t =>
      obtain ⟨key, y⟩ := q
      obtain ⟨h1, h2⟩ := h1
      have h1 : k = key := h1
      subst h1
      refine .miss ?_
      exact RelO.none_of (by rw [← hn]; exact rb.val k)
  | @hit k v u r d e b hv hd he sd se t ih =>
    intro va ra
    cases ra with
    | @cons _ q _ qs h1 t2 =>
      obtain ⟨key, y⟩ := q
      obtain ⟨h1, h2⟩ := h1
      have h1 : k = key := h1
      subst h1
      obtain ⟨z, hz, rz⟩ := RelO.some_of (v := u) (o := valueAt vb k) (by rw [← hv]; exact rb.val k)
      obtain ⟨as, r1⟩ := Dp.reads I d v y hd h2
      obtain ⟨bs, r2⟩ := Dp.reads I e u z he rz
      exact .hit hz (PySem.W.keq_at r1 r2 sd se hu) (ih t2)
end
def rDictEq (K : PySem.W.Frag) (neg : Bool) : R2 := fun x y H Q => ∃ a b ks ls r, x = .ref a ∧ y = .ref b ∧ H a = some (.dK ks) ∧ H b = some (.dK ls) ∧ (ks.length = ls.length → DHits K H ls ks r) ∧
  Q (.bl (if neg = true then !(ks.length == ls.length && r) else (ks.length == ls.length && r))) H
section
variable {X : Cx}
theorem op_dictEq (hu : X.A.units + 66 < cLine) : OpR X (compareOp .Eq) (rDictEq X.K false) := by
  intro pins s σ H x y v u Q I rx ry h
  obtain ⟨a, b, ks, ls, r, rfl, rfl, ea, eb, hp, q⟩ := h
  obtain rfl : v = Value.ref a := rx
  obtain rfl : u = Value.ref b := ry
  obtain ⟨_, ya, va, ra, da⟩ := (show ObjOk X.prog X.w H s.heap a (.dK ks) from I.hok a _ ea)
  obtain ⟨_, yb, vb, rb, db⟩ := (show ObjOk X.prog X.w H s.heap b (.dK ls) from I.hok b _ eb)
  refine PySem.W.keq_eq (knd := mixKind X.prog X.w) (r := r) ya yb da db (by omega) (fun hl => (hp (by rw [ra.length, rb.length]; exact hl)).run I (by show X.A.units + 1 + 64 < cLine; omega) rb ra) ⟨.bl _, H, I, rfl, ?_⟩
  rw [← ra.length, ← rb.length]
  exact q
theorem op_dictNe (hu : X.A.units + 66 < cLine) : OpR X (compareOp .NotEq) (rDictEq X.K true) := by
  intro pins s σ H x y v u Q I rx ry h
  obtain ⟨a, b, ks, ls, r, rfl, rfl, ea, eb, hp, q⟩ := h
  obtain rfl : v = Value.ref a := rx
  obtain rfl : u = Value.ref b := ry
  obtain ⟨_, ya, va, ra, da⟩ := (show ObjOk X.prog X.w H s.heap a (.dK ks) from I.hok a _ ea)
  obtain ⟨_, yb, vb, rb, db⟩ := (show ObjOk X.prog X.w H s.heap b (.dK ls) from I.hok b _ eb)
  refine PySem.W.keq_ne (knd := mixKind X.prog X.w) (r := r) ya yb da db (by omega) (fun hl => (hp (by rw [ra.length, rb.length]; exact hl)).run I (by show X.A.units + 1 + 64 < cLine; omega) rb ra) ⟨.bl _, H, I, rfl, ?_⟩
  rw [← ra.length, ← rb.length]
  exact q
end
end SA
set_option Elab.async false
set_option linter.all false
set_option maxRecDepth 100000
set_option maxHeartbeats 4000000
/-! ### x == y, x != y by an own __eq__, with both answers, y anything -/
namespace SA
open PySem PySem.Spec PySem.W PyProof.Rows L2
section
variable {prog : Program} {w : World} {A : Around} {E : Value → Shared → Prop} {s : Shared} {K : Frag} {x C f : Addr} {ox : Obj} {od : Option Obj} {b tb : Value}
theorem ifBound_B {args : List Value} {id : String} {name : Str} {Q : Option Value → Shared → Prop} (X : K.In s.heap) (I : InstAt s.heap x ox C od) (hs : findIn K (.ref C) name = some (some (.builtin id))) (hb : ∀ self, bindSpecial (.builtin id) self = pure (.builtin id, [self]))
    (h : wpAny (model prog w) A (call (.builtin id) (.ref x :: args)) (fun v => Q (some v)) E s) : wpAny (model prog w) A (callSpecialIfBound? (.ref x) name args) Q E s := by
  simp only [callSpecialIfBound?, bindSpecialIfBound?]
  refine wpAny_holding (wpAny_bind (wpAny_bind (wpAny_bind (I.type.here ((looks_findIn X hs).here ?_)))))
  refine wpAny_bind (wpAny_askSetting (wpAny_ite ?_))
  have fin : wpAny (model prog w) A (call (.builtin id) ([.ref x] ++ args) >>= fun v => pure (some v)) Q E s := wpAny_bind (wpAny_mono h (fun v s' h' => wpAny_pure h') fun _ _ h' => h')
  split
  · rw [hb]
    exact wpAny_bind (wpAny_pure (wpAny_pure (by exact fin)))
  · rw [hb]
    exact wpAny_tryCatch (wpAny_bind (wpAny_pure (wpAny_pure (by exact fin))))
theorem ne_K {Q : Value → Shared → Prop} (hu : A.units + 1 < cLine) (X : K.In s.heap) (I : InstAt s.heap x ox C od) (hb : Looks (model prog w) s.heap (typeOf b) tb) (hn : notFirst K C tb = true)
    (hne : findIn K (.ref C) "__ne__" = some (some (.builtin "object.__ne__"))) (hob : subIn K (.ref C) (.type "object") = some true)
    (hs : findIn K (.ref C) "__eq__" = some (some (.ref f))) (hf : isFn K (.ref f) = true)
    (h : ∀ E' : Value → Shared → Prop, wpAny (model prog w) A.in1 (call (.ref f) [.ref x, b]) (fun v s' => ∃ r, v = .bool r ∧ Q (.bool (!r)) s') E' s) : wpAny (model prog w) A (richCompare .NotEq (.ref x) b) Q E s := by
  have one : wpAny (model prog w) A (tryCompare (.ref x) (cmpInfo .NotEq).2.1 b) (fun r s' => ∃ v, r = some v ∧ Q v s') E s := by
    unfold tryCompare
    refine wpAny_bind (ifBound_B X I hne PySem.F.cmp_object.ne.bind (wpAny_call (codeAny_call_builtin PySem.F.cmp_object.ne.plain PySem.F.cmpEntry_ne
      (check_slot PySem.F.cmpKind_ne PySem.F.cmpSplit_ne (I.type.andThen (looks_subIn X hob)) (PySem.F.cmpArgs_ne _ _) ?_))))
    unfold Builtin.«object.__ne__»
    refine wpAny_bind (wpAny_of_eq (a := ((Value.ref x : Value), [b])) (by first | rfl | (simp only [slotArgs]; rfl)) ?_)
    dsimp only
    refine wpAny_bind (wpAny_cRoomFor (by show A.units + 1 < cLine; exact hu) ?_)
    refine wpAny_bind (ifBound_K X I hs hf (wpAny_mono (h _) (fun v s' hv => ?_) fun _ _ e => e))
    obtain ⟨r, rfl, q⟩ := hv
    refine wpAny_bind (wpAny_truthy_bool ?_)
    exact wpAny_pure (wpAny_pure ⟨_, rfl, q⟩)
  unfold richCompare
  simp only [oneThing_ref]
  refine wpAny_holding (wpAny_bind (wpAny_cRoomFor (by omega) ?_))
  refine wpAny_bind (I.type.here (wpAny_bind (hb.here ?_)))
  split
  · rename_i q
    have e : subIn K tb (.ref C) = some false := by
      rcases Bool.or_eq_true_iff.mp hn with e | e
      · rw [beq_iff_eq.mp e] at q; simp at q
      · exact beq_iff_eq.mp e
    refine wpAny_bind ((looks_subIn X e).here ?_)
    simp only [Bool.false_eq_true, if_false]
    refine wpAny_bind (wpAny_mono one (fun r s' z => ?_) fun _ _ e => e)
    obtain ⟨v, rfl, hq⟩ := z
    exact wpAny_pure hq
  · refine wpAny_bind (wpAny_pure ?_)
    simp only [Bool.false_eq_true, if_false]
    refine wpAny_bind (wpAny_mono one (fun r s' z => ?_) fun _ _ e => e)
    obtain ⟨v, rfl, hq⟩ := z
    exact wpAny_pure hq
end
/-- what the own == promises -/
def spEq2 (R : Addr → V → Hp → Bool → Prop) : Sp := fun vs H Q _ => ∃ a y b, vs = [.ref a, y] ∧ R a y H b ∧ ∀ H', Same H H' → Q (.bl b) H'
/-- what the class must say -/
structure EqC (K : PySem.W.Frag) (C f : Addr) : Prop where
  eq : findIn K (.ref C) "__eq__" = some (some (.ref f))
  fn : isFn K (.ref f) = true
  ne : findIn K (.ref C) "__ne__" = some (some (.builtin "object.__ne__"))
  ob : subIn K (.ref C) (.type "object") = some true
def rOwnEq (K : PySem.W.Frag) (C : Addr) (R : Addr → V → Hp → Bool → Prop) (neg : Bool) : R2 := fun x y H Q => ∃ a dx fs t b, x = .ref a ∧ H a = some (.ins C dx fs) ∧ TyX K H y t ∧ notFirst K C t = true ∧ R a y H b ∧ ∀ H', Same H H' → Q (.bl (if neg = true then !b else b)) H'
section
variable {X : Cx} {n : Nat} {C f : Addr} {fd : FuncData} {ps : List Str} {R : Addr → V → Hp → Bool → Prop}
theorem own_call {A : Around} {pins : List (Addr × Obj)} {s : Shared} {σ : L2.St} {H : Hp} {a : Addr} {y : V} {u : Value} {b : Bool} (F : FnOk X.prog X.w X.K X.mg X.base CX0 n f fd ps (spEq2 R)) (hb : Binds X.K fd ps []) (hr : Room n A) (hA : A.frames = X.A.frames) (I : Inv X pins σ H s) (ry : RelV y u) (hR : R a y H b) (E : Value → Shared → Prop) :
    wpAny (model X.prog X.w) A (call (.ref f) [.ref a, u]) (fun v s' => v = .bool b ∧ ∃ H', Inv X pins σ H' s' ∧ Same H H') E s := by
  have hsp : spEq2 R [.ref a, y] H (fun v H' => v = .bl b ∧ Same H H') E0 := ⟨a, y, b, rfl, hR, fun H' e => ⟨rfl, e⟩⟩
  have e0 : Env0 X.prog X.w X.K X.mg X.base A X.stack s H := by
    have e := I.env0
    exact ⟨by rw [hA]; exact e.frames, e.mod, e.bs, e.bsz, e.funs, e.frf, e.hok, e.bare⟩
  have hl := F.len _ _ _ _ hsp
  have r2 : Vals [V.ref a, y] [Value.ref a, u] := .cons rfl (.cons ry .nil)
  refine wpAny_call (codeAny_mono (F.run A X.stack s H ⟨[.ref a, u], []⟩ [.ref a, u] [.ref a, y] _ E0 hr e0 (by
    have := hb s [.ref a, u] I.kIn (by simpa using hl)
    simpa using this) r2 hsp) fun r s' hq => ?_)
  cases r with
  | error e => exact (show False from hq).elim
  | ok fl =>
    cases fl with
    | ret w =>
      obtain ⟨z, H', I', rz, ez, ex⟩ := I.after hq
      subst ez
      cases rz
      exact ⟨rfl, H', I', ex⟩
    | next => exact False.elim hq
    | brk => exact False.elim hq
    | cont => exact False.elim hq
theorem op_ownEq (c : EqC X.K C f) (F : FnOk X.prog X.w X.K X.mg X.base CX0 n f fd ps (spEq2 R)) (hb : Binds X.K fd ps []) (hr : Room n X.A) : OpR X (compareOp .Eq) (rOwnEq X.K C R false) := by
  intro pins s σ H x y v u Q I rx ry hq
  obtain ⟨a, dx, fs, t, b, rfl, ha, ty, hn, hR, q⟩ := hq
  cases rx
  obtain ⟨mA, J, _⟩ := ins_get I.hok ha
  obtain ⟨od, J, _⟩ := J.look
  obtain ⟨m, hF⟩ := I.fr
  obtain ⟨P, Z, pz, _⟩ := kit_of I ry ty
  show wpAny (model X.prog X.w) X.A (richCompare .Eq (.ref a) u) (EP X pins σ Q) X.xe s
  refine PySem.W.cmp_K (op := .Eq) (tb := t) hr.units0 hF I.ok.mod.kin J (Z.ty _ _ I.kIn pz) hn c.eq c.fn ?_
  refine wpAny_mono (own_call F hb hr rfl I ry hR _) (fun v s' z => ?_) fun _ _ e => e
  obtain ⟨rfl, H', I', e⟩ := z
  exact ⟨.bl b, H', I', rfl, q H' e⟩
theorem op_ownNe (c : EqC X.K C f) (F : FnOk X.prog X.w X.K X.mg X.base CX0 n f fd ps (spEq2 R)) (hb : Binds X.K fd ps []) (hr : Room (n + 1) X.A) : OpR X (compareOp .NotEq) (rOwnEq X.K C R true) := by
  intro pins s σ H x y v u Q I rx ry hq
  obtain ⟨a, dx, fs, t, b, rfl, ha, ty, hn, hR, q⟩ := hq
  cases rx
  obtain ⟨mA, J, _⟩ := ins_get I.hok ha
  obtain ⟨od, J, _⟩ := J.look
  obtain ⟨P, Z, pz, _⟩ := kit_of I ry ty
  show wpAny (model X.prog X.w) X.A (richCompare .NotEq (.ref a) u) (EP X pins σ Q) X.xe s
  refine ne_K (tb := t) (by have := hr.un; omega) I.kIn J (Z.ty _ _ I.kIn pz) hn c.ne c.ob c.eq c.fn fun E' => ?_
  refine wpAny_mono (own_call F hb hr.in1 rfl I ry hR _) (fun v s' z => ?_) fun _ _ e => e
  obtain ⟨rfl, H', I', e⟩ := z
  exact ⟨b, rfl, .bl (!b), H', I', rfl, q H' e⟩
/-- two ways of an operator -/
theorem OpR.or {f : Value → Value → Sem Value} {r r' : R2} (h : OpR X f r) (h' : OpR X f r') : OpR X f (fun x y H Q => r x y H Q ∨ r' x y H Q) := by
  intro pins s σ H x y v u Q I rx ry q
  rcases q with q | q
  · exact h pins s σ H x y v u Q I rx ry q
  · exact h' pins s σ H x y v u Q I rx ry q
end
end SA
set_option Elab.async false
set_option linter.all false
set_option maxRecDepth 100000
set_option maxHeartbeats 4000000
namespace SA
open PySem PySem.Spec PyProof.Rows L2 K1
/-! ### the order of texts -/
theorem ltC_eq : ∀ a b : List Nat, ltCps a b = decide (a < b)
  | [], [] => (decide_eq_false (fun h => List.not_lt_nil _ h)).symm
  | [], _ :: _ => (decide_eq_true (List.nil_lt_cons _ _)).symm
  | _ :: _, [] => (decide_eq_false (fun h => List.not_lt_nil _ h)).symm
  | a :: r, b :: t => by
    show (decide (a < b) || (a == b && ltCps r t)) = _
    rw [ltC_eq r t, Bool.eq_iff_iff]
    simp only [Bool.or_eq_true, Bool.and_eq_true, decide_eq_true_eq, beq_iff_eq, List.cons_lt_cons_iff]
theorem leS_not (a b : Str) : leS a b = !ltCps b.cps.toList a.cps.toList := by
  rw [ltC_eq]
  unfold leS
  rw [Bool.eq_iff_iff]
  simp only [decide_eq_true_eq, Bool.not_eq_true', decide_eq_false_iff_not]
  exact Iff.rfl
theorem ltC_trans : ∀ a b c : List Nat, ltCps a b = true → ltCps b c = true → ltCps a c = true
  | [], [], _, h, _ => by simp [ltCps] at h
  | [], _ :: _, [], _, h => by simp [ltCps] at h
  | [], _ :: _, _ :: _, _, _ => rfl
  | _ :: _, [], _, h, _ => by simp [ltCps] at h
  | _ :: _, _ :: _, [], _, h => by simp [ltCps] at h
  | a :: r, b :: t, c :: u, h1, h2 => by
    simp only [ltCps, Bool.or_eq_true, Bool.and_eq_true, decide_eq_true_eq, beq_iff_eq] at *
    rcases h1 with h1 | ⟨rfl, h1⟩ <;> rcases h2 with h2 | ⟨rfl, h2⟩
    · exact .inl (by omega)
    · exact .inl h1
    · exact .inl h2
    · exact .inr ⟨rfl, ltC_trans r t u h1 h2⟩
theorem ltC_tri : ∀ a b : List Nat, a = b ∨ ltCps a b = true ∨ ltCps b a = true
  | [], [] => .inl rfl
  | [], _ :: _ => .inr (.inl rfl)
  | _ :: _, [] => .inr (.inr rfl)
  | a :: r, b :: t => by
    simp only [ltCps, Bool.or_eq_true, Bool.and_eq_true, decide_eq_true_eq, beq_iff_eq, List.cons.injEq]
    rcases ltC_tri r t with h | h | h
    · by_cases e : a = b
      · exact .inl ⟨e, h⟩
      · omega
    · by_cases e : a = b
      · exact .inr (.inl (.inr ⟨e, h⟩))
      · omega
    · by_cases e : a = b
      · exact .inr (.inr (.inr ⟨e.symm, h⟩))
      · omega
theorem ltC_irr : ∀ a : List Nat, ltCps a a = false
  | [] => rfl
  | a :: r => by simp [ltCps, ltC_irr r]
theorem leS_total (a b : Str) : (leS a b || leS b a) = true := by
  rw [leS_not, leS_not]
  rcases ltC_tri a.cps.toList b.cps.toList with h | h | h
  · rw [h, ltC_irr]
    rfl
  · cases h2 : ltCps b.cps.toList a.cps.toList with
    | false => rfl
    | true =>
      have := ltC_trans _ _ _ h h2
      rw [ltC_irr] at this
      cases this
  · cases h2 : ltCps a.cps.toList b.cps.toList with
    | false => simp
    | true =>
      have := ltC_trans _ _ _ h h2
      rw [ltC_irr] at this
      cases this
theorem leS_trans (a b c : Str) (h1 : leS a b = true) (h2 : leS b c = true) : leS a c = true := by
  rw [leS_not] at *
  simp only [Bool.not_eq_true'] at *
  cases h : ltCps c.cps.toList a.cps.toList with
  | false => rfl
  | true =>
    rcases ltC_tri a.cps.toList b.cps.toList with e | e | e
    · rw [← e] at h2
      rw [h2] at h
      cases h
    · have := ltC_trans _ _ _ h e
      rw [this] at h2
      cases h2
    · rw [e] at h1
      cases h1
theorem leS_anti {a b : Str} (h1 : leS a b = true) (h2 : leS b a = true) : a = b := by
  rw [leS_not] at *
  simp only [Bool.not_eq_true'] at *
  rcases ltC_tri a.cps.toList b.cps.toList with e | e | e
  · exact tl_inj e
  · rw [e] at h2
    cases h2
  · rw [e] at h1
    cases h1
theorem leS_refl (a : Str) : leS a a = true := by
  rw [leS_not, ltC_irr]
  rfl
theorem pw_rising : ∀ {l : List Str} {p : Str}, risingS p l = true → (p :: l).Pairwise fun a b => leS a b = true
  | [], p, _ => by simp
  | x :: r, p, h => by
    simp only [risingS, Bool.and_eq_true] at h
    have h1 : leS p x = true := by rw [leS_not]; exact h.1
    have h2 := pw_rising h.2
    rw [List.pairwise_cons]
    refine ⟨fun b hb => ?_, h2⟩
    rcases List.mem_cons.mp hb with rfl | hb
    · exact h1
    · exact leS_trans _ _ _ h1 ((List.pairwise_cons.mp h2).1 b hb)
theorem pw_sorted : ∀ {l : List Str}, sortedS l = true → l.Pairwise fun a b => leS a b = true
  | [], _ => .nil
  | x :: r, h => pw_rising h
theorem sorted_uniq {l m : List Str} (h1 : l.Pairwise fun a b => leS a b = true) (h2 : m.Pairwise fun a b => leS a b = true) (p : l.Perm m) : l = m :=
  List.Perm.eq_of_pairwise (le := fun a b => leS a b = true) (fun a b _ _ h1 h2 => leS_anti h1 h2) h1 h2 p
/-! ### errors -/
structure Own24 (K : PySem.W.Frag) (C f : Addr) (fs : List Str) : Prop where
  oex : OexC K C
  init : PySem.W.findIn K (.ref C) "__init__" = some (some (.ref f))
  fn : PySem.W.typeIn K (.ref f) = some (.type "function")
  no : ∀ x ∈ fs, PySem.W.findIn K (.ref C) x = some none
/-- __init__'s promise: the field holds the argument -/
def spInit1 (C : Addr) : Sp := fun vs H Q _ => ∃ (a : Addr) (x : V), vs = [.ref a, x] ∧ H a = some (exo a C none) ∧
  ∀ (dx : Addr) (H' : Hp), H dx = none → dx ≠ a → H' a = some (exo a C (some dx)) → H' dx = some (exd dx [("name", x)]) → (∀ b o, H b = some o → b ≠ a → H' b = some o) → Q .non H'
abbrev sIBF : Stmt := inClass (topS 7) 0
abbrev sIUn : Stmt := inClass (topS 8) 0
/-- a class of errors without __init__ -/
structure Cl0 (K : PySem.W.Frag) (mg : Str → Option Value) (x : Str) (C : Addr) : Prop where
  g : mg x = some (.ref C)
  x : PySem.W.excIn K C [.type "ValueError", .type "Exception", .type "BaseException", .type "object"] "ValueError.__new__" = true
  k : PySem.W.keepIn K (.ref C) = true
  b : PySem.W.subIn K (.ref C) (.type "BaseException") = some true
  t : PySem.W.typeIn K (.ref C) = some (.type "type")
/-- an error of the class C with this name is raised, nothing else changed -/
def RaiseN (C : Addr) (v : V) (H : Hp) (E : XK) : Prop := ∀ (d : Addr) (H' : Hp), Same H H' → H d = none → H' d = some (.xd [("name", v)]) → E (.ref C) (some d) H'
theorem RaiseN.of {C : Addr} {v : V} {H H1 : Hp} {E : XK} (s : Same H H1) (h : RaiseN C v H E) : RaiseN C v H1 E := fun d H' s1 hd e => h d H' (s.trans s1) (s.free hd) e
section
variable {P : Program} {w0 : World} {K : PySem.W.Frag} {mg : Str → Option Value} {base : Heap} {C f : Addr} {fd : FuncData}
theorem scIBF : FnScope ["self", "name"] ["self", "name"] (defScope sIBF) := ⟨rfl, rfl, rfl, by decide +kernel, rfl, by decide +kernel, by decide +kernel⟩
theorem scIUn : FnScope ["self", "name"] ["self", "name"] (defScope sIUn) := ⟨rfl, rfl, rfl, by decide +kernel, rfl, by decide +kernel, by decide +kernel⟩
theorem okI_BF (F : Fun K "__init__" "BadFunctions.__init__" sIBF f fd) (T : Own24 K C f ["name"]) : FnOk P w0 K mg base CX0 1 f fd ["self", "name"] (spInit1 C) := by
  refine F.ok scIBF (fun vs H Q E h => ?_) (fun cdv A outer s H vs Q E hr h => ?_)
  · obtain ⟨a, x, rfl, _⟩ := h
    rfl
  · obtain ⟨a, x, rfl, ha, k⟩ := h
    refine ⟨_, pss_one (ps_ost (pv 0) (pv 1)), ?_⟩
    exact ⟨x, rfl, .ref a, rfl, a, C, rfl, T.oex, T.no _ (by simp), .inl ⟨ha, fun dx hd ne => k dx _ hd ne upd_same (by rw [upd_ne ne, upd_same]) fun b o e hb => by rw [upd_ne hb, upd_ne (ne_of_none e hd)]; exact e⟩⟩
theorem okI_Un (F : Fun K "__init__" "Unknown.__init__" sIUn f fd) (T : Own24 K C f ["name"]) : FnOk P w0 K mg base CX0 1 f fd ["self", "name"] (spInit1 C) := by
  refine F.ok scIUn (fun vs H Q E h => ?_) (fun cdv A outer s H vs Q E hr h => ?_)
  · obtain ⟨a, x, rfl, _⟩ := h
    rfl
  · obtain ⟨a, x, rfl, ha, k⟩ := h
    refine ⟨_, pss_one (ps_ost (pv 0) (pv 1)), ?_⟩
    exact ⟨x, rfl, .ref a, rfl, a, C, rfl, T.oex, T.no _ (by simp), .inl ⟨ha, fun dx hd ne => k dx _ hd ne upd_same (by rw [upd_ne ne, upd_same]) fun b o e hb => by rw [upd_ne hb, upd_ne (ne_of_none e hd)]; exact e⟩⟩
/-- from the raising of such an error, its argument worked out, to RaiseN -/
theorem raiseN {te : TE} {x : V} {σ : L2.St} {H1 : Hp} {E : XK} (ht : ∀ R : V → Hp → Prop, R x H1 → te σ H1 R) (hb : RaiseN C x H1 E) : tMkO C (spInit1 C) [] (tCons te tNil) σ H1 fun cls d H' => E cls d H' := by
  refine ht _ ⟨(by show 1 ≤ 1000; decide), fun a ha => ⟨a, x, rfl, upd_same, fun dx H' hdx ne e1 e2 kp => ⟨rfl, dx, _, e1, e2, ?_, ?_⟩⟩⟩
  · rw [upd_ne ne] at hdx
    exact hdx
  · have hdx : H1 dx = none := by
      rw [upd_ne ne] at hdx
      exact hdx
    refine hb dx _ (fun b o e => ?_) hdx upd_same
    have nb := ne_of_none e ha
    rw [upd_ne (ne_of_none e hdx), L2.del_ne nb]
    exact kp b o (by rw [upd_ne nb]; exact e) nb
end
/-! ### functions, checked -/
def keyName : Key → Bool
  | .inr w => isName w
  | .inl _ => false
def keyLen : Key → Prop
  | .inr w => w.length ≤ 100000
  | .inl _ => True
def keyPD : Key → PyData
  | .inr w => .str w
  | .inl i => .int i
theorem da_key {H : Hp} (k : Key) : Da H (kV k) (keyPD k) := by
  cases k with
  | inl i => exact .int i
  | inr w => exact .str w
theorem key_name (k : Key) : isNameD (keyPD k) = keyName k := by cases k <;> rfl
theorem key_len {k : Key} (h : keyLen k) : lenOk (keyPD k) := by cases k <;> exact h
def spChk (P : Program) (w0 : World) (BF : Addr) : Sp := fun vs H Q E => ∃ x, vs = [x] ∧
  ((∃ d, Da H x d ∧ isDctD d = false ∧ RaiseN BF .non H E) ∨
   (∃ a ob ks, x = .ref a ∧ H a = some (OddD ob a) ∧ OddO P w0 ks ob a ∧ (∃ k ∈ ks, k = .non ∨ k = .tru) ∧ ks.length ≤ 1000 ∧ (∀ w, OK.str w ∈ ks → w.length ≤ 100000) ∧ RaiseN BF .non H E) ∨
   (∃ a kvs, x = .ref a ∧ H a = some (.dK kvs) ∧ kvs.length < 64 ∧ (∀ p ∈ kvs, keyLen p.1) ∧ (kvs.all fun p => keyName p.1) = false ∧ RaiseN BF .non H E) ∨
   (∃ (a : Addr) (ws : List (Str × V)), x = .ref a ∧ H a = some (.dK (ws.map fun p => ((Sum.inr p.1 : Key), p.2))) ∧ ws.length < 64 ∧ (ws.map (·.1)).Nodup ∧ (∀ p ∈ ws, isName p.1 = true) ∧
     ∃ bf : Str → Bool, (∀ p ∈ ws, ∃ d, Da H p.2 d ∧ ToldRes d (bf p.1)) ∧ ((∀ p ∈ ws, bf p.1 = true) → ∀ H', Same H H' → Q .non H') ∧
     (∀ p ∈ ws, bf p.1 = false → (∀ q ∈ ws, leS p.1 q.1 = true ∨ bf q.1 = true) → RaiseN BF (.str p.1) H E)))
theorem spChk_any {P : Program} {w0 : World} {BF : Addr} {vs : List V} {H : Hp} {Q : VK} {E : XK} (h : spChk P w0 BF vs H (fun _ _ => False) E) : spChk P w0 BF vs H Q E := by
  obtain ⟨x, e, h⟩ := h
  refine ⟨x, e, ?_⟩
  rcases h with h | h | h | ⟨a, ws, h1, h2, h3, h4, h5, bf, h6, h7, h8⟩
  · exact .inl h
  · exact .inr (.inl h)
  · exact .inr (.inr (.inl h))
  · exact .inr (.inr (.inr ⟨a, ws, h1, h2, h3, h4, h5, bf, h6, fun z H' s => (h7 z H' s).elim, h8⟩))
end SA
set_option Elab.async false
set_option linter.all false
set_option maxRecDepth 100000
set_option maxHeartbeats 4000000
namespace SA
open PySem PySem.Spec PyProof.Rows L2 K1
theorem upd_self {H : Hp} {a : Addr} {o : HO} (h : H a = some o) : upd H a o = H := by
  funext b
  unfold upd
  split
  · rename_i e
    rw [e, h]
  · rfl
/-- behind a lock: what was new within stays -/
theorem same_lock {H H1 : Hp} {a : Addr} {u : HO} {od : Obj} (h : H a = some u) (s : Same (upd H a (.frz od u)) H1) : Same H (upd H1 a u) := fun b o e => by
  by_cases hb : b = a
  · subst hb
    rw [upd_same, ← h, e]
  · rw [upd_ne hb]
    exact s b o (by rw [upd_ne hb]; exact e)
theorem valV_mem {ws : List (Str × V)} : ∀ {p : Str × V}, p ∈ ws → (ws.map (·.1)).Nodup → valV (ws.map fun p => ((Sum.inr p.1 : Key), p.2)) (.inr p.1) = some p.2 := by
  induction ws with
  | nil => intro p h; simp at h
  | cons q ws ih =>
    intro p h nd
    rw [List.map_cons, List.nodup_cons] at nd
    rcases List.mem_cons.mp h with rfl | h
    · exact valV_pos rfl
    · rw [List.map_cons, valV_neg]
      · exact ih h nd.2
      · intro e
        have e : q.1 = p.1 := by injection e
        exact nd.1 (e ▸ List.mem_map_of_mem h)
def okName : OK → Bool
  | .str w => isName w
  | _ => false
section
variable {P : Program} {w0 : World} {K : PySem.W.Frag} {mg : Str → Option Value} {base : Heap} {BF : Addr}
theorem scChk : FnScope ["functions", "name"] ["functions"] (defScope sChk) := ⟨rfl, rfl, rfl, by decide +kernel, rfl, by decide +kernel, by decide +kernel⟩
theorem ok_chk {f fN fT fI : Addr} {fd fdN fdT fdI : FuncData} (F : Fun K "_check_functions" "_check_functions" sChk f fd) (B : Gb mg) (gB : mg "BadFunctions" = some (.ref BF)) (O : Own24 K BF fI ["name"])
    (GI : FnOk P w0 K mg base CX0 1 fI fdI ["self", "name"] (spInit1 BF)) (bI : Binds K fdI ["self", "name"] [])
    (FN : Fun K "is_name" "is_name" sIsName fN fdN) (bN : Binds K fdN ["thing"] []) (gN : mg "is_name" = some (.ref fN)) (GN : FnOk P w0 K mg base CX0 1 fN fdN ["thing"] spName)
    (FT : Fun K "_is_told" "_is_told" sTold fT fdT) (bT : Binds K fdT ["thing"] []) (gT : mg "_is_told" = some (.ref fT)) (GT : FnOk P w0 K mg base CX0 3 fT fdT ["thing"] spTold) :
    FnOk P w0 K mg base (L2.CX P w0) 4 f fd ["functions"] (spChk P w0 BF) := by
  refine F.okX scChk (fun vs H Q E h => ?_) (fun cdv A outer s H vs Q E hr h => ?_)
  · obtain ⟨x, rfl, _⟩ := h
    rfl
  · obtain ⟨x, rfl, h⟩ := h
    have hr1 := hr.mono (by decide : 1 ≤ 3)
    have hr2 := hr.mono (by decide : 2 ≤ 3)
    refine ⟨_, pss_cons (ps_if (PW.pt (pw_or (pt_not (pt_val (pe_callB (CallR.or call_isi call_isiO) (by rfl) B.isi boot_isinstance (pa_cons (pv 0) (pa_cons (pe_bltn (v := .ty "dict") (by rfl) B.dict (by decide +kernel) rfl) pa_nil)))))
        (pw_or1 (pt_not (pt_val (pe_callB (cr_all rfl) (by rfl) B.all (by decide +kernel) (pa_cons (PE.or
          (pe_lock (pe_lc (own := [("name", 1)]) (g := gName 1) (tt := tYes) (by rfl) scChk.nd (pi_keys (pv 0)) (blkOk_by (N := ["functions", "name"]) (sc := defScope sChk) (by decide +kernel)) (fun _ _ _ _ _ => pg_name (i := 1) scChk.nd rfl (Or.inl rfl)) (fun _ _ _ _ _ => pts_nil)
            (fun _ _ _ _ _ => pe_call GN hr1 (by rfl) gN FN.kp bN .nil pass0 (pa_cons (pv 1) pa_nil))))
          (pe_lc (own := [("name", 1)]) (g := gName 1) (tt := tYes) (by rfl) scChk.nd (pi_keysO (pv 0)) (blkOk_by (N := ["functions", "name"]) (sc := defScope sChk) (by decide +kernel)) (fun _ _ _ _ _ => pg_name (i := 1) scChk.nd rfl (Or.inl rfl)) (fun _ _ _ _ _ => pts_nil)
            (fun _ _ _ _ _ => pe_call GN hr1 (by rfl) gN FN.kp bN .nil pass0 (pa_cons (pv 1) pa_nil)))) pa_nil)))))))
        (pss_one (ps_raise rfl (takes_of rfl rfl rfl rfl) (pmk_oex O.oex O.init O.fn GI hr2 bI .nil pass0 (by rfl) gB (pa_cons pe_non pa_nil)))) pss_nil)
      (pss_one (ps_for (passes_of rfl) rfl (pi_list (pe_callB (call_sortedD rfl) (by rfl) B.sorted (by decide +kernel) (pa_cons (pv 0) pa_nil))) (pg_name (i := 1) scChk.nd rfl (Or.inl rfl))
        (pss_one (ps_if (pt_not (pt_val (pe_call GT hr (by rfl) gT FT.kp bT .nil pass0 (pa_cons (pe_dget (hu_of hr) (pv 0) (pv 1) (fun _ _ => rfl)) pa_nil))))
          (pss_one (ps_raise rfl (takes_of rfl rfl rfl rfl) (pmk_oex O.oex O.init O.fn GI hr2 bI .nil pass0 (by rfl) gB (pa_cons (pv 1) pa_nil)))) pss_nil)))), ?_⟩
    rcases h with ⟨d, hx, hd, k⟩ | ⟨a, ob, ks, rfl, ea, O2, hodd, hl, hlen, k⟩ | ⟨a, kvs, rfl, ea, hl, hlen, hbad, k⟩ | ⟨a, ws, rfl, ea, hl, nd, hn, bf, hv, k1, k2⟩
    · refine ⟨_, rfl, .inl ⟨x, .ty "dict", .type (tyD d), .type "dict", isDctD d, rfl, .ty _, hx.ty, kitDct d, _, rfl, ?_⟩⟩
      rw [hd]
      exact iteT (raiseN (te := tC .non) (fun R q => q) k)
    · refine ⟨_, rfl, .inr ⟨a, ob, ks, rfl, ea, O2, _, rfl, ?_⟩⟩
      refine iteF (.inr ⟨_, rfl, a, ob, ks, rfl, ea, O2, fun p hp => lc_it walk_odd (fun i H' => Same H H' ∧ H' p = some (.lst ((ks.take i).map fun k => V.bl (okName k)))) ⟨Same.new hp, upd_same⟩ (fun i H' _ ⟨e, _⟩ => e _ _ ea) ?_ ?_⟩)
      · rintro i x H1 H' hi ⟨s1, e1⟩ ⟨rfl, ky, hky, rfl⟩
        have hm : ky ∈ ks := List.mem_of_getElem? hky
        refine ⟨rfl, yes ?_⟩
        have fin : ∀ (H'' : Hp) (b : Bool), Same H' H'' → b = okName ky → ∃ acc, H'' p = some (.lst acc) ∧ acc.length < sizeLine ∧ (Same H (upd H'' p (.lst (acc ++ [V.bl b]))) ∧ upd H'' p (.lst (acc ++ [V.bl b])) p = some (.lst ((ks.take (i + 1)).map fun k => V.bl (okName k)))) := fun H'' b s2 eb => by
          refine ⟨_, s2 _ _ e1, ?_, fun b o e => ?_, ?_⟩
          · rw [List.length_map, List.length_take]
            exact small1000 (by omega)
          · rw [upd_ne (ne_of_none e hp)]
            exact s2 _ _ (s1 b o e)
          · rw [upd_same, List.take_add_one, hky, List.map_append, eb]
            rfl
        cases ky with
        | non => exact ⟨_, rfl, .non, .none, rfl, .non, trivial, fun H'' s2 => fin H'' false s2 rfl⟩
        | tru => exact ⟨_, rfl, .bl true, .bool true, rfl, .bl true, trivial, fun H'' s2 => fin H'' false s2 rfl⟩
        | str w => exact ⟨_, rfl, .str w, .str w, rfl, .str w, hlen w hm, fun H'' s2 => fin H'' (isName w) s2 rfl⟩
      · rintro H1 ⟨s1, e1⟩
        rw [List.take_of_length_le (Nat.le_refl _)] at e1
        have e2 : (ks.map fun k => V.bl (okName k)) = (ks.map okName).map V.bl := by rw [List.map_map]; rfl
        rw [e2] at e1
        have e3 : (ks.map okName).all id = false := by
          obtain ⟨k0, hm, hk⟩ := hodd
          rw [Bool.eq_false_iff]
          intro z
          rw [List.all_eq_true] at z
          have := z _ (List.mem_map_of_mem hm)
          rcases hk with rfl | rfl <;> cases this
        refine ⟨p, _, rfl, SqL.of e1, _, rfl, ?_⟩
        rw [e3]
        exact iteT (raiseN (te := tC .non) (fun R q => q) (k.of s1))
    · refine ⟨_, rfl, .inl ⟨.ref a, .ty "dict", .type "dict", .type "dict", true, rfl, .ty _, .base (.dK ea), kit_ty (by decide +kernel), _, rfl, ?_⟩⟩
      refine iteF (.inl ⟨a, _, ea, trivial, fun od => ?_⟩)
      refine ⟨_, rfl, a, od, rfl, .inl ⟨kvs, upd_same, fun p hp => ?_⟩⟩
      refine lc_it walk_keys (fun i H' => Same (upd H a (.frz od (.dK kvs))) H' ∧ H' p = some (.lst ((kvs.take i).map fun q => V.bl (keyName q.1)))) ⟨Same.new hp, upd_same⟩ (fun i H' _ ⟨e, _⟩ => e _ _ upd_same) ?_ ?_
      · rintro i x H1 H' hi ⟨s1, e1⟩ ⟨rfl, ky, vl, hky, rfl⟩
        refine ⟨rfl, yes ?_⟩
        refine ⟨_, rfl, kV ky, keyPD ky, rfl, da_key ky, key_len (hlen _ (List.mem_of_getElem? hky)), fun H'' s2 => ?_⟩
        rw [key_name]
        refine ⟨_, s2 _ _ e1, ?_, fun b o e => ?_, ?_⟩
        · rw [List.length_map, List.length_take]
          exact small1000 (by omega)
        · rw [upd_ne (ne_of_none e hp)]
          exact s2 _ _ (s1 b o e)
        · rw [upd_same, List.take_add_one, hky, List.map_append]
          rfl
      · rintro H1 ⟨s1, e1⟩
        rw [List.take_of_length_le (Nat.le_refl _)] at e1
        have e2 : (kvs.map fun q => V.bl (keyName q.1)) = (kvs.map fun q => keyName q.1).map V.bl := by rw [List.map_map]; rfl
        rw [e2] at e1
        have e3 : (kvs.map fun q => keyName q.1).all id = false := by
          rw [List.all_map]
          exact hbad
        have npa : p ≠ a := fun z => by
          rw [z, upd_same] at hp
          cases hp
        refine ⟨s1 _ _ upd_same, ?_⟩
        have s2 := same_lock ea s1
        refine ⟨p, _, rfl, SqL.of (by rw [upd_ne npa]; exact e1), _, rfl, ?_⟩
        rw [e3]
        exact iteT (raiseN (te := tC .non) (fun R q => q) (k.of s2))
    · refine ⟨_, rfl, .inl ⟨.ref a, .ty "dict", .type "dict", .type "dict", true, rfl, .ty _, .base (.dK ea), kit_ty (by decide +kernel), _, rfl, ?_⟩⟩
      refine iteF (.inl ⟨a, _, ea, trivial, fun od => ?_⟩)
      refine ⟨_, rfl, a, od, rfl, .inl ⟨_, upd_same, fun p hp => ?_⟩⟩
      refine lc_it walk_keys (fun i H' => Same (upd H a (.frz od (.dK (ws.map fun p => ((Sum.inr p.1 : Key), p.2))))) H' ∧ H' p = some (.lst ((List.replicate i true).map V.bl))) ⟨Same.new hp, upd_same⟩ (fun i H' _ ⟨e, _⟩ => e _ _ upd_same) ?_ ?_
      · rintro i x H1 H' hi ⟨s1, e1⟩ ⟨rfl, ky, vl, hky, rfl⟩
        refine ⟨rfl, yes ?_⟩
        rw [List.getElem?_map] at hky
        obtain ⟨q, hq, eq⟩ := Option.map_eq_some_iff.mp hky
        cases eq
        have hm := List.mem_of_getElem? hq
        refine ⟨_, rfl, .str q.1, .str q.1, rfl, .str q.1, Nat.le_trans (isName_len (hn q hm)) (by decide), fun H'' s2 => ?_⟩
        have eb : isNameD (.str q.1) = true := hn q hm
        rw [eb]
        refine ⟨_, s2 _ _ e1, ?_, fun b o e => ?_, ?_⟩
        · rw [List.length_map, List.length_replicate]
          rw [List.length_map] at hi
          exact small1000 (by omega)
        · rw [upd_ne (ne_of_none e hp)]
          exact s2 _ _ (s1 b o e)
        · rw [upd_same, List.replicate_succ', List.map_append]
          rfl
      · rintro H1 ⟨s1, e1⟩
        have npa : p ≠ a := fun z => by
          rw [z, upd_same] at hp
          cases hp
        refine ⟨s1 _ _ upd_same, ?_⟩
        have s2 := same_lock ea s1
        refine ⟨p, _, rfl, SqL.of (by rw [upd_ne npa]; exact e1), _, rfl, ?_⟩
        rw [all_true]
        refine iteF ?_
        generalize upd H1 a (.dK (ws.map fun p => ((Sum.inr p.1 : Key), p.2))) = H2 at s2
        refine ⟨_, rfl, a, _, ws.map (·.1), rfl, .inl (s2 _ _ ea), by rw [List.map_map, List.map_map]; rfl, by rw [List.length_map]; exact hl, fun ys q pm srt hq => ?_⟩
        have s3 : Same H (upd H2 q (.lst (ys.map V.str))) := s2.trans (Same.new hq)
        have eq3 : (upd H2 q (.lst (ys.map V.str))) q = some (.lst (ys.map V.str)) := upd_same
        generalize upd H2 q (.lst (ys.map V.str)) = H3 at s3 eq3
        have pw := pw_sorted srt
        refine ⟨q, rfl, ⟨_, SqL.of eq3⟩, for_list (K := K) (a := q) (xs := ys.map V.str) (fun i σ H' => Same H3 H' ∧ (∀ y ∈ ys.take i, bf y = true) ∧ ∃ z, σ = [some (.ref a), z]) ⟨Same.refl _, by simp, none, rfl⟩ (fun i σ H' _ ⟨e, _⟩ => SqL.of (e _ _ eq3)) ?_ ?_⟩
        · rintro i x σ H' hx ⟨s4, hold, z, rfl⟩
          rw [List.getElem?_map] at hx
          obtain ⟨y, hy, rfl⟩ := Option.map_eq_some_iff.mp hx
          have hmy : y ∈ ws.map (·.1) := pm.mem_iff.mp (List.mem_of_getElem? hy)
          obtain ⟨p, hp', rfl⟩ := List.mem_map.mp hmy
          obtain ⟨d, hd, hb⟩ := hv p hp'
          have s5 := s3.trans s4
          refine ⟨_, rfl, _, rfl, a, p.2, rfl, ?_, p.2, d, _, rfl, hd.same s5, hb, fun H'' s6 => ⟨bf p.1, rfl, ?_⟩⟩
          · rw [← valV_mem hp' nd]
            exact DGet.k (k := .inr p.1) (s5 _ _ ea)
          · cases eb : bf p.1 with
            | true =>
              refine iteF ⟨s4.trans s6, fun y hy' => ?_, _, rfl⟩
              rw [List.take_add_one, hy] at hy'
              rcases List.mem_append.mp hy' with h | h
              · exact hold y h
              · simp at h
                rw [h]
                exact eb
            | false =>
              refine iteT (raiseN (te := tVar 1) (fun R q => ⟨_, rfl, q⟩) ((k2 p hp' eb fun q' hq' => ?_).of (s5.trans s6)))
              -- what stands behind is not less
              have hmq : q'.1 ∈ ys := pm.mem_iff.mpr (List.mem_map_of_mem hq')
              obtain ⟨j, hj⟩ := List.getElem?_of_mem hmq
              by_cases hij : j < i
              · refine .inr (hold q'.1 ?_)
                exact List.mem_of_getElem? (i := j) (by rw [List.getElem?_take]; simp [hij, hj])
              · refine .inl ?_
                by_cases e : i = j
                · subst e
                  rw [hy] at hj
                  injection hj with hj
                  rw [← hj]
                  exact leS_refl _
                · have hlt : i < j := by omega
                  have h1 := List.pairwise_iff_getElem.mp pw i j (List.getElem?_eq_some_iff.mp hy).1 (List.getElem?_eq_some_iff.mp hj).1 hlt
                  rw [(List.getElem?_eq_some_iff.mp hy).2, (List.getElem?_eq_some_iff.mp hj).2] at h1
                  exact h1
        · rintro σ H' ⟨s4, hold, z, rfl⟩
          rw [List.length_map, List.take_of_length_le (Nat.le_refl _)] at hold
          exact k1 (fun p hp' => hold p.1 (pm.mem_iff.mpr (List.mem_map_of_mem hp'))) _ (s3.trans s4)
end
end SA
set_option Elab.async false
set_option linter.all false
set_option maxRecDepth 100000
set_option maxHeartbeats 4000000
namespace SA
open PySem PySem.Spec PyProof.Rows L2 K1
/-! ### dicts of data under texts -/
def kz (ks : List Str) (vs : List V) : List (Key × V) := (ks.zip vs).map fun p => ((Sum.inr p.1 : Key), p.2)
def DictL (H : Hp) (a : Addr) (es : List (Str × PyData)) : Prop := ∃ vs, H a = some (.dK (kz (es.map (·.1)) vs)) ∧ DaAll H vs (es.map (·.2))
theorem kz_val : ∀ {es : List (Str × PyData)} {H : Hp} {vs : List V} {k : Str}, DaAll H vs (es.map (·.2)) → (∀ d, es.lookup k = some d → ∃ v, valV (kz (es.map (·.1)) vs) (.inr k) = some v ∧ Da H v d) ∧ (es.lookup k = none → valV (kz (es.map (·.1)) vs) (.inr k) = none)
  | [], H, vs, k, h => ⟨fun d e => (by cases e), fun _ => (by cases h; rfl)⟩
  | (k0, d0) :: es, H, vs, k, h => by
    rw [List.map_cons] at h
    obtain ⟨v, vs, rfl, h1, h2⟩ := da_cons h
    obtain ⟨i1, i2⟩ := kz_val (k := k) h2
    have ez : kz (((k0, d0) :: es).map (·.1)) (v :: vs) = ((Sum.inr k0 : Key), v) :: kz (es.map (·.1)) vs := rfl
    rw [ez]
    by_cases e : k = k0
    · subst e
      refine ⟨fun d hd => ⟨v, valV_pos rfl, ?_⟩, fun hn => ?_⟩
      · rw [List.lookup_cons_self] at hd
        cases hd
        exact h1
      · rw [List.lookup_cons_self] at hn
        cases hn
    · have hl : ((k0, d0) :: es).lookup k = es.lookup k := by
        rw [List.lookup_cons]
        have : (k == k0) = false := by simpa using e
        rw [this]
      rw [hl, valV_neg (fun z => e (by injection z with z; exact z.symm))]
      exact ⟨i1, i2⟩
theorem DictL.get {H : Hp} {a : Addr} {es : List (Str × PyData)} {k : Str} {d : PyData} (h : DictL H a es) (e : es.lookup k = some d) : ∃ v, DGet H a (.str k) (some v) ∧ Da H v d := by
  obtain ⟨vs, h1, h2⟩ := h
  obtain ⟨v, e1, e2⟩ := (kz_val (k := k) h2).1 d e
  exact ⟨v, e1 ▸ DGet.k (k := .inr k) h1, e2⟩
theorem DictL.miss {H : Hp} {a : Addr} {es : List (Str × PyData)} {k : Str} (h : DictL H a es) (e : es.lookup k = none) : DGet H a (.str k) none := by
  obtain ⟨vs, h1, h2⟩ := h
  exact ((kz_val (k := k) h2).2 e) ▸ DGet.k (k := .inr k) h1
theorem DictL.kp {S : List Addr} {H H' : Hp} {a : Addr} {es : List (Str × PyData)} (h : DictL H a es) (k : Kp S H H') (ha : a ∉ S) (ht : tupOs (es.map (·.2)) = true) : DictL H' a es := by
  obtain ⟨vs, h1, h2⟩ := h
  exact ⟨vs, k.1 _ _ h1 ha (fun ps z => nomatch z), DaAll.kp k ht h2⟩
theorem DictL.same {H H' : Hp} {a : Addr} {es : List (Str × PyData)} (h : DictL H a es) (s : Same H H') : DictL H' a es := by
  obtain ⟨vs, h1, h2⟩ := h
  exact ⟨vs, s _ _ h1, h2.same s⟩
theorem tupOs_app : ∀ {a b : List PyData}, tupOs a = true → tupOs b = true → tupOs (a ++ b) = true
  | [], _, _, h => h
  | x :: a, b, h1, h2 => by
    simp only [tupOs, Bool.and_eq_true, List.cons_append] at *
    exact ⟨h1.1, tupOs_app h1.2 h2⟩
theorem kz_snoc {ks : List Str} {vs : List V} {k : Str} {v : V} (h : ks.length = vs.length) : kz (ks ++ [k]) (vs ++ [v]) = kz ks vs ++ [((Sum.inr k : Key), v)] := by
  unfold kz
  rw [List.zip_append h, List.map_append]
  rfl
theorem kz_len {ks : List Str} {vs : List V} (h : ks.length = vs.length) : (kz ks vs).length = ks.length := by
  unfold kz
  rw [List.length_map, List.length_zip, h, Nat.min_self]
/-- a new key is put at the end -/
theorem DictL.put {H : Hp} {a : Addr} {es : List (Str × PyData)} {k : Str} {v : V} {d : PyData} {vs : List V} (h1 : H a = some (.dK (kz (es.map (·.1)) vs))) (h2 : DaAll H vs (es.map (·.2))) (e : es.lookup k = none) (ht : tupOs (es.map (·.2)) = true) (hd : tupO d = true) (hv : Da H v d) :
    DictL (upd H a (.dK (putK (kz (es.map (·.1)) vs) (.inr k) v))) a (es ++ [(k, d)]) := by
  have hl : (es.map (·.1)).length = vs.length := by rw [h2.len, List.length_map, List.length_map]
  have kk : Kp [a] H (upd H a (.dK (putK (kz (es.map (·.1)) vs) (.inr k) v))) := Kp.upd h1 (fun xs z => nomatch z) (by simp)
  refine ⟨vs ++ [v], ?_, ?_⟩
  · rw [upd_same, putK_new _ ((kz_val (k := k) h2).2 e), List.map_append]
    show some (HO.dK _) = some (HO.dK (kz (es.map (·.1) ++ [k]) (vs ++ [v])))
    rw [kz_snoc hl]
  · rw [List.map_append]
    exact (DaAll.kp kk ht h2).app (.one (Da.kp kk hd hv))
theorem lookup_map_none {α : Type} {l : List α} {f : α → Str} {g : α → PyData} {k : Str} (h : k ∉ l.map f) : (l.map fun x => (f x, g x)).lookup k = none := by
  induction l with
  | nil => rfl
  | cons a l ih =>
    rw [List.map_cons, List.mem_cons] at h
    rw [List.map_cons, List.lookup_cons]
    have : (k == f a) = false := by simpa using fun z => h (.inl z)
    rw [this]
    exact ih fun z => h (.inr z)
theorem lookup_map_some {α : Type} {l : List α} {f : α → Str} {g : α → PyData} {x : α} (nd : (l.map f).Nodup) (h : x ∈ l) : (l.map fun x => (f x, g x)).lookup (f x) = some (g x) := by
  induction l with
  | nil => simp at h
  | cons a l ih =>
    rw [List.map_cons, List.nodup_cons] at nd
    rw [List.map_cons, List.lookup_cons]
    by_cases e : f x = f a
    · rcases List.mem_cons.mp h with rfl | h
      · rw [beq_self_eq_true]
      · exact absurd (e ▸ List.mem_map_of_mem h) nd.1
    · have : (f x == f a) = false := by simpa using e
      rw [this]
      rcases List.mem_cons.mp h with rfl | h
      · exact absurd rfl e
      · exact ih nd.2 h
/-! ### what a scope knows -/
abbrev NFn := Str × Fn
def fnE (f : NFn) : Str × PyData := (f.1, fnD f.2)
def cfnE (f : NFn) : Str × PyData := (f.1, fnD (codedF f.2))
def casesOf : Dcl → List (Str × PyData)
  | .row _ _ => []
  | .cho n vs => vs.map fun v => (v.1, varD (n, v.2.map codedS))
def sortD (L : List Dcl) : List Dcl := L.mergeSort fun a b => leS a.name b.name
def sortF (L : List NFn) : List NFn := L.mergeSort fun a b => leS a.1 b.1
def scFs (dx kt fd td dd cd : Addr) : List (Str × V) := [("kinds", .ref kt), ("functions", .ref fd), ("_told", .ref td), ("_declared", .ref dd), ("_cases", .ref cd)]
/-- at p stands the scope of the declarations L (in order) and the functions fs (in order) -/
structure ScopeAt (H : Hp) (p C : Addr) (L : List Dcl) (fs : List NFn) : Prop where
  ex : ∃ dx kt fd td dd cd rs, H p = some (.ins C dx (scFs dx kt fd td dd cd)) ∧ H kt = some (.tup rs) ∧ DaAll H rs (L.map Dcl.d) ∧ DictL H fd (fs.map cfnE) ∧ DictL H td (fs.map cfnE) ∧ DictL H dd (L.map fun D => (D.name, D.d)) ∧ DictL H cd (L.flatMap casesOf)
theorem tupOs_snd {α : Type} (l : List α) (f : α → Str × PyData) (h : ∀ a, tupO (f a).2 = true) : tupOs ((l.map f).map (·.2)) = true := by
  induction l with
  | nil => rfl
  | cons a l ih => simp only [List.map_cons, tupOs, h a, ih, Bool.and_self]
theorem tupOs_cfn (fs : List NFn) : tupOs ((fs.map cfnE).map (·.2)) = true := tupOs_snd fs cfnE fun f => tupO_fn _
theorem tupOs_fn (fs : List NFn) : tupOs ((fs.map fnE).map (·.2)) = true := tupOs_snd fs fnE fun f => tupO_fn _
theorem tupOs_dn (L : List Dcl) : tupOs ((L.map fun D => (D.name, D.d)).map (·.2)) = true := tupOs_snd L _ fun D => tupO_dcl D
theorem tupOs_cases : ∀ L : List Dcl, tupOs ((L.flatMap casesOf).map (·.2)) = true
  | [] => rfl
  | D :: L => by
    rw [List.flatMap_cons, List.map_append]
    refine tupOs_app ?_ (tupOs_cases L)
    cases D with
    | row n i => rfl
    | cho n vs => exact tupOs_snd vs _ fun v => tupO_var _
theorem ScopeAt.same {H H' : Hp} {p C : Addr} {L : List Dcl} {fs : List NFn} (h : ScopeAt H p C L fs) (s : Same H H') : ScopeAt H' p C L fs := by
  obtain ⟨dx, kt, fd, td, dd, cd, rs, h1, h2, h3, h4, h5, h6, h7⟩ := h.ex
  exact ⟨dx, kt, fd, td, dd, cd, rs, s _ _ h1, s _ _ h2, h3.same s, h4.same s, h5.same s, h6.same s, h7.same s⟩
end SA
set_option Elab.async false
set_option linter.all false
set_option maxRecDepth 100000
set_option maxHeartbeats 4000000
namespace SA
open PySem PySem.Spec PyProof.Rows L2 K1
theorem Kp.mut {S : List Addr} {H H' : Hp} {p : Addr} {o : HO} (k : Kp S H H') (h : H p = none) : Kp S H (L2.upd H' p o) :=
  ⟨fun b u e n t => by rw [upd_ne (ne_of_none e h)]; exact k.1 b u e n t, fun b xs e => by rw [upd_ne (ne_of_none e h)]; exact k.2 b xs e⟩
/-- all but S stays, tables of code too, all tuples stay, and what is free was free -/
structure Kx (S : List Addr) (H H' : Hp) : Prop where
  keep : ∀ b o, H b = some o → b ∉ S → H' b = some o
  tup : ∀ a xs, H a = some (.tup xs) → H' a = some (.tup xs)
  free : ∀ b, H' b = none → H b = none
theorem Kx.kp {S : List Addr} {H H' : Hp} (k : Kx S H H') : Kp S H H' := ⟨fun b o e n _ => k.keep b o e n, k.tup⟩
theorem Kx.refl (S : List Addr) (H : Hp) : Kx S H H := ⟨fun _ _ e _ => e, fun _ _ e => e, fun _ h => h⟩
theorem Kx.trans {S : List Addr} {H H1 H2 : Hp} (a : Kx S H H1) (b : Kx S H1 H2) : Kx S H H2 := ⟨fun x o e n => b.keep x o (a.keep x o e n) n, fun x o e => b.tup x o (a.tup x o e), fun x h => a.free x (b.free x h)⟩
theorem Kx.of {S : List Addr} {H H' : Hp} (e : Same H H') : Kx S H H' := ⟨fun b o h _ => e b o h, fun b o h => e b _ h, fun b h => e.free h⟩
theorem Kx.set {S : List Addr} {H H' : Hp} {p : Addr} {o o' : HO} (k : Kx S H H') (hp : H' p = some o') (hn : ∀ xs, o' ≠ .tup xs) (m : p ∈ S) : Kx S H (upd H' p o) :=
  ⟨fun b u e n => by rw [upd_ne (fun z => by rw [z] at n; exact n m)]; exact k.keep b u e n, fun b xs e => by
    rw [upd_ne (fun z => ?_)]
    · exact k.tup b xs e
    · have := k.tup b xs e
      rw [z, hp] at this
      exact hn xs (Option.some.inj this), fun b h => k.free b (by
    by_cases e : b = p
    · rw [e, upd_same] at h
      cases h
    · rw [upd_ne e] at h
      exact h)⟩
theorem Kx.mut {S : List Addr} {H H' : Hp} {p : Addr} {o : HO} (k : Kx S H H') (h : H p = none) : Kx S H (upd H' p o) :=
  ⟨fun b u e n => by rw [upd_ne (ne_of_none e h)]; exact k.keep b u e n, fun b xs e => by rw [upd_ne (ne_of_none e h)]; exact k.tup b xs e, fun b hb => by
    by_cases e : b = p
    · rw [e, upd_same] at hb
      cases hb
    · rw [upd_ne e] at hb
      exact k.free b hb⟩
theorem Kx.new {S : List Addr} {H H' : Hp} {p : Addr} {o : HO} (k : Kx S H H') (h : H' p = none) : Kx S H (upd H' p o) := k.mut (k.free p h)
theorem Kx.same {S : List Addr} {H H1 H2 : Hp} (k : Kx S H H1) (s : Same H1 H2) : Kx S H H2 := k.trans (.of s)
theorem Kx.mono {S T : List Addr} {H H' : Hp} (a : Kx S H H') (h : ∀ x ∈ S, x ∈ T) : Kx T H H' := ⟨fun b o e n => a.keep b o e fun m => n (h b m), a.tup, a.free⟩
/-- q is no object that stood in H0, the tables aside -/
def Out (H0 : Hp) (q : Addr) : Prop := ∀ b o, H0 b = some o → (∀ ps, o ≠ .tbl ps) → b ≠ q
theorem Out.of {H : Hp} {q : Addr} (h : H q = none) : Out H q := fun _ _ e _ => ne_of_none e h
theorem Out.kp {S : List Addr} {H0 H : Hp} {q : Addr} (k : Kp S H0 H) (h : H q = none) (hs : ∀ s ∈ S, s ≠ q) : Out H0 q := fun b o e t => by
  by_cases m : b ∈ S
  · exact hs b m
  · exact ne_of_none (k.1 b o e m t) h
theorem Kp.out {S : List Addr} {H H' : Hp} {p : Addr} {o : HO} (k : Kp S H H') (h : Out H p) : Kp S H (L2.upd H' p o) :=
  ⟨fun b u e n t => by rw [upd_ne (h b u e t)]; exact k.1 b u e n t, fun b xs e => by rw [upd_ne (h b _ e fun _ z => nomatch z)]; exact k.2 b xs e⟩
/-- the tables of code stand as they stood -/
theorem tabs_kx {T : List (Addr × Str)} {S : List Addr} {H H' : Hp} (t : LamX.Tabs T H) (k : Kx S H H') (hS : ∀ s ∈ S, ∃ o, H s = some o ∧ (∀ ps, o ≠ .tbl ps) ∧ ∀ φ, o ≠ .ext φ) : LamX.Tabs T H' := by
  intro p hp
  obtain ⟨ps, h1, h2, h3⟩ := t p hp
  refine ⟨ps, k.keep _ _ h1 fun m => ?_, h2, fun pos cv hc => ?_⟩
  · obtain ⟨o, e, n, _⟩ := hS _ m
    rw [h1] at e
    exact n ps (Option.some.inj e).symm
  · obtain ⟨c', q1, q2⟩ := h3 pos cv hc
    refine ⟨c', q1, k.keep _ _ q2 fun m => ?_⟩
    obtain ⟨o, e, _, n⟩ := hS _ m
    rw [q2] at e
    exact n _ (Option.some.inj e).symm
theorem ins_noT {C dx : Addr} {fs : List (Str × V)} : (∀ ps, HO.ins C dx fs ≠ .tbl ps) ∧ ∀ φ, HO.ins C dx fs ≠ .ext φ := ⟨(fun _ z => nomatch z), (fun _ z => nomatch z)⟩
/-- the turns of a clause of a comprehension, whatever it makes -/
theorem in_it {J : It} {n : Nat} {G : Hp → Prop} {Y : Nat → Hp → V → Hp → Prop} (w : Walk J n G Y) {Bd : (Hp → Prop) → V → Hp → Prop} {H4 : Hp} {Nx : Hp → Prop} (Pv : Nat → Hp → Prop) (h0 : Pv 0 H4) (hG : ∀ i H, i ≤ n → Pv i H → G H)
    (hs : ∀ i x H H', i < n → Pv i H → Y i H x H' → Bd (Pv (i + 1)) x H') (hd : ∀ H, Pv n H → Nx H) :
    ∃ W1 : Nat → Nat → Hp → Prop, (∃ m, W1 0 m H4) ∧ ∀ j k H, W1 j k H →
      (J.stop j H ∧ Nx H) ∨ (J.go j H ∧ ∃ Nx1 : Hp → Prop, (∀ H', Nx1 H' → ∃ k', k' < k ∧ W1 (j + 1) k' H') ∧ ∀ x H', J.yld j H x H' → Bd Nx1 x H') := by
  refine ⟨fun i m H => m = n - i ∧ i ≤ n ∧ Pv i H, ⟨n, by simp, Nat.zero_le _, h0⟩, ?_⟩
  rintro i m H ⟨rfl, hi, p⟩
  have q := hG i H hi p
  by_cases hlt : i < n
  · exact .inr ⟨w.goes i H hlt q, Pv (i + 1), fun H' p' => ⟨n - (i + 1), by omega, rfl, hlt, p'⟩, fun x H' y => hs i x H H' hlt p (w.yields i H x H' hlt q y)⟩
  · have e : i = n := by omega
    subst e
    exact .inl ⟨w.stops H q, hd H p⟩
/-- a list or a tuple walked -/
def Seq2 (H : Hp) (a : Addr) (xs : List V) : Prop := H a = some (.lst xs) ∨ H a = some (.tup xs)
theorem Seq2.same {H H' : Hp} {a : Addr} {xs : List V} (h : Seq2 H a xs) (s : Same H H') : Seq2 H' a xs := h.elim (fun h => .inl (s _ _ h)) fun h => .inr (s _ _ h)
theorem or_seq {K : PySem.W.Frag} {xs : List V} {a : Addr} {H : Hp} {tl : TE} {σ : L2.St} {R : It → Hp → Prop} (hs : Seq2 H a xs) (ht : ∀ Q : V → Hp → Prop, Q (.ref a) H → tl σ H Q) (h : ∀ (J : It) (G : Hp → Prop), Walk J xs.length G (YAt xs) → (∀ H', Same H H' → G H') → R J H) : iList K tl σ H R ∨ iTup K tl σ H R := by
  rcases hs with e | e
  · exact .inl (ht _ ⟨a, rfl, ⟨_, SqL.of e⟩, h _ _ walk_list fun H' s => SqL.of (s _ _ e)⟩)
  · exact .inr (ht _ ⟨a, rfl, ⟨_, SqT.of e⟩, h _ _ walk_tup fun H' s => SqT.of (s _ _ e)⟩)
section
variable {X : Cx}
theorem PI.or {tg it : Expr} {w w' : TI} (h : PI X tg it w) (h' : PI X tg it w') : PI X tg it (fun σ H R => w σ H R ∨ w' σ H R) := ⟨fun pins s σ H R I q => q.elim (h.run pins s σ H R I) (h'.run pins s σ H R I)⟩
end
theorem Fun.okXC {P : Program} {w : World} {K : PySem.W.Frag} {mg : Str → Option Value} {base : Heap} {x qual : Str} {st : Stmt} {f c : Addr} {fd : FuncData} {N ps : List Str} {k : Nat} {sp : Sp} (F : Fun K x qual st f fd) (hc : fd.code = .ref c) (S : FnScope N ps (defScope st)) (len : ∀ vs H Q E, sp vs H Q E → vs.length = ps.length)
    (body : ∀ (A : Around) (outer : List Env) (s : Shared) (H : Hp) (vs : List V) (Q : VK) (E : XK), Room k (A.deeper (envOfC qual (defScope st) s.heap.objs.size f (.ref c))) → sp vs H Q E →
      ∃ t, PSs (cxOf (L2.CX P w) P w K mg base N qual (defScope st) f (.ref c) A outer s H E) (defBody st) t ∧ t { nx := fun _ H' => Q .non H', rt := Q } (start N vs) H) : FnOk P w K mg base (L2.CX P w) (k + 1) f fd ps sp := by
  obtain ⟨oc, od, kV, doc, pm, an, cdv, ct, osl, rfl, lk, hcd⟩ := F.ex
  have ec : cdv = .ref c := hc
  subst ec
  exact fn_of lk hcd S len fun A outer s H vs Q E hr hsp => body A outer s H vs Q E hr hsp
/-- the scope at p, its dicts new since H0 -/
def ScopeN (H0 H : Hp) (p C : Addr) (L : List Dcl) (fs : List NFn) : Prop :=
  ∃ dx kt fd td dd cd rs, H p = some (.ins C dx (scFs dx kt fd td dd cd)) ∧ H kt = some (.tup rs) ∧ DaAll H rs (L.map Dcl.d) ∧ DictL H fd (fs.map cfnE) ∧ DictL H td (fs.map cfnE) ∧ DictL H dd (L.map fun D => (D.name, D.d)) ∧ DictL H cd (L.flatMap casesOf) ∧ Out H0 fd ∧ Out H0 td ∧ Out H0 dd ∧ Out H0 cd
theorem ScopeN.at_ {H0 H : Hp} {p C : Addr} {L : List Dcl} {fs : List NFn} (h : ScopeN H0 H p C L fs) : ScopeAt H p C L fs := by
  obtain ⟨dx, kt, fd, td, dd, cd, rs, h1, h2, h3, h4, h5, h6, h7, _⟩ := h
  exact ⟨dx, kt, fd, td, dd, cd, rs, h1, h2, h3, h4, h5, h6, h7⟩
/-- what is changed besides it stood in H0 -/
theorem ScopeN.kp {S : List Addr} {H0 H H' : Hp} {p C : Addr} {L : List Dcl} {fs : List NFn} (h : ScopeN H0 H p C L fs) (k : Kp S H H') (hp : p ∉ S) (hS : ∀ s ∈ S, ∃ o, H0 s = some o ∧ ∀ ps, o ≠ .tbl ps) : ScopeN H0 H' p C L fs := by
  obtain ⟨dx, kt, fd, td, dd, cd, rs, h1, h2, h3, h4, h5, h6, h7, o1, o2, o3, o4⟩ := h
  have out : ∀ {q : Addr}, Out H0 q → q ∉ S := fun {q} hq m => by
    obtain ⟨o, e, t⟩ := hS q m
    exact hq q o e t rfl
  exact ⟨dx, kt, fd, td, dd, cd, rs, k.1 _ _ h1 hp (fun _ z => nomatch z), k.2 _ _ h2, DaAll.kp k (tupOs_dcls L) h3, h4.kp k (out o1) (tupOs_cfn _), h5.kp k (out o2) (tupOs_cfn _), h6.kp k (out o3) (tupOs_dn _), h7.kp k (out o4) (tupOs_cases _), o1, o2, o3, o4⟩
/-- declarations in the heap, by their addresses -/
theorem da_pairs {H : Hp} : ∀ {L : List Dcl} {xs : List V}, DaAll H xs (L.map Dcl.d) → ∃ bs : List (Addr × Dcl), xs = bs.map (fun b => V.ref b.1) ∧ L = bs.map (·.2) ∧ ∀ b ∈ bs, Da H (.ref b.1) b.2.d
  | [], xs, h => ⟨[], by rw [da_nil h]; rfl, rfl, by simp⟩
  | D :: L, xs, h => by
    rw [List.map_cons] at h
    obtain ⟨y, ys, rfl, h1, h2⟩ := da_cons h
    obtain ⟨bs, rfl, rfl, h3⟩ := da_pairs h2
    obtain ⟨a, rfl⟩ : ∃ a, y = .ref a := by
      cases D with
      | row n i => obtain ⟨a, rfl, _⟩ := da_row h1; exact ⟨a, rfl⟩
      | cho n vs => obtain ⟨a, _, _, rfl, _⟩ := da_cho h1; exact ⟨a, rfl⟩
    refine ⟨(a, D) :: bs, rfl, rfl, fun b hb => ?_⟩
    rcases List.mem_cons.mp hb with rfl | hb
    · exact h1
    · exact h3 b hb
theorem pairs_da {H : Hp} : ∀ {bs : List (Addr × Dcl)}, (∀ b ∈ bs, Da H (.ref b.1) b.2.d) → DaAll H (bs.map fun b => V.ref b.1) ((bs.map (·.2)).map Dcl.d)
  | [], _ => .nil
  | b :: bs, h => .cons (h b (List.mem_cons_self ..)) (pairs_da fun c hc => h c (List.mem_cons_of_mem _ hc))
theorem da_name {H : Hp} {x : V} {D : Dcl} (h : Da H x D.d) : ∃ a y r, x = .ref a ∧ H a = some (.tup (y :: .str D.name :: r)) := by
  cases D with
  | row n i =>
    obtain ⟨a, rfl, e⟩ := da_row h
    exact ⟨a, _, _, rfl, e⟩
  | cho n vs =>
    obtain ⟨a, b, rs, rfl, e, _⟩ := da_cho h
    exact ⟨a, _, _, rfl, e⟩
/-- flatMap over the beginning of a list -/
theorem flat_take {α β : Type} {l : List α} {f : α → List β} {i : Nat} {x : α} (h : l[i]? = some x) : (l.take (i + 1)).flatMap f = (l.take i).flatMap f ++ f x := by
  rw [List.take_add_one, h, List.flatMap_append]
  simp
end SA
set_option Elab.async false
set_option linter.all false
set_option maxRecDepth 100000
set_option maxHeartbeats 8000000
namespace SA
open PySem PySem.Spec PyProof.Rows L2 K1
abbrev sInit : Stmt := inClass (topS 21) 0
abbrev nInit : List Str := ["self", "kinds", "functions", "name", "word", "told", "variant", "fields", "kind"]
theorem scInit : FnScope nInit ["self", "kinds", "functions"] (defScope sInit) := ⟨rfl, rfl, rfl, by decide +kernel, rfl, by decide +kernel, by decide +kernel⟩
def qInit : Str := (envOfC "Scope.__init__" (defScope sInit) 0 0 .none).qual ++ "<lambda>"
def spScope (P : Program) (w0 : World) (T : List (Addr × Str)) (C BK BF : Addr) : Sp := fun vs H Q E => ∃ x dx kv fv, vs = [.ref x, kv, fv] ∧ H x = some (.ins C dx []) ∧ LamX.Tabs T H ∧
  ((∃ d, Da H kv d ∧ (isLstD d || isTupD d) = false ∧ ∀ H', Same H H' → E (.ref BK) none H') ∨
   (∃ (a : Addr) (xs : List V) (ds : List PyData) (bs : List Bool), kv = .ref a ∧ Seq2 H a xs ∧ DaAll H xs ds ∧ bs.length = ds.length ∧ (∀ (i : Nat) (d : PyData) (b : Bool), ds[i]? = some d → bs[i]? = some b → DeclRes d b) ∧ bs.all id = false ∧ ds.length ≤ 60 ∧ ∀ H', Same H H' → E (.ref BK) none H') ∨
   (∃ (a : Addr) (xs : List V) (L : List Dcl), kv = .ref a ∧ Seq2 H a xs ∧ DaAll H xs (L.map Dcl.d) ∧ (∀ D ∈ L, D.Ok) ∧ L.length ≤ 60 ∧
     ((¬ (L.flatMap Dcl.names).Nodup ∧ ∀ H', Same H H' → E (.ref BK) none H') ∨
      ((L.flatMap Dcl.names).Nodup ∧ ((∀ H1, Same H H1 → spChk P w0 BF [fv] H1 (fun _ _ => False) E) ∨
        (∃ (fa : Addr) (fs : List NFn), fv = .ref fa ∧ DictL H fa (fs.map fnE) ∧ (fs.map (·.1)).Nodup ∧ (∀ f ∈ fs, isName f.1 = true ∧ OkF f.2) ∧ fs.length < 64 ∧
          ∀ H', Kp [x] H H' → LamX.Tabs T H' → ScopeN H H' x C (sortD L) (sortF fs) → Q .non H'))))))
theorem names5 {d : Dcl} (h : d.Ok) : d.names.length ≤ 5 := by
  cases h with
  | row h k l => exact Nat.le_of_lt (by show 1 < 5; decide)
  | cho h h1 h4 ok =>
    simp only [Dcl.names, List.length_cons, List.length_map]
    omega
theorem flat5 : ∀ l : List Dcl, (∀ d ∈ l, d.Ok) → (l.flatMap Dcl.names).length ≤ 5 * l.length := by
  intro l
  induction l with
  | nil => intro _; simp
  | cons a l ih =>
    intro h
    rw [List.flatMap_cons, List.length_append, List.length_cons]
    have h2 := names5 (h a (List.mem_cons_self ..))
    have h3 := ih fun d hd => h d (List.mem_cons_of_mem _ hd)
    omega
theorem sortD_perm (L : List Dcl) : (sortD L).Perm L := List.mergeSort_perm _ _
theorem sortF_perm (L : List NFn) : (sortF L).Perm L := List.mergeSort_perm _ _
theorem sortF_names (L : List NFn) : ((sortF L).map (·.1)).Pairwise fun a b => leS a b = true := by
  rw [List.pairwise_map]
  exact List.pairwise_mergeSort (le := fun a b : NFn => leS a.1 b.1) (fun a b c => leS_trans a.1 b.1 c.1) (fun a b => leS_total a.1 b.1) L
/-- names of declarations all different: so are the kinds' and the variants' -/
theorem nodup_perm_flat {L M : List Dcl} (p : L.Perm M) : (L.flatMap Dcl.names).Nodup ↔ (M.flatMap Dcl.names).Nodup := (p.flatMap_right _).nodup_iff
theorem nodup_dnames : ∀ {L : List Dcl}, (L.flatMap Dcl.names).Nodup → (L.map Dcl.name).Nodup
  | [], _ => .nil
  | D :: L, h => by
    rw [List.flatMap_cons, List.nodup_append] at h
    rw [List.map_cons, List.nodup_cons]
    refine ⟨fun m => ?_, nodup_dnames h.2.1⟩
    obtain ⟨E, hE, e⟩ := List.mem_map.mp m
    have h1 : D.name ∈ D.names := by cases D <;> simp [Dcl.name, Dcl.names]
    have h2 : E.name ∈ L.flatMap Dcl.names := List.mem_flatMap.mpr ⟨E, hE, by cases E <;> simp [Dcl.name, Dcl.names]⟩
    exact h.2.2 _ h1 _ h2 e.symm
theorem case_keys (D : Dcl) : ∀ k ∈ (casesOf D).map (·.1), k ∈ D.names := by
  cases D with
  | row n i => simp [casesOf]
  | cho n vs =>
    intro k hk
    simp only [casesOf, List.map_map, Dcl.names, List.mem_cons] at *
    exact .inr (by simpa using hk)
theorem case_keys_flat {L : List Dcl} : ∀ k ∈ (L.flatMap casesOf).map (·.1), k ∈ L.flatMap Dcl.names := by
  intro k hk
  obtain ⟨p, hp, rfl⟩ := List.mem_map.mp hk
  obtain ⟨D, hD, hp⟩ := List.mem_flatMap.mp hp
  exact List.mem_flatMap.mpr ⟨D, hD, case_keys D _ (List.mem_map_of_mem hp)⟩
theorem lookup_none_of {es : List (Str × PyData)} {k : Str} (h : k ∉ es.map (·.1)) : es.lookup k = none := by
  have := lookup_map_none (l := es) (f := (·.1)) (g := (·.2)) h
  simpa using this
abbrev St0 (x a fa : Addr) : L2.St := [some (.ref x), some (.ref a), some (.ref fa), none, none, none, none, none, none]
/-- the scope under way: its kinds are there, and its further attributes -/
def AtK (H : Hp) (T : List (Addr × Str)) (x C dx : Addr) (L : List Dcl) (H1 : Hp) (kt : Addr) (rs : List V) (r : List (Str × V)) : Prop :=
  Kp [x] H H1 ∧ LamX.Tabs T H1 ∧ H1 x = some (.ins C dx (("kinds", .ref kt) :: r)) ∧ H1 kt = some (.tup rs) ∧ DaAll H1 rs (L.map Dcl.d)
theorem AtK.kx {H : Hp} {T : List (Addr × Str)} {x C dx : Addr} {L : List Dcl} {H1 H2 : Hp} {kt : Addr} {rs : List V} {r r' : List (Str × V)} (h : AtK H T x C dx L H1 kt rs r) (k : Kx [x] H1 H2) (e : H2 x = some (.ins C dx (("kinds", .ref kt) :: r'))) : AtK H T x C dx L H2 kt rs r' := by
  obtain ⟨h1, h2, h3, h4, h5⟩ := h
  exact ⟨h1.trans k.kp, tabs_kx h2 k (by intro s m; cases List.mem_singleton.mp m; exact ⟨_, h3, ins_noT⟩), e, k.tup _ _ h4, DaAll.kp k.kp (tupOs_dcls L) h5⟩
theorem AtK.step {H : Hp} {T : List (Addr × Str)} {x C dx : Addr} {L : List Dcl} {H1 H2 : Hp} {kt : Addr} {rs : List V} {r r' : List (Str × V)} (h : AtK H T x C dx L H1 kt rs r) (s : Same H1 H2) : AtK H T x C dx L (upd H2 x (.ins C dx (("kinds", .ref kt) :: r'))) kt rs r' :=
  h.kx ((Kx.of s).set (s _ _ h.2.2.1) (fun _ z => nomatch z) (by simp)) upd_same
theorem map_sortD {bs : List (Addr × Dcl)} : (bs.mergeSort fun a b => leS a.2.name b.2.name).map (·.2) = sortD (bs.map (·.2)) := by
  unfold sortD
  rw [List.map_mergeSort]
  intro a _ b _
  rfl
theorem tupOs_iff : ∀ {l : List PyData}, tupOs l = true ↔ ∀ d ∈ l, tupO d = true
  | [] => by simp [tupOs]
  | d :: l => by
    simp only [tupOs, Bool.and_eq_true, List.forall_mem_cons]
    exact and_congr Iff.rfl tupOs_iff
/-- the next of a row of pairs with different keys is put -/
theorem DictL.putAt {H : Hp} {a : Addr} {W : List (Str × PyData)} {i : Nat} {k : Str} {d : PyData} {v : V} (h : DictL H a (W.take i)) (hW : W[i]? = some (k, d)) (nd : (W.map Prod.fst).Nodup) (ht : tupOs (W.map Prod.snd) = true) (hl : W.length ≤ 1000) (hv : Da H v d) :
    ∃ kvs, H a = some (.dK kvs) ∧ kvs.length < sizeLine ∧ DictL (upd H a (.dK (putK kvs (.inr k) v))) a (W.take (i + 1)) := by
  have hm : d ∈ W.map Prod.snd := List.mem_map_of_mem (List.mem_of_getElem? hW)
  have ht1 := tupOs_iff.mp ht
  have hn : k ∉ (W.take i).map (·.1) := by
    have n2 : ((W.take (i + 1)).map Prod.fst).Nodup := ((List.take_sublist _ _).map _).nodup nd
    rw [List.take_add_one, hW, List.map_append] at n2
    intro z
    exact (List.nodup_append.mp n2).2.2 k z k (by simp) rfl
  obtain ⟨vs, h1, h2⟩ := h
  have el : ((W.take i).map (·.1)).length = vs.length := by rw [h2.len, List.length_map, List.length_map]
  refine ⟨_, h1, ?_, ?_⟩
  · rw [kz_len el, List.length_map, List.length_take]
    exact small1000 (by omega)
  · have := DictL.put h1 h2 (lookup_none_of hn) (tupOs_iff.mpr fun z hz => ht1 z (((List.take_sublist _ _).map _).subset hz)) (ht1 d hm) hv
    rw [List.take_add_one, hW]
    exact this
theorem kz_keys {ks : List Str} {vs : List V} (h : ks.length = vs.length) : (kz ks vs).map (·.1) = ks.map Sum.inr := by
  unfold kz
  rw [List.map_map]
  have : (List.map ((fun p : Key × V => p.1) ∘ fun p : Str × V => ((Sum.inr p.1 : Key), p.2)) (ks.zip vs)) = (((ks.zip vs).map Prod.fst).map Sum.inr) := by
    rw [List.map_map]
    rfl
  rw [this, List.map_fst_zip (Nat.le_of_eq h)]
theorem da_var2 {H : Hp} {x : V} {v : Vr} (h : Da H x (varD v)) : ∃ a y, x = .ref a ∧ H a = some (.tup [.str v.1, y]) ∧ Da H y (fldD v.2) := by
  obtain ⟨a, xs, rfl, e, t⟩ := da_tup h
  obtain ⟨y, ys, rfl, h1, t⟩ := da_cons t
  obtain ⟨z, zs, rfl, h2, t⟩ := da_cons t
  cases da_nil t
  cases da_str h1
  exact ⟨a, z, rfl, e, h2⟩
theorem flat_get {α β : Type} {l : List α} {f : α → List β} {i j : Nat} {x : α} (h : l[i]? = some x) (hj : j < (f x).length) : (l.flatMap f)[((l.take i).flatMap f).length + j]? = (f x)[j]? := by
  have hi := (List.getElem?_eq_some_iff.mp h).1
  have e : l = l.take i ++ x :: l.drop (i + 1) := by
    rw [← (List.getElem?_eq_some_iff.mp h).2, List.getElem_cons_drop, List.take_append_drop]
  have e2 : l.flatMap f = (l.take i).flatMap f ++ (f x ++ (l.drop (i + 1)).flatMap f) := by
    conv => lhs; rw [e]
    rw [List.flatMap_append, List.flatMap_cons]
  rw [e2, List.getElem?_append_right (Nat.le_add_right _ _), Nat.add_sub_cancel_left, List.getElem?_append_left hj]
theorem sub_cases : ∀ L : List Dcl, List.Sublist ((L.flatMap casesOf).map Prod.fst) (L.flatMap Dcl.names)
  | [] => .slnil
  | D :: L => by
    rw [List.flatMap_cons, List.map_append, List.flatMap_cons]
    refine List.Sublist.append ?_ (sub_cases L)
    cases D with
    | row n i => exact List.nil_sublist _
    | cho n vs =>
      simp only [casesOf, Dcl.names, List.map_map]
      exact List.sublist_cons_self _ _
/-- behind an object that was not there -/
theorem Kp.kx {S : List Addr} {H H1 H2 : Hp} {p : Addr} (a : Kp S H H1) (hp : ∀ b o, H b = some o → (∀ ps, o ≠ .tbl ps) → b ≠ p) (k : Kx [p] H1 H2) : Kp S H H2 :=
  ⟨fun b o e n t => k.keep b o (a.1 b o e n t) (by simpa using hp b o e t), fun b xs e => k.tup b xs (a.2 b xs e)⟩
theorem DictL.notIns {H : Hp} {a x C dx : Addr} {es : List (Str × PyData)} {r : List (Str × V)} (h : DictL H a es) (e : H x = some (.ins C dx r)) : a ∉ [x] := by
  intro z
  obtain ⟨vs, q, _⟩ := h
  rw [List.mem_singleton.mp z, e] at q
  cases q
theorem DictL.ne {H : Hp} {a p : Addr} {es : List (Str × PyData)} (h : DictL H a es) (e : H p = none) : a ≠ p := by
  obtain ⟨vs, q, _⟩ := h
  exact ne_of_none q e
/-- the scope gets a further attribute -/
theorem DictL.over {H : Hp} {a x C dx : Addr} {es : List (Str × PyData)} {r r' : List (Str × V)} (h : DictL H a es) (e : H x = some (.ins C dx r)) (ht : tupOs (es.map (·.2)) = true) : DictL (upd H x (.ins C dx r')) a es :=
  h.kp ((Kx.refl [x] _).set e (fun _ z => nomatch z) (by simp)).kp (h.notIns e) ht
/-- the comprehension of is_declaration's answers -/
theorem scope_kinds : True := trivial
section
variable {P : Program} {w0 : World} {K : PySem.W.Frag} {mg : Str → Option Value} {base : Heap} {C BK BF : Addr}
theorem ok_init {T : List (Addr × Str)} {cc Pi f fL fD fF fN fC fI : Addr} {fd fdL fdD fdF fdN fdC fdI : FuncData} (F : Fun K "__init__" "Scope.__init__" sInit f fd) (hc : fd.code = .ref cc) (TB : LamX.TabB base mg cc Pi) (hmT : (Pi, qInit) ∈ T) (hu : ∀ p ∈ T, p.1 = Pi → p.2 = qInit)
    (B : Gb mg) (cC : Cls K C) (nA : ∀ x ∈ ["kinds", "functions", "_told", "_declared", "_cases"], NoAttr K C (Str.ofString x)) (KB : Cl0 K mg "BadKinds" BK)
    (FL : Fun K "is_list" "is_list" sIsList fL fdL) (bL : Binds K fdL ["thing"] []) (gL : mg "is_list" = some (.ref fL)) (GL : FnOk P w0 K mg base CX0 1 fL fdL ["thing"] spIsList)
    (FD : Fun K "is_declaration" "is_declaration" sIsDecl fD fdD) (bD : Binds K fdD ["thing"] []) (gD : mg "is_declaration" = some (.ref fD)) (GD : FnOk P w0 K mg base CX0 4 fD fdD ["thing"] spDecl)
    (FF : Fun K "first_again" "first_again" sFirst fF fdF) (bF : Binds K fdF ["names"] []) (gF : mg "first_again" = some (.ref fF)) (GF : FnOk P w0 K mg base CX0 1 fF fdF ["names"] spFirst)
    (FN : Fun K "declared_names" "declared_names" sDeclN fN fdN) (bN : Binds K fdN ["declaration"] []) (gN : mg "declared_names" = some (.ref fN)) (GN : FnOk P w0 K mg base CX0 1 fN fdN ["declaration"] spDeclN)
    (FC : Fun K "_check_functions" "_check_functions" sChk fC fdC) (bC : Binds K fdC ["functions"] []) (gC : mg "_check_functions" = some (.ref fC)) (GC : FnOk P w0 K mg base (L2.CX P w0) 4 fC fdC ["functions"] (spChk P w0 BF))
    (FI : Fun K "_in_code" "_in_code" sInC fI fdI) (bI : Binds K fdI ["told"] []) (gI : mg "_in_code" = some (.ref fI)) (GI : FnOk P w0 K mg base CX0 3 fI fdI ["told"] spInC)
    {fK : Addr} {fdK : FuncData} (FK : Fun K "_kinds_in_code" "_kinds_in_code" sKsic fK fdK) (bK : Binds K fdK ["kinds"] []) (gK : mg "_kinds_in_code" = some (.ref fK)) (GK : FnOk P w0 K mg base CX0 2 fK fdK ["kinds"] spKsic) :
    FnOk P w0 K mg base (L2.CX P w0) 6 f fd ["self", "kinds", "functions"] (spScope P w0 T C BK BF) := by
  refine Fun.okXC F hc scInit (fun vs H Q E h => ?_) (fun A outer s H vs Q E hr h => ?_)
  · obtain ⟨x, dx, kv, fv, rfl, _⟩ := h
    rfl
  · obtain ⟨x, dx, kv, fv, rfl, ex, hT, h⟩ := h
    have nK := nA "kinds" (by simp)
    have nF := nA "functions" (by simp)
    have nT := nA "_told" (by simp)
    have nD := nA "_declared" (by simp)
    have nC := nA "_cases" (by simp)
    have hr1 := hr.mono (by decide : 1 ≤ 5)
    have hr2 := hr.mono (by decide : 2 ≤ 5)
    have hr3 := hr.mono (by decide : 3 ≤ 5)
    have hr4 := hr.mono (by decide : 4 ≤ 5)
    have hub := hu_of hr
    have stop := fun (z : True) => z
    refine ⟨_, pss_cons (ps_if (PW.pt (pw_or (pt_not (pt_val (pe_call GL hr1 (by rfl) gL FL.kp bL .nil pass0 (pa_cons (pv 1) pa_nil))))
          (pw_or1 (pt_not (pt_val (pe_callB (cr_all rfl) (by rfl) B.all (by decide +kernel) (pa_cons (pe_lc (own := [("kind", 8)]) (g := gName 8) (tt := tYes) (by rfl) scInit.nd (PI.or (pi_list (pv 1)) (pi_tup (pv 1))) (blkOk_by (N := nInit) (sc := defScope sInit) (by decide +kernel)) (fun _ _ _ _ _ => pg_name (i := 8) scInit.nd rfl (Or.inl rfl)) (fun _ _ _ _ _ => pts_nil)
            (fun _ _ _ _ _ => pe_call GD hr4 (by rfl) gD FD.kp bD .nil pass0 (pa_cons (pv 8) pa_nil))) pa_nil)))))))
          (pss_one (ps_raise rfl (takes_of rfl rfl rfl rfl) (pmk_own PySem.F.excBase_ValueError KB.x KB.g KB.k (raises_own KB.b KB.t) (by rfl)))) pss_nil)
      (pss_cons (ps_if (pt_cmpR op_notN (pe_call GF hr1 (by rfl) gF FF.kp bF .nil pass0 (pa_cons (pe_lc2 (own := [("kind", 8), ("name", 3)]) (vs1 := [3]) (g := gName 8) (tt := tYes) (wi1 := iList K (tCall spDeclN [] E0 (tCons (tVar 8) tNil))) (g1 := gName 3) (tt1 := tYes) (te := tVar 3) (by rfl) scInit.nd (PI.or (pi_list (pv 1)) (pi_tup (pv 1))) (blkOk_by (N := nInit) (sc := defScope sInit) (by decide +kernel)) (by simp)
            (fun _ _ _ _ _ => pg_name (i := 8) scInit.nd rfl (Or.inl rfl)) (fun _ _ _ _ _ => pts_nil) (fun _ _ _ _ _ => pi_list (pe_call GN hr1 (by rfl) gN FN.kp bN .nil pass0 (pa_cons (pv 8) pa_nil)))
            (fun _ _ _ _ _ => pg_name (i := 3) scInit.nd rfl (Or.inl rfl)) (fun _ _ _ _ _ => pts_nil) (fun _ _ _ _ _ => pv 3)) pa_nil)) pe_non (nomark _))
          (pss_one (ps_raise rfl (takes_of rfl rfl rfl rfl) (pmk_own PySem.F.excBase_ValueError KB.x KB.g KB.k (raises_own KB.b KB.t) (by rfl)))) pss_nil)
      (Evl.pss_cut (ps_expr (pe_call GC hr4 (by rfl) gC FC.kp bC .nil (passes_call (takes_of rfl rfl rfl rfl) fun _ _ _ _ h => h) (pa_cons (pv 2) pa_nil)))
      (Evl.pss_cut (ps_fld (pv 0) (pe_callTy call_tuple_of (by rfl) B.tuple (by decide +kernel) (pa_cons (pe_sortKey (k := 3) (T := T) (by rfl) B.sorted (pa_cons (pv 1) pa_nil) TB rfl hmT hu hr rfl rfl rfl rfl rfl (fun _ _ _ _ _ _ _ => rfl)) pa_nil)) rfl)
      (Evl.pss_cut (ps_fld (pv 0) (pe_dc (own := [("name", 3)]) (g := gName 3) (tt := tYes) (by rfl) scInit.nd (pi_list (pe_callB (call_sortedD rfl) (by rfl) B.sorted (by decide +kernel) (pa_cons (pv 2) pa_nil))) (blkOk_by (N := nInit) (sc := defScope sInit) (by decide +kernel)) (fun _ _ _ _ _ => pg_name (i := 3) scInit.nd rfl (Or.inl rfl)) (fun _ _ _ _ _ => pts_nil)
            (fun _ _ _ _ _ => pv 3) (fun _ _ _ _ _ => pe_call GI hr3 (by rfl) gI FI.kp bI .nil pass0 (pa_cons (pe_dget hub (pv 2) (pv 3) (fun _ _ => rfl)) pa_nil))) rfl)
      (Evl.pss_cut (ps_fld (pv 0) (pe_callTy call_dictD (by rfl) B.dict (by decide +kernel) (pa_cons (pe_fld (pv 0) rfl) pa_nil)) rfl)
      (Evl.pss_cut (ps_fld (pv 0) (pe_dc (own := [("kind", 8)]) (g := gName 8) (tt := tYes) (tk := tOp (rIxT K) (tVar 8) (tC (.int 1))) (tv := tVar 8) (by rfl) scInit.nd (pi_tup (pe_fld (pv 0) rfl)) (blkOk_by (N := nInit) (sc := defScope sInit) (by decide +kernel)) (fun _ _ _ _ _ => pg_name (i := 8) scInit.nd rfl (Or.inl rfl)) (fun _ _ _ _ _ => pts_nil)
            (fun _ _ _ _ _ => pe_ix ix_tup (pv 8) pe_int (fun _ _ => rfl)) (fun _ _ _ _ _ => pv 8)) rfl)
      (Evl.pss_cut (ps_fld (pv 0) pe_dnewK rfl)
      (pss_one (ps_for (passes_of rfl) rfl (pi_tup (pe_fld (pv 0) rfl)) (pg_tup (by rfl) (pgs_cons (pg_name (i := 4) scInit.nd rfl (Or.inl rfl)) (pgs_cons (pg_name (i := 3) scInit.nd rfl (Or.inl rfl)) (pgs_cons (pg_name (i := 5) scInit.nd rfl (Or.inl rfl)) pgs_nil))))
        (pss_one (ps_if (pt_cmpR op_eq (pv 4) pe_str (nomark _))
          (pss_one (ps_for (passes_of rfl) rfl (pi_tup (pv 5)) (pg_tup (by rfl) (pgs_cons (pg_name (i := 6) scInit.nd rfl (Or.inl rfl)) (pgs_cons (pg_name (i := 7) scInit.nd rfl (Or.inl rfl)) pgs_nil)))
            (pss_one (ps_dput hub (pe_fld (pv 0) rfl) (pv 6) (pe_tup (pa_cons (pv 3) (pa_cons (pe_call GK hr2 (by rfl) gK FK.kp bK .nil pass0 (pa_cons (pv 7) pa_nil)) pa_nil))) rfl)))) pss_nil))))))))))), ?_⟩
    rcases h with ⟨d, hd, hl, k⟩ | ⟨a, xs, ds, bs, rfl, hs, hd, hlen, hres, hall, h60, k⟩ | ⟨a, xs, L, rfl, hs, hd, ok, h60, h⟩
    · refine ⟨_, rfl, kv, d, rfl, hd, fun H1 s1 => ⟨_, rfl, ?_⟩⟩
      rw [hl]
      exact iteT (k H1 s1)
    · have hda : ∃ d, Da H (.ref a) d ∧ (isLstD d || isTupD d) = true := by
        rcases hs with e | e
        · exact ⟨_, .lst e hd, rfl⟩
        · exact ⟨_, .tup e hd, rfl⟩
      obtain ⟨d, hda, hl⟩ := hda
      refine ⟨_, rfl, .ref a, d, rfl, hda, fun H1 s1 => ⟨_, rfl, ?_⟩⟩
      rw [hl]
      refine iteF (or_seq (hs.same s1) (fun Q q => ⟨_, rfl, q⟩) fun J G w hG p hp => lc_da w (bs.map PyData.bool) (by rw [List.length_map, hlen, hd.len]) (tupOs_bools _) (small1000 (by have := hd.len; omega)) hp hG ?_ ?_)
      · intro i y d R H' hx' hd' s' hR
        obtain ⟨d', hd2, hx2⟩ := hd.get hx'
        rw [List.getElem?_map] at hd'
        obtain ⟨b, hb, rfl⟩ := Option.map_eq_some_iff.mp hd'
        exact ⟨rfl, _, rfl, y, d', b, rfl, hx2.same (s1.trans s'), hres i d' b hd2 hb, fun H'' s'' => hR _ _ s'' (.bl b)⟩
      · intro H' ys s' e' dy
        rw [da_bools dy] at e'
        refine ⟨p, _, rfl, SqL.of e', _, rfl, ?_⟩
        rw [hall]
        exact iteT (k H' (s1.trans s'))
    · have hda : ∃ d, Da H (.ref a) d ∧ (isLstD d || isTupD d) = true := by
        rcases hs with e | e
        · exact ⟨_, .lst e hd, rfl⟩
        · exact ⟨_, .tup e hd, rfl⟩
      obtain ⟨d, hda, hl⟩ := hda
      have eL : xs.length = L.length := by rw [hd.len, List.length_map]
      refine ⟨_, rfl, .ref a, d, rfl, hda, fun H1 s1 => ⟨_, rfl, ?_⟩⟩
      rw [hl]
      refine iteF (or_seq (hs.same s1) (fun Q q => ⟨_, rfl, q⟩) fun J G w hG p hp => lc_da w ((List.replicate L.length true).map PyData.bool) (by simp [eL]) (tupOs_bools _) (small1000 (by omega)) hp hG ?_ ?_)
      · intro i y d R H' hx' hd' s' hR
        obtain ⟨d', hd2, hx2⟩ := hd.get hx'
        rw [List.getElem?_map] at hd' hd2
        obtain ⟨D, hD, rfl⟩ := Option.map_eq_some_iff.mp hd2
        obtain ⟨b, hb, rfl⟩ := Option.map_eq_some_iff.mp hd'
        have et : b = true := List.eq_of_mem_replicate (List.mem_of_getElem? hb)
        subst et
        exact ⟨rfl, _, rfl, y, D.d, true, rfl, hx2.same (s1.trans s'), (ok D (List.mem_of_getElem? hD)).res, fun H'' s'' => hR _ _ s'' (.bl true)⟩
      intro H2 ys s2 e' dy
      rw [da_bools dy] at e'
      refine ⟨p, _, rfl, SqL.of e', _, rfl, ?_⟩
      rw [all_true]
      refine iteF ?_
      have s2 := s1.trans s2
      clear s1 e' dy hp hG w
      -- the names, all different?
      refine or_seq (hs.same s2) (fun Q q => ⟨_, rfl, q⟩) fun J G w hG D hD => in_it w (fun i H' => Same H2 H' ∧ H' D = some (.lst (((L.take i).flatMap Dcl.names).map V.str))) ⟨Same.new hD, upd_same⟩ (fun i H' _ ⟨e, _⟩ => hG H' e) ?_ ?_
      · rintro i y H3 H' hi ⟨s3, e3⟩ ⟨rfl, hx⟩
        obtain ⟨d', hd2, hx2⟩ := hd.get hx
        rw [List.getElem?_map] at hd2
        obtain ⟨E0', hE, rfl⟩ := Option.map_eq_some_iff.mp hd2
        have okE := ok E0' (List.mem_of_getElem? hE)
        refine ⟨rfl, yes ?_⟩
        refine ⟨_, rfl, y, E0', rfl, hx2.same (s2.trans s3), okE, fun H4 q s4 hq eq => ⟨q, rfl, ⟨_, SqL.of eq⟩, ?_⟩⟩
        have e4 := s4 _ _ e3
        have nqD : q ≠ D := fun z => by
          rw [z, e3] at hq
          cases hq
        have l1 := flat5 (L.take i) fun d hd => ok d (List.mem_of_mem_take hd)
        have l2 : (L.take i).length ≤ 60 := by rw [List.length_take]; omega
        have l3 := names5 okE
        refine in_it walk_list (fun j H5 => Same H2 H5 ∧ H5 q = some (.lst (E0'.names.map V.str)) ∧ H5 D = some (.lst (((L.take i).flatMap Dcl.names ++ E0'.names.take j).map V.str))) ⟨s3.trans s4, eq, by rw [List.take_zero, List.append_nil]; exact e4⟩ (fun j H5 _ ⟨_, e, _⟩ => SqL.of e) ?_ ?_
        · rintro j z H5 H6 hj ⟨s5, e5, e6⟩ ⟨rfl, hz⟩
          rw [List.getElem?_map] at hz
          obtain ⟨nm, hnm, rfl⟩ := Option.map_eq_some_iff.mp hz
          refine ⟨rfl, yes ⟨_, rfl, _, e6, ?_, fun b o e => ?_, ?_, ?_⟩⟩
          · rw [List.length_map, List.length_append, List.length_take]
            exact small1000 (by omega)
          · rw [upd_ne (ne_of_none e hD)]
            exact s5 b o e
          · rw [upd_ne nqD]
            exact e5
          · rw [upd_same, List.take_add_one, hnm, List.map_append, List.map_append, List.map_append]
            simp
        · rintro H5 ⟨s5, e5, e6⟩
          rw [List.length_map, List.take_of_length_le (Nat.le_refl _)] at e6
          exact ⟨s5, by rw [flat_take hE]; exact e6⟩
      rintro H3 ⟨s3, e3⟩
      rw [eL, List.take_of_length_le (Nat.le_refl _)] at e3
      have s3 := s2.trans s3
      have l1 := flat5 L ok
      refine ⟨D, _, rfl, e3, by omega, fun H4 v s4 hn hnn => ⟨rfl, _, rfl, ?_⟩⟩
      have s4 := s3.trans s4
      rcases h with ⟨nd, k⟩ | ⟨nd, h⟩
      · obtain ⟨i, rfl⟩ := hnn nd
        exact iteT (k H4 s4)
      rw [hn nd]
      refine iteF ?_
      clear hn hnn e3 s3 hD hG w
      -- the functions are looked at
      rcases h with hb | ⟨fa, fs, rfl, hf, fnd, fok, f64, k⟩
      · refine ⟨fun _ _ => False, ⟨_, rfl, ?_⟩, fun _ _ z => z.elim⟩
        show spChk P w0 BF ([fv] ++ []) H4 (fun _ _ => False) E
        exact spChk_any (hb H4 s4)
      refine ⟨fun σ H1 => Same H H1 ∧ σ = [some (.ref x), some (.ref a), some (.ref fa), none, none, none, none, none, none], ?_, ?_⟩
      · obtain ⟨vs, e1, e2⟩ := hf.same s4
        have el : vs.length = fs.length := by rw [e2.len, List.length_map, List.length_map]
        refine ⟨_, rfl, .ref fa, rfl, .inr (.inr (.inr ⟨fa, List.zip ((fs.map fnE).map Prod.fst) vs, rfl, e1, ?_, ?_, fun p hp => ?_, fun _ => true, fun p hp => ?_, fun _ H' s' => ⟨s4.trans s', rfl⟩, fun p _ z => nomatch z⟩))⟩
        · rw [List.length_zip, List.length_map, List.length_map, el, Nat.min_self]
          exact f64
        · rw [List.map_fst_zip (by rw [List.length_map, List.length_map, el]; exact Nat.le_refl _), List.map_map]
          exact fnd
        · have := (List.of_mem_zip hp).1
          rw [List.map_map] at this
          obtain ⟨f, hf, e⟩ := List.mem_map.mp this
          rw [← e]
          exact (fok f hf).1
        · obtain ⟨j, hj⟩ := List.getElem?_of_mem hp
          rw [List.getElem?_zip_eq_some] at hj
          obtain ⟨d, hd, hv⟩ := e2.get hj.2
          rw [List.getElem?_map, List.getElem?_map] at hd
          obtain ⟨q, hq, rfl⟩ := Option.map_eq_some_iff.mp hd
          obtain ⟨f, hf, rfl⟩ := Option.map_eq_some_iff.mp hq
          exact ⟨_, hv, (fok f (List.mem_of_getElem? hf)).2.res'⟩
      rintro σ H5 ⟨s5, rfl⟩
      clear s4 s2
      -- self.kinds
      refine ⟨fun σ H1 => σ = St0 x a fa ∧ ∃ kt rs, AtK H T x C dx (sortD L) H1 kt rs [], ?_, ?_⟩
      · obtain ⟨bs, eb, eL2, hbs⟩ := da_pairs (hd.same s5)
        refine ⟨_, rfl, hT.ext s5, Addr × Dcl, a, bs, (·.1), (·.2.name), rfl, ?_, fun b hb => ?_, fun H6 p e6 t6 hp => ?_⟩
        · rw [← eb]
          exact (hs.same s5).imp SqL.of SqT.of
        · obtain ⟨b2, y, r, e1, e2⟩ := da_name (hbs b hb)
          cases e1
          exact ⟨y, r, e2⟩
        · refine ⟨p, _, rfl, .inl ⟨SqL.of upd_same, fun l hl => ?_⟩⟩
          have ex6 : H6 x = some (.ins C dx []) := e6 _ _ (s5 _ _ ex) fun _ z => nomatch z
          have s7 : Same H6 (upd (upd H6 p (.lst ((bs.mergeSort fun a b => leS a.2.name b.2.name).map fun b => V.ref b.1))) l (.tup ((bs.mergeSort fun a b => leS a.2.name b.2.name).map fun b => V.ref b.1))) := (Same.new hp).trans (Same.new hl)
          have e7 : (upd (upd H6 p (.lst ((bs.mergeSort fun a b => leS a.2.name b.2.name).map fun b => V.ref b.1))) l (.tup ((bs.mergeSort fun a b => leS a.2.name b.2.name).map fun b => V.ref b.1))) l = some (.tup ((bs.mergeSort fun a b => leS a.2.name b.2.name).map fun b => V.ref b.1)) := upd_same
          generalize upd (upd H6 p (.lst ((bs.mergeSort fun a b => leS a.2.name b.2.name).map fun b => V.ref b.1))) l (.tup ((bs.mergeSort fun a b => leS a.2.name b.2.name).map fun b => V.ref b.1)) = H7 at s7 e7
          have k7 : Kp [x] H H7 := ((Kp.of s5).trans (.ext e6)).trans (.of s7)
          have kx : Kx [x] H7 (upd H7 x (.ins C dx [("kinds", .ref l)])) := (Kx.refl _ _).set (s7 _ _ ex6) (fun _ z => nomatch z) (by simp)
          refine ⟨_, rfl, x, C, dx, [], rfl, s7 _ _ ex6, cC, nK, by decide, rfl, l, _, k7.trans kx.kp, tabs_kx (t6.ext s7) kx (by intro s m; cases List.mem_singleton.mp m; exact ⟨_, s7 _ _ ex6, ins_noT⟩), upd_same, kx.tup _ _ e7, ?_⟩
          refine DaAll.kp kx.kp (tupOs_dcls _) ?_
          rw [eL2, ← map_sortD]
          refine pairs_da fun b hb => ?_
          refine Da.kp (((Kp.of (Same.refl H5)).trans (Kp.ext (S := [x]) e6)).trans (.of s7)) (tupO_dcl _) (hbs b ?_)
          exact (List.mergeSort_perm _ _).mem_iff.mp hb
      rintro σ H6 ⟨rfl, kt, rs, h6⟩
      -- self.functions
      have nfx : fa ∉ [x] := by
        intro z
        obtain ⟨vs, e1, _⟩ := hf
        rw [List.mem_singleton.mp z, ex] at e1
        cases e1
      have fndS : ((sortF fs).map (·.1)).Nodup := ((sortF_perm fs).map _).nodup_iff.mpr fnd
      have flen : (sortF fs).length = fs.length := (sortF_perm fs).length_eq
      refine ⟨fun σ H1 => σ = St0 x a fa ∧ ∃ kt rs fd, AtK H T x C dx (sortD L) H1 kt rs [("functions", .ref fd)] ∧ DictL H1 fd ((sortF fs).map cfnE) ∧ Out H fd, ?_, ?_⟩
      · have hf6 := hf.kp h6.1 nfx (tupOs_fn fs)
        obtain ⟨vs, e1, e2⟩ := hf6
        have el : ((fs.map fnE).map (·.1)).length = vs.length := by rw [e2.len]; simp only [List.length_map]
        refine ⟨_, rfl, fa, _, _, rfl, .inl e1, kz_keys el, by rw [List.length_map, List.length_map]; exact f64, fun ys p pm srt hp => ⟨p, rfl, ⟨_, SqL.of upd_same⟩, fun D hD => ?_⟩⟩
        have ey : ys = (sortF fs).map (·.1) := by
          refine sorted_uniq (pw_sorted srt) (sortF_names fs) (pm.trans ?_)
          rw [List.map_map]
          exact ((sortF_perm fs).map _).symm
        subst ey
        have s7 : Same H6 (upd H6 p (.lst (((sortF fs).map (·.1)).map V.str))) := Same.new hp
        have e7 : (upd H6 p (.lst (((sortF fs).map (·.1)).map V.str))) p = some (.lst (((sortF fs).map (·.1)).map V.str)) := upd_same
        generalize upd H6 p (.lst (((sortF fs).map (·.1)).map V.str)) = H7 at s7 e7 hD
        have hf7 : DictL H7 fa (fs.map fnE) := DictL.same ⟨vs, e1, e2⟩ s7
        refine in_it walk_list (fun i H' => Same H7 H' ∧ DictL H' D (((sortF fs).map cfnE).take i)) ⟨Same.new hD, [], upd_same, .nil⟩ (fun i H' _ ⟨e, _⟩ => SqL.of (e _ _ e7)) ?_ ?_
        · rintro i y H1 H2 hi ⟨s8, d8⟩ ⟨rfl, hy⟩
          rw [List.getElem?_map, List.getElem?_map] at hy
          obtain ⟨w, hw, rfl⟩ := Option.map_eq_some_iff.mp hy
          obtain ⟨f, hfi, rfl⟩ := Option.map_eq_some_iff.mp hw
          have hfm : f ∈ fs := (sortF_perm fs).mem_iff.mp (List.mem_of_getElem? hfi)
          obtain ⟨v, g1, g2⟩ := (hf7.same s8).get (k := f.1) (d := fnD f.2) (lookup_map_some (f := (·.1)) (g := fun f : NFn => fnD f.2) fnd hfm)
          refine ⟨rfl, yes ⟨_, rfl, _, rfl, _, rfl, fa, v, rfl, g1, v, f.2, rfl, g2, ?_, fun H3 z s9 dz => ?_⟩⟩
          · exact Nat.le_trans (fok f hfm).2.len (by decide)
          · obtain ⟨kvs, q1, q2, q3⟩ := (d8.same s9).putAt (k := f.1) (d := fnD (codedF f.2)) (v := z) (by rw [List.getElem?_map, hfi]; rfl) (by rw [List.map_map]; exact fndS) (tupOs_cfn _) (by rw [List.length_map]; omega) dz
            refine ⟨kvs, .inr f.1, rfl, q1, q2, fun b o e => ?_, q3⟩
            rw [upd_ne (ne_of_none e hD)]
            exact s9 _ _ (s8 b o e)
        · rintro H8 ⟨s8, d8⟩
          rw [List.length_map, List.length_map, List.take_of_length_le (by rw [List.length_map]; exact Nat.le_refl _)] at d8
          have s9 := s7.trans s8
          refine ⟨_, rfl, x, C, dx, _, rfl, s9 _ _ h6.2.2.1, cC, nF, (by show 1 < 1000; decide), rfl, kt, rs, D, h6.step s9, d8.over (s9 _ _ h6.2.2.1) (tupOs_cfn _), Out.kp (h6.1.trans (.of s7)) hD (by intro s hs; rw [List.mem_singleton.mp hs]; exact ne_of_none (s7 _ _ h6.2.2.1) hD)⟩
      rintro σ H7 ⟨rfl, kt, rs, fdA, h7, df7, of⟩
      clear h6
      -- self._told
      refine ⟨fun σ H1 => σ = St0 x a fa ∧ ∃ kt rs fd td, AtK H T x C dx (sortD L) H1 kt rs [("functions", .ref fd), ("_told", .ref td)] ∧ DictL H1 fd ((sortF fs).map cfnE) ∧ DictL H1 td ((sortF fs).map cfnE) ∧ Out H fd ∧ Out H td, ?_, ?_⟩
      · obtain ⟨vs, e1, e2⟩ := id df7
        refine ⟨_, rfl, x, C, dx, _, .ref fdA, rfl, h7.2.2.1, cC, nF, rfl, fdA, _, rfl, .inl e1, fun p hp => ?_⟩
        have s8 : Same H7 (upd H7 p (.dK (kz (((sortF fs).map cfnE).map (·.1)) vs))) := Same.new hp
        have d8 : DictL (upd H7 p (.dK (kz (((sortF fs).map cfnE).map (·.1)) vs))) p ((sortF fs).map cfnE) := ⟨vs, upd_same, e2.same s8⟩
        generalize upd H7 p (.dK (kz (((sortF fs).map cfnE).map (·.1)) vs)) = H8 at s8 d8
        refine ⟨_, rfl, x, C, dx, _, rfl, s8 _ _ h7.2.2.1, cC, nT, (by show 2 < 1000; decide), rfl, kt, rs, fdA, p, h7.step s8, (df7.same s8).over (s8 _ _ h7.2.2.1) (tupOs_cfn _), d8.over (s8 _ _ h7.2.2.1) (tupOs_cfn _), of, Out.kp h7.1 hp (by intro s hs; rw [List.mem_singleton.mp hs]; exact ne_of_none h7.2.2.1 hp)⟩
      rintro σ H8 ⟨rfl, kt, rs, fdA, td, h8, df8, dt8, of, ot⟩
      clear h7 df7
      -- self._declared
      have ndS : ((sortD L).flatMap Dcl.names).Nodup := (nodup_perm_flat (sortD_perm L)).mpr nd
      have dlen : (sortD L).length = L.length := (sortD_perm L).length_eq
      refine ⟨fun σ H1 => σ = St0 x a fa ∧ ∃ kt rs fd td dd, AtK H T x C dx (sortD L) H1 kt rs [("functions", .ref fd), ("_told", .ref td), ("_declared", .ref dd)] ∧ DictL H1 fd ((sortF fs).map cfnE) ∧ DictL H1 td ((sortF fs).map cfnE) ∧ DictL H1 dd ((sortD L).map fun D => (D.name, D.d)) ∧ Out H fd ∧ Out H td ∧ Out H dd, ?_, ?_⟩
      · obtain ⟨_, _, ex8, ek8, da8⟩ := id h8
        refine ⟨_, rfl, x, C, dx, _, .ref kt, rfl, ex8, cC, nK, rfl, kt, rfl, ⟨_, SqT.of ek8⟩, fun D hD => ?_⟩
        refine in_it walk_tup (fun i H' => Same H8 H' ∧ DictL H' D (((sortD L).map fun D => (D.name, D.d)).take i)) ⟨Same.new hD, [], upd_same, .nil⟩ (fun i H' _ ⟨e, _⟩ => SqT.of (e _ _ ek8)) ?_ ?_
        · rintro i y H1 H2 hi ⟨s9, d9⟩ ⟨rfl, hy⟩
          obtain ⟨d', hd2, hx2⟩ := da8.get hy
          rw [List.getElem?_map] at hd2
          obtain ⟨D', hD', rfl⟩ := Option.map_eq_some_iff.mp hd2
          obtain ⟨b, y2, r, rfl, eb⟩ := da_name (hx2.same s9)
          obtain ⟨kvs, q1, q2, q3⟩ := d9.putAt (k := D'.name) (d := D'.d) (v := .ref b) (by rw [List.getElem?_map, hD']; rfl) (by rw [List.map_map]; exact nodup_dnames ndS) (tupOs_dn _) (by rw [List.length_map]; omega) (hx2.same s9)
          refine ⟨rfl, yes ⟨_, rfl, b, _, _, _, rfl, rfl, SqT.of eb, at1, _, rfl, kvs, .inr D'.name, rfl, q1, q2, fun b o e => ?_, q3⟩⟩
          rw [upd_ne (ne_of_none e hD)]
          exact s9 b o e
        · rintro H9 ⟨s9, d9⟩
          rw [da8.len, List.length_map, List.take_of_length_le (by rw [List.length_map]; exact Nat.le_refl _)] at d9
          refine ⟨_, rfl, x, C, dx, _, rfl, s9 _ _ ex8, cC, nD, (by show 3 < 1000; decide), rfl, kt, rs, fdA, td, D, h8.step s9, (df8.same s9).over (s9 _ _ ex8) (tupOs_cfn _), (dt8.same s9).over (s9 _ _ ex8) (tupOs_cfn _), d9.over (s9 _ _ ex8) (tupOs_dn _), of, ot, Out.kp h8.1 hD (by intro s hs; rw [List.mem_singleton.mp hs]; exact ne_of_none ex8 hD)⟩
      rintro σ H9 ⟨rfl, kt, rs, fdA, td, dd, h9, df9, dt9, dd9, of, ot, od⟩
      clear h8 df8 dt8
      -- self._cases
      refine ⟨fun σ H1 => σ = St0 x a fa ∧ ∃ kt rs fd td dd cd, AtK H T x C dx (sortD L) H1 kt rs [("functions", .ref fd), ("_told", .ref td), ("_declared", .ref dd), ("_cases", .ref cd)] ∧ DictL H1 fd ((sortF fs).map cfnE) ∧ DictL H1 td ((sortF fs).map cfnE) ∧ DictL H1 dd ((sortD L).map fun D => (D.name, D.d)) ∧
        H1 cd = some (.dK []) ∧ (∀ b o, H b = some o → (∀ ps, o ≠ .tbl ps) → b ≠ cd) ∧ fd ≠ cd ∧ td ≠ cd ∧ dd ≠ cd ∧ x ≠ cd ∧ Out H fd ∧ Out H td ∧ Out H dd, ?_, ?_⟩
      · intro p hp
        have s10 : Same H9 (upd H9 p (.dK [])) := Same.new hp
        have ex9 := h9.2.2.1
        have hpx : x ≠ p := ne_of_none ex9 hp
        refine ⟨_, rfl, x, C, dx, _, rfl, s10 _ _ ex9, cC, nC, (by show 4 < 1000; decide), rfl, kt, rs, fdA, td, dd, p, h9.step s10, (df9.same s10).over (s10 _ _ ex9) (tupOs_cfn _), (dt9.same s10).over (s10 _ _ ex9) (tupOs_cfn _), (dd9.same s10).over (s10 _ _ ex9) (tupOs_dn _), ?_, ?_, df9.ne hp, dt9.ne hp, dd9.ne hp, hpx, of, ot, od⟩
        · rw [upd_ne hpx.symm]
          exact upd_same
        · intro b o e t
          by_cases hb : b = x
          · rw [hb]
            exact hpx
          · exact ne_of_none (h9.1.1 b o e (by simpa using hb) t) hp
      rintro σ H10 ⟨rfl, kt, rs, fdA, td, dd, cd, h10, df10, dt10, dd10, ec, hcn, nc1, nc2, nc3, nc4, of, ot, od⟩
      clear h9 df9 dt9 dd9
      obtain ⟨k10, t10, ex10, ek10, da10⟩ := id h10
      have nW : (((sortD L).flatMap casesOf).map Prod.fst).Nodup := (sub_cases _).nodup ndS
      have lW : ((sortD L).flatMap casesOf).length ≤ 1000 := by
        have h1 := (sub_cases (sortD L)).length_le
        rw [List.length_map] at h1
        have h2 := flat5 (sortD L) fun d hd => ok d ((sortD_perm L).mem_iff.mp hd)
        omega
      have ncx : cd ∉ [x] := by
        intro z
        exact nc4 (List.mem_singleton.mp z).symm
      have exK : ∀ {H' : Hp}, Kx [cd] H10 H' → H' x = some (.ins C dx _) := fun k => k.keep _ _ ex10 (by simpa using nc4)
      refine ⟨_, rfl, x, C, dx, _, .ref kt, rfl, ex10, cC, nK, rfl, kt, rfl, ⟨_, SqT.of ek10⟩, for_tup (K := K) (a := kt) (xs := rs)
        (fun i σ H' => Kx [cd] H10 H' ∧ DictL H' cd (((sortD L).flatMap casesOf).take ((((sortD L).take i).flatMap casesOf).length)) ∧ ∃ y3 y4 y5 y6 y7 y8, σ = [some (.ref x), some (.ref a), some (.ref fa), y3, y4, y5, y6, y7, y8])
        ⟨Kx.refl _ _, ⟨[], ec, .nil⟩, none, none, none, none, none, none, rfl⟩ (fun i σ H' _ ⟨k, _⟩ => SqT.of (k.tup _ _ ek10)) ?_ ?_⟩
      · rintro i y σ H11 hy ⟨k11, d11, y3, y4, y5, y6, y7, y8, rfl⟩
        obtain ⟨d', hd2, hx2⟩ := da10.get hy
        rw [List.getElem?_map] at hd2
        obtain ⟨D, hD, rfl⟩ := Option.map_eq_some_iff.mp hd2
        have hx3 := Da.kp k11.kp (tupO_dcl D) hx2
        have okD : D.Ok := ok D ((sortD_perm L).mem_iff.mp (List.mem_of_getElem? hD))
        have off : (((sortD L).take (i + 1)).flatMap casesOf).length = (((sortD L).take i).flatMap casesOf).length + (casesOf D).length := by
          rw [flat_take hD, List.length_append]
        cases D with
        | row n it =>
          obtain ⟨b, rfl, eb⟩ := da_row hx3
          refine ⟨b, _, rfl, SqT.of eb, rfl, _, _, rfl, _, _, rfl, _, _, rfl, rfl, ?_⟩
          refine ⟨_, rfl, rfl, _, rfl, ?_⟩
          rw [streq]
          refine iteF ⟨k11, ?_, _, _, _, _, _, _, rfl⟩
          rw [off]
          exact d11
        | cho n vs =>
          obtain ⟨b, c, ws, rfl, eb, ec2, dw⟩ := da_cho hx3
          refine ⟨b, _, rfl, SqT.of eb, rfl, _, _, rfl, _, _, rfl, _, _, rfl, rfl, ?_⟩
          refine ⟨_, rfl, rfl, _, rfl, ?_⟩
          rw [streq]
          refine iteT ⟨_, rfl, c, rfl, ⟨_, SqT.of ec2⟩, for_tup (K := K) (a := c) (xs := ws)
            (fun j σ H' => Kx [cd] H11 H' ∧ DictL H' cd (((sortD L).flatMap casesOf).take ((((sortD L).take i).flatMap casesOf).length + j)) ∧ ∃ y6 y7 y8, σ = [some (.ref x), some (.ref a), some (.ref fa), some (.str n), some (.str "choice"), some (.ref c), y6, y7, y8])
            ⟨Kx.refl _ _, d11, _, _, _, rfl⟩ (fun i σ H' _ ⟨k, _⟩ => SqT.of (k.tup _ _ ec2)) ?_ ?_⟩
          · rintro j z σ H12 hz ⟨k12, d12, z6, z7, z8, rfl⟩
            obtain ⟨dv, hv1, hv2⟩ := dw.get hz
            rw [List.getElem?_map] at hv1
            obtain ⟨v, hv, rfl⟩ := Option.map_eq_some_iff.mp hv1
            obtain ⟨q, y2, rfl, eq, hy2⟩ := da_var2 (Da.kp k12.kp (tupO_var v) hv2)
            have okv : OkV v := by
              cases okD with
              | cho h h1 h4 ok => exact ok v (List.mem_of_getElem? hv)
            refine ⟨q, _, rfl, SqT.of eq, rfl, _, _, rfl, _, _, rfl, rfl, ?_⟩
            refine ⟨_, rfl, _, rfl, y2, v.2, rfl, hy2, Nat.le_trans okv.len (by decide), fun H13 u s13 du => ?_⟩
            have k13 : Kx [cd] H10 H13 := (k11.trans k12).same s13
            refine ⟨(by show 2 ≤ sizeLine; decide), fun p hp => ?_⟩
            have s14 : Same H13 (upd H13 p (.tup [.str n, u])) := Same.new hp
            have dp : Da (upd H13 p (.tup [.str n, u])) (.ref p) (varD (n, v.2.map codedS)) := .tup upd_same (.cons (.str _) (.one (du.same s14)))
            have d14 := (d12.same s13).same s14
            generalize upd H13 p (.tup [.str n, u]) = H14 at s14 dp d14
            have k14 := k13.same s14
            have hj : j < (casesOf (.cho n vs)).length := by
              simp only [casesOf, List.length_map]
              exact (List.getElem?_eq_some_iff.mp hv).1
            obtain ⟨kvs, q1, q2, q3⟩ := d14.putAt (k := v.1) (d := varD (n, v.2.map codedS)) (v := .ref p) (by rw [flat_get hD hj]; simp only [casesOf, List.getElem?_map, hv]; rfl) nW (tupOs_cases _) lW dp
            refine ⟨_, rfl, x, C, dx, _, .ref cd, rfl, exK k14, cC, nC, rfl, _, rfl, cd, _, rfl, DPut.k (k := .inr v.1) q1 q2, ?_, q3, _, _, _, rfl⟩
            exact ((k12.same s13).same s14).set q1 (fun _ z => nomatch z) (by simp)
          · rintro σ H12 ⟨k12, d12, z6, z7, z8, rfl⟩
            refine ⟨k11.trans k12, ?_, _, _, _, _, _, _, rfl⟩
            rw [off]
            have el : ws.length = (casesOf (.cho n vs)).length := by
              rw [dw.len]
              simp only [casesOf, List.length_map]
            rw [← el]
            exact d12
      · rintro σ H11 ⟨k11, d11, _⟩
        have el : rs.length = (sortD L).length := by rw [da10.len, List.length_map]
        rw [el, List.take_of_length_le (Nat.le_refl (sortD L).length), List.take_of_length_le (Nat.le_refl _)] at d11
        refine k H11 (k10.kx hcn k11) (tabs_kx t10 k11 (by intro s m; cases List.mem_singleton.mp m; exact ⟨_, ec, (fun _ z => nomatch z), (fun _ z => nomatch z)⟩)) ⟨dx, kt, fdA, td, dd, cd, rs, exK k11, k11.tup _ _ ek10, DaAll.kp k11.kp (tupOs_dcls _) da10, df10.kp k11.kp (by simpa using nc1) (tupOs_cfn _), dt10.kp k11.kp (by simpa using nc2) (tupOs_cfn _), dd10.kp k11.kp (by simpa using nc3) (tupOs_dn _), d11, of, ot, od, hcn⟩
end
end SA
set_option Elab.async false
set_option linter.all false
set_option maxRecDepth 100000
set_option maxHeartbeats 4000000
namespace SA
open PySem PySem.Spec PyProof.Rows L2 K1
abbrev sChoice : Stmt := inClass (topS 21) 2
abbrev sVars : Stmt := inClass (topS 21) 3
abbrev sFields : Stmt := inClass (topS 21) 4
abbrev sItem : Stmt := inClass (topS 21) 5
abbrev sTakes : Stmt := inClass (topS 21) 6
abbrev sGives : Stmt := inClass (topS 21) 7
abbrev sCase : Stmt := inClass (topS 21) 8
abbrev sDcln : Stmt := inClass (topS 21) 9
abbrev sFunc : Stmt := inClass (topS 21) 10
/-- no key of this row of pairs -/
def NoKey (d : PyData) (es : List (Str × PyData)) : Prop := isStrD d = false ∨ ∃ w, d = .str w ∧ es.lookup w = none
def spLook (es : List Dcl → List NFn → List (Str × PyData)) (C UN : Addr) : Sp := fun vs H Q E => ∃ x y L fs, vs = [.ref x, y] ∧ ScopeAt H x C L fs ∧
  ((∃ d, Da H y d ∧ NoKey d (es L fs) ∧ RaiseN UN y H E) ∨ (∃ w d, y = .str w ∧ (es L fs).lookup w = some d ∧ ∀ z, Da H z d → Q z H))
def spCase (C UN : Addr) : Sp := spLook (fun L _ => L.flatMap casesOf) C UN
def spFunc (C UN : Addr) : Sp := spLook (fun _ fs => fs.map cfnE) C UN
def Dcl.word : Dcl → Str
  | .row _ _ => "row"
  | .cho _ _ => "choice"
def spDcln (C UN : Addr) : Sp := fun vs H Q E => ∃ x y wd L fs, vs = [.ref x, y, .str wd] ∧ ScopeAt H x C L fs ∧
  ((∃ d, Da H y d ∧ (NoKey d (L.map fun D => (D.name, D.d)) ∨ ∃ (w : Str) (D : Dcl), d = .str w ∧ (L.map fun D : Dcl => (D.name, D.d)).lookup w = some D.d ∧ D.word ≠ wd) ∧ RaiseN UN y H E) ∨
   (∃ (w : Str) (D : Dcl), y = .str w ∧ (L.map fun D : Dcl => (D.name, D.d)).lookup w = some D.d ∧ D.word = wd ∧ ∀ z, Da H z D.d → Q z H))
section
variable {P : Program} {w0 : World} {K : PySem.W.Frag} {mg : Str → Option Value} {base : Heap} {C UN : Addr}
theorem scCase : FnScope ["self", "variant"] ["self", "variant"] (defScope sCase) := ⟨rfl, rfl, rfl, by decide +kernel, rfl, by decide +kernel, by decide +kernel⟩
theorem scFunc : FnScope ["self", "function"] ["self", "function"] (defScope sFunc) := ⟨rfl, rfl, rfl, by decide +kernel, rfl, by decide +kernel, by decide +kernel⟩
theorem ok_case {f fI : Addr} {fd fdI : FuncData} (F : Fun K "_case" "Scope._case" sCase f fd) (B : Gb mg) (gU : mg "Unknown" = some (.ref UN)) (O : Own24 K UN fI ["name"])
    (GI : FnOk P w0 K mg base CX0 1 fI fdI ["self", "name"] (spInit1 UN)) (bI : Binds K fdI ["self", "name"] []) (cC : Cls K C) (nC : NoAttr K C "_cases") :
    FnOk P w0 K mg base (L2.CX P w0) 3 f fd ["self", "variant"] (spCase C UN) := by
  refine F.okX scCase (fun vs H Q E h => ?_) (fun cdv A outer s H vs Q E hr h => ?_)
  · obtain ⟨x, y, L, fs, rfl, _⟩ := h
    rfl
  · obtain ⟨x, y, L, fs, rfl, sc, h⟩ := h
    obtain ⟨dx, kt, fd2, td, dd, cd, rs, h1, h2, h3, h4, h5, h6, h7⟩ := sc.ex
    have hub := hu_of hr
    refine ⟨_, pss_cons (ps_if (PW.pt (pw_or (pt_not (pt_val (pe_callB call_isi (by rfl) B.isi boot_isinstance (pa_cons (pv 1) (pa_cons (pe_bltn (v := .ty "str") (by rfl) B.str (by decide +kernel) rfl) pa_nil)))))
        (pw_or1 (pt_cmp (pc_dnotin hub (pv 1) (pe_fld (pv 0) rfl))))))
        (pss_one (ps_raise rfl (takes_of rfl rfl rfl rfl) (pmk_oex O.oex O.init O.fn GI (hr.mono (by decide : 2 ≤ 2)) bI .nil pass0 (by rfl) gU (pa_cons (pv 1) pa_nil)))) pss_nil)
      (pss_one (ps_ret (pe_dget hub (pe_fld (pv 0) rfl) (pv 1) (fun _ _ => rfl)))), ?_⟩
    rcases h with ⟨d, hd, hn, k⟩ | ⟨w, d, rfl, hl, k⟩
    · refine ⟨_, rfl, y, .ty "str", .type (tyD d), .type "str", isStrD d, rfl, .ty _, hd.ty, kitStr d, _, rfl, ?_⟩
      rcases hn with e | ⟨w, rfl, e⟩
      · rw [e]
        exact iteT (raiseN (te := tVar 1) (fun R q => ⟨_, rfl, q⟩) k)
      · cases hd
        refine iteF ⟨_, rfl, _, rfl, x, C, dx, _, .ref cd, rfl, h1, cC, nC, rfl, cd, none, rfl, h7.miss e, _, rfl, ?_⟩
        exact iteT (raiseN (te := tVar 1) (fun R q => ⟨_, rfl, q⟩) k)
    · obtain ⟨v, g1, g2⟩ := h7.get hl
      refine ⟨_, rfl, .str w, .ty "str", .type "str", .type "str", true, rfl, .ty _, (Da.str (H := H) w).ty, kitStr (.str w), _, rfl, ?_⟩
      refine iteF ⟨_, rfl, _, rfl, x, C, dx, _, .ref cd, rfl, h1, cC, nC, rfl, cd, some v, rfl, g1, _, rfl, ?_⟩
      exact iteF ⟨_, rfl, x, C, dx, _, .ref cd, rfl, h1, cC, nC, rfl, _, rfl, cd, v, rfl, g1, k v g2⟩
theorem ok_func {f fI : Addr} {fd fdI : FuncData} (F : Fun K "_function" "Scope._function" sFunc f fd) (B : Gb mg) (gU : mg "Unknown" = some (.ref UN)) (O : Own24 K UN fI ["name"])
    (GI : FnOk P w0 K mg base CX0 1 fI fdI ["self", "name"] (spInit1 UN)) (bI : Binds K fdI ["self", "name"] []) (cC : Cls K C) (nC : NoAttr K C "_told") :
    FnOk P w0 K mg base (L2.CX P w0) 3 f fd ["self", "function"] (spFunc C UN) := by
  refine F.okX scFunc (fun vs H Q E h => ?_) (fun cdv A outer s H vs Q E hr h => ?_)
  · obtain ⟨x, y, L, fs, rfl, _⟩ := h
    rfl
  · obtain ⟨x, y, L, fs, rfl, sc, h⟩ := h
    obtain ⟨dx, kt, fd2, td, dd, cd, rs, h1, h2, h3, h4, h5, h6, h7⟩ := sc.ex
    have hub := hu_of hr
    refine ⟨_, pss_cons (ps_if (PW.pt (pw_or (pt_not (pt_val (pe_callB call_isi (by rfl) B.isi boot_isinstance (pa_cons (pv 1) (pa_cons (pe_bltn (v := .ty "str") (by rfl) B.str (by decide +kernel) rfl) pa_nil)))))
        (pw_or1 (pt_cmp (pc_dnotin hub (pv 1) (pe_fld (pv 0) rfl))))))
        (pss_one (ps_raise rfl (takes_of rfl rfl rfl rfl) (pmk_oex O.oex O.init O.fn GI (hr.mono (by decide : 2 ≤ 2)) bI .nil pass0 (by rfl) gU (pa_cons (pv 1) pa_nil)))) pss_nil)
      (pss_one (ps_ret (pe_dget hub (pe_fld (pv 0) rfl) (pv 1) (fun _ _ => rfl)))), ?_⟩
    rcases h with ⟨d, hd, hn, k⟩ | ⟨w, d, rfl, hl, k⟩
    · refine ⟨_, rfl, y, .ty "str", .type (tyD d), .type "str", isStrD d, rfl, .ty _, hd.ty, kitStr d, _, rfl, ?_⟩
      rcases hn with e | ⟨w, rfl, e⟩
      · rw [e]
        exact iteT (raiseN (te := tVar 1) (fun R q => ⟨_, rfl, q⟩) k)
      · cases hd
        refine iteF ⟨_, rfl, _, rfl, x, C, dx, _, .ref td, rfl, h1, cC, nC, rfl, td, none, rfl, h5.miss e, _, rfl, ?_⟩
        exact iteT (raiseN (te := tVar 1) (fun R q => ⟨_, rfl, q⟩) k)
    · obtain ⟨v, g1, g2⟩ := h5.get hl
      refine ⟨_, rfl, .str w, .ty "str", .type "str", .type "str", true, rfl, .ty _, (Da.str (H := H) w).ty, kitStr (.str w), _, rfl, ?_⟩
      refine iteF ⟨_, rfl, _, rfl, x, C, dx, _, .ref td, rfl, h1, cC, nC, rfl, td, some v, rfl, g1, _, rfl, ?_⟩
      exact iteF ⟨_, rfl, x, C, dx, _, .ref td, rfl, h1, cC, nC, rfl, _, rfl, td, v, rfl, g1, k v g2⟩
theorem scDcln : FnScope ["self", "kind", "word"] ["self", "kind", "word"] (defScope sDcln) := ⟨rfl, rfl, rfl, by decide +kernel, rfl, by decide +kernel, by decide +kernel⟩
theorem da_word {H : Hp} {x : V} {D : Dcl} (h : Da H x D.d) : ∃ a r, x = .ref a ∧ H a = some (.tup (.str D.word :: r)) := by
  cases D with
  | row n i =>
    obtain ⟨a, rfl, e⟩ := da_row h
    exact ⟨a, _, rfl, e⟩
  | cho n vs =>
    obtain ⟨a, b, rs, rfl, e, _⟩ := da_cho h
    exact ⟨a, _, rfl, e⟩
theorem ok_dcln {f fI : Addr} {fd fdI : FuncData} (F : Fun K "_declaration" "Scope._declaration" sDcln f fd) (B : Gb mg) (gU : mg "Unknown" = some (.ref UN)) (O : Own24 K UN fI ["name"])
    (GI : FnOk P w0 K mg base CX0 1 fI fdI ["self", "name"] (spInit1 UN)) (bI : Binds K fdI ["self", "name"] []) (cC : Cls K C) (nC : NoAttr K C "_declared") :
    FnOk P w0 K mg base (L2.CX P w0) 3 f fd ["self", "kind", "word"] (spDcln C UN) := by
  refine F.okX scDcln (fun vs H Q E h => ?_) (fun cdv A outer s H vs Q E hr h => ?_)
  · obtain ⟨x, y, wd, L, fs, rfl, _⟩ := h
    rfl
  · obtain ⟨x, y, wd, L, fs, rfl, sc, h⟩ := h
    obtain ⟨dx, kt, fd2, td, dd, cd, rs, h1, h2, h3, h4, h5, h6, h7⟩ := sc.ex
    have hub := hu_of hr
    refine ⟨_, pss_cons (ps_if (PW.pt (pw_or (pt_not (pt_val (pe_callB call_isi (by rfl) B.isi boot_isinstance (pa_cons (pv 1) (pa_cons (pe_bltn (v := .ty "str") (by rfl) B.str (by decide +kernel) rfl) pa_nil)))))
        (pw_or (pt_cmp (pc_dnotin hub (pv 1) (pe_fld (pv 0) rfl)))
          (pw_or1 (pt_cmpR op_ne (pe_ix ix_tup (pe_dget hub (pe_fld (pv 0) rfl) (pv 1) (fun _ _ => rfl)) pe_int (fun _ _ => rfl)) (pv 2) (nomark _))))))
        (pss_one (ps_raise rfl (takes_of rfl rfl rfl rfl) (pmk_oex O.oex O.init O.fn GI (hr.mono (by decide : 2 ≤ 2)) bI .nil pass0 (by rfl) gU (pa_cons (pv 1) pa_nil)))) pss_nil)
      (pss_one (ps_ret (pe_dget hub (pe_fld (pv 0) rfl) (pv 1) (fun _ _ => rfl)))), ?_⟩
    rcases h with ⟨d, hd, hn, k⟩ | ⟨w, D, rfl, hl, hw, k⟩
    · refine ⟨_, rfl, y, .ty "str", .type (tyD d), .type "str", isStrD d, rfl, .ty _, hd.ty, kitStr d, _, rfl, ?_⟩
      rcases hn with (e | ⟨w, rfl, e⟩) | ⟨w, D, rfl, e, hw⟩
      · rw [e]
        exact iteT (raiseN (te := tVar 1) (fun R q => ⟨_, rfl, q⟩) k)
      · cases hd
        refine iteF ⟨_, rfl, _, rfl, x, C, dx, _, .ref dd, rfl, h1, cC, nC, rfl, dd, none, rfl, h6.miss e, _, rfl, ?_⟩
        exact iteT (raiseN (te := tVar 1) (fun R q => ⟨_, rfl, q⟩) k)
      · cases hd
        obtain ⟨v, g1, g2⟩ := h6.get e
        obtain ⟨a, r, rfl, ea⟩ := da_word g2
        refine iteF ⟨_, rfl, _, rfl, x, C, dx, _, .ref dd, rfl, h1, cC, nC, rfl, dd, some (.ref a), rfl, g1, _, rfl, ?_⟩
        refine iteF ⟨_, rfl, x, C, dx, _, .ref dd, rfl, h1, cC, nC, rfl, _, rfl, dd, .ref a, rfl, g1, a, _, _, _, rfl, rfl, SqT.of ea, at0, _, rfl, rfl, _, rfl, ?_⟩
        rw [streq, decide_eq_false hw]
        exact iteT (raiseN (te := tVar 1) (fun R q => ⟨_, rfl, q⟩) k)
    · obtain ⟨v, g1, g2⟩ := h6.get hl
      obtain ⟨a, r, rfl, ea⟩ := da_word g2
      refine ⟨_, rfl, .str w, .ty "str", .type "str", .type "str", true, rfl, .ty _, (Da.str (H := H) w).ty, kitStr (.str w), _, rfl, ?_⟩
      refine iteF ⟨_, rfl, _, rfl, x, C, dx, _, .ref dd, rfl, h1, cC, nC, rfl, dd, some (.ref a), rfl, g1, _, rfl, ?_⟩
      refine iteF ⟨_, rfl, x, C, dx, _, .ref dd, rfl, h1, cC, nC, rfl, _, rfl, dd, .ref a, rfl, g1, a, _, _, _, rfl, rfl, SqT.of ea, at0, _, rfl, rfl, _, rfl, ?_⟩
      rw [hw, decide_eq_true (rfl : V.str wd = V.str wd)]
      exact iteF ⟨_, rfl, x, C, dx, _, .ref dd, rfl, h1, cC, nC, rfl, _, rfl, dd, .ref a, rfl, g1, k _ g2⟩
/-! ### the methods -/
def spChoice (C UN : Addr) : Sp := fun vs H Q E => ∃ x y L fs, vs = [.ref x, y] ∧ ScopeAt H x C L fs ∧
  ((∃ d, Da H y d ∧ NoKey d (L.flatMap casesOf) ∧ RaiseN UN y H E) ∨ (∃ w n ks, y = .str w ∧ (L.flatMap casesOf).lookup w = some (varD (n, ks)) ∧ Q (.str n) H))
def spFields (C UN : Addr) : Sp := fun vs H Q E => ∃ x y L fs, vs = [.ref x, y] ∧ ScopeAt H x C L fs ∧
  ((∃ d, Da H y d ∧ NoKey d (L.flatMap casesOf) ∧ RaiseN UN y H E) ∨ (∃ w n ks, y = .str w ∧ (L.flatMap casesOf).lookup w = some (varD (n, ks)) ∧ ∀ z, Da H z (fldD ks) → Q z H))
def spTakes (C UN : Addr) : Sp := fun vs H Q E => ∃ x y L fs, vs = [.ref x, y] ∧ ScopeAt H x C L fs ∧
  ((∃ d, Da H y d ∧ NoKey d (fs.map cfnE) ∧ RaiseN UN y H E) ∨ (∃ w g, y = .str w ∧ (fs.map cfnE).lookup w = some (fnD g) ∧ ∀ z, Da H z (fldD g.1) → Q z H))
def spGives (C UN : Addr) : Sp := fun vs H Q E => ∃ x y L fs, vs = [.ref x, y] ∧ ScopeAt H x C L fs ∧
  ((∃ d, Da H y d ∧ NoKey d (fs.map cfnE) ∧ RaiseN UN y H E) ∨ (∃ w g, y = .str w ∧ (fs.map cfnE).lookup w = some (fnD g) ∧ Q (.str g.2) H))
theorem scChoice : FnScope ["self", "variant", "kind", "_"] ["self", "variant"] (defScope sChoice) := ⟨rfl, rfl, rfl, by decide +kernel, rfl, by decide +kernel, by decide +kernel⟩
theorem scFields : FnScope ["self", "variant", "_", "kinds"] ["self", "variant"] (defScope sFields) := ⟨rfl, rfl, rfl, by decide +kernel, rfl, by decide +kernel, by decide +kernel⟩
theorem scTakes : FnScope ["self", "function", "kinds", "_"] ["self", "function"] (defScope sTakes) := ⟨rfl, rfl, rfl, by decide +kernel, rfl, by decide +kernel, by decide +kernel⟩
theorem scGives : FnScope ["self", "function", "_", "kind"] ["self", "function"] (defScope sGives) := ⟨rfl, rfl, rfl, by decide +kernel, rfl, by decide +kernel, by decide +kernel⟩
theorem ok_choice {f fC : Addr} {fd fdC : FuncData} (F : Fun K "choice" "Scope.choice" sChoice f fd) (cC : Cls K C) (m : Meth K C "_case" fC) (bC : Binds K fdC ["self", "variant"] [])
    (GC : FnOk P w0 K mg base (L2.CX P w0) 3 fC fdC ["self", "variant"] (spCase C UN)) : FnOk P w0 K mg base (L2.CX P w0) 4 f fd ["self", "variant"] (spChoice C UN) := by
  refine F.okX scChoice (fun vs H Q E h => ?_) (fun cdv A outer s H vs Q E hr h => ?_)
  · obtain ⟨x, y, L, fs, rfl, _⟩ := h
    rfl
  · obtain ⟨x, y, L, fs, rfl, sc, h⟩ := h
    obtain ⟨dx, kt, fd2, td, dd, cd, rs, h1, h2, h3, h4, h5, h6, h7⟩ := sc.ex
    refine ⟨_, pss_cons (ps_asg (pe_meth (pv 0) cC m GC hr bC .nil (passes_call (takes_of rfl rfl rfl rfl) fun _ _ _ _ h => h) (pa_cons (pv 1) pa_nil)) (pg_tup (by rfl) (pgs_cons (pg_name (i := 2) scChoice.nd rfl (Or.inl rfl)) (pgs_cons (pg_name (i := 3) scChoice.nd rfl (Or.inl rfl)) pgs_nil))))
      (pss_one (ps_ret (pv 2))), ?_⟩
    refine ⟨_, rfl, x, dx, _, rfl, h1, rfl, _, rfl, x, y, L, fs, rfl, sc, ?_⟩
    rcases h with h | ⟨w, n, ks, e, hl, k⟩
    · exact .inl h
    · refine .inr ⟨w, _, e, hl, fun z hz => ?_⟩
      obtain ⟨a, y2, rfl, ea, hy⟩ := da_var2 hz
      exact ⟨a, _, rfl, SqT.of ea, rfl, _, _, rfl, _, _, rfl, rfl, _, rfl, k⟩
theorem ok_fields {f fC : Addr} {fd fdC : FuncData} (F : Fun K "fields" "Scope.fields" sFields f fd) (cC : Cls K C) (m : Meth K C "_case" fC) (bC : Binds K fdC ["self", "variant"] [])
    (GC : FnOk P w0 K mg base (L2.CX P w0) 3 fC fdC ["self", "variant"] (spCase C UN)) : FnOk P w0 K mg base (L2.CX P w0) 4 f fd ["self", "variant"] (spFields C UN) := by
  refine F.okX scFields (fun vs H Q E h => ?_) (fun cdv A outer s H vs Q E hr h => ?_)
  · obtain ⟨x, y, L, fs, rfl, _⟩ := h
    rfl
  · obtain ⟨x, y, L, fs, rfl, sc, h⟩ := h
    obtain ⟨dx, kt, fd2, td, dd, cd, rs, h1, h2, h3, h4, h5, h6, h7⟩ := sc.ex
    refine ⟨_, pss_cons (ps_asg (pe_meth (pv 0) cC m GC hr bC .nil (passes_call (takes_of rfl rfl rfl rfl) fun _ _ _ _ h => h) (pa_cons (pv 1) pa_nil)) (pg_tup (by rfl) (pgs_cons (pg_name (i := 2) scFields.nd rfl (Or.inl rfl)) (pgs_cons (pg_name (i := 3) scFields.nd rfl (Or.inl rfl)) pgs_nil))))
      (pss_one (ps_ret (pv 3))), ?_⟩
    refine ⟨_, rfl, x, dx, _, rfl, h1, rfl, _, rfl, x, y, L, fs, rfl, sc, ?_⟩
    rcases h with h | ⟨w, n, ks, e, hl, k⟩
    · exact .inl h
    · refine .inr ⟨w, _, e, hl, fun z hz => ?_⟩
      obtain ⟨a, y2, rfl, ea, hy⟩ := da_var2 hz
      exact ⟨a, _, rfl, SqT.of ea, rfl, _, _, rfl, _, _, rfl, rfl, _, rfl, k _ hy⟩
theorem da_fn2 {H : Hp} {x : V} {f : Fn} (h : Da H x (fnD f)) : ∃ a y, x = .ref a ∧ H a = some (.tup [y, .str f.2]) ∧ Da H y (fldD f.1) := by
  obtain ⟨a, xs, rfl, e, t⟩ := da_tup h
  obtain ⟨y, ys, rfl, h1, t⟩ := da_cons t
  obtain ⟨z, zs, rfl, h2, t⟩ := da_cons t
  cases da_nil t
  cases da_str h2
  exact ⟨a, y, rfl, e, h1⟩
theorem ok_takes {f fC : Addr} {fd fdC : FuncData} (F : Fun K "takes" "Scope.takes" sTakes f fd) (cC : Cls K C) (m : Meth K C "_function" fC) (bC : Binds K fdC ["self", "function"] [])
    (GC : FnOk P w0 K mg base (L2.CX P w0) 3 fC fdC ["self", "function"] (spFunc C UN)) : FnOk P w0 K mg base (L2.CX P w0) 4 f fd ["self", "function"] (spTakes C UN) := by
  refine F.okX scTakes (fun vs H Q E h => ?_) (fun cdv A outer s H vs Q E hr h => ?_)
  · obtain ⟨x, y, L, fs, rfl, _⟩ := h
    rfl
  · obtain ⟨x, y, L, fs, rfl, sc, h⟩ := h
    obtain ⟨dx, kt, fd2, td, dd, cd, rs, h1, h2, h3, h4, h5, h6, h7⟩ := sc.ex
    refine ⟨_, pss_cons (ps_asg (pe_meth (pv 0) cC m GC hr bC .nil (passes_call (takes_of rfl rfl rfl rfl) fun _ _ _ _ h => h) (pa_cons (pv 1) pa_nil)) (pg_tup (by rfl) (pgs_cons (pg_name (i := 2) scTakes.nd rfl (Or.inl rfl)) (pgs_cons (pg_name (i := 3) scTakes.nd rfl (Or.inl rfl)) pgs_nil))))
      (pss_one (ps_ret (pv 2))), ?_⟩
    refine ⟨_, rfl, x, dx, _, rfl, h1, rfl, _, rfl, x, y, L, fs, rfl, sc, ?_⟩
    rcases h with h | ⟨w, g, e, hl, k⟩
    · exact .inl h
    · refine .inr ⟨w, _, e, hl, fun z hz => ?_⟩
      obtain ⟨a, y2, rfl, ea, hy⟩ := da_fn2 hz
      exact ⟨a, _, rfl, SqT.of ea, rfl, _, _, rfl, _, _, rfl, rfl, _, rfl, k _ hy⟩
theorem ok_gives {f fC : Addr} {fd fdC : FuncData} (F : Fun K "gives" "Scope.gives" sGives f fd) (cC : Cls K C) (m : Meth K C "_function" fC) (bC : Binds K fdC ["self", "function"] [])
    (GC : FnOk P w0 K mg base (L2.CX P w0) 3 fC fdC ["self", "function"] (spFunc C UN)) : FnOk P w0 K mg base (L2.CX P w0) 4 f fd ["self", "function"] (spGives C UN) := by
  refine F.okX scGives (fun vs H Q E h => ?_) (fun cdv A outer s H vs Q E hr h => ?_)
  · obtain ⟨x, y, L, fs, rfl, _⟩ := h
    rfl
  · obtain ⟨x, y, L, fs, rfl, sc, h⟩ := h
    obtain ⟨dx, kt, fd2, td, dd, cd, rs, h1, h2, h3, h4, h5, h6, h7⟩ := sc.ex
    refine ⟨_, pss_cons (ps_asg (pe_meth (pv 0) cC m GC hr bC .nil (passes_call (takes_of rfl rfl rfl rfl) fun _ _ _ _ h => h) (pa_cons (pv 1) pa_nil)) (pg_tup (by rfl) (pgs_cons (pg_name (i := 2) scGives.nd rfl (Or.inl rfl)) (pgs_cons (pg_name (i := 3) scGives.nd rfl (Or.inl rfl)) pgs_nil))))
      (pss_one (ps_ret (pv 3))), ?_⟩
    refine ⟨_, rfl, x, dx, _, rfl, h1, rfl, _, rfl, x, y, L, fs, rfl, sc, ?_⟩
    rcases h with h | ⟨w, g, e, hl, k⟩
    · exact .inl h
    · refine .inr ⟨w, _, e, hl, fun z hz => ?_⟩
      obtain ⟨a, y2, rfl, ea, hy⟩ := da_fn2 hz
      exact ⟨a, _, rfl, SqT.of ea, rfl, _, _, rfl, _, _, rfl, rfl, _, rfl, k⟩
/-- what is no name of a declaration of this word -/
def NoDcl (d : PyData) (L : List Dcl) (wd : Str) : Prop := NoKey d (L.map fun D => (D.name, D.d)) ∨ ∃ (w : Str) (D : Dcl), d = .str w ∧ (L.map fun D : Dcl => (D.name, D.d)).lookup w = some D.d ∧ D.word ≠ wd
def spVars (C UN : Addr) : Sp := fun vs H Q E => ∃ x y L fs, vs = [.ref x, y] ∧ ScopeAt H x C L fs ∧
  ((∃ d, Da H y d ∧ NoDcl d L "choice" ∧ RaiseN UN y H E) ∨ (∃ w n cs, y = .str w ∧ (L.map fun D : Dcl => (D.name, D.d)).lookup w = some (Dcl.cho n cs).d ∧ cs.length ≤ 4 ∧ ∀ H' z, Same H H' → Da H' z (fldD (cs.map (·.1))) → Q z H'))
def spItem (C UN : Addr) : Sp := fun vs H Q E => ∃ x y L fs, vs = [.ref x, y] ∧ ScopeAt H x C L fs ∧
  ((∃ d, Da H y d ∧ NoDcl d L "row" ∧ RaiseN UN y H E) ∨ (∃ w n i, y = .str w ∧ (L.map fun D : Dcl => (D.name, D.d)).lookup w = some (Dcl.row n i).d ∧ Q (.str (codedS i)) H))
abbrev nVars : List Str := ["self", "choice", "_", "told", "variant"]
theorem scVars : FnScope nVars ["self", "choice"] (defScope sVars) := ⟨rfl, rfl, rfl, by decide +kernel, rfl, by decide +kernel, by decide +kernel⟩
theorem scItem : FnScope ["self", "kind", "_", "told"] ["self", "kind"] (defScope sItem) := ⟨rfl, rfl, rfl, by decide +kernel, rfl, by decide +kernel, by decide +kernel⟩
theorem ok_item {f fC fK : Addr} {fd fdC fdK : FuncData} (F : Fun K "item" "Scope.item" sItem f fd) (cC : Cls K C) (m : Meth K C "_declaration" fC) (bC : Binds K fdC ["self", "kind", "word"] [])
    (GC : FnOk P w0 K mg base (L2.CX P w0) 3 fC fdC ["self", "kind", "word"] (spDcln C UN)) (FK : Fun K "_kind_in_code" "_kind_in_code" sKic fK fdK) (bK : Binds K fdK ["kind"] []) (gK : mg "_kind_in_code" = some (.ref fK)) (GK : FnOk P w0 K mg base CX0 1 fK fdK ["kind"] spKic) :
    FnOk P w0 K mg base (L2.CX P w0) 4 f fd ["self", "kind"] (spItem C UN) := by
  refine F.okX scItem (fun vs H Q E h => ?_) (fun cdv A outer s H vs Q E hr h => ?_)
  · obtain ⟨x, y, L, fs, rfl, _⟩ := h
    rfl
  · obtain ⟨x, y, L, fs, rfl, sc, h⟩ := h
    obtain ⟨dx, kt, fd2, td, dd, cd, rs, h1, h2, h3, h4, h5, h6, h7⟩ := sc.ex
    refine ⟨_, pss_cons (ps_asg (pe_meth (pv 0) cC m GC hr bC .nil (passes_call (takes_of rfl rfl rfl rfl) fun _ _ _ _ h => h) (pa_cons (pv 1) (pa_cons pe_str pa_nil))) (pg_tup (by rfl) (pgs_cons (pg_name (i := 2) scItem.nd rfl (Or.inl rfl)) (pgs_cons (pg_name (i := 2) scItem.nd rfl (Or.inl rfl)) (pgs_cons (pg_name (i := 3) scItem.nd rfl (Or.inl rfl)) pgs_nil)))))
      (pss_one (ps_ret (pe_call GK (hr.mono (by decide)) (by rfl) gK FK.kp bK .nil pass0 (pa_cons (pv 3) pa_nil)))), ?_⟩
    refine ⟨_, rfl, x, dx, _, rfl, h1, rfl, _, rfl, x, y, "row", L, fs, rfl, sc, ?_⟩
    rcases h with h | ⟨w, n, i, e, hl, k⟩
    · exact .inl h
    · refine .inr ⟨w, .row n i, e, hl, rfl, fun z hz => ?_⟩
      obtain ⟨a, rfl, ea⟩ := da_row hz
      exact ⟨a, _, rfl, SqT.of ea, rfl, _, _, rfl, _, _, rfl, _, _, rfl, rfl, _, rfl, i, rfl, k⟩
theorem ok_vars {f fC : Addr} {fd fdC : FuncData} (F : Fun K "variants" "Scope.variants" sVars f fd) (B : Gb mg) (cC : Cls K C) (m : Meth K C "_declaration" fC) (bC : Binds K fdC ["self", "kind", "word"] [])
    (GC : FnOk P w0 K mg base (L2.CX P w0) 3 fC fdC ["self", "kind", "word"] (spDcln C UN)) :
    FnOk P w0 K mg base (L2.CX P w0) 4 f fd ["self", "choice"] (spVars C UN) := by
  refine F.okX scVars (fun vs H Q E h => ?_) (fun cdv A outer s H vs Q E hr h => ?_)
  · obtain ⟨x, y, L, fs, rfl, _⟩ := h
    rfl
  · obtain ⟨x, y, L, fs, rfl, sc, h⟩ := h
    obtain ⟨dx, kt, fd2, td, dd, cd, rs, h1, h2, h3, h4, h5, h6, h7⟩ := sc.ex
    refine ⟨_, pss_cons (ps_asg (pe_meth (pv 0) cC m GC hr bC .nil (passes_call (takes_of rfl rfl rfl rfl) fun _ _ _ _ h => h) (pa_cons (pv 1) (pa_cons pe_str pa_nil))) (pg_tup (by rfl) (pgs_cons (pg_name (i := 2) scVars.nd rfl (Or.inl rfl)) (pgs_cons (pg_name (i := 2) scVars.nd rfl (Or.inl rfl)) (pgs_cons (pg_name (i := 3) scVars.nd rfl (Or.inl rfl)) pgs_nil)))))
      (pss_one (ps_ret (pe_callTy call_tuple_of (by rfl) B.tuple (by decide +kernel) (pa_cons (pe_lc (own := [("variant", 4), ("_", 2)]) (g := gTup K 2 (gCons (gName 4) (gCons (gName 2) gNil))) (tt := tYes) (te := tVar 4) (by rfl) scVars.nd (pi_tup (pv 3)) (blkOk_by (N := nVars) (sc := defScope sVars) (by decide +kernel))
        (fun _ _ _ _ _ => pg_tup (by rfl) (pgs_cons (pg_name (i := 4) scVars.nd rfl (Or.inl rfl)) (pgs_cons (pg_name (i := 2) scVars.nd rfl (Or.inl rfl)) pgs_nil))) (fun _ _ _ _ _ => pts_nil) (fun _ _ _ _ _ => pv 4)) pa_nil)))), ?_⟩
    refine ⟨_, rfl, x, dx, _, rfl, h1, rfl, _, rfl, x, y, "choice", L, fs, rfl, sc, ?_⟩
    rcases h with h | ⟨w, n, cs, e, hl, h4, k⟩
    · exact .inl h
    · refine .inr ⟨w, .cho n cs, e, hl, rfl, fun z hz => ?_⟩
      obtain ⟨a, b, ws, rfl, ea, eb, dw⟩ := da_cho hz
      have el : ws.length = cs.length := by rw [dw.len, List.length_map]
      refine ⟨a, _, rfl, SqT.of ea, rfl, _, _, rfl, _, _, rfl, _, _, rfl, rfl, ?_⟩
      refine ⟨_, rfl, b, rfl, ⟨_, SqT.of eb⟩, fun q hq => lc_da walk_tup (cs.map fun v => PyData.str v.1) (by simp [el]) (by have := tupOs_strs (cs.map (·.1)); rw [List.map_map] at this; exact this) (small1000 (by omega)) hq (fun H' s' => SqT.of (s' _ _ eb)) ?_ ?_⟩
      · intro i x d R H' hx' hd' s' hR
        obtain ⟨d', hd2, hx2⟩ := dw.get hx'
        rw [List.getElem?_map] at hd' hd2
        obtain ⟨v, hv, rfl⟩ := Option.map_eq_some_iff.mp hd2
        obtain ⟨t, ht, rfl⟩ := Option.map_eq_some_iff.mp hd'
        rw [hv] at ht
        cases ht
        obtain ⟨a2, y2, rfl, e2, _⟩ := da_var2 (hx2.same s')
        exact ⟨a2, _, rfl, SqT.of e2, rfl, _, _, rfl, _, _, rfl, rfl, rfl, _, rfl, hR _ _ (Same.refl _) (.str _)⟩
      · intro H' ys s' e' dy
        refine ⟨q, _, rfl, .inl ⟨SqL.of e', fun l hl' => ?_⟩⟩
        refine k _ _ (s'.trans (Same.new hl')) (.tup upd_same ?_)
        rw [List.map_map]
        exact dy.same (Same.new hl')
end
end SA
set_option Elab.async false
set_option linter.all false
set_option maxRecDepth 100000
set_option maxHeartbeats 4000000
namespace SA
open PySem PySem.Spec PyProof.Rows L2 K1
abbrev sEqS : Stmt := inClass (topS 21) 1
/-- data that may be compared -/
def ShDs (ds : List PyData) : Prop := SeqAt.shaped (.tuple ds) = true
/-- how two scopes, or a scope and anything else, compare -/
def ScEq (K : PySem.W.Frag) (C : Addr) : Addr → V → Hp → Bool → Prop := fun a y H b =>
  (∃ t, TyX K H y t ∧ PySem.W.kitOne K t (.ref C) = some false ∧ b = false) ∨
  (∃ p L fs L' fs', y = .ref p ∧ TyX K H y (.ref C) ∧ ScopeAt H a C L fs ∧ ScopeAt H p C L' fs' ∧ ShDs (L.map Dcl.d) ∧ ShDs (L'.map Dcl.d) ∧ (∀ f ∈ fs, SeqAt.shaped (fnD (codedF f.2)) = true) ∧ (fs.map (·.1)).Nodup ∧
    ((L = L' ∧ fs = fs' ∧ b = true) ∨ (L.length ≠ L'.length ∧ b = false) ∨ (L = L' ∧ (fs.length ≠ fs'.length ∨ ∃ f r, fs = f :: r ∧ f.1 ∉ fs'.map (·.1)) ∧ b = false)))
section
variable {P : Program} {w0 : World} {K : PySem.W.Frag} {mg : Str → Option Value} {base : Heap} {C : Addr}
theorem scEqS : FnScope ["self", "other"] ["self", "other"] (defScope sEqS) := ⟨rfl, rfl, rfl, by decide +kernel, rfl, by decide +kernel, by decide +kernel⟩
theorem sameHits {H : Hp} {es : List (Str × PyData)} {ws : List V} (hw : DaAll H ws (es.map (·.2))) : ∀ {e2 : List (Str × PyData)} {vs : List V}, DaAll H vs (e2.map (·.2)) → (∀ p ∈ e2, es.lookup p.1 = some p.2 ∧ tupO p.2 = true ∧ isDctD p.2 = false ∧ SeqAt.shaped p.2 = true) →
    DHits K H (kz (es.map (·.1)) ws) (kz (e2.map (·.1)) vs) true
  | [], vs, h, _ => by
    cases da_nil h
    exact .nil
  | (k, d) :: e2, vs, h, hp => by
    rw [List.map_cons] at h
    obtain ⟨v, vs, rfl, h1, h2⟩ := da_cons h
    obtain ⟨q1, q2, q3, q4⟩ := hp (k, d) (List.mem_cons_self ..)
    obtain ⟨u, g1, g2⟩ := (kz_val (k := k) hw).1 d q1
    have ez : kz (((k, d) :: e2).map (·.1)) (v :: vs) = ((Sum.inr k : Key), v) :: kz (e2.map (·.1)) vs := rfl
    rw [ez]
    have hh := DHits.hit (K := K) (r := kz (e2.map (·.1)) vs) g1 (Da.dp (K := K) q3 h1 q2) (Da.dp (K := K) q3 g2 q2) q4 q4 (sameHits hw h2 fun p m => hp p (List.mem_cons_of_mem _ m))
    have ee : PyData.eqv d d = true := PySem.SeqAt.eqv_refl d (SeqAt.canLay_of_shaped q4)
    rw [ee, Bool.true_and] at hh
    exact hh
theorem dictEqN {H : Hp} {a b : Addr} {fs fs' : List NFn} (ha : DictL H a (fs.map cfnE)) (hb : DictL H b (fs'.map cfnE)) (nd : (fs.map (·.1)).Nodup) (shf : ∀ f ∈ fs, SeqAt.shaped (fnD (codedF f.2)) = true) {bb : Bool}
    (h : (fs = fs' ∧ bb = true) ∨ ((fs.length ≠ fs'.length ∨ ∃ f r, fs = f :: r ∧ f.1 ∉ fs'.map (·.1)) ∧ bb = false)) {neg : Bool} {Q : VK} (k : Q (.bl (if neg = true then !bb else bb)) H) : rDictEq K neg (.ref a) (.ref b) H Q := by
  obtain ⟨vs, e1, e2⟩ := ha
  obtain ⟨ws, g1, g2⟩ := hb
  have l1 : vs.length = fs.length := by rw [e2.len]; simp only [List.length_map]
  have l2 : ws.length = fs'.length := by rw [g2.len]; simp only [List.length_map]
  have z1 : (kz ((fs.map cfnE).map (·.1)) vs).length = fs.length := by rw [kz_len (by rw [l1]; simp only [List.length_map])]; simp only [List.length_map]
  have z2 : (kz ((fs'.map cfnE).map (·.1)) ws).length = fs'.length := by rw [kz_len (by rw [l2]; simp only [List.length_map])]; simp only [List.length_map]
  rcases h with ⟨rfl, rfl⟩ | ⟨h | ⟨f, r, rfl, hn⟩, rfl⟩
  · refine ⟨a, b, _, _, true, rfl, rfl, e1, g1, fun _ => sameHits g2 e2 fun p hp => ?_, ?_⟩
    · obtain ⟨f, hf, rfl⟩ := List.mem_map.mp hp
      exact ⟨lookup_map_some (f := (·.1)) (g := fun f : NFn => fnD (codedF f.2)) nd hf, tupO_fn _, rfl, shf f hf⟩
    · rw [z1, z2]
      simpa using k
  · refine ⟨a, b, _, _, true, rfl, rfl, e1, g1, fun z => ?_, ?_⟩
    · rw [z1, z2] at z
      exact absurd z h
    · rw [z1, z2]
      have : (fs.length == fs'.length) = false := by simpa using h
      rw [this]
      simpa using k
  · refine ⟨a, b, _, _, false, rfl, rfl, e1, g1, fun z => ?_, ?_⟩
    · obtain ⟨v, vs, rfl, h1, h2⟩ := da_cons e2
      refine DHits.miss ?_
      refine (kz_val (k := f.1) g2).2 (lookup_none_of ?_)
      rw [List.map_map]
      exact hn
    · simpa using k
theorem ok_eqS {f : Addr} {fd : FuncData} (F : Fun K "__eq__" "Scope.__eq__" sEqS f fd) (B : Gb mg) (gS : mg "Scope" = some (.ref C)) (kS : PySem.W.keepIn K (.ref C) = true) (cC : Cls K C) (nK : NoAttr K C "kinds") (nF : NoAttr K C "functions") :
    FnOk P w0 K mg base CX0 1 f fd ["self", "other"] (spEq2 (ScEq K C)) := by
  refine F.ok scEqS (fun vs H Q E h => ?_) (fun cdv A outer s H vs Q E hr h => ?_)
  · obtain ⟨a, y, b, rfl, _⟩ := h
    rfl
  · obtain ⟨a, y, b, rfl, hR, k⟩ := h
    have hu66 : (A.deeper (envOfC "Scope.__eq__" (defScope sEqS) s.heap.objs.size f cdv)).units + 66 < cLine := by have := hr.un; omega
    refine ⟨_, pss_one (ps_ret (pe_and (pe_callB call_isi (by rfl) B.isi boot_isinstance (pa_cons (pv 1) (pa_cons (pe_glob (v := .ref C) (by rfl) gS rfl) pa_nil)))
      (pe_and (pe_cmpR (op_eqD hr.units) (pe_fld (pv 0) rfl) (pe_fld (pv 1) rfl) (nomark _)) (pe_one (pe_cmpR (op_dictEq hu66) (pe_fld (pv 0) rfl) (pe_fld (pv 1) rfl) (nomark _)))))), ?_⟩
    rcases hR with ⟨t, ty, e, rfl⟩ | ⟨p, L, fs, L', fs', rfl, ty, sc, sc', sh, sh', shf, nd, h⟩
    · exact ⟨_, rfl, y, .ref C, t, .ref C, false, rfl, .own C, ty, e, _, rfl, iteF (k H (Same.refl H))⟩
    · refine ⟨_, rfl, .ref p, .ref C, .ref C, .ref C, true, rfl, .own C, ty, by unfold PySem.W.kitOne; rw [if_pos (beq_self_eq_true _)], _, rfl, iteT ?_⟩
      obtain ⟨dx, kt, fd2, td, dd, cd, rs, h1, h2, h3, h4, h5, h6, h7⟩ := sc.ex
      obtain ⟨dx', kt', fd2', td', dd', cd', rs', h1', h2', h3', h4', h5', h6', h7'⟩ := sc'.ex
      refine ⟨_, rfl, a, C, dx, _, .ref kt, rfl, h1, cC, nK, rfl, _, rfl, p, C, dx', _, .ref kt', rfl, h1', cC, nK, rfl, .tuple (L.map Dcl.d), .tuple (L'.map Dcl.d), .tup (SqT.of h2) (DaAll.dp h3 (tupOs_dcls _)), .tup (SqT.of h2') (DaAll.dp h3' (tupOs_dcls _)), sh, sh', ?_⟩
      rcases h with ⟨rfl, ef, rfl⟩ | ⟨hl, rfl⟩ | ⟨rfl, hf, rfl⟩
      · rw [PySem.SeqAt.eqv_refl _ (SeqAt.canLay_of_shaped sh)]
        exact ⟨_, rfl, iteT ⟨_, rfl, a, C, dx, _, .ref fd2, rfl, h1, cC, nF, rfl, _, rfl, p, C, dx', _, .ref fd2', rfl, h1', cC, nF, rfl, dictEqN h4 h4' nd shf (.inl ⟨ef, rfl⟩) (k H (Same.refl H))⟩⟩
      · have e : PyData.eqv (.tuple (L.map Dcl.d)) (.tuple (L'.map Dcl.d)) = false := by
          rw [PyData.eqv]
          exact PySem.SeqAt.eqvAll_other_length (by rw [List.length_map, List.length_map]; exact hl)
        rw [e]
        exact ⟨_, rfl, iteF (k H (Same.refl H))⟩
      · rw [PySem.SeqAt.eqv_refl _ (SeqAt.canLay_of_shaped sh)]
        exact ⟨_, rfl, iteT ⟨_, rfl, a, C, dx, _, .ref fd2, rfl, h1, cC, nF, rfl, _, rfl, p, C, dx', _, .ref fd2', rfl, h1', cC, nF, rfl, dictEqN h4 h4' nd shf (.inr ⟨hf, rfl⟩) (k H (Same.refl H))⟩⟩
end
end SA
set_option Elab.async false
set_option linter.all false
set_option maxRecDepth 100000
set_option maxHeartbeats 4000000
namespace SA
open PySem PySem.Spec PyProof.Rows L2 K1
/-! ### different names: the texts -/
abbrev sNames : Stmt := topS 32
abbrev sCoded : Stmt := topS 33
def kept12 : List Str := ["if", "of", "or", "at", "and", "new", "not", "let", "put", "row", "set", "try"]
theorem kept_short : ∀ k ∈ keptS, k.length ≤ 3 → k ∈ kept12 := by decide +kernel
theorem kept_z : ∀ k ∈ keptS, (tl k)[k.length - 2]? ≠ some 122 := by decide +kernel
theorem letter_at : ∀ j < 26, (tl lettersS)[j]? = some (97 + j) := by decide +kernel
theorem letters_small {c : Nat} (h : c ∈ tl lettersS) : small c = true := by
  rw [← small_letters]
  exact decide_eq_true h
theorem small_ltr {j : Nat} (h : j < 26) : small (97 + j) = true := decide_eq_true (by omega)
/-- a word as drawn -/
structure Raw (l : L) : Prop where
  small : ∀ c ∈ l, small c = true
  len : l.length ≤ 6
  pos : 1 ≤ l.length
  odd : l.length ≠ 3 ∧ l.length ≠ 5
def modW (l : L) (t : Nat) : Str := mk (l.take 5 ++ [122, 97 + t % 26])
def qzW (t : Nat) : Str := mk [113, 122, 97 + t % 26, 122, 97 + t / 26]
theorem name_of {l : L} (h1 : 1 ≤ l.length) (h8 : l.length ≤ 8) (hs : ∀ c ∈ l, small c = true) (hk : mk l ∉ keptS) : isName (mk l) = true := by
  unfold isName
  rw [len_mk, tl_mk]
  simp only [Bool.and_eq_true, decide_eq_true_eq, Bool.not_eq_true', decide_eq_false_iff_not, List.all_eq_true]
  exact ⟨h1, h8, hk, hs⟩
theorem notKept_z {l : L} {c : Nat} : mk (l ++ [122, c]) ∉ keptS := by
  intro h
  have := kept_z _ h
  rw [len_mk, tl_mk, List.length_append] at this
  apply this
  rw [List.getElem?_append_right (by simp)]
  simp
theorem raw_name {l : L} (h : Raw l) (hk : mk l ∉ kept12) (h3 : l.length ≤ 3) : isName (mk l) = true :=
  name_of h.pos (by omega) h.small fun z => hk (kept_short _ z (by rw [len_mk]; exact h3))
theorem mod_name {l : L} (h : Raw l) (t : Nat) : isName (modW l t) = true ∧ (modW l t).length ≠ 5 := by
  have hl : (l.take 5 ++ [122, 97 + t % 26]).length = min 5 l.length + 2 := by simp
  refine ⟨name_of (by omega) (by omega) (fun c hc => ?_) notKept_z, ?_⟩
  · rcases List.mem_append.mp hc with hc | hc
    · exact h.small c (List.mem_of_mem_take hc)
    · simp at hc
      rcases hc with rfl | rfl
      · rfl
      · exact small_ltr (Nat.mod_lt _ (by decide))
  · unfold modW
    rw [len_mk, hl]
    have := h.odd
    omega
theorem qz_name {t : Nat} (h : t < 676) : isName (qzW t) = true ∧ (qzW t).length = 5 := by
  refine ⟨?_, by unfold qzW; rw [len_mk]; rfl⟩
  have e : qzW t = mk ([113, 122, 97 + t % 26] ++ [122, 97 + t / 26]) := rfl
  rw [e]
  refine name_of (by decide +revert) (by decide +revert) (fun c hc => ?_) notKept_z
  simp at hc
  rcases hc with rfl | rfl | rfl | rfl | rfl
  · rfl
  · rfl
  · exact small_ltr (Nat.mod_lt _ (by decide))
  · rfl
  · exact small_ltr (Nat.div_lt_of_lt_mul h)
theorem qz_inj {s t : Nat} (h : qzW s = qzW t) : s = t := by
  have h2 : tl (qzW s) = tl (qzW t) := by rw [h]
  unfold qzW at h2
  rw [tl_mk, tl_mk] at h2
  simp at h2
  omega
/-- the names so far -/
structure NamesOk (i : Nat) (ws : List Str) : Prop where
  len : ws.length = i
  nodup : ws.Nodup
  names : ∀ x ∈ ws, isName x = true
  five : ∀ x ∈ ws, x.length = 5 → ∃ t < i, x = qzW t
theorem NamesOk.nil : NamesOk 0 [] := ⟨rfl, .nil, by simp, by simp⟩
def theWord (l : L) (t : Nat) (ws : List Str) : Str := if mk l ∈ ws ∨ mk l ∈ kept12 ∨ 3 < l.length then modW l t else mk l
def theName (l : L) (t : Nat) (ws : List Str) : Str := if theWord l t ws ∈ ws then qzW t else theWord l t ws
theorem NamesOk.step {i : Nat} {ws : List Str} {l : L} (h : NamesOk i ws) (r : Raw l) (hi : i < 676) : NamesOk (i + 1) (ws ++ [theName l i ws]) := by
  have hw : isName (theWord l i ws) = true ∧ (theWord l i ws).length ≠ 5 := by
    unfold theWord
    split
    · exact mod_name r i
    · rename_i hn
      refine ⟨raw_name r (fun z => hn (.inr (.inl z))) (by omega), ?_⟩
      rw [len_mk]
      omega
  have hq := qz_name hi
  have hn : isName (theName l i ws) = true := by
    unfold theName
    split
    · exact hq.1
    · exact hw.1
  have hm : theName l i ws ∉ ws := by
    unfold theName
    split
    · intro z
      obtain ⟨t, ht, e⟩ := h.five _ z hq.2
      exact absurd (qz_inj e) (by omega)
    · assumption
  refine ⟨by rw [List.length_append, h.len, List.length_singleton], List.nodup_append.mpr ⟨h.nodup, by simp, fun a ha b hb => by simp at hb; subst hb; exact fun z => hm (z ▸ ha)⟩, fun x hx => ?_, fun x hx h5 => ?_⟩
  · rcases List.mem_append.mp hx with hx | hx
    · exact h.names x hx
    · rw [List.mem_singleton.mp hx]
      exact hn
  · rcases List.mem_append.mp hx with hx | hx
    · obtain ⟨t, ht, e⟩ := h.five x hx h5
      exact ⟨t, by omega, e⟩
    · rw [List.mem_singleton.mp hx] at h5 ⊢
      refine ⟨i, by omega, ?_⟩
      unfold theName at h5 ⊢
      split
      · rfl
      · rename_i hz
        rw [if_neg hz] at h5
        exact absurd h5 hw.2
end SA
set_option Elab.async false
set_option linter.all false
set_option maxRecDepth 100000
set_option maxHeartbeats 8000000
namespace SA
open PySem PySem.Spec PyProof.Rows L2 K1
theorem join_signs (l : L) : Txt.join "" (l.map fun c => mk [c]) = mk l := by
  rw [TL.join_eq]
  have e : ∀ l : L, tl (Str.join "" (l.map fun c => mk [c])) = l := by
    intro l
    induction l with
    | nil => rfl
    | cons c l ih =>
      rw [List.map_cons]
      cases hl : l.map (fun c => mk [c]) with
      | nil =>
        have : l = [] := by simpa using hl
        subst this
        rfl
      | cons y r =>
        rw [hl] at ih
        show tl (mk [c] ++ "" ++ Str.join "" (y :: r)) = _
        show (mk [c] ++ "" ++ Str.join "" (y :: r)).cps.toList = _
        have e1 : ∀ a b : Str, (a ++ b).cps.toList = a.cps.toList ++ b.cps.toList := fun a b => by
          show (a.cps ++ b.cps).toList = _
          rw [Array.toList_append]
        have ih : (Str.join "" (y :: r)).cps.toList = l := ih
        rw [e1, e1, ih]
        rfl
  exact tl_inj (by rw [e, tl_mk])
theorem app_mk (a b : L) : mk a ++ mk b = mk (a ++ b) := by
  refine tl_inj ?_
  rw [tl_mk]
  show ((mk a).cps ++ (mk b).cps).toList = _
  rw [Array.toList_append]
  show tl (mk a) ++ tl (mk b) = _
  rw [tl_mk, tl_mk]
theorem mod_eq (l : L) (t : Nat) : (mk (l.take 5) ++ "z" ++ (⟨#[97 + t % 26]⟩ : Str)) = modW l t := by
  have e1 : ("z" : Str) = mk [122] := by decide +kernel
  have e2 : (⟨#[97 + t % 26]⟩ : Str) = mk [97 + t % 26] := rfl
  rw [e1, e2, app_mk, app_mk, List.append_assoc]
  rfl
theorem qz_eq (t : Nat) : ((("qz" : Str) ++ (⟨#[97 + t % 26]⟩ : Str)) ++ "z" ++ (⟨#[97 + t / 26]⟩ : Str)) = qzW t := by
  have e1 : ("z" : Str) = mk [122] := by decide +kernel
  have e0 : ("qz" : Str) = mk [113, 122] := by decide +kernel
  have e2 : (⟨#[97 + t % 26]⟩ : Str) = mk [97 + t % 26] := rfl
  have e3 : (⟨#[97 + t / 26]⟩ : Str) = mk [97 + t / 26] := rfl
  rw [e0, e1, e2, e3, app_mk, app_mk, app_mk]
  rfl
theorem at_mod (t : Nat) : atI (tl lettersS) ((0 + (t : Int)) % 26) = some (97 + t % 26) := by
  have e : (0 + (t : Int)) % 26 = ((t % 26 : Nat) : Int) := by omega
  rw [e]
  exact atI_nat (letter_at _ (Nat.mod_lt _ (by decide)))
theorem at_div {t : Nat} (h : t < 676) : atI (tl lettersS) ((0 + (t : Int)) / 26) = some (97 + t / 26) := by
  have e : (0 + (t : Int)) / 26 = ((t / 26 : Nat) : Int) := by omega
  rw [e]
  exact atI_nat (letter_at _ (Nat.div_lt_of_lt_mul h))
def spPickS : Sp := fun vs H Q _ => ∃ (d w c : Addr) (n : Nat) (z : Str), vs = [.ref d, .str z] ∧ DrawAt H d w c n ∧ n < 2 ^ 40 ∧ 0 < z.length ∧ z.length < 2 ^ 20 ∧
  ∀ (ch : Nat) (H' : Hp), ch ∈ tl z → DrawAt H' d w c (n + 1) → But2 d w H H' → Q (.str (mk [ch])) H'
abbrev nNames : List Str := ["draw", "many", "letters", "found", "turn", "k", "word"]
def spNames : Sp := fun vs H Q _ => ∃ (d w c : Addr) (n m : Nat), vs = [.ref d, .int m] ∧ DrawAt H d w c n ∧ n + 10 * m < 2 ^ 40 ∧ m ≤ 676 ∧
  ∀ (a : Addr) (ws : List Str) (H' : Hp), NamesOk m ws → DrawAt H' d w c (n + 7 * m) → But2 d w H H' → H a = none → H' a = some (.lst (ws.map V.str)) → Q (.ref a) H'
section
variable {P : Program} {w0 : World} {K : PySem.W.Frag} {mg : Str → Option Value} {base : Heap}
theorem ok_pickS {f fT : Addr} {fd fdT : FuncData} (F : Fun K "_law_pick" "_law_pick" sPick f fd) (FT : Fun K "_law_take" "_law_take" sTake fT fdT) (bT : Binds K fdT ["draw", "many"] []) (gT : mg "_law_take" = some (.ref fT)) (gl : mg "len" = none)
    (GT : FnOk P w0 K mg base CX0 2 fT fdT ["draw", "many"] spTake) : FnOk P w0 K mg base CX0 3 f fd ["draw", "some"] spPickS := by
  refine F.ok scPick (fun vs H Q E h => ?_) (fun cdv A outer s H vs Q E hr h => ?_)
  · obtain ⟨d, w, c, n, z, rfl, _⟩ := h
    rfl
  · obtain ⟨d, w, c, n, z, rfl, hD, hn, hp, hl, k⟩ := h
    refine ⟨_, pss_one (ps_ret (pe_ix ix_str (pv 1) (pe_call GT hr (by rfl) gT FT.kp bT .nil pass0 (pa_cons (pv 0) (pa_cons (pe_callB call_len_str (by rfl) gl PySem.boot_len (pa_cons (pv 1) pa_nil)) pa_nil))) (fun _ _ => rfl))), ?_⟩
    have hz : z.length ≤ sizeLine := Nat.le_trans (Nat.le_of_lt hl) (by decide)
    refine ⟨_, rfl, _, rfl, _, rfl, z, rfl, hz, d, w, c, n, z.length, rfl, hD, hn, by omega, by omega, fun i H1 i0 i1 hD1 b1 => ?_⟩
    have hi : i.toNat < (tl z).length := by have := len_tl z; omega
    obtain ⟨j, rfl⟩ := Int.eq_ofNat_of_zero_le i0
    have hi : j < (tl z).length := by simpa using hi
    exact ⟨z, _, (tl z)[j], rfl, rfl, hz, atI_nat (List.getElem?_eq_getElem hi), k _ _ (List.getElem_mem hi) hD1 b1⟩
theorem scCoded : FnScope ["kind"] ["kind"] (defScope sCoded) := ⟨rfl, rfl, rfl, by decide +kernel, rfl, by decide +kernel, by decide +kernel⟩
theorem ok_coded {f : Addr} {fd : FuncData} (F : Fun K "_law_coded" "_law_coded" sCoded f fd) : FnOk P w0 K mg base CX0 1 f fd ["kind"] spKic := by
  refine F.ok scCoded (fun vs H Q E h => ?_) (fun cdv A outer s H vs Q E hr h => ?_)
  · obtain ⟨w, rfl, _⟩ := h
    rfl
  · obtain ⟨w, rfl, k⟩ := h
    refine ⟨_, pss_one (ps_ret (pe_ifExp (pt_cmpR op_eq (pv 0) pe_str (nomark _)) pe_str (pv 0))), ?_⟩
    refine ⟨_, rfl, rfl, _, rfl, ?_⟩
    rw [streq]
    unfold codedS at k
    refine ite2 (fun h => ?_) (fun h => ?_)
    · rw [if_pos (of_decide_eq_true h)] at k
      exact k
    · rw [if_neg (fun z => h (decide_eq_true z))] at k
      exact ⟨_, rfl, k⟩
theorem scNames : FnScope nNames ["draw", "many"] (defScope sNames) := ⟨rfl, rfl, rfl, by decide +kernel, rfl, by decide +kernel, by decide +kernel⟩
theorem DrawAt.knowD {H : Hp} {d w c p : Addr} {n : Nat} (h : DrawAt H d w c n) (hp : H p = none) : p ≠ d ∧ p ≠ w := by
  obtain ⟨⟨r, t, _, _, e1⟩, ⟨ws, e2⟩, _, _⟩ := h
  exact ⟨(ne_of_none e1 hp).symm, (ne_of_none e2 hp).symm⟩
theorem ok_names {f fP : Addr} {fd fdP : FuncData} (F : Fun K "_law_names" "_law_names" sNames f fd) (B : Gb mg) (FP : Fun K "_law_pick" "_law_pick" sPick fP fdP) (bP : Binds K fdP ["draw", "some"] []) (gP : mg "_law_pick" = some (.ref fP))
    (GP : FnOk P w0 K mg base CX0 3 fP fdP ["draw", "some"] (spPick K)) (GS : FnOk P w0 K mg base CX0 3 fP fdP ["draw", "some"] spPickS) : FnOk P w0 K mg base CX0 4 f fd ["draw", "many"] spNames := by
  refine F.ok scNames (fun vs H Q E h => ?_) (fun cdv A outer s H vs Q E hr h => ?_)
  · obtain ⟨d, w, c, n, m, rfl, _⟩ := h
    rfl
  · obtain ⟨d, w, c, n, m, rfl, hD, hn, hm, k⟩ := h
    refine ⟨_, pss_cons (ps_asg (pe_tup (pa_cons pe_str (pa_cons (pe_lst pa_nil) pa_nil))) (pg_tup (by rfl) (pgs_cons (pg_name (i := 2) scNames.nd rfl (Or.inr rfl)) (pgs_cons (pg_name (i := 3) scNames.nd rfl (Or.inl rfl)) pgs_nil))))
      (pss_cons (ps_for PassesOwn.never rfl (pi_range1 (by rfl) B.range (pa_cons (pv 1) pa_nil)) (pg_name (i := 4) scNames.nd rfl (.inl rfl))
        (Evl.pss_cut (ps_set (i := 6) scNames.nd rfl (.inl rfl) (pe_join pe_str (pe_lc (own := [("k", 5)]) (g := gName 5) (tt := tYes) (te := tCall spPickS [] E0 (tCons (tVar 0) (tCons (tVar 2) tNil))) (by rfl) scNames.nd
            (pi_range1 (by rfl) B.range (pa_cons (pe_call GP hr (by rfl) gP FP.kp bP .nil pass0 (pa_cons (pv 0) (pa_cons (pe_lst (pa_cons pe_int (pa_cons pe_int (pa_cons pe_int (pa_cons pe_int (pa_cons pe_int pa_nil)))))) pa_nil))) pa_nil))
            (blkOk_by (N := nNames) (sc := defScope sNames) (by decide +kernel)) (fun _ _ _ _ _ => pg_name (i := 5) scNames.nd rfl (Or.inl rfl)) (fun _ _ _ _ _ => pts_nil)
            (fun _ _ _ _ _ => pe_call GS hr (by rfl) gP FP.kp bP .nil pass0 (pa_cons (pv 0) (pa_cons (pv 2) pa_nil))))))
        (Evl.pss_cut (ps_if (PW.pt (pw_or (pt_cmpR op_in_seq (pv 6) (pv 3) rfl) (pw_or (pt_cmpR op_in_seq (pv 6) (pe_lst (pa_cons pe_str (pa_cons pe_str (pa_cons pe_str (pa_cons pe_str (pa_cons pe_str (pa_cons pe_str (pa_cons pe_str (pa_cons pe_str (pa_cons pe_str (pa_cons pe_str (pa_cons pe_str (pa_cons pe_str pa_nil))))))))))))) rfl)
            (pw_or1 (pt_cmpR op_gt (pe_callB call_len_str (by rfl) B.len PySem.boot_len (pa_cons (pv 6) pa_nil)) pe_int (nomark _))))))
          (pss_one (ps_set (i := 6) scNames.nd rfl (.inl rfl) (pe_op op_add_str (pe_op op_add_str (pe_slice sl_str (pv 6) po_none (po_some pe_int)) pe_str) (pe_ix ix_str (pv 2) (pe_op op_mod (pv 4) pe_int) (fun _ _ => rfl))))) pss_nil)
        (pss_one (ps_expr (pe_bm PySem.F.plainAttrs_list PySem.F.slot_list_append PySem.F.type_list_append mt_append (pv 3) (pa_cons (pe_ifExp (pt_cmpR op_notIn_seq (pv 6) (pv 3) rfl) (pv 6)
          (pe_op op_add_str (pe_op op_add_str (pe_op op_add_str pe_str (pe_ix ix_str (pv 2) (pe_op op_mod (pv 4) pe_int) (fun _ _ => rfl))) pe_str) (pe_ix ix_str (pv 2) (pe_op op_fdiv (pv 4) pe_int) (fun _ _ => rfl)))) pa_nil)))))))
      (pss_one (ps_ret (pv 3)))), ?_⟩
    refine ⟨(by show 0 ≤ sizeLine; decide), fun a ha => ⟨(by show 2 ≤ sizeLine; decide), fun t ht => ⟨t, _, rfl, SqT.of upd_same, rfl, _, _, rfl, _, _, rfl, rfl, ?_⟩⟩⟩
    have s1 : Same H (upd (upd H a (.lst [])) t (.tup [.str "abcdefghijklmnopqrstuvwxyz", .ref a])) := (Same.new ha).trans (Same.new ht)
    have e1 : (upd (upd H a (.lst [])) t (.tup [.str "abcdefghijklmnopqrstuvwxyz", .ref a])) a = some (.lst []) := (Same.new ht) _ _ upd_same
    have ka := hD.knowD ha
    have D1 : DrawAt (upd (upd H a (.lst [])) t (.tup [.str "abcdefghijklmnopqrstuvwxyz", .ref a])) d w c n := (hD.new ha).new ht
    have b1 : But2 d w H (upd (upd H a (.lst [])) t (.tup [.str "abcdefghijklmnopqrstuvwxyz", .ref a])) := fun b o e _ _ => s1 b o e
    have kc : a ≠ c := by
      obtain ⟨_, _, ⟨cs, e3⟩, _⟩ := hD
      exact (ne_of_none e3 ha).symm
    generalize upd (upd H a (.lst [])) t (.tup [.str "abcdefghijklmnopqrstuvwxyz", .ref a]) = H1 at s1 e1 D1 b1
    refine ⟨_, rfl, (m : Int), rfl, by omega, ?_, ?_⟩
    · have : (676 : Int) < 2 ^ 62 := by decide
      omega
    rw [Int.toNat_natCast]
    refine for_range (lo := 0) (n := m) (fun i σ H' => ∃ ws y4 y5 y6, NamesOk i ws ∧ DrawAt H' d w c (n + 7 * i) ∧ But2 d w H H' ∧ H' a = some (.lst (ws.map V.str)) ∧ σ = [some (.ref d), some (.int m), some (.str lettersS), some (.ref a), y4, y5, y6])
      ⟨[], _, _, _, .nil, D1, b1, e1, rfl⟩ ?_ ?_
    · rintro i σ H2 hi ⟨ws, y4, y5, y6, ok, D2, b2, e2, rfl⟩
      have hws := ok.len
      -- the word
      refine ⟨fun σ H' => ∃ l z5, Raw l ∧ DrawAt H' d w c (n + 7 * i + 7) ∧ But2 d w H H' ∧ H' a = some (.lst (ws.map V.str)) ∧ σ = [some (.ref d), some (.int m), some (.str lettersS), some (.ref a), some (.int (0 + (i : Int))), z5, some (.str (mk l))], ?_, ?_⟩
      · refine ⟨⟨_, rfl⟩, _, rfl, by show 5 ≤ sizeLine; decide, fun p hp => ?_⟩
        have kp := D2.knowD hp
        refine ⟨d, w, c, p, n + 7 * i, _, rfl, D2.new hp, by omega, kp.1, kp.2, SqL.of upd_same, by simp, by decide, fun x H3 hx D3 b3 => ?_⟩
        have hx : ∃ v : Nat, x = .int v ∧ (v = 1 ∨ v = 2 ∨ v = 4 ∨ v = 6) := by
          simp only [List.mem_cons, List.not_mem_nil, or_false] at hx
          rcases hx with rfl | rfl | rfl | rfl | rfl
          · exact ⟨1, rfl, .inl rfl⟩
          · exact ⟨1, rfl, .inl rfl⟩
          · exact ⟨2, rfl, .inr (.inl rfl)⟩
          · exact ⟨4, rfl, .inr (.inr (.inl rfl))⟩
          · exact ⟨6, rfl, .inr (.inr (.inr rfl))⟩
        obtain ⟨v, rfl, hv⟩ := hx
        refine ⟨v, rfl, by omega, by omega, fun q hq => ?_⟩
        rw [Int.toNat_natCast]
        have e3 : H3 a = some (.lst (ws.map V.str)) := b3 _ _ ((Same.new hp) _ _ e2) ka.1 ka.2
        have b3' : But2 d w H H3 := b2.trans (((But2.refl d w H2).new hp).trans b3)
        have kq := D3.knowD hq
        refine lc_range (lo := 0) (n := v) (fun j H' => ∃ l : L, l.length = j ∧ (∀ ch ∈ l, small ch = true) ∧ DrawAt H' d w c (n + 7 * i + 1 + j) ∧ But2 d w H3 H' ∧ H' q = some (.lst ((l.map fun ch => mk [ch]).map V.str)))
          ⟨[], rfl, by simp, D3.new hq, (But2.refl d w H3).new hq, upd_same⟩ ?_ ?_
        · rintro j H4 hj ⟨l, hl, hs, D4, b4, e4⟩
          refine ⟨rfl, yes ⟨_, rfl, _, rfl, d, w, c, n + 7 * i + 1 + j, lettersS, rfl, D4, by omega, (by show 0 < 26; decide), (by show 26 < 2 ^ 20; decide), fun ch H5 hch D5 b5 => ?_⟩⟩
          have e5 := b5 _ _ e4 kq.1 kq.2
          have kqc : q ≠ c := by
            obtain ⟨_, _, ⟨cs, e⟩, _⟩ := D3
            exact (ne_of_none e hq).symm
          refine ⟨_, e5, ?_, l ++ [ch], by simp [hl], ?_, ?_, ?_, ?_⟩
          · rw [List.length_map, List.length_map, hl]
            exact small1000 (by omega)
          · intro x hx
            rcases List.mem_append.mp hx with hx | hx
            · exact hs x hx
            · rw [List.mem_singleton.mp hx]
              exact letters_small hch
          · exact D5.kp (Kp.upd (S := [q]) e5 (fun _ z => nomatch z) (by simp)) (by simpa using kq.1.symm) (by simpa using kq.2.symm) (by simpa using kqc.symm)
          · intro b o e h1 h2
            rw [upd_ne (ne_of_none e hq)]
            exact b5 b o (b4 b o e h1 h2) h1 h2
          · rw [upd_same, List.map_append, List.map_append]
            rfl
        · rintro H4 ⟨l, hl, hs, D4, b4, e4⟩
          refine ⟨"", q, l.map fun ch => mk [ch], rfl, rfl, .inl (SqL.of e4), ?_, ?_⟩
          · have e0 : (Str.ofString "").length = 0 := by decide +kernel
            have es : ∀ l : L, ((l.map fun ch => mk [ch]).map (·.length)).sum = l.length := by
              intro l
              induction l with
              | nil => rfl
              | cons c l ih =>
                simp only [List.map_cons, List.sum_cons, List.length_cons, ih, len_mk]
                simp
                omega
            rw [e0, es, hl]
            omega
          · rw [join_signs]
            exact ⟨l, _, ⟨hs, by omega, by omega, by omega⟩, D4.mono (by omega), b3'.trans b4, b4 _ _ e3 ka.1 ka.2, rfl⟩
      rintro σ H3 ⟨l, z5, hr2, D3, b3, e3, rfl⟩
      have hz : (mk l).length ≤ sizeLine := by
        rw [len_mk]
        have := hr2.len
        exact Nat.le_trans this (by decide)
      have cut5 : cutS (mk l) none (some (5 : Int)) = mk (l.take 5) := by
        have := cut_0n (mk l) 5
        rw [tl_mk] at this
        exact this
      have lt5 : (mk (l.take 5)).length ≤ 5 := by rw [len_mk, List.length_take]; omega
      refine ⟨fun σ H' => DrawAt H' d w c (n + 7 * i + 7) ∧ But2 d w H H' ∧ H' a = some (.lst (ws.map V.str)) ∧ σ = [some (.ref d), some (.int m), some (.str lettersS), some (.ref a), some (.int (0 + (i : Int))), z5, some (.str (theWord l i ws))], ?_, ?_⟩
      · refine ⟨_, rfl, _, rfl, a, ws.map V.str, rfl, .inl (SqL.of e3), rfl, flat_strs _, _, rfl, ?_⟩
        rw [if_neg Bool.false_ne_true, inV_str]
        by_cases h1 : mk l ∈ ws
        · have et : theWord l i ws = modW l i := if_pos (.inl h1)
          rw [decide_eq_true h1]
          refine iteT ⟨_, rfl, 5, rfl, mk l, rfl, hz, mk (l.take 5), "z", (by rw [← cut5]), rfl, ?_, ?_⟩
          · exact Nat.le_of_lt (small1000 (by show (mk (l.take 5)).length + 1 ≤ 1000; omega))
          refine ⟨_, rfl, _, rfl, _, _, rfl, rfl, (by show (0 : Int) < 26; decide), lettersS, _, _, rfl, rfl, (by show 26 ≤ sizeLine; decide), at_mod i, _, _, rfl, rfl, ?_, D3, b3, e3, ?_⟩
          · have ez : (mk (l.take 5) ++ "z" : Str) = mk (l.take 5 ++ [122]) := by
              have e1 : ("z" : Str) = mk [122] := by decide +kernel
              rw [e1, app_mk]
            rw [ez, len_mk]
            exact Nat.le_of_lt (small1000 (by show (l.take 5 ++ [122]).length + 1 ≤ 1000; rw [List.length_append, List.length_take]; show min 5 l.length + 1 + 1 ≤ 1000; omega))
          · rw [et, ← mod_eq]
            rfl
        rw [decide_eq_false h1]
        refine iteF ⟨_, rfl, (by show 12 ≤ sizeLine; decide), fun p hp => ?_⟩
        refine ⟨p, kept12.map V.str, rfl, .inl (SqL.of upd_same), rfl, flat_strs _, _, rfl, ?_⟩
        have D3 := D3.new (o := .lst (kept12.map V.str)) hp
        have b3 := b3.new (o := .lst (kept12.map V.str)) hp
        have e3 := (Same.new (o := .lst (kept12.map V.str)) hp) _ _ e3
        rw [if_neg Bool.false_ne_true, inV_str]
        by_cases h2 : mk l ∈ kept12
        · have et : theWord l i ws = modW l i := if_pos (.inr (.inl h2))
          rw [decide_eq_true h2]
          refine iteT ⟨_, rfl, 5, rfl, mk l, rfl, hz, mk (l.take 5), "z", (by rw [← cut5]), rfl, ?_, ?_⟩
          · exact Nat.le_of_lt (small1000 (by show (mk (l.take 5)).length + 1 ≤ 1000; omega))
          refine ⟨_, rfl, _, rfl, _, _, rfl, rfl, (by show (0 : Int) < 26; decide), lettersS, _, _, rfl, rfl, (by show 26 ≤ sizeLine; decide), at_mod i, _, _, rfl, rfl, ?_, D3, b3, e3, ?_⟩
          · have ez : (mk (l.take 5) ++ "z" : Str) = mk (l.take 5 ++ [122]) := by
              have e1 : ("z" : Str) = mk [122] := by decide +kernel
              rw [e1, app_mk]
            rw [ez, len_mk]
            exact Nat.le_of_lt (small1000 (by show (l.take 5 ++ [122]).length + 1 ≤ 1000; rw [List.length_append, List.length_take]; show min 5 l.length + 1 + 1 ≤ 1000; omega))
          · rw [et, ← mod_eq]
            rfl
        rw [decide_eq_false h2]
        refine iteF ⟨_, rfl, mk l, rfl, hz, _, _, rfl, rfl, _, rfl, ?_⟩
        by_cases h3 : 3 < l.length
        · have et : theWord l i ws = modW l i := if_pos (.inr (.inr h3))
          rw [decide_eq_true (show (3 : Int) < (mk l).length by rw [len_mk]; omega)]
          refine iteT ⟨_, rfl, 5, rfl, mk l, rfl, hz, mk (l.take 5), "z", (by rw [← cut5]), rfl, ?_, ?_⟩
          · exact Nat.le_of_lt (small1000 (by show (mk (l.take 5)).length + 1 ≤ 1000; omega))
          refine ⟨_, rfl, _, rfl, _, _, rfl, rfl, (by show (0 : Int) < 26; decide), lettersS, _, _, rfl, rfl, (by show 26 ≤ sizeLine; decide), at_mod i, _, _, rfl, rfl, ?_, D3, b3, e3, ?_⟩
          · have ez : (mk (l.take 5) ++ "z" : Str) = mk (l.take 5 ++ [122]) := by
              have e1 : ("z" : Str) = mk [122] := by decide +kernel
              rw [e1, app_mk]
            rw [ez, len_mk]
            exact Nat.le_of_lt (small1000 (by show (l.take 5 ++ [122]).length + 1 ≤ 1000; rw [List.length_append, List.length_take]; show min 5 l.length + 1 + 1 ≤ 1000; omega))
          · rw [et, ← mod_eq]
            rfl
        rw [decide_eq_false (show ¬ (3 : Int) < (mk l).length by rw [len_mk]; omega)]
        have et : theWord l i ws = mk l := if_neg fun z => z.elim h1 fun z => z.elim h2 h3
        refine iteF ⟨D3, b3, e3, ?_⟩
        rw [et]
      rintro σ H4 ⟨D4, b4, e4, rfl⟩
      have ok2 := ok.step hr2 (by omega : i < 676)
      have kac : a ∉ ([] : List Addr) := by simp
      have fin : ∀ H5, H5 = upd H4 a (.lst (ws.map V.str ++ [V.str (theName l i ws)])) → ∃ ws' y4 y5 y6, NamesOk (i + 1) ws' ∧ DrawAt H5 d w c (n + 7 * (i + 1)) ∧ But2 d w H H5 ∧ H5 a = some (.lst (ws'.map V.str)) ∧ [some (V.ref d), some (V.int m), some (V.str lettersS), some (V.ref a), some (V.int (0 + (i : Int))), z5, some (V.str (theWord l i ws))] = [some (.ref d), some (.int m), some (.str lettersS), some (.ref a), y4, y5, y6] := by
        rintro H5 rfl
        refine ⟨ws ++ [theName l i ws], _, _, _, ok2, ?_, ?_, ?_, rfl⟩
        · have := D4.kp (Kp.upd (S := [a]) (o := .lst (ws.map V.str ++ [V.str (theName l i ws)])) e4 (fun _ z => nomatch z) (by simp)) (by simpa using ka.1.symm) (by simpa using ka.2.symm) (by simpa using kc.symm)
          exact this
        · intro b o e h1 h2
          rw [upd_ne (ne_of_none e ha)]
          exact b4 b o e h1 h2
        · rw [upd_same, List.map_append]
          rfl
      have lws : (ws.map V.str).length < sizeLine := by
        rw [List.length_map, hws]
        exact small1000 (by omega)
      refine ⟨_, rfl, .inl ⟨rfl, _, SqL.of e4⟩, _, rfl, _, rfl, a, ws.map V.str, rfl, .inl (SqL.of e4), rfl, flat_strs _, _, rfl, ?_⟩
      rw [if_pos rfl, inV_str]
      by_cases hw : theWord l i ws ∈ ws
      · rw [decide_eq_true hw]
        have et : theName l i ws = qzW i := if_pos hw
        refine iteF ⟨_, rfl, _, rfl, _, _, rfl, rfl, (by show (0 : Int) < 26; decide), lettersS, _, _, rfl, rfl, (by show 26 ≤ sizeLine; decide), at_mod i, _, _, rfl, rfl, (by show 2 + 1 ≤ sizeLine; decide), _, _, rfl, rfl, (by show 3 + 1 ≤ sizeLine; decide), _, rfl, _, rfl, _, _, rfl, rfl, ⟨(by decide), (by decide)⟩, lettersS, _, _, rfl, rfl, (by show 26 ≤ sizeLine; decide), at_div (by omega), _, _, rfl, rfl, (by show 4 + 1 ≤ sizeLine; decide), a, _, _, rfl, rfl, e4, lws, fin _ ?_⟩
        rw [et, ← qz_eq]
      · rw [decide_eq_false hw]
        have et : theName l i ws = theWord l i ws := if_neg hw
        exact iteT ⟨_, rfl, a, _, _, rfl, rfl, e4, lws, fin _ (by rw [et])⟩
    · rintro σ H2 ⟨ws, y4, y5, y6, ok, D2, b2, e2, rfl⟩
      exact ⟨_, rfl, k a ws H2 ok D2 b2 ha e2⟩
end
end SA
set_option Elab.async false
set_option linter.all false
set_option maxRecDepth 100000
set_option maxHeartbeats 8000000
namespace SA
open PySem PySem.Spec PyProof.Rows L2 K1
abbrev sDeclrd : Stmt := topS 34
abbrev sShuf : Stmt := topS 35
/-- the draw, a list of names that is used up, and lists of texts that stay -/
structure NSt (H0 : Hp) (d w c nm : Addr) (cs : List (Addr × List V × List PyData)) (ws : List Str) (n : Nat) (H : Hp) : Prop where
  kp : Kp [d, w, nm] H0 H
  draw : DrawAt H d w c n
  nmE : H nm = some (.lst (ws.map V.str))
  csE : ∀ p ∈ cs, H p.1 = some (.lst p.2.1) ∧ (p.1 ≠ d ∧ p.1 ≠ w ∧ p.1 ≠ nm) ∧ DaAll H p.2.1 p.2.2 ∧ tupOs p.2.2 = true
  ne : nm ≠ d ∧ nm ≠ w ∧ nm ≠ c
  tb : ∀ T : List (Addr × Str), LamX.Tabs T H0 → LamX.Tabs T H
theorem tabs_upd {T : List (Addr × Str)} {H : Hp} {q : Addr} {o o' : HO} (t : LamX.Tabs T H) (e : H q = some o') (h1 : ∀ ps, o' ≠ .tbl ps) (h2 : ∀ φ, o' ≠ .ext φ) : LamX.Tabs T (upd H q o) := by
  intro p hp
  obtain ⟨ps, q1, q2, q3⟩ := t p hp
  refine ⟨ps, by rw [upd_ne (ne_of q1 e (fun z => h1 ps z.symm))]; exact q1, q2, fun pos cv hc => ?_⟩
  obtain ⟨c', z1, z2⟩ := q3 pos cv hc
  have z3 : H c' = some (LamX.CodeO c' p.2) := z2
  exact ⟨c', z1, by rw [upd_ne (ne_of z3 e (fun z => h2 _ z.symm))]; exact z2⟩
theorem tabs_but2 {T : List (Addr × Str)} {H H' : Hp} {d w c : Addr} {n : Nat} (t : LamX.Tabs T H) (h : DrawAt H d w c n) (e : But2 d w H H') : LamX.Tabs T H' := by
  obtain ⟨⟨r, t0, _, _, e1⟩, ⟨ws, e2⟩, _, _⟩ := h
  intro p hp
  obtain ⟨ps, q1, q2, q3⟩ := t p hp
  refine ⟨ps, e _ _ q1 (ne_of q1 e1 (fun z => nomatch z)) (ne_of q1 e2 (fun z => nomatch z)), q2, fun pos cv hc => ?_⟩
  obtain ⟨c', z1, z2⟩ := q3 pos cv hc
  have z3 : H c' = some (LamX.CodeO c' p.2) := z2
  exact ⟨c', z1, e _ _ z2 (ne_of z3 e1 (fun z => nomatch z)) (ne_of z3 e2 (fun z => nomatch z))⟩
theorem But2.of {d w : Addr} {H H' : Hp} (s : Same H H') : But2 d w H H' := fun b o e _ _ => s b o e
theorem But2.mut {d w p : Addr} {H H' : Hp} {o : HO} (k : But2 d w H H') (h : H p = none) : But2 d w H (upd H' p o) := fun b u e h1 h2 => by rw [upd_ne (ne_of_none e h)]; exact k b u e h1 h2
section
variable {H0 H H' : Hp} {d w c nm : Addr} {cs : List (Addr × List V × List PyData)} {ws : List Str} {n m : Nat}
theorem NSt.same (h : NSt H0 d w c nm cs ws n H) (s : Same H H') : NSt H0 d w c nm cs ws n H' :=
  ⟨h.kp.trans (.of s), h.draw.kp (S := []) (.of s) (by simp) (by simp) (by simp), s _ _ h.nmE, fun p hp => let ⟨a, b, c, d⟩ := h.csE p hp; ⟨s _ _ a, b, c.same s, d⟩, h.ne, fun T t => (h.tb T t).ext s⟩
theorem NSt.drew (h : NSt H0 d w c nm cs ws n H) (D : DrawAt H' d w c m) (b : But2 d w H H') : NSt H0 d w c nm cs ws m H' :=
  ⟨h.kp.trans ((Kp.of2 h.draw b).mono (by simp)), D, b _ _ h.nmE h.ne.1 h.ne.2.1, fun p hp => let ⟨q, r, t, u⟩ := h.csE p hp; ⟨b _ _ q r.1 r.2.1, r, DaAll.kp (Kp.of2 h.draw b) u t, u⟩, h.ne, fun T t => tabs_but2 (h.tb T t) h.draw b⟩
theorem NSt.kpN (h : NSt H0 d w c nm cs ws n H) (l : List V) : Kp [nm] H (upd H nm (.lst l)) := Kp.upd h.nmE (fun _ z => nomatch z) (by simp)
theorem NSt.pop {ws' : List Str} (h : NSt H0 d w c nm cs ws n H) : NSt H0 d w c nm cs ws' n (upd H nm (.lst (ws'.map V.str))) :=
  ⟨h.kp.trans ((h.kpN _).mono (by simp)), h.draw.kp (h.kpN _) (by simpa using h.ne.1.symm) (by simpa using h.ne.2.1.symm) (by simpa using h.ne.2.2.symm), upd_same, fun p hp => let ⟨q, r, t, u⟩ := h.csE p hp; ⟨by rw [upd_ne r.2.2]; exact q, r, DaAll.kp (h.kpN _) u t, u⟩, h.ne, fun T t => tabs_upd (h.tb T t) h.nmE (fun _ z => nomatch z) (fun _ z => nomatch z)⟩
theorem NSt.mut {q : Addr} {o o' : HO} (h : NSt H0 d w c nm cs ws n H) (e : H q = some o') (hn : ∀ xs, o' ≠ .tup xs) (h0 : Out H0 q) (h1 : q ≠ d) (h2 : q ≠ w) (h3 : q ≠ c) (h4 : q ≠ nm) (h5 : ∀ p ∈ cs, p.1 ≠ q) (h6 : ∀ ps, o' ≠ .tbl ps := by intro _ z; cases z) (h7 : ∀ φ, o' ≠ .ext φ := by intro _ z; cases z) : NSt H0 d w c nm cs ws n (upd H q o) :=
  ⟨h.kp.out h0, h.draw.kp (Kp.upd (S := [q]) e hn (by simp)) (by simpa using h1.symm) (by simpa using h2.symm) (by simpa using h3.symm), by rw [upd_ne h4.symm]; exact h.nmE, fun p hp => let ⟨a, r, t, u⟩ := h.csE p hp; ⟨by rw [upd_ne (h5 p hp)]; exact a, r, DaAll.kp (Kp.upd (S := [q]) e hn (by simp)) u t, u⟩, h.ne, fun T t => tabs_upd (h.tb T t) e h6 h7⟩
theorem NSt.sub {cs' : List (Addr × List V × List PyData)} (h : NSt H0 d w c nm cs ws n H) (hs : ∀ p ∈ cs', p ∈ cs) : NSt H0 d w c nm cs' ws n H := ⟨h.kp, h.draw, h.nmE, fun p hp => h.csE p (hs p hp), h.ne, h.tb⟩
/-- what is new is none of these -/
theorem NSt.fresh {q : Addr} (h : NSt H0 d w c nm cs ws n H) (hq : H q = none) : q ≠ d ∧ q ≠ w ∧ q ≠ c ∧ q ≠ nm ∧ ∀ p ∈ cs, p.1 ≠ q := by
  obtain ⟨⟨r, t, _, _, e1⟩, ⟨ws, e2⟩, ⟨cs', e3⟩, _⟩ := h.draw
  exact ⟨(ne_of_none e1 hq).symm, (ne_of_none e2 hq).symm, (ne_of_none e3 hq).symm, (ne_of_none h.nmE hq).symm, fun p hp => ne_of_none (h.csE p hp).1 hq⟩
theorem NSt.out {q : Addr} (h : NSt H0 d w c nm cs ws n H) (hq : H q = none) : Out H0 q := Out.kp h.kp hq (by
  have := h.fresh hq
  intro s hs
  simp only [List.mem_cons, List.not_mem_nil, or_false] at hs
  rcases hs with rfl | rfl | rfl
  · exact this.1.symm
  · exact this.2.1.symm
  · exact this.2.2.2.1.symm)
theorem NSt.add {a : Addr} {l : List V} {ds : List PyData} (h : NSt H0 d w c nm cs ws n H) (e : H a = some (.lst l)) (hd : DaAll H l ds) (ht : tupOs ds = true) (h1 : a ≠ d) (h2 : a ≠ w) (h3 : a ≠ nm) : NSt H0 d w c nm ((a, l, ds) :: cs) ws n H :=
  ⟨h.kp, h.draw, h.nmE, fun p hp => by
    rcases List.mem_cons.mp hp with rfl | hp
    · exact ⟨e, ⟨h1, h2, h3⟩, hd, ht⟩
    · exact h.csE p hp, h.ne, h.tb⟩
theorem NSt.mono (h : NSt H0 d w c nm cs ws n H) (hn : n ≤ m) : NSt H0 d w c nm cs ws m H := ⟨h.kp, h.draw.mono hn, h.nmE, h.csE, h.ne, h.tb⟩
/-- a list of texts, and its data -/
def tx (a : Addr) (l : List Str) : Addr × List V × List PyData := (a, l.map V.str, l.map .str)
theorem NSt.addT {a : Addr} {l : List Str} (h : NSt H0 d w c nm cs ws n H) (e : H a = some (.lst (l.map V.str))) (h1 : a ≠ d) (h2 : a ≠ w) (h3 : a ≠ nm) : NSt H0 d w c nm (tx a l :: cs) ws n H :=
  h.add e (strs_da _) (tupOs_strs _) h1 h2 h3
def poolS (own : List Str) (st : Str) : List Str := "number" :: "truth" :: (own ++ [st])
theorem pool_kind {own : List Str} {st x : Str} (hx : x ∈ poolS own st) (h : ∀ y ∈ own ++ [st], isName y = true) : isKindS x = true ∧ x.length ≤ 8 := by
  unfold poolS at hx
  rcases List.mem_cons.mp hx with rfl | hx
  · exact ⟨by decide +kernel, by decide +kernel⟩
  rcases List.mem_cons.mp hx with rfl | hx
  · exact ⟨by decide +kernel, by decide +kernel⟩
  have := h x hx
  refine ⟨?_, isName_len this⟩
  unfold isKindS
  rw [this, Bool.or_true]
theorem snoc_of {α : Type} : ∀ {l : List α}, l ≠ [] → ∃ r y, l = r ++ [y] := fun {l} h => ⟨l.dropLast, l.getLast h, (List.dropLast_concat_getLast h).symm⟩
theorem last_at {r : List Str} {y : Str} : (((r ++ [y]).map V.str))[((r ++ [y]).map V.str).length - 1]? = some (.str y) ∧ ((r ++ [y]).map V.str).dropLast = r.map V.str := by
  constructor
  · rw [List.map_append, List.length_append, List.getElem?_append_right (by simp)]
    simp
  · rw [List.map_append]
    simp
end
abbrev nDeclrd : List Str := ["draw", "names", "k", "own", "found", "pool", "name", "variants", "j"]
/-- one to four declarations -/
def spDeclared : Sp := fun vs H Q _ => ∃ (d w c nm : Addr) (ws : List Str) (n : Nat), vs = [.ref d, .ref nm] ∧ DrawAt H d w c n ∧ H nm = some (.lst (ws.map V.str)) ∧ nm ≠ d ∧ nm ≠ w ∧ nm ≠ c ∧ n < 2 ^ 39 ∧ ws.length = 50 ∧ ws.Nodup ∧ (∀ x ∈ ws, isName x = true) ∧
  ∀ (a : Addr) (xs : List V) (L : List Dcl) (ws' : List Str) (H' : Hp), NSt H d w c nm [] ws' (n + 100) H' → Out H a → H' a = some (.lst xs) → DaAll H' xs (L.map Dcl.d) → (∀ D ∈ L, D.Ok) → 1 ≤ L.length → L.length ≤ 4 → (L.flatMap Dcl.names ++ ws').Nodup → (∀ x ∈ ws', x ∈ ws) → 29 ≤ ws'.length → Q (.ref a) H'
section
variable {P : Program} {w0 : World} {K : PySem.W.Frag} {mg : Str → Option Value} {base : Heap}
theorem scDeclrd : FnScope nDeclrd ["draw", "names"] (defScope sDeclrd) := ⟨rfl, rfl, rfl, by decide +kernel, rfl, by decide +kernel, by decide +kernel⟩
theorem ok_declared {f fP fT : Addr} {fd fdP fdT : FuncData} (F : Fun K "_law_declared" "_law_declared" sDeclrd f fd) (B : Gb mg) (FP : Fun K "_law_pick" "_law_pick" sPick fP fdP) (bP : Binds K fdP ["draw", "some"] []) (gP : mg "_law_pick" = some (.ref fP))
    (GP : FnOk P w0 K mg base CX0 3 fP fdP ["draw", "some"] (spPick K)) (FT : Fun K "_law_take" "_law_take" sTake fT fdT) (bT : Binds K fdT ["draw", "many"] []) (gT : mg "_law_take" = some (.ref fT)) (GT : FnOk P w0 K mg base CX0 2 fT fdT ["draw", "many"] spTake) :
    FnOk P w0 K mg base CX0 4 f fd ["draw", "names"] spDeclared := by
  refine F.ok scDeclrd (fun vs H Q E h => ?_) (fun cdv A outer s H vs Q E hr h => ?_)
  · obtain ⟨d, w, c, nm, ws, n, rfl, _⟩ := h
    rfl
  · obtain ⟨d, w, c, nm, ws, n, rfl, hD, hN, n1, n2, n3, hn, h50, nd, nam, k⟩ := h
    have hr2 := hr.mono (by decide : 2 ≤ 3)
    refine ⟨_, Evl.pss_cut (ps_par (i := 3) (j := 4) rfl scDeclrd.nd rfl rfl (by decide) rfl rfl (pa_cons (pe_lc (own := [("k", 2)]) (g := gName 2) (tt := tYes) (te := tBM0 K "list" rPop (tVar 1)) (by rfl) scDeclrd.nd
            (pi_range1 (by rfl) B.range (pa_cons (pe_op op_add pe_int (pe_call GT hr2 (by rfl) gT FT.kp bT .nil pass0 (pa_cons (pv 0) (pa_cons pe_int pa_nil)))) pa_nil))
            (blkOk_by (N := nDeclrd) (sc := defScope sDeclrd) (by decide +kernel)) (fun _ _ _ _ _ => pg_name (i := 2) scDeclrd.nd rfl (Or.inl rfl)) (fun _ _ _ _ _ => pts_nil)
            (fun _ _ _ _ _ => pe_bm0 PySem.F.plainAttrs_list PySem.F.slot_list_pop PySem.F.type_list_pop mt_pop (pv 1))) (pa_cons (pe_lst pa_nil) pa_nil)) rfl)
      (Evl.pss_cut (ps_set (i := 5) scDeclrd.nd rfl (.inr rfl) (pe_op op_cat (pe_op op_cat (pe_lst (pa_cons pe_str (pa_cons pe_str pa_nil))) (pv 3)) (pe_lst (pa_cons (pe_bm0 PySem.F.plainAttrs_list PySem.F.slot_list_pop PySem.F.type_list_pop mt_pop (pv 1)) pa_nil))))
      (pss_cons (ps_for PassesOwn.never rfl (pi_list (pv 3)) (pg_name (i := 6) scDeclrd.nd rfl (.inl rfl))
        (pss_one (ps_if (pt_cmpR op_eq (pe_call GT hr2 (by rfl) gT FT.kp bT .nil pass0 (pa_cons (pv 0) (pa_cons pe_int pa_nil))) pe_int (nomark _))
          (pss_one (ps_expr (pe_bm PySem.F.plainAttrs_list PySem.F.slot_list_append PySem.F.type_list_append mt_append (pv 4) (pa_cons (pe_tup (pa_cons pe_str (pa_cons (pv 6) (pa_cons (pe_call GP hr (by rfl) gP FP.kp bP .nil pass0 (pa_cons (pv 0) (pa_cons (pv 5) pa_nil))) pa_nil)))) pa_nil))))
          (pss_cons (ps_set (i := 7) scDeclrd.nd rfl (.inl rfl) (pe_lst pa_nil))
          (Evl.pss_cut (ps_for PassesOwn.never rfl (pi_range1 (by rfl) B.range (pa_cons (pe_op op_add pe_int (pe_call GT hr2 (by rfl) gT FT.kp bT .nil pass0 (pa_cons (pv 0) (pa_cons pe_int pa_nil)))) pa_nil)) (pg_name (i := 2) scDeclrd.nd rfl (.inl rfl))
            (pss_one (ps_expr (pe_bm PySem.F.plainAttrs_list PySem.F.slot_list_append PySem.F.type_list_append mt_append (pv 7) (pa_cons (pe_tup (pa_cons (pe_bm0 PySem.F.plainAttrs_list PySem.F.slot_list_pop PySem.F.type_list_pop mt_pop (pv 1))
              (pa_cons (pe_callTy call_tuple_of (by rfl) B.tuple (by decide +kernel) (pa_cons (pe_lc (own := [("j", 8)]) (g := gName 8) (tt := tYes) (te := tCall (spPick K) [] E0 (tCons (tVar 0) (tCons (tVar 5) tNil))) (by rfl) scDeclrd.nd
                (pi_range1 (by rfl) B.range (pa_cons (pe_call GT hr2 (by rfl) gT FT.kp bT .nil pass0 (pa_cons (pv 0) (pa_cons pe_int pa_nil))) pa_nil))
                (blkOk_by (N := nDeclrd) (sc := defScope sDeclrd) (by decide +kernel)) (fun _ _ _ _ _ => pg_name (i := 8) scDeclrd.nd rfl (Or.inl rfl)) (fun _ _ _ _ _ => pts_nil)
                (fun _ _ _ _ _ => pe_call GP hr (by rfl) gP FP.kp bP .nil pass0 (pa_cons (pv 0) (pa_cons (pv 5) pa_nil)))) pa_nil)) pa_nil))) pa_nil)))))
          (pss_one (ps_expr (pe_bm PySem.F.plainAttrs_list PySem.F.slot_list_append PySem.F.type_list_append mt_append (pv 4) (pa_cons (pe_tup (pa_cons pe_str (pa_cons (pv 6) (pa_cons (pe_callTy call_tuple_of (by rfl) B.tuple (by decide +kernel) (pa_cons (pv 7) pa_nil)) pa_nil)))) pa_nil)))))))))
      (pss_one (ps_ret (pv 4))))), ?_⟩
    have N0 : NSt H d w c nm [] ws n H := ⟨Kp.refl _ _, hD, hN, by simp, ⟨n1, n2, n3⟩, fun _ t => t⟩
    refine ⟨fun σ H' => ∃ oa fa own ws' y2, σ = [some (.ref d), some (.ref nm), y2, some (.ref oa), some (.ref fa), none, none, none, none] ∧ NSt H d w c nm [tx oa own] ws' (n + 1) H' ∧ H' fa = some (.lst []) ∧ Out H fa ∧ fa ≠ oa ∧ fa ≠ nm ∧ fa ≠ d ∧ fa ≠ w ∧ fa ≠ c ∧ (own ++ ws').Perm ws ∧ 1 ≤ own.length ∧ own.length ≤ 4, ?_, ?_⟩
    · refine ⟨_, rfl, d, w, c, n, 4, rfl, hD, by omega, by decide, by decide, fun v H1 v0 v4 D1 b1 => ?_⟩
      have N1 := N0.drew D1 b1
      refine ⟨_, _, rfl, rfl, 1 + v, rfl, by omega, (by have h62 : (10 : Int) < 2 ^ 62 := (by decide); omega), fun oa hoa => ?_⟩
      obtain ⟨q, hq, h1, h4⟩ : ∃ q : Nat, (1 + v).toNat = q ∧ 1 ≤ q ∧ q ≤ 4 := ⟨(1 + v).toNat, rfl, by omega, by omega⟩
      rw [hq]
      have ho := N1.fresh hoa
      refine lc_range (lo := 0) (n := q) (fun j H' => ∃ ys ws', ys.length = j ∧ (ys ++ ws').Perm ws ∧ NSt H d w c nm [] ws' (n + 1) H' ∧ H' oa = some (.lst (ys.map V.str))) ⟨[], ws, rfl, .refl _, N1.same (Same.new hoa), upd_same⟩ ?_ ?_
      · rintro j H2 hj ⟨ys, ws', ly, pm, N2, e2⟩
        have hl := pm.length_eq
        rw [List.length_append] at hl
        obtain ⟨r, y, rfl⟩ : ∃ r y, ws' = r ++ [y] := snoc_of (by intro z; rw [z] at hl; simp at hl; omega)
        refine ⟨rfl, yes ⟨_, rfl, .inl ⟨rfl, _, SqL.of N2.nmE⟩, nm, _, .str y, rfl, rfl, N2.nmE, last_at.1, ?_⟩⟩
        rw [last_at.2]
        have N3 := N2.pop (ws' := r)
        have e3 : (upd H2 nm (.lst (r.map V.str))) oa = some (.lst (ys.map V.str)) := by rw [upd_ne ho.2.2.2.1]; exact e2
        refine ⟨_, e3, ?_, ys ++ [y], r, by rw [List.length_append, ly, List.length_singleton], ?_, N3.mut e3 (fun _ z => nomatch z) (N1.out hoa) ho.1 ho.2.1 ho.2.2.1 ho.2.2.2.1 (by simp), ?_⟩
        · rw [List.length_map, ly]
          exact small1000 (by omega)
        · refine (List.Perm.trans ?_ pm)
          rw [List.append_assoc]
          exact List.Perm.append_left _ (List.perm_append_comm)
        · rw [upd_same, List.map_append]
          rfl
      · rintro H2 ⟨ys, ws', ly, pm, N2, e2⟩
        refine ⟨(by show 0 ≤ sizeLine; decide), fun fa hfa => ⟨_, _, rfl, oa, fa, ys, ws', _, rfl, (N2.addT e2 ho.1 ho.2.1 ho.2.2.2.1).same (Same.new hfa), upd_same, ?_, ?_⟩⟩
        · exact (N2.addT e2 ho.1 ho.2.1 ho.2.2.2.1).out hfa
        have hf := (N2.addT e2 ho.1 ho.2.1 ho.2.2.2.1).fresh hfa
        exact ⟨(hf.2.2.2.2 (tx oa ys) (by simp)).symm, hf.2.2.2.1, hf.1, hf.2.1, hf.2.2.1, pm, by omega, by omega⟩
    rintro σ H1 ⟨oa, fa, own, ws', y2, rfl, N1, ef, hf0, f1, f2, f3, f4, f5, pm, o1, o4⟩
    refine ⟨fun σ H' => ∃ pa st r, σ = [some (.ref d), some (.ref nm), y2, some (.ref oa), some (.ref fa), some (.ref pa), none, none, none] ∧ NSt H d w c nm [tx pa (poolS own st), tx oa own] r (n + 1) H' ∧ H' fa = some (.lst []) ∧ fa ≠ pa ∧ (own ++ [st] ++ r).Perm ws, ?_, ?_⟩
    · have hl := pm.length_eq
      rw [List.length_append] at hl
      obtain ⟨r, st, rfl⟩ : ∃ r y, ws' = r ++ [y] := snoc_of (by intro z; rw [z] at hl; simp at hl; omega)
      refine ⟨(by show 2 ≤ sizeLine; decide), fun p1 hp1 => ⟨_, rfl, p1, oa, _, own.map V.str, rfl, rfl, upd_same, ((N1.same (Same.new hp1)).csE (tx oa own) (by simp)).1, ?_, fun p2 hp2 => ?_⟩⟩
      · rw [List.length_map]
        exact Nat.le_of_lt (small1000 (by show 2 + own.length ≤ 1000; omega))
      have e2 : (upd (upd H1 p1 (.lst [V.str "number", V.str "truth"])) p2 (.lst ([V.str "number", V.str "truth"] ++ own.map V.str))) p2 = some (.lst ([V.str "number", V.str "truth"] ++ own.map V.str)) := upd_same
      have N2 := (N1.same (Same.new (o := .lst [V.str "number", V.str "truth"]) hp1)).same (Same.new (o := .lst ([V.str "number", V.str "truth"] ++ own.map V.str)) hp2)
      have ef2 := (Same.new (o := .lst ([V.str "number", V.str "truth"] ++ own.map V.str)) hp2) _ _ ((Same.new (o := .lst [V.str "number", V.str "truth"]) hp1) _ _ ef)
      have hp2n := (N1.same (Same.new (o := .lst [V.str "number", V.str "truth"]) hp1)).fresh hp2
      generalize upd (upd H1 p1 (.lst [V.str "number", V.str "truth"])) p2 (.lst ([V.str "number", V.str "truth"] ++ own.map V.str)) = H2 at e2 N2 ef2
      refine ⟨_, rfl, .inl ⟨rfl, _, SqL.of N2.nmE⟩, nm, _, .str st, rfl, rfl, N2.nmE, last_at.1, ?_⟩
      rw [last_at.2]
      have N3 := N2.pop (ws' := r)
      refine ⟨(by show 1 ≤ sizeLine; decide), fun p3 hp3 => ?_⟩
      have s3 : Same (upd H2 nm (.lst (r.map V.str))) (upd (upd H2 nm (.lst (r.map V.str))) p3 (.lst [V.str st])) := Same.new hp3
      refine ⟨p2, p3, _, _, rfl, rfl, s3 _ _ (by rw [upd_ne hp2n.2.2.2.1]; exact e2), upd_same, ?_, fun pa hpa => ?_⟩
      · simp only [List.length_append, List.length_map]
        exact Nat.le_of_lt (small1000 (by show 2 + own.length + 1 ≤ 1000; omega))
      have N4 := N3.same s3
      have hpf := N4.fresh hpa
      have s4 : Same (upd (upd H2 nm (.lst (r.map V.str))) p3 (.lst [V.str st])) (upd (upd (upd H2 nm (.lst (r.map V.str))) p3 (.lst [V.str st])) pa (.lst ([V.str "number", V.str "truth"] ++ own.map V.str ++ [V.str st]))) := Same.new hpa
      have ef3 : (upd H2 nm (.lst (r.map V.str))) fa = some (.lst []) := by rw [upd_ne f2]; exact ef2
      refine ⟨pa, st, r, rfl, (N4.same s4).addT (by rw [upd_same]; simp [poolS]) hpf.1 hpf.2.1 hpf.2.2.2.1, s4 _ _ (s3 _ _ ef3), (ne_of_none (s3 _ _ ef3) hpa), ?_⟩
      refine List.Perm.trans ?_ pm
      rw [List.append_assoc]
      exact List.Perm.append_left _ List.perm_append_comm
    rintro σ H2 ⟨pa, st, r, rfl, N2, ef2, f6, pm2⟩
    clear N1 ef pm
    have ownE := (N2.csE (tx oa own) (by simp)).1
    have namO : ∀ y ∈ own ++ [st], isName y = true := fun y hy => nam y (pm2.subset (List.mem_append_left _ hy))
    have foa : fa ≠ oa := f1
    refine ⟨_, rfl, oa, rfl, ⟨_, SqL.of ownE⟩, for_list (K := K) (a := oa) (xs := own.map V.str)
      (fun i σ H' => ∃ ws' L pv xs y2 y6 y7 y8, σ = [some (.ref d), some (.ref nm), y2, some (.ref oa), some (.ref fa), some (.ref pa), y6, y7, y8] ∧ NSt H d w c nm [(fa, xs, L.map Dcl.d), tx pa (poolS own st), tx oa own] ws' (n + 1 + 18 * i) H' ∧ L.map Dcl.name = own.take i ∧ (L.flatMap Dcl.names).Perm (own.take i ++ pv) ∧ (own ++ [st] ++ pv ++ ws').Perm ws ∧ (∀ D ∈ L, D.Ok) ∧ pv.length ≤ 4 * i)
      ⟨r, [], [], [], _, _, _, _, rfl, N2.add ef2 .nil rfl f3 f4 f2, by simp, by simp, by simpa using pm2, by simp, by simp⟩ (fun i σ H' _ ⟨ws', L, pv, xs, y2, y6, y7, y8, e, N, _⟩ => SqL.of (N.csE (tx oa own) (by simp)).1) ?_ ?_⟩
    · rintro i x σ H3 hx ⟨ws', L, pv, xs, y2, y6, y7, y8, rfl, N3, hnm, hfl, hpm, hok, hpv⟩
      rw [List.getElem?_map] at hx
      obtain ⟨o, ho, rfl⟩ := Option.map_eq_some_iff.mp hx
      have hi : i < own.length := (List.getElem?_eq_some_iff.mp ho).1
      have nmo : isName o = true := namO o (List.mem_append_left _ (List.mem_of_getElem? ho))
      have lL : L.length = i := by
        have := congrArg List.length hnm
        rw [List.length_map, List.length_take] at this
        omega
      have tk : own.take (i + 1) = own.take i ++ [o] := by rw [List.take_add_one, ho]; rfl
      refine ⟨_, rfl, d, w, c, n + 1 + 18 * i, 3, rfl, N3.draw, by omega, by decide, by decide, fun v H4 v0 v3 D4 b4 => ?_⟩
      have N4 := N3.drew D4 b4
      refine ⟨rfl, _, rfl, ite2 (fun _ => ?_) (fun _ => ?_)⟩
      · -- a row
        have eP := N4.csE (tx pa (poolS own st)) (by simp)
        refine ⟨_, rfl, .inl ⟨rfl, _, SqL.of (N4.csE (fa, xs, L.map Dcl.d) (by simp)).1⟩, _, rfl, _, rfl, _, rfl, d, w, c, pa, n + 1 + 18 * i + 1, (poolS own st).map V.str, rfl, N4.draw, by omega, eP.2.1.1, eP.2.1.2.1, SqL.of eP.1, by simp [poolS], ?_, fun x H5 hx D5 b5 => ?_⟩
        · rw [List.length_map]
          exact Nat.lt_of_le_of_lt (show (poolS own st).length ≤ 100 by simp [poolS]; omega) (by decide)
        obtain ⟨it, hit, rfl⟩ := List.mem_map.mp hx
        have N5 := N4.drew D5 b5
        refine ⟨(by show 3 ≤ sizeLine; decide), fun t ht => ?_⟩
        have s6 : Same H5 (upd H5 t (.tup [.str "row", .str o, .str it])) := Same.new ht
        have N6 := N5.same s6
        have eF := N6.csE (fa, xs, L.map Dcl.d) (by simp)
        have dt : Da (upd H5 t (.tup [.str "row", .str o, .str it])) (.ref t) (Dcl.row o it).d := .tup upd_same (.cons (.str _) (.cons (.str _) (.one (.str _))))
        generalize upd H5 t (.tup [.str "row", .str o, .str it]) = H6 at s6 N6 eF dt
        have km : Kp [fa] H6 (upd H6 fa (.lst (xs ++ [.ref t]))) := Kp.upd eF.1 (fun _ z => nomatch z) (by simp)
        refine ⟨fa, xs, _, rfl, rfl, eF.1, ?_, ws', L ++ [.row o it], pv, xs ++ [.ref t], _, _, _, _, rfl, ?_, ?_, ?_, hpm, ?_, by omega⟩
        · rw [eF.2.2.1.len, List.length_map]
          exact small1000 (by omega)
        · refine (((N6.sub (cs' := [tx pa (poolS own st), tx oa own]) (by simp)).mut eF.1 (fun _ z => nomatch z) hf0 f3 f4 f5 f2 ?_).add upd_same ?_ ?_ f3 f4 f2).mono (by omega)
          · intro p hp
            simp only [List.mem_cons, List.not_mem_nil, or_false] at hp
            rcases hp with rfl | rfl
            · exact f6.symm
            · exact f1.symm
          · rw [List.map_append]
            exact (DaAll.kp km (tupOs_dcls _) eF.2.2.1).app (.one (Da.kp km (tupO_dcl _) dt))
          · exact tupOs_dcls _
        · rw [List.map_append, hnm, tk]
          rfl
        · rw [List.flatMap_append, tk]
          refine (List.Perm.append_right _ hfl).trans ?_
          show (own.take i ++ pv ++ ([o] ++ [])).Perm (own.take i ++ [o] ++ pv)
          rw [List.append_nil, List.append_assoc, List.append_assoc]
          exact List.Perm.append_left _ List.perm_append_comm
        · intro D hD
          rcases List.mem_append.mp hD with hD | hD
          · exact hok D hD
          · rw [List.mem_singleton.mp hD]
            have := pool_kind hit namO
            exact .row nmo this.1 this.2
      · -- a choice
        refine ⟨(by show 0 ≤ sizeLine; decide), fun va hva => ?_⟩
        have hv := N4.fresh hva
        have hvO := N4.out hva
        have vfa : fa ≠ va := hv.2.2.2.2 (fa, xs, L.map Dcl.d) (by simp)
        have vpa : pa ≠ va := hv.2.2.2.2 (tx pa (poolS own st)) (by simp)
        have voa : oa ≠ va := hv.2.2.2.2 (tx oa own) (by simp)
        have N5 := (N4.same (Same.new (o := .lst []) hva)).add (a := va) (l := []) (ds := []) upd_same .nil rfl hv.1 hv.2.1 hv.2.2.2.1
        generalize upd H4 va (.lst []) = H5 at N5
        refine ⟨fun σ H' => ∃ (ws2 : List Str) (vs : List Vr) (vxs : List V) (y2 y8 : Option V), σ = [some (.ref d), some (.ref nm), y2, some (.ref oa), some (.ref fa), some (.ref pa), some (.str o), some (.ref va), y8] ∧ NSt H d w c nm [(va, vxs, vs.map varD), (fa, xs, L.map Dcl.d), tx pa (poolS own st), tx oa own] ws2 (n + 1 + 18 * i + 2 + 16) H' ∧ (∀ v ∈ vs, OkV v) ∧ 1 ≤ vs.length ∧ vs.length ≤ 4 ∧ (own ++ [st] ++ (pv ++ vs.map (·.1)) ++ ws2).Perm ws, ?_, ?_⟩
        · refine ⟨_, rfl, d, w, c, _, 4, rfl, N5.draw, by omega, by decide, by decide, fun u H6 u0 u4 D6 b6 => ?_⟩
          have N6 := N5.drew D6 b6
          refine ⟨_, _, rfl, rfl, 1 + u, rfl, by omega, (by have h62 : (10 : Int) < 2 ^ 62 := (by decide); omega), ?_⟩
          obtain ⟨q, hq, h1, h4⟩ : ∃ q : Nat, (1 + u).toNat = q ∧ 1 ≤ q ∧ q ≤ 4 := ⟨(1 + u).toNat, rfl, by omega, by omega⟩
          rw [hq]
          refine for_range (lo := 0) (n := q) (fun j σ H' => ∃ (ws2 : List Str) (vs : List Vr) (vxs : List V) (y2 y8 : Option V), σ = [some (.ref d), some (.ref nm), y2, some (.ref oa), some (.ref fa), some (.ref pa), some (.str o), some (.ref va), y8] ∧ NSt H d w c nm [(va, vxs, vs.map varD), (fa, xs, L.map Dcl.d), tx pa (poolS own st), tx oa own] ws2 (n + 1 + 18 * i + 2 + 4 * j) H' ∧ (∀ v ∈ vs, OkV v) ∧ vs.length = j ∧ (own ++ [st] ++ (pv ++ vs.map (·.1)) ++ ws2).Perm ws)
            ⟨ws', [], [], _, _, rfl, N6, by simp, rfl, by simpa using hpm⟩ ?_ ?_
          · rintro j σ H7 hj ⟨ws2, vs, vxs, z2, z8, rfl, N7, hok7, lv, pm7⟩
            have hl := pm7.length_eq
            simp only [List.length_append, List.length_singleton, List.length_map] at hl
            obtain ⟨r2, y, rfl⟩ : ∃ r y, ws2 = r ++ [y] := snoc_of (by intro z; rw [z] at hl; simp at hl; omega)
            have nmy : isName y = true := nam y (pm7.subset (by simp))
            refine ⟨_, rfl, .inl ⟨rfl, _, SqL.of (N7.csE (va, vxs, vs.map varD) (by simp)).1⟩, _, rfl, .inl ⟨rfl, _, SqL.of N7.nmE⟩, nm, _, .str y, rfl, rfl, N7.nmE, last_at.1, ?_⟩
            rw [last_at.2]
            have N8 := N7.pop (ws' := r2)
            generalize upd H7 nm (.lst (r2.map V.str)) = H8 at N8
            refine ⟨_, rfl, d, w, c, _, 4, rfl, N8.draw, by omega, by decide, by decide, fun g H9 g0 g4 D9 b9 => ⟨g, rfl, by omega, (by have h62 : (10 : Int) < 2 ^ 62 := (by decide); omega), fun la hla => ?_⟩⟩
            have N9 := N8.drew D9 b9
            have hlf := N9.fresh hla
            have hlO := N9.out hla
            obtain ⟨e, he, e3⟩ : ∃ e : Nat, g.toNat = e ∧ e ≤ 3 := ⟨g.toNat, rfl, by omega⟩
            rw [he]
            refine lc_range (lo := 0) (n := e) (fun t H' => ∃ ks, ks.length = t ∧ (∀ x ∈ ks, isKindS x = true ∧ x.length ≤ 8) ∧ NSt H d w c nm [tx la ks, (va, vxs, vs.map varD), (fa, xs, L.map Dcl.d), tx pa (poolS own st), tx oa own] r2 (n + 1 + 18 * i + 2 + 4 * j + 1 + t) H')
              ⟨[], rfl, by simp, (N9.same (Same.new hla)).addT upd_same hlf.1 hlf.2.1 hlf.2.2.2.1⟩ ?_ ?_
            · rintro t HA ht ⟨ks, lk, hk, NA⟩
              have eP := NA.csE (tx pa (poolS own st)) (by simp)
              refine ⟨rfl, yes ⟨_, rfl, _, rfl, d, w, c, pa, _, (poolS own st).map V.str, rfl, NA.draw, by omega, eP.2.1.1, eP.2.1.2.1, SqL.of eP.1, by simp [poolS], ?_, fun x HB hx DB bB => ?_⟩⟩
              · rw [List.length_map]
                exact Nat.lt_of_le_of_lt (show (poolS own st).length ≤ 100 by simp [poolS]; omega) (by decide)
              obtain ⟨it, hit, rfl⟩ := List.mem_map.mp hx
              have NB := NA.drew DB bB
              have eL := NB.csE (tx la ks) (by simp)
              refine ⟨_, eL.1, ?_, ks ++ [it], by rw [List.length_append, lk, List.length_singleton], ?_, ?_⟩
              · show (ks.map V.str).length < sizeLine
                rw [List.length_map, lk]
                exact small1000 (by omega)
              · intro x hx
                rcases List.mem_append.mp hx with hx | hx
                · exact hk x hx
                · rw [List.mem_singleton.mp hx]
                  exact pool_kind hit namO
              · refine ((NB.sub (cs' := [(va, vxs, vs.map varD), (fa, xs, L.map Dcl.d), tx pa (poolS own st), tx oa own]) (by simp)).mut eL.1 (fun _ z => nomatch z) hlO hlf.1 hlf.2.1 hlf.2.2.1 hlf.2.2.2.1 hlf.2.2.2.2).addT ?_ hlf.1 hlf.2.1 hlf.2.2.2.1
                show upd HB la (.lst (ks.map V.str ++ [V.str it])) la = _
                rw [upd_same, List.map_append]
                rfl
            · rintro HA ⟨ks, lk, hk, NA⟩
              have eL := NA.csE (tx la ks) (by simp)
              refine ⟨la, _, rfl, .inl ⟨SqL.of eL.1, fun l hll => ⟨(by show 2 ≤ sizeLine; decide), fun t ht => ?_⟩⟩⟩
              have NC := (NA.same (Same.new (o := .tup (ks.map V.str)) hll)).same (Same.new (o := .tup [.str y, .ref l]) ht)
              have dv : Da (upd (upd HA l (.tup (ks.map V.str))) t (.tup [.str y, .ref l])) (.ref t) (varD (y, ks)) := .tup upd_same (.cons (.str _) (.one (.tup ((Same.new ht) _ _ upd_same) (strs_da _))))
              have eV := NC.csE (va, vxs, vs.map varD) (by simp)
              have km : Kp [va] (upd (upd HA l (.tup (ks.map V.str))) t (.tup [.str y, .ref l])) (upd (upd (upd HA l (.tup (ks.map V.str))) t (.tup [.str y, .ref l])) va (.lst (vxs ++ [.ref t]))) := Kp.upd eV.1 (fun _ z => nomatch z) (by simp)
              refine ⟨va, vxs, _, rfl, rfl, eV.1, ?_, r2, vs ++ [(y, ks)], vxs ++ [.ref t], _, _, rfl, ?_, ?_, by rw [List.length_append, lv, List.length_singleton], ?_⟩
              · rw [eV.2.2.1.len, List.length_map]
                exact small1000 (by omega)
              · refine (((NC.sub (cs' := [(fa, xs, L.map Dcl.d), tx pa (poolS own st), tx oa own]) (by simp)).mut eV.1 (fun _ z => nomatch z) hvO hv.1 hv.2.1 hv.2.2.1 hv.2.2.2.1 hv.2.2.2.2).add upd_same ?_ ?_ hv.1 hv.2.1 hv.2.2.2.1).mono (by omega)
                · rw [List.map_append]
                  exact (DaAll.kp km (tupOs_vars _) eV.2.2.1).app (.one (Da.kp km (tupO_var _) dv))
                · exact tupOs_vars _
              · intro v hv'
                rcases List.mem_append.mp hv' with hv' | hv'
                · exact hok7 v hv'
                · rw [List.mem_singleton.mp hv']
                  exact ⟨nmy, by show ks.length ≤ 3; omega, hk⟩
              · refine List.Perm.trans ?_ pm7
                rw [List.map_append, ← List.append_assoc pv, List.append_assoc (own ++ [st]) _ r2, List.append_assoc (own ++ [st]) _ (r2 ++ [y])]
                refine List.Perm.append_left _ ?_
                rw [List.append_assoc (pv ++ vs.map (·.1)), ]
                refine List.Perm.append_left _ ?_
                exact List.perm_append_comm
          · rintro σ H7 ⟨ws2, vs, vxs, z2, z8, rfl, N7, hok7, lv, pm7⟩
            exact ⟨ws2, vs, vxs, _, _, rfl, N7.mono (by omega), hok7, by omega, by omega, pm7⟩
        rintro σ H6 ⟨ws2, vs, vxs, z2, z8, rfl, N6, okv, v1, v4, pm6⟩
        have eF0 := N6.csE (fa, xs, L.map Dcl.d) (by simp)
        have eV0 := N6.csE (va, vxs, vs.map varD) (by simp)
        refine ⟨_, rfl, .inl ⟨rfl, _, SqL.of eF0.1⟩, _, rfl, _, rfl, va, vxs, rfl, .inl ⟨SqL.of eV0.1, fun l hl => ⟨(by show 3 ≤ sizeLine; decide), fun t ht => ?_⟩⟩⟩
        have N7 := (N6.same (Same.new (o := .tup vxs) hl)).same (Same.new (o := .tup [.str "choice", .str o, .ref l]) ht)
        have eF := N7.csE (fa, xs, L.map Dcl.d) (by simp)
        have dt : Da (upd (upd H6 l (.tup vxs)) t (.tup [.str "choice", .str o, .ref l])) (.ref t) (Dcl.cho o vs).d := .tup upd_same (.cons (.str _) (.cons (.str _) (.one (.tup ((Same.new ht) _ _ upd_same) ((eV0.2.2.1.same (Same.new hl)).same (Same.new ht))))))
        generalize upd (upd H6 l (.tup vxs)) t (.tup [.str "choice", .str o, .ref l]) = H7 at N7 eF dt
        have km : Kp [fa] H7 (upd H7 fa (.lst (xs ++ [.ref t]))) := Kp.upd eF.1 (fun _ z => nomatch z) (by simp)
        refine ⟨fa, xs, _, rfl, rfl, eF.1, ?_, ws2, L ++ [.cho o vs], pv ++ vs.map (·.1), xs ++ [.ref t], _, _, _, _, rfl, ?_, ?_, ?_, pm6, ?_, by rw [List.length_append, List.length_map]; omega⟩
        · rw [eF.2.2.1.len, List.length_map]
          exact small1000 (by omega)
        · refine (((N7.sub (cs' := [tx pa (poolS own st), tx oa own]) (by simp)).mut eF.1 (fun _ z => nomatch z) hf0 f3 f4 f5 f2 ?_).add upd_same ?_ ?_ f3 f4 f2).mono (by omega)
          · intro p hp
            simp only [List.mem_cons, List.not_mem_nil, or_false] at hp
            rcases hp with rfl | rfl
            · exact f6.symm
            · exact f1.symm
          · rw [List.map_append]
            exact (DaAll.kp km (tupOs_dcls _) eF.2.2.1).app (.one (Da.kp km (tupO_dcl _) dt))
          · exact tupOs_dcls _
        · rw [List.map_append, hnm, tk]
          rfl
        · rw [List.flatMap_append, tk]
          refine (List.Perm.append_right _ hfl).trans ?_
          show (own.take i ++ pv ++ ((o :: vs.map Prod.fst) ++ [])).Perm (own.take i ++ [o] ++ (pv ++ vs.map Prod.fst))
          rw [List.append_nil, List.append_assoc, List.append_assoc]
          refine List.Perm.append_left _ ?_
          exact (List.perm_middle (a := o) (l₁ := pv) (l₂ := vs.map Prod.fst))
        · intro D hD
          rcases List.mem_append.mp hD with hD | hD
          · exact hok D hD
          · rw [List.mem_singleton.mp hD]
            exact .cho nmo v1 v4 okv
    · rintro σ H3 ⟨ws', L, pv, xs, y2, y6, y7, y8, rfl, N3, hnm, hfl, hpm, hok, hpv⟩
      rw [List.length_map] at N3 hnm hfl hpv
      rw [List.take_of_length_le (Nat.le_refl _)] at hnm hfl
      have lL : L.length = own.length := by rw [← hnm, List.length_map]
      have ndw : (own ++ [st] ++ pv ++ ws').Nodup := hpm.nodup_iff.mpr nd
      have eF := N3.csE (fa, xs, L.map Dcl.d) (by simp)
      refine ⟨_, rfl, k fa xs L ws' H3 ((N3.sub (by simp)).mono (by omega)) hf0 eF.1 eF.2.2.1 hok (by omega) (by omega) ?_ ?_ ?_⟩
      · refine ((hfl.append_right ws').nodup_iff).mpr ?_
        refine List.Sublist.nodup ?_ ndw
        refine List.Sublist.append_right ?_ ws'
        rw [List.append_assoc]
        exact List.Sublist.append_left (List.sublist_append_right _ _) own
      · intro x hx
        exact hpm.subset (List.mem_append_right _ hx)
      · have := hpm.length_eq
        simp only [List.length_append, List.length_singleton] at this
        omega
end
end SA
set_option Elab.async false
set_option linter.all false
set_option maxRecDepth 100000
set_option maxHeartbeats 8000000
namespace SA
open PySem PySem.Spec PyProof.Rows L2 K1
theorem erase_perm {α : Type} : ∀ {l : List α} {j : Nat} (h : j < l.length), ([l[j]] ++ l.eraseIdx j).Perm l
  | a :: l, 0, _ => .refl _
  | a :: l, j + 1, h => by
    have ih := erase_perm (l := l) (j := j) (by simpa using h)
    simp only [List.getElem_cons_succ, List.eraseIdx_cons_succ]
    exact (List.Perm.swap _ _ _).trans (.cons a ih)
structure ShD (d : PyData) : Prop where
  tup : tupO d = true
  dct : isDctD d = false
  lay : d.canLay0 = true
  dep : d.depth ≤ 60
theorem daAll_of {H : Hp} {R : PyData → Prop} : ∀ {xs : List V}, (∀ x ∈ xs, ∃ e, Da H x e ∧ R e) → ∃ ds, DaAll H xs ds ∧ ∀ d ∈ ds, R d
  | [], _ => ⟨[], .nil, by simp⟩
  | x :: xs, h => by
    obtain ⟨e, h1, h2⟩ := h x (List.mem_cons_self ..)
    obtain ⟨ds, h3, h4⟩ := daAll_of fun y hy => h y (List.mem_cons_of_mem _ hy)
    refine ⟨e :: ds, .cons h1 h3, fun d hd => ?_⟩
    rcases List.mem_cons.mp hd with rfl | hd
    · exact h2
    · exact h4 d hd
theorem shds {ds : List PyData} (h : ∀ d ∈ ds, ShD d) : tupOs ds = true ∧ PyData.canLayAll0 ds = true ∧ PyData.depthAll ds ≤ 60 := by
  induction ds with
  | nil => exact ⟨rfl, rfl, Nat.zero_le _⟩
  | cons a l ih =>
    obtain ⟨h1, h2, h3⟩ := ih fun d hd => h d (List.mem_cons_of_mem _ hd)
    have ha := h a (List.mem_cons_self ..)
    refine ⟨by simp only [tupOs, ha.tup, h1, Bool.and_self], by simp only [PyData.canLayAll0, ha.lay, h2, Bool.and_self], ?_⟩
    simp only [PyData.depthAll]
    exact Nat.max_le.mpr ⟨ha.dep, h3⟩
theorem shaped_list {ds : List PyData} (h : ∀ d ∈ ds, ShD d) : SeqAt.shaped (.list ds) = true := by
  obtain ⟨h1, h2, h3⟩ := shds h
  unfold SeqAt.shaped
  rw [Bool.and_eq_true, decide_eq_true_eq]
  refine ⟨by simp only [PyData.canLay0, h2], ?_⟩
  show PyData.depthAll ds + 1 ≤ 64
  omega
theorem shaped_tup {ds : List PyData} (h : ∀ d ∈ ds, ShD d) : SeqAt.shaped (.tuple ds) = true := by
  obtain ⟨h1, h2, h3⟩ := shds h
  unfold SeqAt.shaped
  rw [Bool.and_eq_true, decide_eq_true_eq]
  refine ⟨by simp only [PyData.canLay0, h2], ?_⟩
  show PyData.depthAll ds + 1 ≤ 64
  omega
def spShuf : Sp := fun vs H Q _ => ∃ (d w c a : Addr) (n : Nat) (xs : List V), vs = [.ref d, .ref a] ∧ DrawAt H d w c n ∧ H a = some (.lst xs) ∧ xs.length ≤ 100 ∧ (∀ x ∈ xs, ∃ e, Da H x e ∧ ShD e) ∧ n < 2 ^ 39 ∧
  ∀ (p : Addr) (ys : List V) (H' : Hp), ys.Perm xs → DrawAt H' d w c (n + xs.length) → But2 d w H H' → H p = none → H' p = some (.lst ys) → Q (.ref p) H'
section
variable {P : Program} {w0 : World} {K : PySem.W.Frag} {mg : Str → Option Value} {base : Heap}
theorem scShuf : FnScope ["draw", "some", "left", "found"] ["draw", "some"] (defScope sShuf) := ⟨rfl, rfl, rfl, by decide +kernel, rfl, by decide +kernel, by decide +kernel⟩
theorem seqIx {i : Int} {n k : Nat} (h : i = (k : Int)) (hk : k < n) : seqIndex? i n = some k := by
  subst h
  unfold seqIndex?
  have h1 : ¬ ((k : Int) < 0) := by omega
  simp only [h1, if_false]
  have h2 : (0 : Int) ≤ k := by omega
  have h3 : (k : Int) < n := by omega
  simp [h2, h3]
theorem ok_shuf {f fT : Addr} {fd fdT : FuncData} (F : Fun K "_law_shuffled" "_law_shuffled" sShuf f fd) (B : Gb mg) (FT : Fun K "_law_take" "_law_take" sTake fT fdT) (bT : Binds K fdT ["draw", "many"] []) (gT : mg "_law_take" = some (.ref fT)) (GT : FnOk P w0 K mg base CX0 2 fT fdT ["draw", "many"] spTake) :
    FnOk P w0 K mg base CX0 3 f fd ["draw", "some"] spShuf := by
  refine F.ok scShuf (fun vs H Q E h => ?_) (fun cdv A outer s H vs Q E hr h => ?_)
  · obtain ⟨d, w, c, a, n, xs, rfl, _⟩ := h
    rfl
  · obtain ⟨d, w, c, a, n, xs, rfl, hD, ea, hl, hx, hn, k⟩ := h
    refine ⟨_, pss_cons (ps_par (i := 2) (j := 3) rfl scShuf.nd rfl rfl (by decide) rfl rfl (pa_cons (pe_callTy call_list_of (by rfl) B.list (by decide +kernel) (pa_cons (pv 1) pa_nil)) (pa_cons (pe_lst pa_nil) pa_nil)) rfl)
      (pss_cons (ps_while PassesOwn.never (pt_cmpR (op_neD hr.units) (pv 2) (pe_lst pa_nil) (nomark _))
        (pss_one (ps_expr (pe_bm PySem.F.plainAttrs_list PySem.F.slot_list_append PySem.F.type_list_append mt_append (pv 3) (pa_cons (pe_bm PySem.F.plainAttrs_list PySem.F.slot_list_pop PySem.F.type_list_pop mt_popAt (pv 2)
          (pa_cons (pe_call GT hr (by rfl) gT FT.kp bT .nil pass0 (pa_cons (pv 0) (pa_cons (pe_callB call_len_seq (by rfl) B.len PySem.boot_len (pa_cons (pv 2) pa_nil)) pa_nil))) pa_nil)) pa_nil)))))
      (pss_one (ps_ret (pv 3)))), ?_⟩
    refine ⟨_, rfl, a, xs, rfl, .inl (SqL.of ea), fun l hl0 => ⟨(by show 0 ≤ sizeLine; decide), fun p hp => ⟨_, _, rfl, ?_⟩⟩⟩
    have kl := hD.knowD hl0
    have D1 := hD.new (o := .lst xs) hl0
    have kp := D1.knowD hp
    have D2 := D1.new (o := .lst []) hp
    have s2 : Same H (upd (upd H l (.lst xs)) p (.lst [])) := (Same.new hl0).trans (Same.new hp)
    have lp : l ≠ p := ne_of_none (upd_same (H := H) (o := .lst xs)) hp
    have el : (upd (upd H l (.lst xs)) p (.lst [])) l = some (.lst xs) := (Same.new hp) _ _ upd_same
    have hp0 : H p = none := (Same.new hl0).free hp
    have lc : l ≠ c ∧ p ≠ c := by
      obtain ⟨_, _, ⟨cs, e⟩, _⟩ := hD
      exact ⟨(ne_of_none e hl0).symm, (ne_of_none e hp0).symm⟩
    refine ⟨fun m σ H' => ∃ (ys zs : List V), σ = [some (.ref d), some (.ref a), some (.ref l), some (.ref p)] ∧ ys.length = m ∧ (zs ++ ys).Perm xs ∧ DrawAt H' d w c (n + zs.length) ∧ But2 d w H H' ∧ H' l = some (.lst ys) ∧ H' p = some (.lst zs),
      ⟨_, xs, [], rfl, rfl, .refl _, D2, fun b o e _ _ => s2 b o e, el, upd_same⟩, ?_⟩
    rintro m σ H3 ⟨ys, zs, rfl, lm, pm, D3, b3, e1, e2⟩
    have lall := pm.length_eq
    rw [List.length_append] at lall
    refine ⟨_, rfl, (by show 0 ≤ sizeLine; decide), fun q hq => ?_⟩
    have sq : Same H3 (upd H3 q (.lst [])) := Same.new hq
    have D4 := D3.new (o := .lst []) hq
    have b4 : But2 d w H (upd H3 q (.lst [])) := b3.new hq
    have e3 := sq _ _ e1
    have e4 := sq _ _ e2
    have eq0 : (upd H3 q (.lst [])) q = some (.lst []) := upd_same
    generalize upd H3 q (.lst []) = H4 at sq D4 b4 e3 e4 eq0
    obtain ⟨ds, dd, hds⟩ := daAll_of (H := H4) (R := ShD) (xs := ys) fun y hy => by
      obtain ⟨e, h1, h2⟩ := hx y (pm.subset (List.mem_append_right _ hy))
      exact ⟨e, Da.kp (Kp.of2 hD b4) h2.tup h1, h2⟩
    refine ⟨.list ds, .list [], .lst (SqL.of e3) (DaAll.dp dd (shds hds).1), .lst (SqL.of eq0) .nil, shaped_list hds, rfl, _, rfl, ?_⟩
    cases ys with
    | nil =>
      cases dd
      refine iteF ⟨_, rfl, ?_⟩
      rw [List.append_nil] at pm
      exact k p zs H4 pm (D4.mono (by simp at lall; omega)) b4 hp0 e4
    | cons y ys =>
      obtain ⟨d0, ds, rfl⟩ : ∃ a b, ds = a :: b := by
        cases dd with
        | cons h t => exact ⟨_, _, rfl⟩
      refine iteT ⟨fun σ H' => ∃ (ys' zs' : List V), σ = [some (.ref d), some (.ref a), some (.ref l), some (.ref p)] ∧ ys'.length < m ∧ (zs' ++ ys').Perm xs ∧ DrawAt H' d w c (n + zs'.length) ∧ But2 d w H H' ∧ H' l = some (.lst ys') ∧ H' p = some (.lst zs'), ?_, ?_⟩
      · rintro σ H' ⟨ys', zs', rfl, lt, r⟩
        exact ⟨_, lt, ys', zs', rfl, rfl, r⟩
      · simp only [List.length_cons] at lm lall
        refine ⟨_, rfl, .inl ⟨rfl, _, SqL.of e4⟩, _, rfl, .inl ⟨rfl, _, SqL.of e3⟩, _, rfl, _, rfl, l, y :: ys, rfl, .inl (SqL.of e3), d, w, c, n + zs.length, (y :: ys).length, rfl, D4, by omega, by simp only [List.length_cons]; omega, by simp only [List.length_cons]; omega, fun i H5 i0 i1 D5 b5 => ?_⟩
        obtain ⟨j, rfl⟩ := Int.eq_ofNat_of_zero_le i0
        have hj : j < (y :: ys).length := by omega
        have e5 := b5 _ _ e3 kl.1 kl.2
        have e6 := b5 _ _ e4 kp.1 kp.2
        refine ⟨l, y :: ys, (j : Int), j, (y :: ys)[j], rfl, rfl, e5, by omega, ?_, seqIx rfl hj, List.getElem?_eq_getElem hj, p, zs, _, rfl, rfl, ?_, ?_, ?_⟩
        · have h63 : (1000 : Int) < 2 ^ 63 := by decide
          simp only [List.length_cons] at hj
          omega
        · rw [upd_ne lp.symm]
          exact e6
        · exact small1000 (by omega)
        · have k1 : Kp [l] H5 (upd H5 l (.lst ((y :: ys).eraseIdx j))) := Kp.upd e5 (fun _ z => nomatch z) (by simp)
          have e7 : (upd H5 l (.lst ((y :: ys).eraseIdx j))) p = some (.lst zs) := by rw [upd_ne lp.symm]; exact e6
          have k2 : Kp [p] (upd H5 l (.lst ((y :: ys).eraseIdx j))) (upd (upd H5 l (.lst ((y :: ys).eraseIdx j))) p (.lst (zs ++ [(y :: ys)[j]]))) := Kp.upd e7 (fun _ z => nomatch z) (by simp)
          refine ⟨(y :: ys).eraseIdx j, zs ++ [(y :: ys)[j]], rfl, ?_, ?_, ?_, ?_, ?_, upd_same⟩
          · rw [List.length_eraseIdx_of_lt hj]
            simp only [List.length_cons]
            omega
          · refine List.Perm.trans ?_ pm
            rw [List.append_assoc]
            refine List.Perm.append_left _ ?_
            exact erase_perm hj
          · have := (D5.kp k1 (by simpa using kl.1.symm) (by simpa using kl.2.symm) (by simpa using lc.1.symm)).kp k2 (by simpa using kp.1.symm) (by simpa using kp.2.symm) (by simpa using lc.2.symm)
            rw [List.length_append, List.length_singleton]
            exact this
          · intro b o e h1 h2
            rw [upd_ne (ne_of_none e hp0), upd_ne (ne_of_none e hl0)]
            exact b5 b o (b4 b o e h1 h2) h1 h2
          · rw [upd_ne lp]
            exact upd_same
end
end SA
set_option Elab.async false
set_option linter.all false
set_option maxRecDepth 100000
set_option maxHeartbeats 4000000
/-! ### try with a clause without a name and a clause with one -/
namespace SA
open PySem PySem.Spec PyProof.Rows L2
/-- an exception of the body that has landed before the clauses -/
structure Cgt (X : Cx) (pins : List (Addr × Obj)) (a : Addr) (B : Heap) (sI : Shared) (σ : L2.St) (H : Hp) (cls : Value) (d : Option Addr) (t : Shared) : Prop where
  J : Inv X pins σ H sI
  nb : ∀ b o, sI.heap.get? b = some o → b ∉ frs X.stack → B.get? b = some o
  fl : HandSPX.FlyingZ B (X.env :: X.outer) a (Zc cls d) t.heap
  up : sI.heap.UpToSlots t.heap
  na : H a = none
  os : t.os = sI.os
  ag : AllBare t.gens
  nL : a ≠ X.env.locals
  nF : a ∉ X.fs
section
variable {X : Cx} {pins : List (Addr × Obj)} {a : Addr} {B : Heap} {sI t : Shared} {σ : L2.St} {H : Hp} {cls : Value} {d : Option Addr} {D : Ends} {Wout : WX} {x n : Str} {c : Value} {i : Nat} {hds : List ExceptHandler} {b₀ : Stmt} {suite body : List Stmt} {np p1 p2 : Pos} {ts : Addr → Value → Option Addr → TS}
theorem Cgt.inv (C : Cgt X pins a B sI σ H cls d t) : Inv X pins σ H t := C.J.landed C.nb C.fl.1 C.up C.os C.ag
theorem catch_nil (hs : X.stack = X.env :: X.outer) (hf : X.env.frame = some X.env.locals) (tk : Takes X Wout) (C : Cgt X pins a B sI σ H cls d t) (w : Wout cls d σ H) : wpAny (model X.prog X.w) X.A (handleBy (.ref a) X.env []) (SP X pins D) X.xe t := by
  obtain ⟨J, nb, fl, up, na, os, ag, nL, nF⟩ := C
  obtain ⟨_, _, _, oe, vs, T, _, _, g, _, dd, h1, _⟩ := id fl
  have out : wpAny (model X.prog X.w) X.A (setFlight (.ref a) X.env.frame) (fun _ t4 => wpAny (model X.prog X.w) X.A (throw (.ref a) : Sem Flow) (SP X pins D) X.xe t4) X.xe t := by
    rw [hf]
    exact HandSPX.setFlight_upZ fl fun h4 k4 up4 => wpAny_throw (tk _ _ ⟨a, B, sI, pins, σ, H, cls, d, rfl, J, nb, up.trans up4, .inr (.inr (hs ▸ k4)), na, os, ag, w⟩)
  refine wpAny_handleBy_nil ?_
  unfold PySem.passOn
  refine wpAny_bind (wpAny_field g dd h1 ?_)
  rw [if_neg (show ¬ ((Value.ref T == Value.none) = true) from by simp)]
  first
    | exact wpAny_bind out
    | exact wpAny_bind (wpAny_pure (wpAny_bind out))
theorem catch_test {b : Bool} {Q E : Value → Shared → Prop} (hc : Names X x c) (C : Cgt X pins a B sI σ H cls d t) (h : Q c t) : wpAny (model X.prog X.w) (X.A.mark (some (.ref a))) (eval (.Name x np) X.env) Q E t := by
  obtain ⟨o3, v3, g3, z3, d3⟩ := C.fl.there
  have T3 := C.inv.suite g3 d3 C.na C.nL C.nF
  obtain ⟨hg, hdb, hm⟩ := hc
  rcases hm with hm | ⟨hm, hv, hnn⟩
  · exact ld_glob (X := X.suite a ((a, o3) :: (X.pn ++ pins))) T3 hg hm h hdb
  · exact ld_blt (X := X.suite a ((a, o3) :: (X.pn ++ pins))) T3 hg hm hv h hnn hdb
theorem Cgt.looks (C : Cgt X pins a B sI σ H cls d t) : PySem.W.Looks (model X.prog X.w) t.heap (typeOf (.ref a)) cls := by
  obtain ⟨o3, v3, g3, z3, d3⟩ := C.fl.there
  exact fun _ _ _ t' k q => wpAny_typeOf_ref (k _ _ g3) (z3.1.symm ▸ q)
theorem catch_bare {b : Bool} (hc : Names X x c) (hsu : ∀ (a : Addr) (oe : Obj) (cls : Value) (d : Option Addr) (pn : List (Addr × Obj)), Zc cls d oe → (∃ vs, oe.data = .fields vs) → PSs (X.suite a ((a, oe) :: pn)) (b₀ :: suite) (ts a cls d))
    (C : Cgt X pins a B sI σ H cls d t) (hb : PySem.W.exmOne X.K cls c = some b) (yes : b = true → ts a cls d D σ H) (no : b = false → wpAny (model X.prog X.w) X.A (handleBy (.ref a) X.env hds) (SP X pins D) X.xe t) :
    wpAny (model X.prog X.w) X.A (handleBy (.ref a) X.env (.ExceptHandler (some (.Name x np)) none (b₀ :: suite) p1 :: hds)) (SP X pins D) X.xe t := by
  refine wpAny_handleBy_cons (codeAny_handlers_test ?_) (fun q => nomatch q)
  refine catch_test (b := b) hc C ((PySem.W.exm_one (M := model X.prog X.w) C.inv.kIn C.looks hb).here ?_)
  cases b with
  | false => exact no rfl
  | true =>
    refine codeAny_handlers_suite (HandSPX.lands_againZ C.fl fun h4 fl4 up4 => ?_)
    obtain ⟨o4, v4, g4, z4, d4⟩ := fl4.there
    have J4 : Inv X pins σ H { t with heap := h4 } := C.J.landed C.nb fl4.1 (C.up.trans up4) C.os C.ag
    refine wpAny_mono ((hsu a o4 cls d (X.pn ++ pins) z4 ⟨_, d4⟩).run [] _ _ H _ (J4.suite g4 d4 C.na C.nL C.nF) (yes rfl)) (fun f s6 q => ?_) (fun _ _ z => z.elim)
    have ok := C.J.ok
    match f, q with
    | .next, ⟨_, _, T, q⟩ => exact ⟨_, _, T.unsuite ok, q⟩
    | .brk, ⟨_, _, T, q⟩ => exact ⟨_, _, T.unsuite ok, q⟩
    | .cont, ⟨_, _, T, q⟩ => exact ⟨_, _, T.unsuite ok, q⟩
    | .ret _, ⟨_, _, _, T, r, q⟩ => exact ⟨_, _, _, T.unsuite ok, r, q⟩
/-- the ends behind a suite whose exception's name goes -/
def endsAs (i : Nat) (D : Ends) : Ends := { nx := fun σ' H' => D.nx (σ'.set i none) H', rt := D.rt, bk := fun σ' H' => D.bk (σ'.set i none) H', ct := fun σ' H' => D.ct (σ'.set i none) H' }
theorem catch_as {b : Bool} (hN : X.N.Nodup) (hi : X.N[i]? = some n) (hln : X.env.kindOf n = some .local) (hc : Names X x c)
    (hsu : ∀ (a : Addr) (oe : Obj) (cls : Value) (d : Option Addr) (pn : List (Addr × Obj)), Zc cls d oe → (∃ vs, oe.data = .fields vs) → PSs (X.suite a ((a, oe) :: pn)) (b₀ :: suite) (ts a cls d))
    (C : Cgt X pins a B sI σ H cls d t) (hb : PySem.W.exmOne X.K cls c = some b) (yes : b = true → ts a cls d (endsAs i D) (σ.set i (some (.ref a))) H) (no : b = false → wpAny (model X.prog X.w) X.A (handleBy (.ref a) X.env hds) (SP X pins D) X.xe t) :
    wpAny (model X.prog X.w) X.A (handleBy (.ref a) X.env (.ExceptHandler (some (.Name x np)) (some n) (b₀ :: suite) p1 :: hds)) (SP X pins D) X.xe t := by
  refine wpAny_handleBy_cons (codeAny_handlers_test ?_) (fun q => nomatch q)
  refine catch_test (b := b) hc C ((PySem.W.exm_one (M := model X.prog X.w) C.inv.kIn C.looks hb).here ?_)
  cases b with
  | false => exact no rfl
  | true =>
    refine codeAny_handlers_suite_as (HandSPX.lands_againZ C.fl fun h4 fl4 up4 => ?_)
    obtain ⟨o4, v4, g4, z4, d4⟩ := fl4.there
    have J4 : Inv X pins σ H { t with heap := h4 } := C.J.landed C.nb fl4.1 (C.up.trans up4) C.os C.ag
    refine store_ok (X := X.suite a ((a, o4) :: (X.pn ++ pins))) (v := .ref a) (J4.suite g4 d4 C.na C.nL C.nF) hN hi (.inl hln) rfl (fun s5 T5 => ?_) (.inr hln)
    refine wpAny_mono ((hsu a o4 cls d (X.pn ++ pins) z4 ⟨_, d4⟩).run [] s5 _ H _ T5 (yes rfl)) (fun f s6 q => ?_) (fun _ _ z => z.elim)
    have ok := C.J.ok
    match f, q with
    | .next, ⟨_, _, T, q⟩ => exact gone_ok (T.unsuite ok) hN hi hln fun s7 J7 => ⟨_, _, J7, q⟩
    | .brk, ⟨_, _, T, q⟩ => exact gone_ok (T.unsuite ok) hN hi hln fun s7 J7 => ⟨_, _, J7, q⟩
    | .cont, ⟨_, _, T, q⟩ => exact gone_ok (T.unsuite ok) hN hi hln fun s7 J7 => ⟨_, _, J7, q⟩
    | .ret _, ⟨_, _, _, T, r, q⟩ => exact gone_ok (T.unsuite ok) hN hi hln fun s7 J7 => ⟨_, _, _, J7, r, q⟩
/-- what a clause without a name, behind it a clause with one, wish -/
def wTwo (K : PySem.W.Frag) (m : Nat) (c1 c2 : Value) (i : Nat) (t1 t2 : Addr → Value → Option Addr → TS) (Wout : WX) (D : Ends) : WX := fun cls d σ H => σ.length = m →
  ∃ b1, PySem.W.exmOne K cls c1 = some b1 ∧ (b1 = true → ∀ a, H a = none → t1 a cls d D σ H) ∧
    (b1 = false → ∃ b2, PySem.W.exmOne K cls c2 = some b2 ∧ (b2 = true → ∀ a, H a = none → t2 a cls d (endsAs i D) (σ.set i (some (.ref a))) H) ∧ (b2 = false → Wout cls d σ H))
theorem ps_try_two {x1 x2 : Str} {c1 c2 : Value} {b₁ b₂ : Stmt} {suite1 suite2 : List Stmt} {np1 np2 q1 q2 : Pos} {t1 t2 : Addr → Value → Option Addr → TS} {tb : WX → TS}
    (hs : X.stack = X.env :: X.outer) (hf : X.env.frame = some X.env.locals) (hN : X.N.Nodup) (hi : X.N[i]? = some n) (hln : X.env.kindOf n = some .local) (h1 : Names X x1 c1) (h2 : Names X x2 c2) (tk : Takes X Wout)
    (hb : ∀ (W : WX) (pn : List (Addr × Obj)) (xe : Value → Shared → Prop), Takes (X.tr pn xe) W → PassesOwn (model X.prog X.w) X.A X.env xe → PSs (X.tr pn xe) body (tb W))
    (s1 : ∀ (a : Addr) (oe : Obj) (cls : Value) (d : Option Addr) (pn : List (Addr × Obj)), Zc cls d oe → (∃ vs, oe.data = .fields vs) → PSs (X.suite a ((a, oe) :: pn)) (b₁ :: suite1) (t1 a cls d))
    (s2 : ∀ (a : Addr) (oe : Obj) (cls : Value) (d : Option Addr) (pn : List (Addr × Obj)), Zc cls d oe → (∃ vs, oe.data = .fields vs) → PSs (X.suite a ((a, oe) :: pn)) (b₂ :: suite2) (t2 a cls d)) :
    PS X (.Try body [.ExceptHandler (some (.Name x1 np1)) none (b₁ :: suite1) q1, .ExceptHandler (some (.Name x2 np2)) (some n) (b₂ :: suite2) q2] [] [] p2) (fun D σ H => tb (wTwo X.K X.N.length c1 c2 i t1 t2 Wout D) D σ H) := ⟨fun pins s σ H D I hw => by
  have ok := I.ok
  have fr : X.A.frames = some (X.env :: X.outer) := hs ▸ ok.frames
  let caught : Value → Shared → Prop := fun e t1' => wpAny (model X.prog X.w) X.A (noteFrame e X.env) (fun _ t2' => wpAny (model X.prog X.w) X.A (setFlight e none) (fun _ t3 => wpAny (model X.prog X.w) X.A (handleBy e X.env [.ExceptHandler (some (.Name x1 np1)) none (b₁ :: suite1) q1, .ExceptHandler (some (.Name x2 np2)) (some n) (b₂ :: suite2) q2]) (SP X pins D) X.xe t3) X.xe t2') X.xe t1'
  have takes : Takes (X.tr (X.pn ++ pins) caught) (wTwo X.K X.N.length c1 c2 i t1 t2 Wout D) := fun u t ⟨a, B, sI, _, σ1, H1, cls, d, eu, I1, nb, up, sky, na, os, ag, ww⟩ => by
    subst eu
    have J : Inv X pins σ1 H1 sI := I1.ofTry ok
    obtain ⟨b1, k1, y1, n1⟩ := ww J.len
    refine Sky.land Zc.steady fr hf (show Sky B (X.env :: X.outer) a (Zc cls d) X.env.locals t.heap from hs ▸ sky) fun h3 fl3 up3 => ?_
    obtain ⟨o3, v3, g3, z3, d3⟩ := fl3.there
    have nf := fields_noframe fl3.2.2.1 g3 d3
    have C : Cgt X pins a B sI σ1 H1 cls d { t with heap := h3 } := ⟨J, nb, fl3, up.trans up3, na, os, ag, fun z => nf (List.mem_filterMap.mpr ⟨X.env, List.mem_cons_self, z ▸ hf⟩), fun m => by
      obtain ⟨v, hv, q⟩ := List.mem_filterMap.mp m
      exact nf (List.mem_filterMap.mpr ⟨v, List.mem_cons_of_mem _ hv, q⟩)⟩
    refine catch_bare h1 s1 C k1 (fun e => y1 e a na) fun e => ?_
    obtain ⟨b2, k2, y2, n2⟩ := n1 e
    exact catch_as hN hi hln h2 s2 C k2 (fun e => y2 e a na) fun e => catch_nil hs hf tk C (n2 e)
  refine wpAny_Try_except (wpAny_mono ((hb _ (X.pn ++ pins) caught takes PassesOwn.looking).run [] s σ H D (I.toTry _) hw) (fun f s1 q => ?_) fun e s1 q => q)
  match f, q with
  | .next, ⟨_, _, T, q⟩ => exact wpAny_execs_nil ⟨_, _, T.ofTry ok, q⟩
  | .brk, ⟨_, _, T, q⟩ => exact ⟨_, _, T.ofTry ok, q⟩
  | .cont, ⟨_, _, T, q⟩ => exact ⟨_, _, T.ofTry ok, q⟩
  | .ret _, ⟨_, _, _, T, r, q⟩ => exact ⟨_, _, _, T.ofTry ok, r, q⟩⟩
end
end SA
set_option Elab.async false
set_option linter.all false
set_option maxRecDepth 100000
set_option maxHeartbeats 8000000
namespace SA
open PySem PySem.Spec PyProof.Rows L2 K1
abbrev sSErr : Stmt := topS 36
abbrev sUnk : Stmt := topS 37
abbrev nSErr : List Str := ["kinds", "functions", "found", "e"]
theorem spScope_mono {P : Program} {w0 : World} {T : List (Addr × Str)} {C BK BF : Addr} {vs : List V} {H : Hp} {Q Q' : VK} {E : XK} (hq : ∀ v H, Q v H → Q' v H) (h : spScope P w0 T C BK BF vs H Q E) : spScope P w0 T C BK BF vs H Q' E := by
  obtain ⟨x, dx, kv, fv, e, ex, hT, h⟩ := h
  refine ⟨x, dx, kv, fv, e, ex, hT, ?_⟩
  rcases h with h | h | ⟨a, xs, L, e1, e2, e3, e4, e5, h⟩
  · exact .inl h
  · exact .inr (.inl h)
  · refine .inr (.inr ⟨a, xs, L, e1, e2, e3, e4, e5, ?_⟩)
    rcases h with h | ⟨nd, h⟩
    · exact .inl h
    · refine .inr ⟨nd, ?_⟩
      rcases h with h | ⟨fa, fs, f1, f2, f3, f4, f5, k⟩
      · exact .inl h
      · exact .inr ⟨fa, fs, f1, f2, f3, f4, f5, fun H' k1 t1 s1 => hq _ _ (k H' k1 t1 s1)⟩
/-- what Scope raises of what is passed -/
def spSErr (P : Program) (w0 : World) (T : List (Addr × Str)) (C BK BF : Addr) : Sp := fun vs H Q _ => ∃ kv fv, vs = [kv, fv] ∧ ∀ x dx, H x = none → H dx = none → dx ≠ x →
  spScope P w0 T C BK BF [.ref x, kv, fv] (upd (upd H dx (.own x)) x (.ins C dx [])) (fun v H2 => v = .non ∧ Q .non H2) (fun cls d H2 =>
    (cls = .ref BK ∧ ∀ p, H2 p = none → Q (.ref p) (upd H2 p (.tup [.str "kinds"]))) ∨
    (cls = .ref BF ∧ ∃ dd v, d = some dd ∧ H2 dd = some (.xd [("name", v)]) ∧ ∀ p, H2 p = none → Q (.ref p) (upd H2 p (.tup [.str "functions", v]))))
section
variable {P : Program} {w0 : World} {K : PySem.W.Frag} {mg : Str → Option Value} {base : Heap} {C BK BF UN : Addr}
theorem scSErr : FnScope nSErr ["kinds", "functions"] (defScope sSErr) := ⟨rfl, rfl, rfl, by decide +kernel, rfl, by decide +kernel, by decide +kernel⟩
theorem ok_serr {T : List (Addr × Str)} {f fI : Addr} {fd fdI : FuncData} (F : Fun K "_law_scope_error" "_law_scope_error" sSErr f fd) (M : Mk K C fI) (gS : mg "Scope" = some (.ref C)) (bI : Binds K fdI ["self", "kinds", "functions"] [])
    (GI : FnOk P w0 K mg base (L2.CX P w0) 6 fI fdI ["self", "kinds", "functions"] (spScope P w0 T C BK BF)) (gK : mg "BadKinds" = some (.ref BK)) (gF : mg "BadFunctions" = some (.ref BF))
    (eKK : PySem.W.exmOne K (.ref BK) (.ref BK) = some true) (eFK : PySem.W.exmOne K (.ref BF) (.ref BK) = some false) (eFF : PySem.W.exmOne K (.ref BF) (.ref BF) = some true) (XF : XfC K BF) (nF : PySem.W.findIn K (.ref BF) "name" = some none) :
    FnOk P w0 K mg base CX0 8 f fd ["kinds", "functions"] (spSErr P w0 T C BK BF) := by
  refine F.ok scSErr (fun vs H Q E h => ?_) (fun cdv A outer s H vs Q E hr h => ?_)
  · obtain ⟨kv, fv, rfl, _⟩ := h
    rfl
  · obtain ⟨kv, fv, rfl, k⟩ := h
    refine ⟨_, pss_cons (ps_set (i := 2) scSErr.nd rfl (.inl rfl) pe_non) (pss_cons (ps_try_two (i := 3) (c1 := .ref BK) (c2 := .ref BF)
        (tb := fun W D σ H => ∃ Ech : XK, (∀ cls d σ' H', Ech cls d H' → W cls d σ' H') ∧ tDrop (tMake C (spScope P w0 T C BK BF) [] Ech (tCons (tVar 0) (tCons (tVar 1) tNil))) D σ H)
        rfl rfl scSErr.nd rfl rfl ⟨rfl, by decide, .inl gK⟩ ⟨rfl, by decide, .inl gF⟩ LamX.takes0 (fun W pn xe tk _ => ?_)
        (fun a oe cls d pn _ _ => pss_one (ps_set (i := 2) scSErr.nd rfl (.inl rfl) (pe_tup (pa_cons pe_str pa_nil))))
        (fun a oe cls d pn hz hf => pss_one (ps_set (i := 2) scSErr.nd rfl (.inl rfl) (pe_tup (pa_cons pe_str (pa_cons (pe_xf XF nF hz hf (pv 3)) pa_nil))))))
      (pss_one (ps_ret (pv 2)))), ?_⟩
    · refine ⟨fun pins s' σ H' D I h' => ?_⟩
      obtain ⟨Ech, hW, h2⟩ := h'
      exact (pss_one (ps_expr (pe_make (E := Ech) M GI hr (by rfl) gS bI .nil (passes_call tk hW) (pa_cons (pv 0) (pa_cons (pv 1) pa_nil))))).run pins s' σ H' D I h2
    · refine ⟨fun cls d H2 => (cls = .ref BK ∧ ∀ p, H2 p = none → Q (.ref p) (upd H2 p (.tup [.str "kinds"]))) ∨
          (cls = .ref BF ∧ ∃ dd v, d = some dd ∧ H2 dd = some (.xd [("name", v)]) ∧ ∀ p, H2 p = none → Q (.ref p) (upd H2 p (.tup [.str "functions", v]))), fun cls d σ' H' h hl => ?_, ?_⟩
      · have hl : σ'.length = 4 := hl
        match σ', hl with
        | [x0, x1, x2, x3], _ =>
          rcases h with ⟨rfl, k2⟩ | ⟨rfl, dd, v, rfl, e, k2⟩
          · exact ⟨true, eKK, fun _ a ha => ⟨(by show 1 ≤ sizeLine; decide), fun p hp => ⟨_, rfl, k2 p hp⟩⟩, fun z => nomatch z⟩
          · exact ⟨false, eFK, (fun z => nomatch z), fun _ => ⟨true, eFF, fun _ a ha => ⟨_, rfl, rfl, rfl, dd, _, v, rfl, e, rfl, (by show 2 ≤ sizeLine; decide), fun p hp => ⟨_, rfl, k2 p hp⟩⟩, fun z => nomatch z⟩⟩
      · refine ⟨_, rfl, _, rfl, fun x dx h1 h2 h3 => ?_⟩
        exact spScope_mono (fun v H2 ⟨e, q⟩ => ⟨e, _, rfl, q⟩) (k x dx h1 h2 h3)
end
end SA
set_option Elab.async false
set_option linter.all false
set_option maxRecDepth 100000
set_option maxHeartbeats 4000000
/-! ### a lambda called in a try: what it lets out, told at the very state -/
namespace SA
open PySem PySem.Spec PyProof.Rows L2
section
variable {X : Cx} {pins : List (Addr × Obj)} {σ : L2.St} {H : Hp} {s : Shared}
theorem pe_act3 {Ng : List Str} {qg : Str} {sg : Scope} {g f c' : Addr} {cdg pm ctv : Value} {params : Arguments} {body : Expr} {scope : Scope} {k i : Nat} {a : Str} {pn : List (Addr × Obj)} {xe : Value → Shared → Prop} {W : WX} {tb : XK → TE} {p1 p2 : Pos}
    (I : Inv X pins σ H s) (L : LamX.LamS X.env.scope scope) (hf : s.heap.get? f = some (PySem.W.kla_obj "<lambda>" (X.env.qual ++ "<lambda>") params body scope (cloFrom X.env.cells scope.names []) pm c' ctv)) (hfn : H f = none) (hfr : f ∉ frs X.stack)
    (hbind : bindArgs (PySem.W.kla_fn "<lambda>" (X.env.qual ++ "<lambda>") params body scope (cloFrom X.env.cells scope.names []) pm (.ref c') ctv) ⟨[], []⟩ = pure [])
    (tk : Takes ((cxOf C8.CX0 X.prog X.w X.K X.mg X.base Ng qg sg g cdg X.A X.stack s H C8.E0).tr pn xe) W) (hr : Room (k + 1) (X.A.deeper (envOfC qg sg s.heap.objs.size g cdg)))
    (hbody : ∀ (A : Around) (outer : List Env) (s : Shared) (H : Hp) (E : XK), Room k (A.deeper (LamX.lamEnv X scope s.heap.objs.size f c')) → PE (LamX.lamCx X A outer s H E scope f c') body (tb E))
    (hN : Ng[i]? = some a) (hv : Vis sg a) (hd : (a == ("__debug__" : Str)) = false := by decide) (hcd : (a == ("__classdict__" : Str)) = false := by decide) :
    PE ((cxOf C8.CX0 X.prog X.w X.K X.mg X.base Ng qg sg g cdg X.A X.stack s H C8.E0).tr pn xe) (.Call (.Name a p1) [] [] p2)
      (fun σZ HZ Q => σZ[i]? = some (some (.ref f)) ∧ HZ c' = some (LamX.CodeO c' (X.env.qual ++ "<lambda>")) ∧ ∃ E : XK, (∀ cls d H', E cls d H' → W cls d σZ H') ∧ tb E σ HZ Q) := ⟨fun pinsZ sZ σZ HZ Q IZ ⟨h0, hc, E, hW, ht⟩ => by
  refine wpAny_Call_Name_kw (thn ((pe_var (pos := p1) (i := i) hN hv hd hcd).run pinsZ sZ σZ HZ (fun v H1 => v = .ref f ∧ H1 = HZ) IZ ⟨.ref f, h0, rfl, rfl⟩) fun u s1 ⟨v, H1, I1, r1, ev, eH⟩ => ?_)
  subst ev eH
  obtain rfl : u = Value.ref f := r1
  have at1 := I1.base.keep f _ hf hfn hfr (fun z => nomatch (show f ∈ ([] : List Addr) from z))
  obtain ⟨⟨oc, vs, t, e1, e2, e3⟩, _, _⟩ := I1.hok c' _ hc
  have un : Un (frs X.stack) [] H H1 s.heap s1.heap := I1.base
  refine PySem.W.callWith_F0 ⟨_, _, _, _, at1⟩ (wpAny_call (codeAny_mono (R := CR (L2.CX X.prog X.w) (envOfC qg sg s.heap.objs.size g cdg :: X.stack) X.prog X.w H1 s1 Q E) ?_ fun r s' hq => ?_))
  · refine PySem.W.kla_callFunE hr.depth at1 rfl L.co L.gen rfl ⟨c', oc, vs, t, rfl, e1, e2, e3⟩ ?_
    show wpAny _ _ (bindArgs _ ⟨[], []⟩) _ _ _
    rw [hbind]
    refine wpAny_pure (wpAny_newFunctionEnv (fun y hy => (L.own y hy).2) (fun y hy => absurd hy (by simp)) (fun h₁ hns hsb => ⟨I1.nolimit.fresh _ hsb, ?_⟩) L.kind)
    have J := LamX.lam_start2 (E := E) (f := f) (c' := c') (tk := s1.toks + ([] : List (Str × Value)).length) I L I1.env0 hr.hd un hns fun b o e => hsb.extBut b o (Nat.ne_of_lt (Heap.lt_size e)) (Heap.get?_push_of_some _ e)
    refine PySem.W.kla_codeExpr (wpAny_mono ((hbody _ _ s1 H1 E (hr.deeper _)).run [] _ _ H1 Q J ht) (fun v s' hq => ?_) fun e s' hq => hq)
    obtain ⟨w', H', J', rv, q⟩ := hq
    exact ⟨w', H', J'.os, J'.bare, J'.base, J'.hok, rv, q⟩
  · match r, hq with
    | .error e, hq => exact tk e s' (XE.of_call I1 hW hq)
    | .ok (.ret u), hq => exact I1.after hq
    | .ok .next, hq => exact False.elim hq
    | .ok .brk, hq => exact False.elim hq
    | .ok .cont, hq => exact False.elim hq⟩
end
section
variable {X : Cx} {a C : Addr} {oe : Obj} {cls : Value} {d : Option Addr} {pn : List (Addr × Obj)}
/-- isinstance(e, c) in the suite that holds e, e's dict told -/
def rIsS (K : PySem.W.Frag) (a C : Addr) (cls : Value) (d : Option Addr) : List V → Hp → VK → Prop := fun xs H Q => ∃ (c : V) (cv : Value) (b : Bool) (dd : Addr) (fs : List (Str × V)), xs = [.ref a, c] ∧ ClsV c cv ∧ cls = .ref C ∧ d = some dd ∧ H dd = some (.xd fs) ∧ PySem.W.kitOne K (.ref C) cv = some b ∧ Q (.bl b) H
theorem call_isS (hC : ExcC X.K C) (hz : Zc cls d oe) (hf : ∃ vs, oe.data = .fields vs) : CallR (X.suite a ((a, oe) :: pn)) (.builtin "isinstance") (rIsS X.K a C cls d) := by
  intro pins s σ H xs us Q I r h
  obtain ⟨c, cv, b, dd, fs, rfl, k, rfl, rfl, hx, e, q⟩ := h
  obtain ⟨u1, u2, rfl, r1, r2⟩ := vals2 r
  have e2 := k.eq r2
  subst e2
  obtain rfl : u1 = Value.ref a := r1
  obtain ⟨ha, _⟩ := I.pin (a, oe) (List.mem_append_left _ List.mem_cons_self)
  obtain ⟨vs, hv⟩ := hf
  obtain ⟨mA, hns, hr⟩ := (show ObjOk X.prog X.w H s.heap dd (.xd fs) from I.hok dd _ hx)
  obtain ⟨od, ho, hl⟩ := lookIn_ns hns
  have J : PySem.W.InstAt s.heap a oe C (some od) := ⟨ha, hz.1, by unfold PySem.W.notCls; rw [hv] <;> rfl, by rw [hz.2]; exact ho⟩
  exact PySem.W.kia_one (kit_exc hC) I.kIn J e (fun z => nomatch z) fun tk => ⟨.bl b, H, I.kept (t' := tk) fun _ _ z => z, rfl, q⟩
end
/-- the def that calls what it got, a second argument beside -/
def Gives3 (X : Cx) (Ng : List Str) (x : Str) (sg : Scope) (g : Addr) (cdg : Value) (bg : List Stmt) (a : Str) (q : Str) (TT : V → (XK → Hp → VK → Prop) → Hp → VK → Prop) : Prop :=
  ∀ (f c' : Addr) (y : V) (s : Shared) (H : Hp) (Q : VK) (tl : XK → Hp → VK → Prop),
    (∀ (W : WX) (pn : List (Addr × Obj)) (xe : Value → Shared → Prop) (p1 p2 : Pos), Takes ((cxOf C8.CX0 X.prog X.w X.K X.mg X.base Ng x sg g cdg X.A X.stack s H C8.E0).tr pn xe) W →
      PE ((cxOf C8.CX0 X.prog X.w X.K X.mg X.base Ng x sg g cdg X.A X.stack s H C8.E0).tr pn xe) (.Call (.Name a p1) [] [] p2) (fun σZ HZ Q => σZ[0]? = some (some (.ref f)) ∧ HZ c' = some (LamX.CodeO c' q) ∧ ∃ E : XK, (∀ cls d H', E cls d H' → W cls d σZ H') ∧ tl E HZ Q)) →
    H c' = some (LamX.CodeO c' q) → TT y tl H Q →
    ∃ t, PSs (cxOf C8.CX0 X.prog X.w X.K X.mg X.base Ng x sg g cdg X.A X.stack s H C8.E0).nox bg t ∧ t { nx := fun _ H' => Q .non H', rt := Q } (L2.start Ng [.ref f, y]) H
def tLam3 (T : List (Addr × Str)) (TT : V → (XK → Hp → VK → Prop) → Hp → VK → Prop) (t : XK → TE) (j : Nat) : TE := fun σ H Q => LamX.Tabs T H ∧ ∃ y, σ[j]? = some (some y) ∧ ∀ H1, LamX.ExtN H H1 → LamX.Tabs T H1 → TT y (fun E H' Q' => t E σ H' Q') H1 Q
section
variable {X : Cx}
/-- x(lambda: body, y) -/
theorem pe_lamcall3 {T : List (Addr × Str)} {TT : V → (XK → Hp → VK → Prop) → Hp → VK → Prop} {x a b y : Str} {g c P : Addr} {k j : Nat} {pg : Arguments} {bg : List Stmt} {sg : Scope} {dV kV doc pm cdv ct oc : Value} {an od : Option Addr} {osl : Array (Option Value)} {Ng : List Str}
    {params : Arguments} {body : Expr} {scope : Scope} {t : XK → TE} {p lpos pos ypos : Pos} (hg : Gl X x) (hm : X.mg x = some (.ref g)) (hk : PySem.W.keepIn X.K (.ref g) = true)
    (lk : X.K.lookup g = some ⟨oc, od, .func (PySem.W.fnOf x x pg bg sg dV kV doc pm an cdv ct), osl⟩) (hcg : PySem.W.codeIn X.K cdv x = true) (hb : L2.Binds X.K (PySem.W.fnOf x x pg bg sg dV kV doc pm an cdv ct) [a, b] []) (Sg : FnScope Ng [a, b] sg) (hNg : Ng[0]? = some a) (hva : Vis sg a)
    (hG : Gives3 X Ng x sg g cdv bg a (X.env.qual ++ "<lambda>") TT)
    (TB : LamX.TabB X.base X.mg c P) (hcode : X.env.code = .ref c) (hmT : (P, X.env.qual ++ "<lambda>") ∈ T) (hu : ∀ p ∈ T, p.1 = P → p.2 = X.env.qual ++ "<lambda>") (hr : Room (k + 2) X.A) (L : LamX.LamS X.env.scope scope) (hdef : defaultsOf params X.env = ([], []))
    (hbind : ∀ (q : Str) (cl : List (Str × Addr)) (pm cv ctv : Value), bindArgs (PySem.W.kla_fn "<lambda>" q params body scope cl pm cv ctv) ⟨[], []⟩ = pure [])
    (hbody : ∀ (A : Around) (outer : List Env) (s : Shared) (H : Hp) (E : XK) (f c' : Addr), Room k (A.deeper (LamX.lamEnv X scope s.heap.objs.size f c')) → PE (LamX.lamCx X A outer s H E scope f c') body (t E))
    (hNy : X.N[j]? = some y) (hvy : Vis X.env.scope y) (hdy : (y == ("__debug__" : Str)) = false := by decide) (hcy : (y == ("__classdict__" : Str)) = false := by decide)
    (hdb : (x == ("__debug__" : Str)) = false := by decide) (hd : (a == ("__debug__" : Str)) = false := by decide) (hcd : (a == ("__classdict__" : Str)) = false := by decide) :
    PE X (.Call (.Name x p) [.Lambda params body scope lpos, .Name y ypos] [] pos) (tLam3 T TT t j) := by
  refine ⟨fun pins s σ H Q I h => ?_⟩
  obtain ⟨hT, v, hv, h⟩ := h
  refine wpAny_Call_Name_kw (ld_glob I hg hm ?_ hdb)
  refine PySem.W.callWith_K (h₀ := X.base) I.ok.mod.kin hk ?_ (by rfl) (by rfl)
  show wpAny _ _ (spliced ((false, eval (.Lambda params body scope lpos) X.env) :: (false, eval (.Name y ypos) X.env) :: backTo pos (starEach [] X.env))) _ _ s
  refine Calls.spliced_cons (LamX.lam_make2 I TB hcode hmT hu hT hdef (L.has I.ok) fun f c' pm' ctv H1 s' I1 eN T1 hf hfn hfr hco => ?_)
  refine Calls.spliced_cons (var_at I1 hNy hvy hv (fun u ru => ?_) hdy hcy)
  refine Calls.spliced_nil ⟨I1.kIn, ?_⟩
  have rc : codeAny (model X.prog X.w) X.A (.call (.ref g) ⟨[.ref f, u], []⟩) (CR C8.CX0 X.stack X.prog X.w H1 s' Q C8.E0) s' := by
    refine LamX.run_ofS (N := Ng) (ps := [a, b]) (us := [.ref f, u]) (vs := [.ref f, v]) lk hcg Sg hr I1.env0 (hb s' [.ref f, u] I1.kIn rfl) (.cons rfl (.cons ru .nil)) rfl fun hr' => ?_
    obtain ⟨t', ht', hq'⟩ := hG f c' v s' H1 Q (fun E H' Q' => t E σ H' Q') (fun W pn xe p1 p2 tk => pe_act3 (i := 0) I1 L hf hfn hfr (hbind _ _ _ _ _) tk hr' (fun A outer s H E hr2 => hbody A outer s H E f c' hr2) hNg hva hd hcd) hco (h H1 eN T1)
    exact ⟨t', ht'.nox, hq'⟩
  refine wpAny_call (codeAny_mono rc fun r s2 hq => ?_)
  cases r with
  | error e => exact (show False from hq).elim
  | ok fl =>
    cases fl with
    | ret u => exact I1.after hq
    | next => exact False.elim hq
    | brk => exact False.elim hq
    | cont => exact False.elim hq
end
end SA
set_option Elab.async false
set_option linter.all false
set_option maxRecDepth 100000
set_option maxHeartbeats 8000000
namespace SA
open PySem PySem.Spec PyProof.Rows L2 K1
mutual
theorem da_dp {K : PySem.W.Frag} {H : Hp} : ∀ {d : PyData} {v : V}, Da H v d → d.canLay0 = true → Dp K H v d
  | _, _, .non, _ => .non
  | _, _, .bl b, _ => .bl b
  | _, _, .int i, _ => .int i
  | _, _, .str x, _ => .str x
  | _, _, .lst e t, h => .lst (SqL.of e) (daAll_dp t (by simpa [PyData.canLay0] using h))
  | _, _, .tup e t, h => .tup (SqT.of e) (daAll_dp t (by simpa [PyData.canLay0] using h))
  | _, _, .dct e, h => by simp [PyData.canLay0] at h
theorem daAll_dp {K : PySem.W.Frag} {H : Hp} : ∀ {ds : List PyData} {vs : List V}, DaAll H vs ds → PyData.canLayAll0 ds = true → DpAll K H vs ds
  | _, _, .nil, _ => .nil
  | _, _, .cons e t, h => by
    simp only [PyData.canLayAll0, Bool.and_eq_true] at h
    exact .cons (da_dp e h.1) (daAll_dp t h.2)
end
abbrev nUnk : List Str := ["call", "thing", "found", "e"]
theorem scUnk : FnScope nUnk ["call", "thing"] (defScope sUnk) := ⟨rfl, rfl, rfl, by decide +kernel, rfl, by decide +kernel, by decide +kernel⟩
/-- what _law_unknown makes of a call that lets Unknown out, with the thing -/
def TTu (UN : Addr) : V → (XK → Hp → VK → Prop) → Hp → VK → Prop := fun y tl H Q =>
  tl (fun cls d H' => cls = .ref UN ∧ ∃ dd e, d = some dd ∧ H' dd = some (.xd [("name", y)]) ∧ Da H' y e ∧ (SeqAt.shaped e = true ∨ e = .dict []) ∧ ∃ v : V, (some (some (V.bl true)) : Option (Option V)) = some (some v) ∧ Q v H') H (fun _ H' => ∃ v : V, (some (some (V.bl false)) : Option (Option V)) = some (some v) ∧ Q v H')
/-- the same value compared with itself -/
theorem same_eq {K : PySem.W.Frag} {H : Hp} {y : V} {e : PyData} {Q : VK} (h : Da H y e) (ok : SeqAt.shaped e = true ∨ e = .dict []) (q : Q (.bl true) H) : rEqD K y y H Q ∨ rDictEq K false y y H Q := by
  rcases ok with ok | rfl
  · refine .inl ⟨e, e, da_dp h (SeqAt.canLay_of_shaped ok), da_dp h (SeqAt.canLay_of_shaped ok), ok, ok, ?_⟩
    rw [PySem.SeqAt.eqv_refl e (SeqAt.canLay_of_shaped ok)]
    exact q
  · refine .inr ?_
    cases h with
    | dct ea => exact ⟨_, _, [], [], true, rfl, rfl, ea, ea, fun _ => .nil, q⟩
theorem unk_gives {X : Cx} {g UN SE : Addr} {cdg : Value} {q : Str} (B : Gb X.mg) (gU : X.mg "Unknown" = some (.ref UN)) (gS : X.mg "StopError" = some (.ref SE)) (hu : X.A.units + 100 < cLine) (eUU : PySem.W.exmOne X.K (.ref UN) (.ref UN) = some true)
    (XU : XfC X.K UN) (nU : PySem.W.findIn X.K (.ref UN) "name" = some none) (EU : ExcC X.K UN) (kUS : PySem.W.kitOne X.K (.ref UN) (.ref SE) = some true) :
    Gives3 X nUnk "_law_unknown" (defScope sUnk) g cdg (defBody sUnk) "call" q (TTu UN) := by
  intro f c' y s H Q tl act hc h
  have hu2 : (X.A.deeper (envOfC "_law_unknown" (defScope sUnk) s.heap.objs.size g cdg)).units + 66 < cLine := by
    show X.A.units + 3 + 66 < cLine
    omega
  have hu4 : (X.A.deeper (envOfC "_law_unknown" (defScope sUnk) s.heap.objs.size g cdg)).units + 64 < cLine := by omega
  refine ⟨_, pss_cons (ps_set (i := 2) scUnk.nd rfl (.inl rfl) pe_bl) (pss_cons (ps_try_as (i := 3) (X := (cxOf C8.CX0 X.prog X.w X.K X.mg X.base nUnk "_law_unknown" (defScope sUnk) g cdg X.A X.stack s H C8.E0).nox) (c := .ref UN)
      (tb := fun W D σ H => σ[0]? = some (some (.ref f)) ∧ H c' = some (LamX.CodeO c' q) ∧ ∃ E : XK, (∀ cls d H', E cls d H' → W cls d σ H') ∧ tl E H (fun _ H' => D.nx σ H'))
      rfl rfl scUnk.nd rfl rfl ⟨rfl, by decide, .inl gU⟩ LamX.takes0 (fun W pn xe tk _ => pss_one (ps_expr (act W pn xe _ _ tk)))
      (fun a oe cls d pn hz hf => pss_one (ps_set (i := 2) scUnk.nd rfl (.inl rfl) (pe_and (pe_cmpR (OpR.or (r := rEqD X.K) (r' := rDictEq X.K false) (op_eqD hu4) (op_dictEq hu2)) (pe_xf XU nU hz hf (pv 3)) (pv 1) (nomark _))
        (pe_and (pe_cmpR op_eq (pe_callB (r := rIsi X.K) call_isi (by rfl) B.isi boot_isinstance (pa_cons (pe_xf XU nU hz hf (pv 3)) (pa_cons (pe_bltn (v := .ty "bool") (by rfl) B.bool (by decide +kernel) rfl) pa_nil)))
            (pe_callB (r := rIsi X.K) call_isi (by rfl) B.isi boot_isinstance (pa_cons (pv 1) (pa_cons (pe_bltn (v := .ty "bool") (by rfl) B.bool (by decide +kernel) rfl) pa_nil))) (nomark _))
          (pe_one (pe_callB (call_isS EU hz hf) (by rfl) B.isi boot_isinstance (pa_cons (pv 3) (pa_cons (pe_glob (v := .ref SE) (by rfl) gS rfl) pa_nil)))))))))
    (pss_one (ps_ret (pv 2)))), ?_⟩
  refine ⟨rfl, hc, _, ?_, h⟩
  rintro cls d H' ⟨rfl, dd, e, rfl, ed, de, oke, q⟩
  refine ⟨true, eUU, fun _ a ha => ?_, fun z => nomatch z⟩
  refine ⟨_, rfl, rfl, rfl, dd, _, y, rfl, ed, rfl, _, rfl, same_eq de oke ⟨_, rfl, iteT ?_⟩⟩
  refine ⟨_, rfl, rfl, rfl, dd, _, y, rfl, ed, rfl, y, .ty "bool", .type (tyD e), .type "bool", isBlD e, rfl, .ty _, de.ty, kitBl e, _, rfl, y, .ty "bool", .type (tyD e), .type "bool", isBlD e, rfl, .ty _, de.ty, kitBl e, rfl, _, rfl, ?_⟩
  rw [decide_eq_true (rfl : V.bl (isBlD e) = V.bl (isBlD e))]
  refine iteT ⟨_, rfl, .ref SE, .ref SE, true, dd, _, rfl, .own SE, rfl, rfl, ed, kUS, q⟩
end SA
set_option Elab.async false
set_option linter.all false
set_option maxRecDepth 100000
set_option maxHeartbeats 8000000
namespace SA
open PySem PySem.Spec PyProof.Rows L2 K1
abbrev sMeans : Stmt := topS 38
abbrev nMeans : List Str := ["scope", "kinds", "functions", "word", "name", "more", "variant", "fields", "kind", "taken", "result"]
abbrev cat1 {α : Type} : List α → List α → List α := fun us ws => us ++ ws
/-! ### data that may be compared -/
def okS (w : Str) : Prop := w.cps.all (· < 0x110000) = true
theorem okS_small {w : Str} (h : (tl w).all small = true) : okS w := by
  unfold okS
  rw [← Array.all_toList, List.all_eq_true] at *
  intro c hc
  have := h c hc
  unfold small at this
  rw [decide_eq_true_eq] at this
  exact decide_eq_true (by omega)
theorem okS_name {w : Str} (h : isName w = true) : okS w := by
  unfold isName at h
  simp only [Bool.and_eq_true] at h
  exact okS_small h.2.2.2
theorem okS_kind {w : Str} (h : isKindS w = true) : okS w := by
  unfold isKindS at h
  rw [Bool.or_eq_true] at h
  rcases h with h | h
  · have h : w ∈ numS := of_decide_eq_true h
    simp only [numS, List.mem_cons, List.not_mem_nil, or_false] at h
    rcases h with rfl | rfl
    · unfold okS; decide +kernel
    · unfold okS; decide +kernel
  · exact okS_name h
theorem okS_coded {w : Str} (h : okS w) : okS (codedS w) := by
  unfold codedS
  split
  · unfold okS; decide +kernel
  · exact h
theorem lay_strs : ∀ {l : List Str}, (∀ x ∈ l, okS x) → PyData.canLayAll0 (l.map PyData.str) = true
  | [], _ => rfl
  | x :: l, h => by
    simp only [List.map_cons, PyData.canLayAll0, Bool.and_eq_true]
    exact ⟨h x (List.mem_cons_self ..), lay_strs fun y hy => h y (List.mem_cons_of_mem _ hy)⟩
theorem dep_strs : ∀ l : List Str, PyData.depthAll (l.map PyData.str) = 0
  | [] => rfl
  | x :: l => by
    simp only [List.map_cons, PyData.depthAll, PyData.depth, dep_strs l]
    rfl
theorem shd_fld {l : List Str} (h : ∀ x ∈ l, okS x) : ShD (fldD l) :=
  ⟨tupO_fld l, rfl, by unfold fldD; simp only [PyData.canLay0, lay_strs h], by unfold fldD; show PyData.depthAll _ + 1 ≤ 60; rw [dep_strs]; decide⟩
theorem shd_var {v : Vr} (h1 : okS v.1) (h2 : ∀ x ∈ v.2, okS x) : ShD (varD v) :=
  ⟨tupO_var v, rfl, by
    unfold varD
    have h1 : PyData.canLay0 (.str v.1) = true := h1
    simp only [PyData.canLay0, PyData.canLayAll0, (shd_fld h2).lay, Bool.and_true]
    exact h1, by
    unfold varD
    have := dep_strs v.2
    show max 0 (max (PyData.depthAll _ + 1) 0) + 1 ≤ 60
    rw [this]
    decide⟩
theorem dep_vars : ∀ vs : List Vr, PyData.depthAll (vs.map varD) ≤ 2
  | [] => Nat.zero_le _
  | v :: vs => by
    simp only [List.map_cons, PyData.depthAll]
    refine Nat.max_le.mpr ⟨?_, dep_vars vs⟩
    show max 0 (max (PyData.depthAll _ + 1) 0) + 1 ≤ 2
    rw [dep_strs]
    decide
theorem lay_all : ∀ {ds : List PyData}, (∀ d ∈ ds, d.canLay0 = true) → PyData.canLayAll0 ds = true
  | [], _ => rfl
  | d :: ds, h => by
    simp only [PyData.canLayAll0, Bool.and_eq_true]
    exact ⟨h d (List.mem_cons_self ..), lay_all fun e he => h e (List.mem_cons_of_mem _ he)⟩
theorem okS_lit (s : String) (h : (Str.ofString s).cps.all (· < 0x110000) = true) : PyData.canLay0 (.str (Str.ofString s)) = true := h
theorem shd_dcl {D : Dcl} (h : D.Ok) : ShD D.d := by
  refine ⟨tupO_dcl D, (by cases D <;> rfl), ?_, ?_⟩
  · cases h with
    | row h k l =>
      have h1 := okS_name h
      have h2 := okS_kind k
      simp only [Dcl.d, PyData.canLay0, PyData.canLayAll0, Bool.and_true, Bool.and_eq_true]
      exact ⟨okS_lit "row" (by decide +kernel), h1, h2⟩
    | @cho n vs h h1 h4 ok =>
      have e : PyData.canLayAll0 (vs.map varD) = true := lay_all fun d hd => by
        obtain ⟨v, hv, rfl⟩ := List.mem_map.mp hd
        exact (shd_var (okS_name (ok v hv).name) fun x hx => okS_kind ((ok v hv).kinds x hx).1).lay
      simp only [Dcl.d, PyData.canLay0, PyData.canLayAll0, Bool.and_true, Bool.and_eq_true]
      exact ⟨okS_lit "choice" (by decide +kernel), okS_name h, e⟩
  · cases D with
    | row n i =>
      show max 0 (max 0 (max 0 0)) + 1 ≤ 60
      decide
    | cho n vs =>
      have := dep_vars vs
      show max 0 (max 0 (max (PyData.depthAll (vs.map varD) + 1) 0)) + 1 ≤ 60
      omega
theorem shd_fn {f : Fn} (h1 : ∀ x ∈ f.1, okS x) (h2 : okS f.2) : ShD (fnD f) :=
  ⟨tupO_fn f, rfl, by
    unfold fnD
    have h2 : PyData.canLay0 (.str f.2) = true := h2
    simp only [PyData.canLay0, PyData.canLayAll0, (shd_fld h1).lay, Bool.and_true, Bool.true_and]
    exact h2, by
    unfold fnD
    have := dep_strs f.1
    show max (PyData.depthAll _ + 1) (max 0 0) + 1 ≤ 60
    rw [this]
    decide⟩
theorem ShD.shaped {d : PyData} (h : ShD d) : SeqAt.shaped d = true := by
  unfold SeqAt.shaped
  rw [Bool.and_eq_true, decide_eq_true_eq]
  exact ⟨h.lay, Nat.le_trans h.dep (by decide)⟩
theorem OkF.coded {f : Fn} (h : OkF f) : ShD (fnD (codedF f)) := shd_fn (f := codedF f) (fun x hx => by
  obtain ⟨k, hk, rfl⟩ := List.mem_map.mp hx
  exact okS_coded (okS_kind (h.kinds k hk).1)) (okS_coded (okS_kind h.res.1))
theorem lookup_mem {es : List (Str × PyData)} {k : Str} {d : PyData} (nd : (es.map (·.1)).Nodup) (h : (k, d) ∈ es) : es.lookup k = some d := by
  have := lookup_map_some (f := fun p : Str × PyData => p.1) (g := fun p => p.2) nd h
  simpa using this
/-- two values of the same data -/
theorem ne_same {K : PySem.W.Frag} {H : Hp} {x y : V} {d : PyData} {Q : VK} (hx : Da H x d) (hy : Da H y d) (h : ShD d) (q : Q (.bl false) H) : rNeD K x y H Q := by
  refine ⟨d, d, da_dp hx h.lay, da_dp hy h.lay, h.shaped, h.shaped, ?_⟩
  rw [PySem.SeqAt.eqv_refl d h.lay]
  exact q
theorem ScopeN.same {H0 H H' : Hp} {p C : Addr} {L : List Dcl} {fs : List NFn} (h : ScopeN H0 H p C L fs) (s : Same H H') : ScopeN H0 H' p C L fs := h.kp (S := []) (.of s) (by simp) (by simp)
theorem kz_get : ∀ {ks : List Str} {vs : List V} {i : Nat} {k : Key} {v : V}, (kz ks vs)[i]? = some (k, v) → ∃ w, ks[i]? = some w ∧ vs[i]? = some v ∧ k = .inr w := by
  intro ks vs i k v h
  unfold kz at h
  rw [List.getElem?_map] at h
  obtain ⟨p, hp, e⟩ := Option.map_eq_some_iff.mp h
  rw [List.getElem?_zip_eq_some] at hp
  cases e
  exact ⟨p.1, hp.1, hp.2, rfl⟩
theorem look_dcl {L : List Dcl} (nd : (L.flatMap Dcl.names).Nodup) {D : Dcl} (h : D ∈ L) : ((sortD L).map fun D => (D.name, D.d)).lookup D.name = some D.d :=
  lookup_map_some (f := Dcl.name) (g := Dcl.d) (nodup_dnames ((nodup_perm_flat (sortD_perm L)).mpr nd)) ((sortD_perm L).mem_iff.mpr h)
theorem look_case {L : List Dcl} (nd : (L.flatMap Dcl.names).Nodup) {n : Str} {vs : List Vr} (h : Dcl.cho n vs ∈ L) {v : Vr} (hv : v ∈ vs) : ((sortD L).flatMap casesOf).lookup v.1 = some (varD (n, v.2.map codedS)) := by
  refine lookup_mem ((sub_cases _).nodup ((nodup_perm_flat (sortD_perm L)).mpr nd)) (List.mem_flatMap.mpr ⟨_, (sortD_perm L).mem_iff.mpr h, ?_⟩)
  exact List.mem_map.mpr ⟨v, hv, rfl⟩
theorem look_fn {fs : List NFn} (nd : (fs.map (·.1)).Nodup) {f : NFn} (h : f ∈ fs) : ((sortF fs).map cfnE).lookup f.1 = some (fnD (codedF f.2)) :=
  lookup_map_some (f := (·.1)) (g := fun f : NFn => fnD (codedF f.2)) (((sortF_perm fs).map _).nodup_iff.mpr nd) ((sortF_perm fs).mem_iff.mpr h)
def spMeans (C : Addr) : Sp := fun vs H Q _ => ∃ (x ka fa : Addr) (H0 : Hp) (L : List Dcl) (fs : List NFn) (xs : List V) (o0 : HO), vs = [.ref x, .ref ka, .ref fa] ∧ ScopeN H0 H x C (sortD L) (sortF fs) ∧ H ka = some (.lst xs) ∧ DaAll H xs (L.map Dcl.d) ∧ DictL H fa (fs.map fnE) ∧
  H0 fa = some o0 ∧ (∀ ps, o0 ≠ .tbl ps) ∧ (L.flatMap Dcl.names).Nodup ∧ (∀ D ∈ L, D.Ok) ∧ L.length ≤ 10 ∧ (fs.map (·.1)).Nodup ∧ (∀ f ∈ fs, isName f.1 = true ∧ OkF f.2) ∧ fs.length ≤ 60 ∧ ∀ H', Same H H' → Q (.bl true) H'
/-- one value before, one by name -/
def kw1 {α : Type} : List α → List α → List α
  | [u], [z] => [u, z]
  | _, _ => []
/-- a method of Scope, called by position and by name -/
structure MOk (P : Program) (w0 : World) (K : PySem.W.Frag) (mg : Str → Option Value) (base : Heap) (C : Addr) (m : Str) (a : Str) (sp : Sp) (f : Addr) (fd : FuncData) : Prop where
  at_ : Meth K C m f
  ok : FnOk P w0 K mg base (L2.CX P w0) 4 f fd ["self", a] sp
  b : L2.Binds K fd ["self", a] []
  k : KBinds K fd ["self", a] [a] kw1 kw1
section
variable {P : Program} {w0 : World} {K : PySem.W.Frag} {mg : Str → Option Value} {base : Heap} {C UN : Addr}
theorem scMeans : FnScope nMeans ["scope", "kinds", "functions"] (defScope sMeans) := ⟨rfl, rfl, rfl, by decide +kernel, rfl, by decide +kernel, by decide +kernel⟩
theorem ok_means {f fc f1 f2 f3 f4 f5 f6 : Addr} {fd fdc g1 g2 g3 g4 g5 g6 : FuncData} (F : Fun K "_law_means" "_law_means" sMeans f fd) (B : Gb mg) (cC : Cls K C)
    (FC : Fun K "_law_coded" "_law_coded" sCoded fc fdc) (bC : Binds K fdc ["kind"] []) (gC : mg "_law_coded" = some (.ref fc)) (GC : FnOk P w0 K mg base CX0 1 fc fdc ["kind"] spKic)
    (m1 : MOk P w0 K mg base C "choice" "variant" (spChoice C UN) f1 g1) (m2 : MOk P w0 K mg base C "variants" "choice" (spVars C UN) f2 g2) (m3 : MOk P w0 K mg base C "fields" "variant" (spFields C UN) f3 g3)
    (m4 : MOk P w0 K mg base C "item" "kind" (spItem C UN) f4 g4) (m5 : MOk P w0 K mg base C "takes" "function" (spTakes C UN) f5 g5) (m6 : MOk P w0 K mg base C "gives" "function" (spGives C UN) f6 g6) :
    FnOk P w0 K mg base CX0 5 f fd ["scope", "kinds", "functions"] (spMeans C) := by
  refine F.ok scMeans (fun vs H Q E h => ?_) (fun cdv A outer s H vs Q E hr h => ?_)
  · obtain ⟨x, ka, fa, H0, L, fs, xs, o0, rfl, _⟩ := h
    rfl
  · obtain ⟨x, ka, fa, H0, L, fs, xs, o0, rfl, sc, ek, dk, df, o1, o2, ndL, okL, lL, ndF, okF, lF, k⟩ := h
    have hu := hu_of hr
    have hr1 := hr.mono (by decide : 1 ≤ 4)
    refine ⟨_, pss_cons (ps_for PassesOwn.never rfl (pi_list (pv 1)) (pg_tup (by rfl) (pgs_cons (pg_name (i := 3) scMeans.nd rfl (Or.inl rfl)) (pgs_cons (pg_name (i := 4) scMeans.nd rfl (Or.inl rfl)) (pgs_cons (pg_name (i := 5) scMeans.nd rfl (Or.inl rfl)) pgs_nil))))
        (pss_one (ps_if (pt_cmpR op_eq (pv 3) pe_str (nomark _))
          (pss_one (ps_if (pt_cmpR op_ne (pe_methK (E := E0) (pv 0) cC m4.at_ m4.ok hr m4.k passL (pk_cons (pv 4) pk_nil)) (pe_call GC hr1 (by rfl) gC FC.kp bC .nil pass0 (pa_cons (pv 5) pa_nil)) (nomark _)) (pss_one (ps_ret pe_bl)) pss_nil))
          (pss_cons (ps_if (pt_cmpR (op_neD hr.units) (pe_methK (E := E0) (pv 0) cC m2.at_ m2.ok hr m2.k passL (pk_cons (pv 4) pk_nil)) (pe_callTy call_tuple_of (by rfl) B.tuple (by decide +kernel) (pa_cons (pe_lc (own := [("variant", 6), ("fields", 7)]) (g := gTup K 2 (gCons (gName 6) (gCons (gName 7) gNil))) (tt := tYes) (te := tVar 6) (by rfl) scMeans.nd (pi_tup (pv 5))
                (blkOk_by (N := nMeans) (sc := defScope sMeans) (by decide +kernel)) (fun _ _ _ _ _ => pg_tup (by rfl) (pgs_cons (pg_name (i := 6) scMeans.nd rfl (Or.inl rfl)) (pgs_cons (pg_name (i := 7) scMeans.nd rfl (Or.inl rfl)) pgs_nil))) (fun _ _ _ _ _ => pts_nil) (fun _ _ _ _ _ => pv 6)) pa_nil)) (nomark _)) (pss_one (ps_ret pe_bl)) pss_nil)
          (pss_one (ps_for PassesOwn.never rfl (pi_tup (pv 5)) (pg_tup (by rfl) (pgs_cons (pg_name (i := 6) scMeans.nd rfl (Or.inl rfl)) (pgs_cons (pg_name (i := 7) scMeans.nd rfl (Or.inl rfl)) pgs_nil)))
            (pss_one (ps_if (PW.pt (pw_or (pt_cmpR op_ne (pe_methK (E := E0) (pv 0) cC m1.at_ m1.ok hr m1.k passL (pk_cons (pv 6) pk_nil)) (pv 4) (nomark _))
              (pw_or1 (pt_cmpR (op_neD hr.units) (pe_meth (E := E0) (pv 0) cC m3.at_ m3.ok hr m3.b .nil passL (pa_cons (pv 6) pa_nil)) (pe_callTy call_tuple_of (by rfl) B.tuple (by decide +kernel) (pa_cons (pe_lc (own := [("kind", 8)]) (g := gName 8) (tt := tYes) (te := tCall spKic [] E0 (tCons (tVar 8) tNil)) (by rfl) scMeans.nd (pi_tup (pv 7))
                (blkOk_by (N := nMeans) (sc := defScope sMeans) (by decide +kernel)) (fun _ _ _ _ _ => pg_name (i := 8) scMeans.nd rfl (Or.inl rfl)) (fun _ _ _ _ _ => pts_nil) (fun _ _ _ _ _ => pe_call GC hr1 (by rfl) gC FC.kp bC .nil pass0 (pa_cons (pv 8) pa_nil))) pa_nil)) (nomark _))))) (pss_one (ps_ret pe_bl)) pss_nil))))))))
      (pss_cons (ps_lock (ps_for PassesOwn.never rfl (pi_keys (pv 2)) (pg_name (i := 4) scMeans.nd rfl (Or.inl rfl))
        (pss_cons (ps_asg (pe_dget hu (pv 2) (pv 4) (fun _ _ => rfl)) (pg_tup (by rfl) (pgs_cons (pg_name (i := 9) scMeans.nd rfl (Or.inl rfl)) (pgs_cons (pg_name (i := 10) scMeans.nd rfl (Or.inl rfl)) pgs_nil))))
        (pss_one (ps_if (PW.pt (pw_or (pt_cmpR (op_neD hr.units) (pe_methK (E := E0) (pv 0) cC m5.at_ m5.ok hr m5.k passL (pk_cons (pv 4) pk_nil)) (pe_callTy call_tuple_of (by rfl) B.tuple (by decide +kernel) (pa_cons (pe_lc (own := [("kind", 8)]) (g := gName 8) (tt := tYes) (te := tCall spKic [] E0 (tCons (tVar 8) tNil)) (by rfl) scMeans.nd (pi_tup (pv 9))
                (blkOk_by (N := nMeans) (sc := defScope sMeans) (by decide +kernel)) (fun _ _ _ _ _ => pg_name (i := 8) scMeans.nd rfl (Or.inl rfl)) (fun _ _ _ _ _ => pts_nil) (fun _ _ _ _ _ => pe_call GC hr1 (by rfl) gC FC.kp bC .nil pass0 (pa_cons (pv 8) pa_nil))) pa_nil)) (nomark _))
            (pw_or1 (pt_cmpR op_ne (pe_meth (E := E0) (pv 0) cC m6.at_ m6.ok hr m6.b .nil passL (pa_cons (pv 4) pa_nil)) (pe_call GC hr1 (by rfl) gC FC.kp bC .nil pass0 (pa_cons (pv 10) pa_nil)) (nomark _))))) (pss_one (ps_ret pe_bl)) pss_nil)))))
      (pss_one (ps_ret pe_bl))), ?_⟩
    have sM : ∀ {H' : Hp}, Same H H' → ∃ dx fs', H' x = some (.ins C dx fs') ∧ (∀ m ∈ (["item", "variants", "choice", "fields", "takes", "gives"] : List String), fs'.lookup (Str.ofString m) = none) := fun {H'} s => by
      obtain ⟨dx, kt, fd2, td, dd, cd, rs, h1, _⟩ := sc.same s
      refine ⟨dx, _, h1, fun m hm => ?_⟩
      simp only [List.mem_cons, List.not_mem_nil, or_false] at hm
      rcases hm with rfl | rfl | rfl | rfl | rfl | rfl <;> rfl
    refine ⟨_, rfl, ka, rfl, ⟨_, SqL.of ek⟩, for_list (K := K) (a := ka) (xs := xs) (fun i σ H' => Same H H' ∧ ∃ y3 y4 y5 y6 y7 y8 y9 y10, σ = [some (.ref x), some (.ref ka), some (.ref fa), y3, y4, y5, y6, y7, y8, y9, y10])
      ⟨Same.refl _, _, _, _, _, _, _, _, _, rfl⟩ (fun i σ H' _ ⟨s, _⟩ => SqL.of (s _ _ ek)) ?_ ?_⟩
    · rintro i u σ H1 hu1 ⟨s1, y3, y4, y5, y6, y7, y8, y9, y10, rfl⟩
      obtain ⟨d', hd2, hx2⟩ := dk.get hu1
      rw [List.getElem?_map] at hd2
      obtain ⟨D, hD, rfl⟩ := Option.map_eq_some_iff.mp hd2
      have mD := List.mem_of_getElem? hD
      have okD := okL D mD
      have lkD := look_dcl ndL mD
      have hx3 := hx2.same s1
      obtain ⟨dx, fs', ex, nx⟩ := sM s1
      have sc1 := (sc.same s1).at_
      cases D with
      | row n it =>
        obtain ⟨b, rfl, eb⟩ := da_row hx3
        refine ⟨b, _, rfl, SqT.of eb, rfl, _, _, rfl, _, _, rfl, _, _, rfl, rfl, ?_⟩
        refine ⟨_, rfl, rfl, _, rfl, ?_⟩
        rw [streq]
        refine iteT ⟨_, rfl, x, dx, _, rfl, ex, nx "item" (by simp), _, rfl, x, .str n, sortD L, sortF fs, rfl, sc1, .inr ⟨n, n, it, rfl, lkD, _, rfl, it, rfl, rfl, _, rfl, ?_⟩⟩
        rw [decide_eq_true (rfl : V.str (codedS it) = V.str (codedS it))]
        exact iteF ⟨s1, _, _, _, _, _, _, _, _, rfl⟩
      | cho n vs =>
        obtain ⟨b, c, ws, rfl, eb, ec, dw⟩ := da_cho hx3
        have okv : ∀ v ∈ vs, OkV v := by
          cases okD with
          | cho h h1 h4 ok => exact ok
        have l4 : vs.length ≤ 4 := by
          cases okD with
          | cho h h1 h4 ok => exact h4
        have el : ws.length = vs.length := by rw [dw.len, List.length_map]
        refine ⟨b, _, rfl, SqT.of eb, rfl, _, _, rfl, _, _, rfl, _, _, rfl, rfl, ?_⟩
        refine ⟨_, rfl, rfl, _, rfl, ?_⟩
        rw [streq]
        refine iteF ⟨_, rfl, x, dx, _, rfl, ex, nx "variants" (by simp), _, rfl, x, .str n, sortD L, sortF fs, rfl, sc1, .inr ⟨n, n, vs, rfl, lkD, l4, fun H2 z s2 dz => ?_⟩⟩
        have s12 := s1.trans s2
        have ec2 := s2 _ _ ec
        have dw2 := dw.same s2
        refine ⟨_, rfl, c, rfl, ⟨_, SqT.of ec2⟩, fun q hq => lc_da walk_tup (vs.map fun v => PyData.str v.1) (by simp [el]) (by have := tupOs_strs (vs.map (·.1)); rw [List.map_map] at this; exact this) (small1000 (by omega)) hq (fun H' s' => SqT.of (s' _ _ ec2)) ?_ ?_⟩
        · intro i x d R H' hx' hd' s' hR
          obtain ⟨d', hd2, hx2⟩ := dw2.get hx'
          rw [List.getElem?_map] at hd' hd2
          obtain ⟨v, hv, rfl⟩ := Option.map_eq_some_iff.mp hd2
          obtain ⟨t, ht, rfl⟩ := Option.map_eq_some_iff.mp hd'
          rw [hv] at ht
          cases ht
          obtain ⟨a2, y2, rfl, e2, _⟩ := da_var2 (hx2.same s')
          exact ⟨a2, _, rfl, SqT.of e2, rfl, _, _, rfl, _, _, rfl, rfl, rfl, _, rfl, hR _ _ (Same.refl _) (.str _)⟩
        · intro H3 ys s3 e3 dy
          refine ⟨q, _, rfl, .inl ⟨SqL.of e3, fun l hl => ?_⟩⟩
          have s4 : Same H3 (upd H3 l (.tup ys)) := Same.new hl
          refine ne_same (d := fldD (vs.map (·.1))) (dz.same (s3.trans s4)) (.tup upd_same (by rw [List.map_map]; exact dy.same s4)) (shd_fld fun x hx => ?_) ⟨_, rfl, iteF ?_⟩
          · obtain ⟨v, hv, rfl⟩ := List.mem_map.mp hx
            exact okS_name (okv v hv).name
          have s5 : Same H (upd H3 l (.tup ys)) := (s12.trans s3).trans s4
          have ec5 := (s3.trans s4) _ _ ec2
          have dw5 := dw2.same (s3.trans s4)
          generalize upd H3 l (.tup ys) = H5 at s5 ec5 dw5
          refine ⟨_, rfl, c, rfl, ⟨_, SqT.of ec5⟩, for_tup (K := K) (a := c) (xs := ws) (fun j σ H' => Same H5 H' ∧ ∃ y6 y7 y8, σ = [some (.ref x), some (.ref ka), some (.ref fa), some (.str "choice"), some (.str n), some (.ref c), y6, y7, y8, y9, y10])
            ⟨Same.refl _, _, _, _, rfl⟩ (fun i σ H' _ ⟨s, _⟩ => SqT.of (s _ _ ec5)) ?_ ?_⟩
          · rintro j w σ H6 hw ⟨s6, z6, z7, z8, rfl⟩
            obtain ⟨d', hd2, hx2⟩ := dw5.get hw
            rw [List.getElem?_map] at hd2
            obtain ⟨v, hv, rfl⟩ := Option.map_eq_some_iff.mp hd2
            have mv := List.mem_of_getElem? hv
            have lkc := look_case ndL mD mv
            obtain ⟨a2, y2, rfl, e2, dy2⟩ := da_var2 (hx2.same s6)
            obtain ⟨b2, rfl, eb2⟩ := da_fld dy2
            have sH6 := s5.trans s6
            obtain ⟨dx6, fs6, ex6, nx6⟩ := sM sH6
            have sc6 := (sc.same sH6).at_
            refine ⟨a2, _, rfl, SqT.of e2, rfl, _, _, rfl, _, _, rfl, rfl, ?_⟩
            refine ⟨_, rfl, x, dx6, _, rfl, ex6, nx6 "choice" (by simp), _, rfl, x, .str v.1, sortD L, sortF fs, rfl, sc6, .inr ⟨v.1, n, v.2.map codedS, rfl, lkc, _, rfl, rfl, _, rfl, ?_⟩⟩
            rw [decide_eq_true (rfl : V.str n = V.str n)]
            refine iteF ⟨_, rfl, x, dx6, _, rfl, ex6, nx6 "fields" (by simp), _, rfl, x, .str v.1, sortD L, sortF fs, rfl, sc6, .inr ⟨v.1, n, v.2.map codedS, rfl, lkc, fun z dz => ?_⟩⟩
            have l3 : v.2.length ≤ 3 := (okv v mv).len
            refine ⟨_, rfl, b2, rfl, ⟨_, SqT.of eb2⟩, fun q hq => lc_da walk_tup ((v.2.map codedS).map PyData.str) (by simp) (tupOs_strs _) (small1000 (by rw [List.length_map]; omega)) hq (fun H' s' => SqT.of (s' _ _ eb2)) ?_ ?_⟩
            · intro i x d R H' hx' hd' s' hR
              rw [List.getElem?_map] at hx' hd'
              rw [List.getElem?_map] at hd'
              obtain ⟨w, hw, rfl⟩ := Option.map_eq_some_iff.mp hx'
              rw [hw] at hd'
              cases hd'
              exact ⟨rfl, _, rfl, w, rfl, hR _ _ (Same.refl _) (.str _)⟩
            · intro H7 ys s7 e7 dy
              refine ⟨q, _, rfl, .inl ⟨SqL.of e7, fun l hl => ?_⟩⟩
              have s8 : Same H7 (upd H7 l (.tup ys)) := Same.new hl
              refine ne_same (d := fldD (v.2.map codedS)) (dz.same (s7.trans s8)) (.tup upd_same (dy.same s8)) (shd_fld fun x hx => ?_) ⟨_, rfl, iteF ?_⟩
              · obtain ⟨k, hk, rfl⟩ := List.mem_map.mp hx
                exact okS_coded (okS_kind ((okv v mv).kinds k hk).1)
              exact ⟨(s6.trans s7).trans s8, _, _, _, rfl⟩
          · rintro σ H6 ⟨s6, z6, z7, z8, rfl⟩
            exact ⟨s5.trans s6, _, _, _, _, _, _, _, _, rfl⟩
    · rintro σ H1 ⟨s1, y3, y4, y5, y6, y7, y8, y9, y10, rfl⟩
      obtain ⟨vs, ef, dv⟩ := df.same s1
      have kl : ∀ od, Kp [fa] H1 (upd H1 fa (.frz od (.dK (kz ((fs.map fnE).map (·.1)) vs)))) := fun od => Kp.upd ef (fun _ z => nomatch z) (by simp)
      have nxf : x ∉ [fa] := by
        intro z
        obtain ⟨dx, _, ex, _⟩ := sM s1
        rw [List.mem_singleton.mp z, ef] at ex
        cases ex
      refine ⟨fa, _, ef, trivial, fun od => ?_⟩
      have scl : ScopeN H0 (upd H1 fa (.frz od (.dK (kz ((fs.map fnE).map (·.1)) vs)))) x C (sortD L) (sortF fs) := (sc.same s1).kp (kl od) nxf (by intro s hs; rw [List.mem_singleton.mp hs]; exact ⟨o0, o1, o2⟩)
      have dvl := DaAll.kp (kl od) (tupOs_fn fs) dv
      have el : (upd H1 fa (.frz od (.dK (kz ((fs.map fnE).map (·.1)) vs)))) fa = some (.frz od (.dK (kz ((fs.map fnE).map (·.1)) vs))) := upd_same
      have slk : ∀ {H'}, Same (upd H1 fa (.frz od (.dK (kz ((fs.map fnE).map (·.1)) vs)))) H' → Same H (upd H' fa (.dK (kz ((fs.map fnE).map (·.1)) vs))) := fun s => s1.trans (same_lock ef s)
      generalize upd H1 fa (.frz od (.dK (kz ((fs.map fnE).map (·.1)) vs))) = Hl at scl dvl el slk
      refine ⟨_, rfl, fa, od, rfl, .inl ⟨_, el, for_it walk_keys (fun i σ H' => Same Hl H' ∧ ∃ y4 y8 y9 y10, σ = [some (.ref x), some (.ref ka), some (.ref fa), y3, y4, y5, y6, y7, y8, y9, y10]) ⟨Same.refl _, _, _, _, _, rfl⟩ (fun i σ H' _ ⟨s, _⟩ => s _ _ el) ?_ ?_⟩⟩
      · rintro i u σ H2 H3 hi ⟨s2, z4, z8, z9, z10, rfl⟩ ⟨rfl, k0, v0, hk0, rfl⟩
        obtain ⟨w, hw, _, rfl⟩ := kz_get hk0
        rw [List.map_map, List.getElem?_map] at hw
        obtain ⟨f, hf, rfl⟩ := Option.map_eq_some_iff.mp hw
        have mf := List.mem_of_getElem? hf
        have okf := (okF f mf).2
        have lkf := look_fn ndF mf
        obtain ⟨v1, g1, g2⟩ := (kz_val (k := f.1) (dvl.same s2)).1 (fnD f.2) (lookup_map_some (f := (·.1)) (g := fun f : NFn => fnD f.2) ndF mf)
        obtain ⟨a2, y2, rfl, e2, dy2⟩ := da_fn2 g2
        obtain ⟨b2, rfl, eb2⟩ := da_fld dy2
        obtain ⟨dx6, kt6, fd6, td6, dd6, cd6, rs6, ex6, _⟩ := (scl.same s2)
        have sc6 := (scl.same s2).at_
        refine ⟨_, rfl, _, rfl, fa, .ref a2, rfl, .inl ⟨_, .inr f.1, .inr ⟨od, s2 _ _ el⟩, rfl, g1.symm⟩, a2, _, rfl, SqT.of e2, rfl, _, _, rfl, _, _, rfl, rfl, ?_⟩
        refine ⟨_, rfl, x, dx6, _, rfl, ex6, rfl, _, rfl, x, .str f.1, sortD L, sortF fs, rfl, sc6, .inr ⟨f.1, codedF f.2, rfl, lkf, fun z dz => ?_⟩⟩
        have l3 := okf.len
        refine ⟨_, rfl, b2, rfl, ⟨_, SqT.of eb2⟩, fun q hq => lc_da walk_tup ((f.2.1.map codedS).map PyData.str) (by simp) (tupOs_strs _) (small1000 (by rw [List.length_map]; omega)) hq (fun H' s' => SqT.of (s' _ _ eb2)) ?_ ?_⟩
        · intro i x d R H' hx' hd' s' hR
          rw [List.getElem?_map] at hx' hd'
          rw [List.getElem?_map] at hd'
          obtain ⟨w, hw, rfl⟩ := Option.map_eq_some_iff.mp hx'
          rw [hw] at hd'
          cases hd'
          exact ⟨rfl, _, rfl, w, rfl, hR _ _ (Same.refl _) (.str _)⟩
        · intro H7 ys s7 e7 dy
          refine ⟨q, _, rfl, .inl ⟨SqL.of e7, fun l hl => ?_⟩⟩
          have s8 : Same H7 (upd H7 l (.tup ys)) := Same.new hl
          have s9 := s2.trans (s7.trans s8)
          refine ne_same (d := fldD (f.2.1.map codedS)) (dz.same (s7.trans s8)) (.tup upd_same (dy.same s8)) (shd_fld fun x hx => ?_) ⟨_, rfl, iteF ?_⟩
          · obtain ⟨k, hk, rfl⟩ := List.mem_map.mp hx
            exact okS_coded (okS_kind (okf.kinds k hk).1)
          obtain ⟨dx9, kt9, fd9, td9, dd9, cd9, rs9, ex9, _⟩ := (scl.same s9)
          refine ⟨_, rfl, x, dx9, _, rfl, ex9, rfl, _, rfl, x, .str f.1, sortD L, sortF fs, rfl, (scl.same s9).at_, .inr ⟨f.1, codedF f.2, rfl, lkf, _, rfl, f.2.2, rfl, rfl, _, rfl, ?_⟩⟩
          rw [decide_eq_true (show V.str (codedF f.2).2 = V.str (codedS f.2.2) from rfl)]
          exact iteF ⟨s9, _, _, _, _, rfl⟩
      · rintro σ H2 ⟨s2, z4, z8, z9, z10, rfl⟩
        exact ⟨s2 _ _ el, k _ (slk s2)⟩
end
end SA
set_option Elab.async false
set_option linter.all false
set_option maxRecDepth 100000
set_option maxHeartbeats 8000000
namespace SA
open PySem PySem.Spec PyProof.Rows L2 K1
abbrev sUnm : Stmt := topS 39
abbrev nUnm : List Str := ["scope", "kinds", "functions", "names", "word", "name", "more", "rows", "choices", "variants", "variant", "fields", "odd", "known", "thing"]
def qUnm : Str := (envOfC "_law_unmeant" (defScope sUnm) 0 0 .none).qual ++ "<lambda>"
theorem da_ext {H H' : Hp} (e : LamX.ExtN H H') : ∀ {d : PyData} {v : V}, Da H v d → Da H' v d := by
  intro d v h
  induction h using Da.rec (motive_2 := fun vs ds _ => DaAll H' vs ds) with
  | non => exact .non
  | bl b => exact .bl b
  | int i => exact .int i
  | str x => exact .str x
  | lst h t ih => exact .lst (e _ _ h fun _ z => nomatch z) ih
  | tup h t ih => exact .tup (e _ _ h fun _ z => nomatch z) ih
  | dct h => exact .dct (e _ _ h fun _ z => nomatch z)
  | nil => exact .nil
  | cons h t i1 i2 => exact .cons i1 i2
theorem ScopeAt.ext {H H' : Hp} {p C : Addr} {L : List Dcl} {fs : List NFn} (h : ScopeAt H p C L fs) (e : LamX.ExtN H H') : ScopeAt H' p C L fs := by
  obtain ⟨dx, kt, fd, td, dd, cd, rs, h1, h2, h3, h4, h5, h6, h7⟩ := h.ex
  have k : Kp [] H H' := .ext e
  exact ⟨dx, kt, fd, td, dd, cd, rs, e _ _ h1 (fun _ z => nomatch z), e _ _ h2 (fun _ z => nomatch z), DaAll.kp k (tupOs_dcls L) h3, h4.kp k (by simp) (tupOs_cfn _), h5.kp k (by simp) (tupOs_cfn _), h6.kp k (by simp) (tupOs_dn _), h7.kp k (by simp) (tupOs_cases _)⟩
def rowN (L : List Dcl) : List Str := L.flatMap fun D => if D.word = ("row" : Str) then [D.name] else []
def choN (L : List Dcl) : List Str := L.flatMap fun D => if D.word = ("choice" : Str) then [D.name] else []
def varN (L : List Dcl) : List Str := L.flatMap fun D => (casesOf D).map Prod.fst
theorem lookup_in {es : List (Str × PyData)} {k : Str} {d : PyData} (h : es.lookup k = some d) : (k, d) ∈ es := by
  induction es with
  | nil => cases h
  | cons p es ih =>
    rw [List.lookup_cons] at h
    split at h
    · rename_i e
      cases h
      have : k = p.1 := by simpa using e
      rw [this]
      exact List.mem_cons_self ..
    · exact List.mem_cons_of_mem _ (ih h)
theorem no_dcl {L : List Dcl} {w wd : Str} (h : w ∉ L.flatMap fun D => if D.word = wd then [D.name] else []) : NoDcl (.str w) (sortD L) wd := by
  cases e : ((sortD L).map fun D : Dcl => (D.name, D.d)).lookup w with
  | none => exact .inl (.inr ⟨w, rfl, e⟩)
  | some d =>
    obtain ⟨D, hD, e2⟩ := List.mem_map.mp (lookup_in e)
    cases e2
    refine .inr ⟨_, D, rfl, e, fun hw => h ?_⟩
    exact List.mem_flatMap.mpr ⟨D, (sortD_perm L).mem_iff.mp hD, by rw [if_pos hw]; simp⟩
theorem no_var {L : List Dcl} {w : Str} (h : w ∉ varN L) : NoKey (.str w) ((sortD L).flatMap casesOf) := by
  refine .inr ⟨w, rfl, lookup_none_of fun m => h ?_⟩
  obtain ⟨p, hp, rfl⟩ := List.mem_map.mp m
  obtain ⟨D, hD, hp⟩ := List.mem_flatMap.mp hp
  exact List.mem_flatMap.mpr ⟨D, (sortD_perm L).mem_iff.mp hD, List.mem_map_of_mem hp⟩
theorem no_fn {fs : List NFn} {w : Str} (h : w ∉ fs.map (·.1)) : NoKey (.str w) ((sortF fs).map cfnE) := by
  refine .inr ⟨w, rfl, lookup_none_of fun m => h ?_⟩
  rw [List.map_map] at m
  exact ((sortF_perm fs).map _).mem_iff.mp m
/-- a value that is asked of the methods -/
structure OdV (H : Hp) (x : V) (e : PyData) : Prop where
  da : Da H x e
  ok : SeqAt.shaped e = true ∨ e = .dict []
theorem OdV.str {H : Hp} {x : V} {e : PyData} (h : OdV H x e) (hs : isStrD e = true) : ∃ w, x = .str w ∧ e = .str w := by
  cases e <;> simp [isStrD] at hs
  rename_i w
  cases h.da
  exact ⟨w, rfl, rfl⟩
theorem Fun.okC0 {P : Program} {w : World} {K : PySem.W.Frag} {mg : Str → Option Value} {base : Heap} {x qual : Str} {st : Stmt} {f c : Addr} {fd : FuncData} {N ps : List Str} {k : Nat} {sp : Sp} (F : Fun K x qual st f fd) (hc : fd.code = .ref c) (S : FnScope N ps (defScope st)) (len : ∀ vs H Q E, sp vs H Q E → vs.length = ps.length)
    (body : ∀ (A : Around) (outer : List Env) (s : Shared) (H : Hp) (vs : List V) (Q : VK) (E : XK), Room k (A.deeper (envOfC qual (defScope st) s.heap.objs.size f (.ref c))) → sp vs H Q E →
      ∃ t, PSs (cxOf CX0 P w K mg base N qual (defScope st) f (.ref c) A outer s H E).nox (defBody st) t ∧ t { nx := fun _ H' => Q .non H', rt := Q } (start N vs) H) : FnOk P w K mg base CX0 (k + 1) f fd ps sp := by
  obtain ⟨oc, od, kV, doc, pm, an, cdv, ct, osl, rfl, lk, hcd⟩ := F.ex
  have ec : cdv = .ref c := hc
  subst ec
  exact fn_of lk hcd S len fun A outer s H vs Q E hr hsp => by
    obtain ⟨t, h1, h2⟩ := body A outer s H vs Q E hr hsp
    exact ⟨t, h1.nox, h2⟩
theorem OdV.same {H H' : Hp} {x : V} {e : PyData} (h : OdV H x e) (s : Same H H') : OdV H' x e := ⟨h.da.same s, h.ok⟩
theorem OdV.ext {H H' : Hp} {x : V} {e : PyData} (h : OdV H x e) (s : LamX.ExtN H H') : OdV H' x e := ⟨da_ext s h.da, h.ok⟩
theorem odv_str {H : Hp} {w : Str} (h : okS w) : OdV H (.str w) (.str w) := ⟨.str w, .inl (by
  unfold SeqAt.shaped
  rw [Bool.and_eq_true]
  exact ⟨h, rfl⟩)⟩
theorem rowN_ok {L : List Dcl} (h : ∀ D ∈ L, D.Ok) : (∀ w ∈ rowN L, okS w) ∧ (∀ w ∈ choN L, okS w) ∧ ∀ w ∈ varN L, okS w := by
  have nm : ∀ D ∈ L, okS D.name := fun D hD => by
    cases h D hD with
    | row h k l => exact okS_name h
    | cho h h1 h4 ok => exact okS_name h
  refine ⟨fun w hw => ?_, fun w hw => ?_, fun w hw => ?_⟩
  · obtain ⟨D, hD, hw⟩ := List.mem_flatMap.mp hw
    split at hw
    · rw [List.mem_singleton.mp hw]; exact nm D hD
    · simp at hw
  · obtain ⟨D, hD, hw⟩ := List.mem_flatMap.mp hw
    split at hw
    · rw [List.mem_singleton.mp hw]; exact nm D hD
    · simp at hw
  · obtain ⟨D, hD, hw⟩ := List.mem_flatMap.mp hw
    have hD := h D hD
    cases hD with
    | row h k l => simp [casesOf] at hw
    | cho h h1 h4 ok =>
      obtain ⟨p, hp, rfl⟩ := List.mem_map.mp hw
      obtain ⟨v, hv, rfl⟩ := List.mem_map.mp hp
      exact okS_name (ok v hv).name
theorem da_three {H : Hp} {x : V} {D : Dcl} (h : Da H x D.d) : ∃ a y, x = .ref a ∧ H a = some (.tup [.str D.word, .str D.name, y]) := by
  cases D with
  | row n i =>
    obtain ⟨a, rfl, e⟩ := da_row h
    exact ⟨a, _, rfl, e⟩
  | cho n vs =>
    obtain ⟨a, b, rs, rfl, e, _⟩ := da_cho h
    exact ⟨a, _, rfl, e⟩
theorem word_len {L : List Dcl} {wd : Str} : (L.flatMap fun D => if D.word = wd then [D.name] else []).length ≤ L.length := by
  induction L with
  | nil => exact Nat.le_refl _
  | cons D L ih =>
    rw [List.flatMap_cons, List.length_append, List.length_cons]
    split
    · simp only [List.length_singleton]
      omega
    · simp only [List.length_nil]
      omega
/-- each method refuses what is no name of its sort -/
def spUnm (K : PySem.W.Frag) (T : List (Addr × Str)) (C : Addr) : Sp := fun vs H Q _ => ∃ (x ka fa nm : Addr) (L : List Dcl) (fs : List NFn) (xs : List V) (nm0 : Str) (ws : List Str), vs = [.ref x, .ref ka, .ref fa, .ref nm] ∧ ScopeAt H x C (sortD L) (sortF fs) ∧ H ka = some (.lst xs) ∧ DaAll H xs (L.map Dcl.d) ∧ DictL H fa (fs.map fnE) ∧
  H nm = some (.lst ((nm0 :: ws).map V.str)) ∧ isName nm0 = true ∧ (∀ D ∈ L, D.Ok) ∧ L.length ≤ 10 ∧ (∀ f ∈ fs, isName f.1 = true) ∧ (fs.map (·.1)).Nodup ∧ fs.length ≤ 60 ∧ LamX.Tabs T H ∧ ∀ H', LamX.ExtN H H' → LamX.Tabs T H' → Q (.bl true) H'
section
variable {P : Program} {w0 : World} {K : PySem.W.Frag} {mg : Str → Option Value} {base : Heap} {C UN : Addr}
theorem scUnm : FnScope nUnm ["scope", "kinds", "functions", "names"] (defScope sUnm) := ⟨rfl, rfl, rfl, by decide +kernel, rfl, by decide +kernel, by decide +kernel⟩
/-- _law_unknown(lambda: .., thing) -/
theorem pe_unk {X : Cx} {fU cc Pu SE : Addr} {fdU : FuncData} {k j : Nat} {T : List (Addr × Str)} {params : Arguments} {body : Expr} {scope : Scope} {t : XK → TE} {p lpos pos ypos : Pos} (FU : Fun X.K "_law_unknown" "_law_unknown" sUnk fU fdU) (gF : X.mg "_law_unknown" = some (.ref fU))
    (bU : Binds X.K fdU ["call", "thing"] []) (B : Gb X.mg) (gU : X.mg "Unknown" = some (.ref UN)) (gS : X.mg "StopError" = some (.ref SE)) (eUU : PySem.W.exmOne X.K (.ref UN) (.ref UN) = some true)
    (XU : XfC X.K UN) (nU : PySem.W.findIn X.K (.ref UN) "name" = some none) (EU : ExcC X.K UN) (kUS : PySem.W.kitOne X.K (.ref UN) (.ref SE) = some true)
    (TB : LamX.TabB X.base X.mg cc Pu) (hg : Gl X "_law_unknown") (hcode : X.env.code = .ref cc) (hmT : (Pu, X.env.qual ++ "<lambda>") ∈ T) (hu : ∀ p ∈ T, p.1 = Pu → p.2 = X.env.qual ++ "<lambda>") (hr : Room (k + 2) X.A) (sc : Scope) (hsc : X.env.scope = sc) (L : LamX.lamSB sc scope = true) (hdef : defaultsOf params X.env = ([], []))
    (hbind : ∀ (q : Str) (cl : List (Str × Addr)) (pm cv ctv : Value), bindArgs (PySem.W.kla_fn "<lambda>" q params body scope cl pm cv ctv) ⟨[], []⟩ = pure [])
    (hbody : ∀ (A : Around) (outer : List Env) (s : Shared) (H : Hp) (E : XK) (f c' : Addr), Room k (A.deeper (LamX.lamEnv X scope s.heap.objs.size f c')) → PE (LamX.lamCx X A outer s H E scope f c') body (t E))
    (hNy : X.N[j]? = some "thing") (hvy : Vis X.env.scope "thing") :
    PE X (.Call (.Name "_law_unknown" p) [.Lambda params body scope lpos, .Name "thing" ypos] [] pos) (tLam3 T (TTu UN) t j) := by
  obtain ⟨oc, od, kV, doc, pm, an, cdv, ct, osl, rfl, lkC, hcdC⟩ := FU.ex
  exact pe_lamcall3 (Ng := nUnk) hg gF FU.kp lkC hcdC bU scUnk rfl (.inl rfl) (unk_gives B gU gS (by have := hr.un; omega) eUU XU nU EU kUS) TB hcode hmT hu hr (LamX.lamS_by (by rw [hsc]; exact L)) hdef hbind hbody hNy hvy
theorem ok_unm {T : List (Addr × Str)} {f fU cc Pu SE f1 f2 f3 f4 f5 f6 : Addr} {fd fdU g1 g2 g3 g4 g5 g6 : FuncData} (F : Fun K "_law_unmeant" "_law_unmeant" sUnm f fd) (hc : fd.code = .ref cc) (TB : LamX.TabB base mg cc Pu) (hmT : (Pu, qUnm) ∈ T) (hu2 : ∀ p ∈ T, p.1 = Pu → p.2 = qUnm) (B : Gb mg) (cC : Cls K C)
    (FU : Fun K "_law_unknown" "_law_unknown" sUnk fU fdU) (gU : mg "_law_unknown" = some (.ref fU)) (bU : Binds K fdU ["call", "thing"] []) (gUn : mg "Unknown" = some (.ref UN)) (gS : mg "StopError" = some (.ref SE)) (eUU : PySem.W.exmOne K (.ref UN) (.ref UN) = some true)
    (XU : XfC K UN) (nU : PySem.W.findIn K (.ref UN) "name" = some none) (EU : ExcC K UN) (kUS : PySem.W.kitOne K (.ref UN) (.ref SE) = some true)
    (m1 : MOk P w0 K mg base C "choice" "variant" (spChoice C UN) f1 g1) (m2 : MOk P w0 K mg base C "variants" "choice" (spVars C UN) f2 g2) (m3 : MOk P w0 K mg base C "fields" "variant" (spFields C UN) f3 g3)
    (m4 : MOk P w0 K mg base C "item" "kind" (spItem C UN) f4 g4) (m5 : MOk P w0 K mg base C "takes" "function" (spTakes C UN) f5 g5) (m6 : MOk P w0 K mg base C "gives" "function" (spGives C UN) f6 g6) :
    FnOk P w0 K mg base CX0 7 f fd ["scope", "kinds", "functions", "names"] (spUnm K T C) := by
  refine Fun.okC0 F hc scUnm (fun vs H Q E h => ?_) (fun A outer s H vs Q E hr h => ?_)
  · obtain ⟨x, ka, fa, nm, L, fs, xs, nm0, ws, rfl, _⟩ := h
    rfl
  · obtain ⟨x, ka, fa, nm, L, fs, xs, nm0, ws, rfl, sc, ek, dk, df, en, nm0n, okL, lL, okF, ndF, lF, hT, k⟩ := h
    have hu := hu_of hr
    refine ⟨_, Evl.pss_cut (ps_setLc (i := 7) (own := [("word", 4), ("name", 5), ("more", 6)]) (g := gTup K 3 (gCons (gName 4) (gCons (gName 5) (gCons (gName 6) gNil)))) (tt := _) (by rfl) scUnm.nd rfl rfl (sw_true rfl rfl rfl (by decide +kernel)) (pi_list (pv 1)) (blkOk_by (N := nUnm) (sc := defScope sUnm) (by decide +kernel))
        (fun _ _ _ _ _ => (pg_tup (by rfl) (pgs_cons (pg_name (i := 4) scUnm.nd rfl (Or.inl rfl)) (pgs_cons (pg_name (i := 5) scUnm.nd rfl (Or.inl rfl)) (pgs_cons (pg_name (i := 6) scUnm.nd rfl (Or.inl rfl)) pgs_nil))))) (fun _ _ _ _ _ => pts_one (pt_cmpR op_eq (pv 4) pe_str (nomark _))) (fun _ _ _ _ _ => pv 5))
      (Evl.pss_cut (ps_setLc (i := 8) (own := [("word", 4), ("name", 5), ("more", 6)]) (g := gTup K 3 (gCons (gName 4) (gCons (gName 5) (gCons (gName 6) gNil)))) (tt := _) (by rfl) scUnm.nd rfl rfl (sw_true rfl rfl rfl (by decide +kernel)) (pi_list (pv 1)) (blkOk_by (N := nUnm) (sc := defScope sUnm) (by decide +kernel))
        (fun _ _ _ _ _ => (pg_tup (by rfl) (pgs_cons (pg_name (i := 4) scUnm.nd rfl (Or.inl rfl)) (pgs_cons (pg_name (i := 5) scUnm.nd rfl (Or.inl rfl)) (pgs_cons (pg_name (i := 6) scUnm.nd rfl (Or.inl rfl)) pgs_nil))))) (fun _ _ _ _ _ => pts_one (pt_cmpR op_eq (pv 4) pe_str (nomark _))) (fun _ _ _ _ _ => pv 5))
      (pss_cons (ps_set (i := 9) scUnm.nd rfl (.inl rfl) (pe_lst pa_nil))
      (Evl.pss_cut (ps_for PassesOwn.never rfl (pi_list (pv 1)) (pg_tup (by rfl) (pgs_cons (pg_name (i := 4) scUnm.nd rfl (Or.inl rfl)) (pgs_cons (pg_name (i := 5) scUnm.nd rfl (Or.inl rfl)) (pgs_cons (pg_name (i := 6) scUnm.nd rfl (Or.inl rfl)) pgs_nil))))
        (pss_one (ps_set (i := 9) scUnm.nd rfl (.inl rfl) (pe_op op_cat (pv 9) (pe_ifExp (pt_cmpR op_eq (pv 4) pe_str (nomark _)) (pe_lc (own := [("variant", 10), ("fields", 11)]) (g := gTup K 2 (gCons (gName 10) (gCons (gName 11) gNil))) (tt := tYes) (te := tVar 10) (by rfl) scUnm.nd (pi_tup (pv 6))
            (blkOk_by (N := nUnm) (sc := defScope sUnm) (by decide +kernel)) (fun _ _ _ _ _ => pg_tup (by rfl) (pgs_cons (pg_name (i := 10) scUnm.nd rfl (Or.inl rfl)) (pgs_cons (pg_name (i := 11) scUnm.nd rfl (Or.inl rfl)) pgs_nil))) (fun _ _ _ _ _ => pts_nil) (fun _ _ _ _ _ => pv 10)) (pe_lst pa_nil))))))
      (Evl.pss_cut (ps_set (i := 12) scUnm.nd rfl (.inl rfl) (pe_op op_cat (pe_op op_cat (pe_op op_cat (pe_op op_cat (pe_lst (pa_cons pe_non (pa_cons pe_int (pa_cons pe_bl (pa_cons pe_str (pa_cons pe_str (pa_cons pe_str (pa_cons pe_str (pa_cons pe_str (pa_cons (pe_ix ix_list (pv 3) pe_int (fun _ _ => rfl)) (pa_cons (pe_lst (pa_cons pe_str pa_nil)) (pa_cons (pe_tup (pa_cons pe_str pa_nil)) (pa_cons pe_dnewK pa_nil))))))))))))) (pv 7)) (pv 8)) (pv 9))
          (pe_callTy (call_listD rfl) (by rfl) B.list (by decide +kernel) (pa_cons (pv 2) pa_nil))))
      (pss_cons (ps_for PassesOwn.never rfl (pi_list (pv 12)) (pg_name (i := 14) scUnm.nd rfl (.inr rfl))
        (pss_cons (ps_set (i := 13) scUnm.nd rfl (.inl rfl) (pe_callB call_isi (by rfl) B.isi boot_isinstance (pa_cons (pv 14) (pa_cons (pe_bltn (v := .ty "str") (by rfl) B.str (by decide +kernel) rfl) pa_nil))))
          (Evl.pss_cut (ps_if (PW.pt (pw_and (pt_not (PW.pt (pw_and (pt_val (pv 13)) (pw_and1 (pt_cmpR op_in_seq (pv 14) (pv 7) rfl))))) (pw_and1 (pt_not (pt_val (pe_unk (UN := UN) (T := T) (k := 4) (j := 14) (t := fun E => tMeth C "item" (spItem C UN) [] E (tVar 0) (tCons (tVar 14) tNil)) FU gU bU B gUn gS eUU XU nU EU kUS TB (by rfl) rfl hmT hu2 hr (defScope sUnm) rfl (by decide +kernel) rfl (fun _ _ _ _ _ => rfl)
              (fun A' outer' s' H' E' f' c' hr' => pe_meth (E := E') (pv 0) cC m4.at_ m4.ok hr' m4.b .nil (passes_call (takes_of rfl rfl rfl rfl) fun _ _ _ _ h => h) (pa_cons (pv 14) pa_nil)) rfl (.inr (.inl rfl)))))))) (pss_one (ps_ret pe_bl)) pss_nil)
          (Evl.pss_cut (ps_if (PW.pt (pw_and (pt_not (PW.pt (pw_and (pt_val (pv 13)) (pw_and1 (pt_cmpR op_in_seq (pv 14) (pv 8) rfl))))) (pw_and1 (pt_not (pt_val (pe_unk (UN := UN) (T := T) (k := 4) (j := 14) (t := fun E => tMeth C "variants" (spVars C UN) [] E (tVar 0) (tCons (tVar 14) tNil)) FU gU bU B gUn gS eUU XU nU EU kUS TB (by rfl) rfl hmT hu2 hr (defScope sUnm) rfl (by decide +kernel) rfl (fun _ _ _ _ _ => rfl)
              (fun A' outer' s' H' E' f' c' hr' => pe_meth (E := E') (pv 0) cC m2.at_ m2.ok hr' m2.b .nil (passes_call (takes_of rfl rfl rfl rfl) fun _ _ _ _ h => h) (pa_cons (pv 14) pa_nil)) rfl (.inr (.inl rfl)))))))) (pss_one (ps_ret pe_bl)) pss_nil)
          (Evl.pss_cut (ps_if (PW.pt (pw_and (pt_not (PW.pt (pw_and (pt_val (pv 13)) (pw_and1 (pt_cmpR op_in_seq (pv 14) (pv 9) rfl))))) (pw_and1 (pt_not (pt_val (pe_unk (UN := UN) (T := T) (k := 4) (j := 14) (t := fun E => tMeth C "choice" (spChoice C UN) [] E (tVar 0) (tCons (tVar 14) tNil)) FU gU bU B gUn gS eUU XU nU EU kUS TB (by rfl) rfl hmT hu2 hr (defScope sUnm) rfl (by decide +kernel) rfl (fun _ _ _ _ _ => rfl)
              (fun A' outer' s' H' E' f' c' hr' => pe_meth (E := E') (pv 0) cC m1.at_ m1.ok hr' m1.b .nil (passes_call (takes_of rfl rfl rfl rfl) fun _ _ _ _ h => h) (pa_cons (pv 14) pa_nil)) rfl (.inr (.inl rfl)))))))) (pss_one (ps_ret pe_bl)) pss_nil)
          (Evl.pss_cut (ps_if (PW.pt (pw_and (pt_not (PW.pt (pw_and (pt_val (pv 13)) (pw_and1 (pt_cmpR op_in_seq (pv 14) (pv 9) rfl))))) (pw_and1 (pt_not (pt_val (pe_unk (UN := UN) (T := T) (k := 4) (j := 14) (t := fun E => tMeth C "fields" (spFields C UN) [] E (tVar 0) (tCons (tVar 14) tNil)) FU gU bU B gUn gS eUU XU nU EU kUS TB (by rfl) rfl hmT hu2 hr (defScope sUnm) rfl (by decide +kernel) rfl (fun _ _ _ _ _ => rfl)
              (fun A' outer' s' H' E' f' c' hr' => pe_meth (E := E') (pv 0) cC m3.at_ m3.ok hr' m3.b .nil (passes_call (takes_of rfl rfl rfl rfl) fun _ _ _ _ h => h) (pa_cons (pv 14) pa_nil)) rfl (.inr (.inl rfl)))))))) (pss_one (ps_ret pe_bl)) pss_nil)
          (Evl.pss_cut (ps_if (PW.pt (pw_and (pt_not (PW.pt (pw_and (pt_val (pv 13)) (pw_and1 (pt_cmp (pc_din hu (pv 14) (pv 2))))))) (pw_and1 (pt_not (pt_val (pe_unk (UN := UN) (T := T) (k := 4) (j := 14) (t := fun E => tMeth C "takes" (spTakes C UN) [] E (tVar 0) (tCons (tVar 14) tNil)) FU gU bU B gUn gS eUU XU nU EU kUS TB (by rfl) rfl hmT hu2 hr (defScope sUnm) rfl (by decide +kernel) rfl (fun _ _ _ _ _ => rfl)
              (fun A' outer' s' H' E' f' c' hr' => pe_meth (E := E') (pv 0) cC m5.at_ m5.ok hr' m5.b .nil (passes_call (takes_of rfl rfl rfl rfl) fun _ _ _ _ h => h) (pa_cons (pv 14) pa_nil)) rfl (.inr (.inl rfl)))))))) (pss_one (ps_ret pe_bl)) pss_nil)
          (pss_one (ps_if (PW.pt (pw_and (pt_not (PW.pt (pw_and (pt_val (pv 13)) (pw_and1 (pt_cmp (pc_din hu (pv 14) (pv 2))))))) (pw_and1 (pt_not (pt_val (pe_unk (UN := UN) (T := T) (k := 4) (j := 14) (t := fun E => tMeth C "gives" (spGives C UN) [] E (tVar 0) (tCons (tVar 14) tNil)) FU gU bU B gUn gS eUU XU nU EU kUS TB (by rfl) rfl hmT hu2 hr (defScope sUnm) rfl (by decide +kernel) rfl (fun _ _ _ _ _ => rfl)
              (fun A' outer' s' H' E' f' c' hr' => pe_meth (E := E') (pv 0) cC m6.at_ m6.ok hr' m6.b .nil (passes_call (takes_of rfl rfl rfl rfl) fun _ _ _ _ h => h) (pa_cons (pv 14) pa_nil)) rfl (.inr (.inl rfl)))))))) (pss_one (ps_ret pe_bl)) pss_nil)))))))))
      (pss_one (ps_ret pe_bl))))))), ?_⟩
    have lcw : ∀ (wd : Str) (H1 : Hp) (D : Addr) (z7 z8 : Option V) (Qd : Hp → Prop), Same H H1 → H1 D = none → (∀ H', Same H1 H' → H' D = some (.lst ((L.flatMap fun D => if D.word = wd then [D.name] else []).map V.str)) → Qd H') →
        ∃ W : Nat → Nat → Hp → Prop, (∃ m, W 0 m (upd H1 D (.lst []))) ∧ ∀ i m H, W i m H →
          ((Itl K ka).stop i H ∧ Qd H) ∨ ((Itl K ka).go i H ∧ ∃ Nx : Hp → Prop, (∀ H', Nx H' → ∃ m', m' < m ∧ W (i + 1) m' H') ∧ ∀ xv H', (Itl K ka).yld i H xv H' → (gTup K 3 (gCons (gName 4) (gCons (gName 5) (gCons (gName 6) gNil)))) xv (wipe [some (.ref x), some (.ref ka), some (.ref fa), some (.ref nm), none, none, none, z7, z8, none, none, none, none, none, none] [4, 5, 6]) H' fun σ2 H2 => wipe σ2 [4, 5, 6] = wipe [some (.ref x), some (.ref ka), some (.ref fa), some (.ref nm), none, none, none, z7, z8, none, none, none, none, none, none] [4, 5, 6] ∧ (tTest (tOp rEq (tVar 4) (tC (.str wd)))) σ2 H2 fun b H3 =>
            if b = true then (tVar 5) σ2 H3 fun y H4 => ∃ acc, H4 D = some (.lst acc) ∧ acc.length < sizeLine ∧ Nx (upd H4 D (.lst (acc ++ [y]))) else Nx H3) := by
      intro wd H1 D z7 z8 Qd s1 hD hd
      have ek1 := s1 _ _ ek
      refine lc_it walk_list (fun i H' => Same H1 H' ∧ H' D = some (.lst (((L.take i).flatMap fun D => if D.word = wd then [D.name] else []).map V.str))) ⟨Same.new hD, upd_same⟩ (fun i H' _ ⟨s, _⟩ => SqL.of (s _ _ ek1)) ?_ ?_
      · rintro i u H2 H3 hi ⟨s2, e2⟩ ⟨rfl, hu1⟩
        obtain ⟨d', hd2, hx2⟩ := dk.get hu1
        rw [List.getElem?_map] at hd2
        obtain ⟨D', hD', rfl⟩ := Option.map_eq_some_iff.mp hd2
        obtain ⟨b, y, rfl, eb⟩ := da_three (hx2.same (s1.trans s2))
        refine ⟨b, _, rfl, SqT.of eb, rfl, _, _, rfl, _, _, rfl, _, _, rfl, rfl, rfl, ?_⟩
        refine ⟨_, rfl, rfl, _, rfl, ?_⟩
        rw [streq]
        have tk : ((L.take (i + 1)).flatMap fun D => if D.word = wd then [D.name] else []) = ((L.take i).flatMap fun D => if D.word = wd then [D.name] else []) ++ (if D'.word = wd then [D'.name] else []) := flat_take hD'
        have l1 : ((L.take i).flatMap fun D => if D.word = wd then [D.name] else []).length ≤ 10 := Nat.le_trans word_len (by rw [List.length_take]; omega)
        refine ite2 (fun h => ?_) (fun h => ?_)
        · have h : D'.word = wd := of_decide_eq_true h
          rw [if_pos h] at tk
          refine ⟨_, rfl, _, e2, ?_, fun b o e => ?_, ?_⟩
          · rw [List.length_map]
            exact small1000 (by omega)
          · rw [upd_ne (ne_of_none e hD)]
            exact s2 b o e
          · rw [upd_same, tk, List.map_append]
            rfl
        · have h : D'.word ≠ wd := fun z => h (decide_eq_true z)
          rw [if_neg h, List.append_nil] at tk
          rw [tk]
          exact ⟨s2, e2⟩
      · rintro H2 ⟨s2, e2⟩
        have ex : xs.length = L.length := by rw [dk.len, List.length_map]
        rw [ex, List.take_of_length_le (Nat.le_refl _)] at e2
        exact hd H2 s2 e2
    -- rows
    refine ⟨fun σ H' => ∃ ra, σ = [some (.ref x), some (.ref ka), some (.ref fa), some (.ref nm), none, none, none, some (.ref ra), none, none, none, none, none, none, none] ∧ Same H H' ∧ H' ra = some (.lst ((rowN L).map V.str)), ?_, ?_⟩
    · exact ⟨_, rfl, ka, rfl, ⟨_, SqL.of ek⟩, fun ra hra => lcw "row" H ra _ _ _ (Same.refl H) hra fun H' s e => ⟨ra, rfl, s, e⟩⟩
    rintro σ H1 ⟨ra, rfl, s1, er⟩
    refine ⟨fun σ H' => ∃ ca, σ = [some (.ref x), some (.ref ka), some (.ref fa), some (.ref nm), none, none, none, some (.ref ra), some (.ref ca), none, none, none, none, none, none] ∧ Same H H' ∧ H' ra = some (.lst ((rowN L).map V.str)) ∧ H' ca = some (.lst ((choN L).map V.str)), ?_, ?_⟩
    · exact ⟨_, rfl, ka, rfl, ⟨_, SqL.of (s1 _ _ ek)⟩, fun ca hca => lcw "choice" H1 ca _ _ _ s1 hca fun H' s e => ⟨ca, rfl, s1.trans s, s _ _ er, e⟩⟩
    rintro σ H2 ⟨ca, rfl, s2, er, ec⟩
    clear s1
    refine ⟨(by show 0 ≤ sizeLine; decide), fun v0 hv0 => ?_⟩
    have s3 : Same H2 (upd H2 v0 (.lst [])) := Same.new hv0
    have ev0 : (upd H2 v0 (.lst [])) v0 = some (.lst []) := upd_same
    have er := s3 _ _ er
    have ec := s3 _ _ ec
    have s3 := s2.trans s3
    clear s2
    generalize upd H2 v0 (.lst []) = H3 at s3 ev0 er ec
    refine ⟨fun σ H' => ∃ va y4 y5 y6 y10 y11, σ = [some (.ref x), some (.ref ka), some (.ref fa), some (.ref nm), y4, y5, y6, some (.ref ra), some (.ref ca), some (.ref va), y10, y11, none, none, none] ∧ Same H3 H' ∧ H' va = some (.lst ((varN L).map V.str)), ?_, ?_⟩
    · refine ⟨_, rfl, ka, rfl, ⟨_, SqL.of (s3 _ _ ek)⟩, for_list (K := K) (a := ka) (xs := xs) (fun i σ H' => ∃ va y4 y5 y6 y10 y11, σ = [some (.ref x), some (.ref ka), some (.ref fa), some (.ref nm), y4, y5, y6, some (.ref ra), some (.ref ca), some (.ref va), y10, y11, none, none, none] ∧ Same H3 H' ∧ H' va = some (.lst ((varN (L.take i)).map V.str)))
        ⟨v0, _, _, _, _, _, rfl, Same.refl _, ev0⟩ (fun i σ H' _ ⟨_, _, _, _, _, _, _, s, _⟩ => SqL.of ((s3.trans s) _ _ ek)) ?_ ?_⟩
      · rintro i u σ H4 hu1 ⟨va, y4, y5, y6, y10, y11, rfl, s4, ev⟩
        obtain ⟨d', hd2, hx2⟩ := dk.get hu1
        rw [List.getElem?_map] at hd2
        obtain ⟨D', hD', rfl⟩ := Option.map_eq_some_iff.mp hd2
        have hx3 := hx2.same (s3.trans s4)
        have tk : varN (L.take (i + 1)) = varN (L.take i) ++ (casesOf D').map Prod.fst := flat_take hD'
        have lv : ∀ M : List Dcl, (∀ D ∈ M, D.Ok) → (varN M).length ≤ 4 * M.length := by
          intro M
          induction M with
          | nil => intro _; exact Nat.le_refl _
          | cons D M ih =>
            intro h
            have h1 := ih fun E hE => h E (List.mem_cons_of_mem _ hE)
            have h2 := names5 (h D (List.mem_cons_self ..))
            unfold varN at h1 ⊢
            rw [List.flatMap_cons, List.length_append, List.length_cons, List.length_map]
            have h3 : (casesOf D).length + 1 ≤ D.names.length := by
              cases D with
              | row n i => exact Nat.le_refl _
              | cho n vs => simp only [Dcl.names, casesOf, List.length_cons, List.length_map]; omega
            omega
        have l1 : (varN (L.take i)).length ≤ 40 := Nat.le_trans (lv _ fun D hD => okL D (List.mem_of_mem_take hD)) (by rw [List.length_take]; omega)
        have okD := okL D' (List.mem_of_getElem? hD')
        cases D' with
        | row n it =>
          obtain ⟨b, rfl, eb⟩ := da_row hx3
          refine ⟨b, _, rfl, SqT.of eb, rfl, _, _, rfl, _, _, rfl, _, _, rfl, rfl, ?_⟩
          refine ⟨_, rfl, _, rfl, rfl, _, rfl, ?_⟩
          rw [streq]
          refine iteF ⟨(by show 0 ≤ sizeLine; decide), fun p hp => ?_⟩
          refine ⟨va, p, _, _, rfl, rfl, (Same.new hp) _ _ ev, upd_same, ?_, fun q hq => ?_⟩
          · rw [List.length_map]
            exact Nat.le_of_lt (small1000 (by show _ + 0 ≤ 1000; omega))
          · refine ⟨q, _, _, _, _, _, rfl, (s4.trans (Same.new hp)).trans (Same.new hq), ?_⟩
            rw [upd_same, tk, List.append_nil]
            simp [casesOf]
        | cho n vs =>
          obtain ⟨b, c, ws2, rfl, eb, ecc, dw⟩ := da_cho hx3
          have l4 : vs.length ≤ 4 := by
            cases okD with
            | cho h h1 h4 ok => exact h4
          have el : ws2.length = vs.length := by rw [dw.len, List.length_map]
          refine ⟨b, _, rfl, SqT.of eb, rfl, _, _, rfl, _, _, rfl, _, _, rfl, rfl, ?_⟩
          refine ⟨_, rfl, _, rfl, rfl, _, rfl, ?_⟩
          rw [streq]
          refine iteT ⟨_, rfl, c, rfl, ⟨_, SqT.of ecc⟩, fun q hq => lc_da walk_tup (vs.map fun v => PyData.str v.1) (by simp [el]) (by have := tupOs_strs (vs.map (·.1)); rw [List.map_map] at this; exact this) (small1000 (by omega)) hq (fun H' s' => SqT.of (s' _ _ ecc)) ?_ ?_⟩
          · intro i x d R H' hx' hd' s' hR
            obtain ⟨d', hd2, hx2⟩ := dw.get hx'
            rw [List.getElem?_map] at hd' hd2
            obtain ⟨v, hv, rfl⟩ := Option.map_eq_some_iff.mp hd2
            obtain ⟨t, ht, rfl⟩ := Option.map_eq_some_iff.mp hd'
            rw [hv] at ht
            cases ht
            obtain ⟨a2, y2, rfl, e2, _⟩ := da_var2 (hx2.same s')
            exact ⟨a2, _, rfl, SqT.of e2, rfl, _, _, rfl, _, _, rfl, rfl, rfl, _, rfl, hR _ _ (Same.refl _) (.str _)⟩
          · intro H5 ys s5 e5 dy
            have ey : ys = (vs.map (·.1)).map V.str := by
              have : DaAll H5 ys ((vs.map (·.1)).map PyData.str) := by rw [List.map_map]; exact dy
              exact da_strs this
            subst ey
            refine ⟨va, q, _, _, rfl, rfl, s5 _ _ ev, e5, ?_, fun p hp => ?_⟩
            · rw [List.length_map, List.length_map, List.length_map]
              exact Nat.le_of_lt (small1000 (by omega))
            · refine ⟨p, _, _, _, _, _, rfl, (s4.trans s5).trans (Same.new hp), ?_⟩
              rw [upd_same, tk, List.map_append]
              simp [casesOf]
      · rintro σ H4 ⟨va, y4, y5, y6, y10, y11, rfl, s4, ev⟩
        have ex : xs.length = L.length := by rw [dk.len, List.length_map]
        rw [ex, List.take_of_length_le (Nat.le_refl _)] at ev
        exact ⟨va, _, _, _, _, _, rfl, s4, ev⟩
    rintro σ H4 ⟨va, y4, y5, y6, y10, y11, rfl, s4, ev⟩
    have er := s4 _ _ er
    have ec := s4 _ _ ec
    have s4 := s3.trans s4
    clear s3 ev0
    refine ⟨fun σ H' => ∃ oa os, σ = [some (.ref x), some (.ref ka), some (.ref fa), some (.ref nm), y4, y5, y6, some (.ref ra), some (.ref ca), some (.ref va), y10, y11, some (.ref oa), none, none] ∧ Same H4 H' ∧ H' oa = some (.lst os) ∧ ∀ o ∈ os, ∃ e, OdV H' o e, ?_, ?_⟩
    · obtain ⟨rk, ck, vk⟩ := rowN_ok okL
      have l1 : (rowN L).length ≤ 10 := Nat.le_trans word_len lL
      have l2 : (choN L).length ≤ 10 := Nat.le_trans word_len lL
      have l3 : (varN L).length ≤ 60 := by
        have h1 := (sub_cases L).length_le
        rw [List.length_map] at h1
        have h2 := flat5 L okL
        have h3 : (varN L).length = (L.flatMap casesOf).length := by
          unfold varN
          rw [List.length_flatMap, List.length_flatMap]
          simp only [List.length_map]
        omega
      refine ⟨_, rfl, nm, _, _, _, rfl, rfl, SqL.of (s4 _ _ en), at0, (by show 1 ≤ sizeLine; decide), fun la hla => ⟨(by show 1 ≤ sizeLine; decide), fun ta hta => fun da hda => ⟨(by show 12 ≤ sizeLine; decide), fun p1 hp1 => ?_⟩⟩⟩
      have sA : Same H4 (upd (upd (upd H4 la (.lst [.str "a"])) ta (.tup [.str "a"])) da (.dK [])) := ((Same.new hla).trans (Same.new hta)).trans (Same.new hda)
      have oA1 : OdV (upd (upd (upd H4 la (.lst [.str "a"])) ta (.tup [.str "a"])) da (.dK [])) (.ref la) (.list [.str "a"]) := ⟨.lst (((Same.new hta).trans (Same.new hda)) _ _ upd_same) (.one (.str _)), .inl (by decide +kernel)⟩
      have oA2 : OdV (upd (upd (upd H4 la (.lst [.str "a"])) ta (.tup [.str "a"])) da (.dK [])) (.ref ta) (.tuple [.str "a"]) := ⟨.tup ((Same.new hda) _ _ upd_same) (.one (.str _)), .inl (by decide +kernel)⟩
      have oA3 : OdV (upd (upd (upd H4 la (.lst [.str "a"])) ta (.tup [.str "a"])) da (.dK [])) (.ref da) (.dict []) := ⟨.dct upd_same, .inr rfl⟩
      generalize upd (upd (upd H4 la (.lst [.str "a"])) ta (.tup [.str "a"])) da (.dK []) = H5 at sA oA1 oA2 oA3 hp1
      have sB : Same H5 (upd H5 p1 (.lst [.non, .int 5, .bl true, .str "", .str "truth", .str "number", .str "Abc", .str "a b", .str nm0, .ref la, .ref ta, .ref da])) := Same.new hp1
      have e1 : (upd H5 p1 (.lst [.non, .int 5, .bl true, .str "", .str "truth", .str "number", .str "Abc", .str "a b", .str nm0, .ref la, .ref ta, .ref da])) p1 = some (.lst [.non, .int 5, .bl true, .str "", .str "truth", .str "number", .str "Abc", .str "a b", .str nm0, .ref la, .ref ta, .ref da]) := upd_same
      have odd12 : ∀ o ∈ [V.non, .int 5, .bl true, .str "", .str "truth", .str "number", .str "Abc", .str "a b", .str nm0, .ref la, .ref ta, .ref da], ∃ e, OdV H5 o e := by
        intro o ho
        simp only [List.mem_cons, List.not_mem_nil, or_false] at ho
        rcases ho with rfl | rfl | rfl | rfl | rfl | rfl | rfl | rfl | rfl | rfl | rfl | rfl
        · exact ⟨.none, .non, .inl rfl⟩
        · exact ⟨.int 5, .int 5, .inl rfl⟩
        · exact ⟨.bool true, .bl true, .inl rfl⟩
        · exact ⟨_, odv_str (by unfold okS; decide +kernel)⟩
        · exact ⟨_, odv_str (by unfold okS; decide +kernel)⟩
        · exact ⟨_, odv_str (by unfold okS; decide +kernel)⟩
        · exact ⟨_, odv_str (by unfold okS; decide +kernel)⟩
        · exact ⟨_, odv_str (by unfold okS; decide +kernel)⟩
        · exact ⟨_, odv_str (okS_name nm0n)⟩
        · exact ⟨_, oA1⟩
        · exact ⟨_, oA2⟩
        · exact ⟨_, oA3⟩
      have l12 : [V.non, .int 5, .bl true, .str "", .str "truth", .str "number", .str "Abc", .str "a b", .str nm0, .ref la, .ref ta, .ref da].length = 12 := rfl
      generalize [V.non, .int 5, .bl true, .str "", .str "truth", .str "number", .str "Abc", .str "a b", .str nm0, .ref la, .ref ta, .ref da] = od12 at sB e1 odd12 l12
      have tB := sB
      have sB := sA.trans sB
      generalize upd H5 p1 (.lst od12) = H6 at sB e1 tB
      refine ⟨_, rfl, p1, ra, od12, (rowN L).map V.str, rfl, rfl, e1, sB _ _ er, by rw [l12, List.length_map]; exact Nat.le_of_lt (small1000 (by omega)), fun p2 hp2 => ?_⟩
      have sC := sB.trans (Same.new (o := .lst (od12 ++ (rowN L).map V.str)) hp2)
      have tC := tB.trans (Same.new (o := .lst (od12 ++ (rowN L).map V.str)) hp2)
      have e2 : (upd H6 p2 (.lst (od12 ++ (rowN L).map V.str))) p2 = some (.lst (od12 ++ (rowN L).map V.str)) := upd_same
      generalize upd H6 p2 (.lst (od12 ++ (rowN L).map V.str)) = H7 at sC e2 tC
      refine ⟨_, rfl, p2, ca, _, (choN L).map V.str, rfl, rfl, e2, sC _ _ ec, by simp only [List.length_append, List.length_map, l12]; exact Nat.le_of_lt (small1000 (by omega)), fun p3 hp3 => ?_⟩
      have sD := sC.trans (Same.new (o := .lst (od12 ++ (rowN L).map V.str ++ (choN L).map V.str)) hp3)
      have tD := tC.trans (Same.new (o := .lst (od12 ++ (rowN L).map V.str ++ (choN L).map V.str)) hp3)
      have e3 : (upd H7 p3 (.lst (od12 ++ (rowN L).map V.str ++ (choN L).map V.str))) p3 = some (.lst (od12 ++ (rowN L).map V.str ++ (choN L).map V.str)) := upd_same
      generalize upd H7 p3 (.lst (od12 ++ (rowN L).map V.str ++ (choN L).map V.str)) = H8 at sD e3 tD
      refine ⟨_, rfl, p3, va, _, (varN L).map V.str, rfl, rfl, e3, sD _ _ ev, by simp only [List.length_append, List.length_map, l12]; exact Nat.le_of_lt (small1000 (by omega)), fun p4 hp4 => ?_⟩
      have sE := sD.trans (Same.new (o := .lst (od12 ++ (rowN L).map V.str ++ (choN L).map V.str ++ (varN L).map V.str)) hp4)
      have tE := tD.trans (Same.new (o := .lst (od12 ++ (rowN L).map V.str ++ (choN L).map V.str ++ (varN L).map V.str)) hp4)
      have e4 : (upd H8 p4 (.lst (od12 ++ (rowN L).map V.str ++ (choN L).map V.str ++ (varN L).map V.str))) p4 = some (.lst (od12 ++ (rowN L).map V.str ++ (choN L).map V.str ++ (varN L).map V.str)) := upd_same
      generalize upd H8 p4 (.lst (od12 ++ (rowN L).map V.str ++ (choN L).map V.str ++ (varN L).map V.str)) = H9 at sE e4 tE
      obtain ⟨vs, ef, dv⟩ := df.same (s4.trans sE)
      have lvs : vs.length = fs.length := by rw [dv.len]; simp only [List.length_map]
      have ek : ((kz ((fs.map fnE).map (·.1)) vs).map fun kv => kV kv.1) = (fs.map (·.1)).map V.str := by
        have := congrArg (List.map kV) (kz_keys (ks := (fs.map fnE).map (·.1)) (vs := vs) (by rw [lvs]; simp only [List.length_map]))
        rw [List.map_map] at this
        refine this.trans ?_
        simp only [List.map_map]
        rfl
      refine ⟨_, rfl, fa, _, rfl, .inl ef, fun p5 hp5 => ?_⟩
      rw [ek]
      have sF := sE.trans (Same.new (o := .lst ((fs.map (·.1)).map V.str)) hp5)
      refine ⟨p4, p5, _, (fs.map (·.1)).map V.str, rfl, rfl, (Same.new hp5) _ _ e4, upd_same, by simp only [List.length_append, List.length_map, l12]; exact Nat.le_of_lt (small1000 (by omega)), fun oa hoa => ?_⟩
      have sG := sF.trans (Same.new (o := .lst (od12 ++ (rowN L).map V.str ++ (choN L).map V.str ++ (varN L).map V.str ++ (fs.map (·.1)).map V.str)) hoa)
      refine ⟨oa, _, rfl, sG, upd_same, fun o ho => ?_⟩
      have tx : ∀ {l : List Str}, (∀ w ∈ l, okS w) → o ∈ l.map V.str → ∃ e, OdV (upd (upd H9 p5 (.lst ((fs.map (·.1)).map V.str))) oa (.lst (od12 ++ (rowN L).map V.str ++ (choN L).map V.str ++ (varN L).map V.str ++ (fs.map (·.1)).map V.str))) o e := fun {l} hl hm => by
        obtain ⟨w, hw, rfl⟩ := List.mem_map.mp hm
        exact ⟨_, odv_str (hl w hw)⟩
      rcases List.mem_append.mp ho with ho | ho
      · rcases List.mem_append.mp ho with ho | ho
        · rcases List.mem_append.mp ho with ho | ho
          · rcases List.mem_append.mp ho with ho | ho
            · obtain ⟨e, he⟩ := odd12 o ho
              have : Same H5 (upd (upd H9 p5 (.lst ((fs.map (·.1)).map V.str))) oa (.lst (od12 ++ (rowN L).map V.str ++ (choN L).map V.str ++ (varN L).map V.str ++ (fs.map (·.1)).map V.str))) := (tE.trans (Same.new hp5)).trans (Same.new hoa)
              exact ⟨e, he.same this⟩
            · exact tx rk ho
          · exact tx ck ho
        · exact tx vk ho
      · exact tx (fun w hw => by
          obtain ⟨f, hf, rfl⟩ := List.mem_map.mp hw
          exact okS_name (okF f hf)) ho
    rintro σ H5 ⟨oa, os, rfl, s5, eo, hos⟩
    have er := s5 _ _ er
    have ec := s5 _ _ ec
    have ev := s5 _ _ ev
    have s5 := s4.trans s5
    clear s4
    refine ⟨_, rfl, oa, rfl, ⟨_, SqL.of eo⟩, for_list (K := K) (a := oa) (xs := os) (fun i σ H' => LamX.ExtN H5 H' ∧ LamX.Tabs T H' ∧ ∃ y13 y14, σ = [some (.ref x), some (.ref ka), some (.ref fa), some (.ref nm), y4, y5, y6, some (.ref ra), some (.ref ca), some (.ref va), y10, y11, some (.ref oa), y13, y14])
      ⟨LamX.ExtN.refl _, hT.ext s5, _, _, rfl⟩ (fun i σ H' _ ⟨e, _⟩ => SqL.of (e _ _ eo fun _ z => nomatch z)) ?_ ?_⟩
    · rintro i o σ H6 ho ⟨x6, t6, y13, y14, rfl⟩
      obtain ⟨e, od⟩ := hos o (List.mem_of_getElem? ho)
      refine ⟨_, rfl, o, .ty "str", .type (tyD e), .type "str", isStrD e, rfl, .ty _, (od.ext x6).da.ty, kitStr e, ?_⟩
      let MidS : L2.St → Hp → Prop := fun σ H' => LamX.ExtN H5 H' ∧ LamX.Tabs T H' ∧ σ = [some (.ref x), some (.ref ka), some (.ref fa), some (.ref nm), y4, y5, y6, some (.ref ra), some (.ref ca), some (.ref va), y10, y11, some (.ref oa), some (.bl (isStrD e)), some o]
      refine ⟨MidS, ?_, ?_⟩
      · obtain ⟨dx, kt0, fd0, td0, dd0, cd0, rs0, ex6, _⟩ := ((sc.same s5).ext x6).ex
        have sc6 := (sc.same s5).ext x6
        have od6 := od.ext x6
        refine ⟨_, rfl, _, rfl, ?_⟩
        cases hs : isStrD e with
        | false => exact iteF (iteT ⟨t6, o, rfl, fun H7 e7 t7 => ⟨_, rfl, x, dx, _, rfl, e7 _ _ ex6 (fun _ z => nomatch z), rfl, _, rfl, x, o, sortD L, sortF fs, rfl, sc6.ext e7, .inl ⟨_, da_ext e7 od6.da, (.inl (.inl hs)), fun d8 H8 s8 hd8 e8 => ⟨rfl, d8, _, rfl, e8, (da_ext e7 od6.da).same s8, od6.ok, _, rfl, _, rfl, iteF ⟨(x6.trans e7).trans (LamX.ExtN.of s8), t7.ext s8, (by show _ = _; rw [hs]; try rfl)⟩⟩⟩⟩⟩)
        | true =>
          obtain ⟨w, rfl, rfl⟩ := od6.str hs
          refine iteT ⟨_, rfl, _, rfl, ra, (rowN L).map V.str, rfl, .inl (SqL.of (x6 _ _ er fun _ z => nomatch z)), rfl, flat_strs _, _, rfl, ?_⟩
          rw [if_neg Bool.false_ne_true, inV_str]
          by_cases hm : w ∈ rowN L
          · rw [decide_eq_true hm]
            exact iteF (iteF ⟨x6, t6, rfl⟩)
          · rw [decide_eq_false hm]
            exact iteT ⟨t6, .str w, rfl, fun H7 e7 t7 => ⟨_, rfl, x, dx, _, rfl, e7 _ _ ex6 (fun _ z => nomatch z), rfl, _, rfl, x, .str w, sortD L, sortF fs, rfl, sc6.ext e7, .inl ⟨_, da_ext e7 od6.da, (no_dcl (wd := "row") hm), fun d8 H8 s8 hd8 e8 => ⟨rfl, d8, _, rfl, e8, (da_ext e7 od6.da).same s8, od6.ok, _, rfl, _, rfl, iteF ⟨(x6.trans e7).trans (LamX.ExtN.of s8), t7.ext s8, rfl⟩⟩⟩⟩⟩
      rintro σ H6 ⟨x6, t6, rfl⟩
      refine ⟨MidS, ?_, ?_⟩
      · obtain ⟨dx, kt0, fd0, td0, dd0, cd0, rs0, ex6, _⟩ := ((sc.same s5).ext x6).ex
        have sc6 := (sc.same s5).ext x6
        have od6 := od.ext x6
        refine ⟨_, rfl, _, rfl, ?_⟩
        cases hs : isStrD e with
        | false => exact iteF (iteT ⟨t6, o, rfl, fun H7 e7 t7 => ⟨_, rfl, x, dx, _, rfl, e7 _ _ ex6 (fun _ z => nomatch z), rfl, _, rfl, x, o, sortD L, sortF fs, rfl, sc6.ext e7, .inl ⟨_, da_ext e7 od6.da, (.inl (.inl hs)), fun d8 H8 s8 hd8 e8 => ⟨rfl, d8, _, rfl, e8, (da_ext e7 od6.da).same s8, od6.ok, _, rfl, _, rfl, iteF ⟨(x6.trans e7).trans (LamX.ExtN.of s8), t7.ext s8, (by show _ = _; rw [hs]; try rfl)⟩⟩⟩⟩⟩)
        | true =>
          obtain ⟨w, rfl, rfl⟩ := od6.str hs
          refine iteT ⟨_, rfl, _, rfl, ca, (choN L).map V.str, rfl, .inl (SqL.of (x6 _ _ ec fun _ z => nomatch z)), rfl, flat_strs _, _, rfl, ?_⟩
          rw [if_neg Bool.false_ne_true, inV_str]
          by_cases hm : w ∈ choN L
          · rw [decide_eq_true hm]
            exact iteF (iteF ⟨x6, t6, rfl⟩)
          · rw [decide_eq_false hm]
            exact iteT ⟨t6, .str w, rfl, fun H7 e7 t7 => ⟨_, rfl, x, dx, _, rfl, e7 _ _ ex6 (fun _ z => nomatch z), rfl, _, rfl, x, .str w, sortD L, sortF fs, rfl, sc6.ext e7, .inl ⟨_, da_ext e7 od6.da, (no_dcl (wd := "choice") hm), fun d8 H8 s8 hd8 e8 => ⟨rfl, d8, _, rfl, e8, (da_ext e7 od6.da).same s8, od6.ok, _, rfl, _, rfl, iteF ⟨(x6.trans e7).trans (LamX.ExtN.of s8), t7.ext s8, rfl⟩⟩⟩⟩⟩
      rintro σ H6 ⟨x6, t6, rfl⟩
      refine ⟨MidS, ?_, ?_⟩
      · obtain ⟨dx, kt0, fd0, td0, dd0, cd0, rs0, ex6, _⟩ := ((sc.same s5).ext x6).ex
        have sc6 := (sc.same s5).ext x6
        have od6 := od.ext x6
        refine ⟨_, rfl, _, rfl, ?_⟩
        cases hs : isStrD e with
        | false => exact iteF (iteT ⟨t6, o, rfl, fun H7 e7 t7 => ⟨_, rfl, x, dx, _, rfl, e7 _ _ ex6 (fun _ z => nomatch z), rfl, _, rfl, x, o, sortD L, sortF fs, rfl, sc6.ext e7, .inl ⟨_, da_ext e7 od6.da, (.inl hs), fun d8 H8 s8 hd8 e8 => ⟨rfl, d8, _, rfl, e8, (da_ext e7 od6.da).same s8, od6.ok, _, rfl, _, rfl, iteF ⟨(x6.trans e7).trans (LamX.ExtN.of s8), t7.ext s8, (by show _ = _; rw [hs]; try rfl)⟩⟩⟩⟩⟩)
        | true =>
          obtain ⟨w, rfl, rfl⟩ := od6.str hs
          refine iteT ⟨_, rfl, _, rfl, va, (varN L).map V.str, rfl, .inl (SqL.of (x6 _ _ ev fun _ z => nomatch z)), rfl, flat_strs _, _, rfl, ?_⟩
          rw [if_neg Bool.false_ne_true, inV_str]
          by_cases hm : w ∈ varN L
          · rw [decide_eq_true hm]
            exact iteF (iteF ⟨x6, t6, rfl⟩)
          · rw [decide_eq_false hm]
            exact iteT ⟨t6, .str w, rfl, fun H7 e7 t7 => ⟨_, rfl, x, dx, _, rfl, e7 _ _ ex6 (fun _ z => nomatch z), rfl, _, rfl, x, .str w, sortD L, sortF fs, rfl, sc6.ext e7, .inl ⟨_, da_ext e7 od6.da, (no_var hm), fun d8 H8 s8 hd8 e8 => ⟨rfl, d8, _, rfl, e8, (da_ext e7 od6.da).same s8, od6.ok, _, rfl, _, rfl, iteF ⟨(x6.trans e7).trans (LamX.ExtN.of s8), t7.ext s8, rfl⟩⟩⟩⟩⟩
      rintro σ H6 ⟨x6, t6, rfl⟩
      refine ⟨MidS, ?_, ?_⟩
      · obtain ⟨dx, kt0, fd0, td0, dd0, cd0, rs0, ex6, _⟩ := ((sc.same s5).ext x6).ex
        have sc6 := (sc.same s5).ext x6
        have od6 := od.ext x6
        refine ⟨_, rfl, _, rfl, ?_⟩
        cases hs : isStrD e with
        | false => exact iteF (iteT ⟨t6, o, rfl, fun H7 e7 t7 => ⟨_, rfl, x, dx, _, rfl, e7 _ _ ex6 (fun _ z => nomatch z), rfl, _, rfl, x, o, sortD L, sortF fs, rfl, sc6.ext e7, .inl ⟨_, da_ext e7 od6.da, (.inl hs), fun d8 H8 s8 hd8 e8 => ⟨rfl, d8, _, rfl, e8, (da_ext e7 od6.da).same s8, od6.ok, _, rfl, _, rfl, iteF ⟨(x6.trans e7).trans (LamX.ExtN.of s8), t7.ext s8, (by show _ = _; rw [hs]; try rfl)⟩⟩⟩⟩⟩)
        | true =>
          obtain ⟨w, rfl, rfl⟩ := od6.str hs
          refine iteT ⟨_, rfl, _, rfl, va, (varN L).map V.str, rfl, .inl (SqL.of (x6 _ _ ev fun _ z => nomatch z)), rfl, flat_strs _, _, rfl, ?_⟩
          rw [if_neg Bool.false_ne_true, inV_str]
          by_cases hm : w ∈ varN L
          · rw [decide_eq_true hm]
            exact iteF (iteF ⟨x6, t6, rfl⟩)
          · rw [decide_eq_false hm]
            exact iteT ⟨t6, .str w, rfl, fun H7 e7 t7 => ⟨_, rfl, x, dx, _, rfl, e7 _ _ ex6 (fun _ z => nomatch z), rfl, _, rfl, x, .str w, sortD L, sortF fs, rfl, sc6.ext e7, .inl ⟨_, da_ext e7 od6.da, (no_var hm), fun d8 H8 s8 hd8 e8 => ⟨rfl, d8, _, rfl, e8, (da_ext e7 od6.da).same s8, od6.ok, _, rfl, _, rfl, iteF ⟨(x6.trans e7).trans (LamX.ExtN.of s8), t7.ext s8, rfl⟩⟩⟩⟩⟩
      rintro σ H6 ⟨x6, t6, rfl⟩
      refine ⟨MidS, ?_, ?_⟩
      · obtain ⟨dx, kt0, fd0, td0, dd0, cd0, rs0, ex6, _⟩ := ((sc.same s5).ext x6).ex
        have sc6 := (sc.same s5).ext x6
        have od6 := od.ext x6
        refine ⟨_, rfl, _, rfl, ?_⟩
        cases hs : isStrD e with
        | false => exact iteF (iteT ⟨t6, o, rfl, fun H7 e7 t7 => ⟨_, rfl, x, dx, _, rfl, e7 _ _ ex6 (fun _ z => nomatch z), rfl, _, rfl, x, o, sortD L, sortF fs, rfl, sc6.ext e7, .inl ⟨_, da_ext e7 od6.da, (.inl hs), fun d8 H8 s8 hd8 e8 => ⟨rfl, d8, _, rfl, e8, (da_ext e7 od6.da).same s8, od6.ok, _, rfl, _, rfl, iteF ⟨(x6.trans e7).trans (LamX.ExtN.of s8), t7.ext s8, (by show _ = _; rw [hs]; try rfl)⟩⟩⟩⟩⟩)
        | true =>
          obtain ⟨w, rfl, rfl⟩ := od6.str hs
          have df6 := DictL.kp (df.same s5) (Kp.ext (S := []) x6) (by simp) (tupOs_fn fs)
          by_cases hm : w ∈ fs.map (·.1)
          · obtain ⟨f0, hf0, rfl⟩ := List.mem_map.mp hm
            obtain ⟨v, hv, _⟩ := df6.get (lookup_map_some (f := (·.1)) (g := fun f : NFn => fnD f.2) ndF hf0)
            exact iteT ⟨_, rfl, _, rfl, fa, some v, rfl, hv, _, rfl, iteF (iteF ⟨x6, t6, rfl⟩)⟩
          · have hv := df6.miss (lookup_map_none (f := (·.1)) (g := fun f : NFn => fnD f.2) hm)
            exact iteT ⟨_, rfl, _, rfl, fa, none, rfl, hv, _, rfl, iteT ⟨t6, .str w, rfl, fun H7 e7 t7 => ⟨_, rfl, x, dx, _, rfl, e7 _ _ ex6 (fun _ z => nomatch z), rfl, _, rfl, x, .str w, sortD L, sortF fs, rfl, sc6.ext e7, .inl ⟨_, da_ext e7 od6.da, (no_fn hm), fun d8 H8 s8 hd8 e8 => ⟨rfl, d8, _, rfl, e8, (da_ext e7 od6.da).same s8, od6.ok, _, rfl, _, rfl, iteF ⟨(x6.trans e7).trans (LamX.ExtN.of s8), t7.ext s8, rfl⟩⟩⟩⟩⟩⟩
      rintro σ H6 ⟨x6, t6, rfl⟩
      obtain ⟨dx, kt0, fd0, td0, dd0, cd0, rs0, ex6, _⟩ := ((sc.same s5).ext x6).ex
      have sc6 := (sc.same s5).ext x6
      have od6 := od.ext x6
      refine ⟨_, rfl, _, rfl, ?_⟩
      cases hs : isStrD e with
      | false => exact iteF (iteT ⟨t6, o, rfl, fun H7 e7 t7 => ⟨_, rfl, x, dx, _, rfl, e7 _ _ ex6 (fun _ z => nomatch z), rfl, _, rfl, x, o, sortD L, sortF fs, rfl, sc6.ext e7, .inl ⟨_, da_ext e7 od6.da, (.inl hs), fun d8 H8 s8 hd8 e8 => ⟨rfl, d8, _, rfl, e8, (da_ext e7 od6.da).same s8, od6.ok, _, rfl, _, rfl, iteF ⟨(x6.trans e7).trans (LamX.ExtN.of s8), t7.ext s8, _, _, rfl⟩⟩⟩⟩⟩)
      | true =>
        obtain ⟨w, rfl, rfl⟩ := od6.str hs
        have df6 := DictL.kp (df.same s5) (Kp.ext (S := []) x6) (by simp) (tupOs_fn fs)
        by_cases hm : w ∈ fs.map (·.1)
        · obtain ⟨f0, hf0, rfl⟩ := List.mem_map.mp hm
          obtain ⟨v, hv, _⟩ := df6.get (lookup_map_some (f := (·.1)) (g := fun f : NFn => fnD f.2) ndF hf0)
          exact iteT ⟨_, rfl, _, rfl, fa, some v, rfl, hv, _, rfl, iteF (iteF ⟨x6, t6, _, _, rfl⟩)⟩
        · have hv := df6.miss (lookup_map_none (f := (·.1)) (g := fun f : NFn => fnD f.2) hm)
          exact iteT ⟨_, rfl, _, rfl, fa, none, rfl, hv, _, rfl, iteT ⟨t6, .str w, rfl, fun H7 e7 t7 => ⟨_, rfl, x, dx, _, rfl, e7 _ _ ex6 (fun _ z => nomatch z), rfl, _, rfl, x, .str w, sortD L, sortF fs, rfl, sc6.ext e7, .inl ⟨_, da_ext e7 od6.da, (no_fn hm), fun d8 H8 s8 hd8 e8 => ⟨rfl, d8, _, rfl, e8, (da_ext e7 od6.da).same s8, od6.ok, _, rfl, _, rfl, iteF ⟨(x6.trans e7).trans (LamX.ExtN.of s8), t7.ext s8, _, _, rfl⟩⟩⟩⟩⟩⟩
    · rintro σ H6 ⟨x6, t6, y13, y14, rfl⟩
      exact k H6 (LamX.ExtN.trans (LamX.ExtN.of s5) x6) t6
end
end SA
set_option Elab.async false
set_option linter.all false
set_option maxRecDepth 100000
set_option maxHeartbeats 4000000
/-! ### min of a list of texts -/
namespace SA
open PySem PySem.Spec PySem.W PySem.SeqAt PyProof.Rows L2
def minS (z : Str) (zs : List Str) : Str := zs.foldl (fun a y => if y.cps.toList < a.cps.toList then y else a) z
theorem minD_strs : ∀ (zs : List Str) (z : Str), minD (.str z) (zs.map .str) = .str (minS z zs)
  | [], z => rfl
  | y :: zs, z => by
    have ih := minD_strs zs (if y.cps.toList < z.cps.toList then y else z)
    show minD (if dataLt (.str y) (.str z) = true then .str y else .str z) (zs.map .str) = .str (minS (if y.cps.toList < z.cps.toList then y else z) zs)
    rw [← ih, dataLt_str]
    by_cases h : y.cps.toList < z.cps.toList
    · rw [decide_eq_true h, if_pos rfl, if_pos h]
    · rw [decide_eq_false h, if_neg Bool.false_ne_true, if_neg h]
theorem minS_ok : ∀ (zs : List Str) (z : Str), minS z zs ∈ z :: zs ∧ ∀ y ∈ z :: zs, leS (minS z zs) y = true
  | [], z => ⟨List.mem_singleton.mpr rfl, fun y hy => by rw [List.mem_singleton.mp hy]; exact leS_refl _⟩
  | y :: zs, z => by
    obtain ⟨h1, h2⟩ := minS_ok zs (if y.cps.toList < z.cps.toList then y else z)
    have e : minS z (y :: zs) = minS (if y.cps.toList < z.cps.toList then y else z) zs := rfl
    rw [e]
    have hb := h2 _ (List.mem_cons_self ..)
    by_cases h : y.cps.toList < z.cps.toList
    · rw [if_pos h] at h1 h2 hb ⊢
      refine ⟨List.mem_cons_of_mem _ h1, fun w hw => ?_⟩
      rcases List.mem_cons.mp hw with rfl | hw
      · exact leS_trans _ _ _ hb (decide_eq_true (List.le_of_lt h))
      · exact h2 w hw
    · rw [if_neg h] at h1 h2 hb ⊢
      refine ⟨?_, fun w hw => ?_⟩
      · rcases List.mem_cons.mp h1 with h1 | h1
        · rw [h1]; exact List.mem_cons_self ..
        · exact List.mem_cons_of_mem _ (List.mem_cons_of_mem _ h1)
      · rcases List.mem_cons.mp hw with rfl | hw
        · exact hb
        · rcases List.mem_cons.mp hw with rfl | hw
          · exact leS_trans _ _ _ hb (decide_eq_true (List.not_lt.mp h))
          · exact h2 w (List.mem_cons_of_mem _ hw)
section
variable {X : Cx}
theorem call_minS (hc : X.calm = true) (hu : X.A.units + 64 < cLine) : CallR X (.builtin "min") (fun vs H Q => ∃ (a : Addr) (z : Str) (zs : List Str), vs = [.ref a] ∧ SqL X.K H a ((z :: zs).map V.str) ∧ ∀ m, m ∈ z :: zs → (∀ y ∈ z :: zs, leS m y = true) → Q (.str m) H) := by
  intro pins s σ H vs us Q I r h
  obtain ⟨a, z, zs, rfl, hs, q⟩ := h
  obtain ⟨its, rv, hl, _⟩ := I.list hs
  rw [Vals.ref1 r]
  have dp : ∀ l : List Str, DpAll X.K H (l.map V.str) (l.map PyData.str) := by
    intro l
    induction l with
    | nil => exact .nil
    | cons a l ih => exact .cons (.str a) ih
  have dd : ∀ l : List Str, PyData.depthAll (l.map PyData.str) = 0 := by
    intro l
    induction l with
    | nil => rfl
    | cons x l ih =>
      simp only [List.map_cons, PyData.depthAll, PyData.depth, ih]
      rfl
  obtain ⟨as, hr⟩ := Dp.readsAll I _ _ its (dp (z :: zs)) rv
  refine min_list_data (x := .str z) (xs := zs.map .str) (I.ok.hd hc) hl.isList (by simpa using hr) ⟨fun x hx y hy => ?_, fun x hx => ?_⟩ ?_ fun i v h' tk bs _ hv hk => ?_
  · rw [← List.map_cons] at hx hy
    obtain ⟨u, _, rfl⟩ := List.mem_map.mp hx
    obtain ⟨w, _, rfl⟩ := List.mem_map.mp hy
    simp [alike]
  · rw [← List.map_cons] at hx
    obtain ⟨u, _, rfl⟩ := List.mem_map.mp hx
    simp
  · rw [← List.map_cons, dd]
    omega
  · rw [minD_strs] at hv
    obtain ⟨h1, h2⟩ := minS_ok zs z
    cases hv with
    | str => exact ⟨.str _, H, I.kept hk, ⟨_, rfl⟩, q _ h1 h2⟩
end
end SA
set_option Elab.async false
set_option linter.all false
set_option maxRecDepth 100000
set_option maxHeartbeats 8000000
namespace SA
open PySem PySem.Spec PyProof.Rows L2 K1
/-! ### expressions that make data -/
def EvP (Pd : Hp → V → Prop) (σ : L2.St) (H0 : Hp) (te : TE) : Prop := ∀ H, Same H0 H → ∀ R : VK, (∀ v H1, Same H H1 → Pd H1 v → R v H1) → te σ H R
abbrev EvD (d : PyData) (σ : L2.St) (H0 : Hp) (te : TE) : Prop := EvP (fun H v => Da H v d) σ H0 te
def EvDs (ds : List PyData) (σ : L2.St) (H0 : Hp) (tr : TA) : Prop := ∀ H, Same H0 H → ∀ R : List V → Hp → Prop, (∀ vs H1, Same H H1 → DaAll H1 vs ds → R vs H1) → tr σ H R
def EvPs (Pd : Hp → V → Prop) (k : Nat) (σ : L2.St) (H0 : Hp) (tr : TA) : Prop := ∀ H, Same H0 H → ∀ R : List V → Hp → Prop, (∀ vs H1, Same H H1 → (∀ v ∈ vs, Pd H1 v) → vs.length = k → R vs H1) → tr σ H R
section
variable {σ : L2.St} {H0 : Hp} {te : TE} {tr : TA} {d : PyData} {ds : List PyData} {Pd : Hp → V → Prop} {k : Nat} {K : PySem.W.Frag}
theorem evd_non : EvD .none σ H0 (tC .non) := fun H s R q => q _ _ (Same.refl H) .non
theorem evd_int {i : Int} : EvD (.int i) σ H0 (tC (.int i)) := fun H s R q => q _ _ (Same.refl H) (.int i)
theorem evd_str {w : Str} : EvD (.str w) σ H0 (tC (.str w)) := fun H s R q => q _ _ (Same.refl H) (.str w)
theorem evd_nil : EvDs [] σ H0 tNil := fun H s R q => q _ _ (Same.refl H) .nil
theorem evd_cons (h : EvD d σ H0 te) (ht : EvDs ds σ H0 tr) : EvDs (d :: ds) σ H0 (tCons te tr) := fun H s R q =>
  h H s _ fun v H1 s1 hv => ht H1 (s.trans s1) _ fun vs H2 s2 hvs => q _ _ (s1.trans s2) (.cons (hv.same s2) hvs)
theorem evd_tup (h : EvDs ds σ H0 tr) (hl : ds.length ≤ 1000) : EvD (.tuple ds) σ H0 (tTup tr) := fun H s R q =>
  h H s _ fun vs H1 s1 hvs => ⟨by rw [hvs.len]; exact Nat.le_of_lt (small1000 hl), fun p hp => q _ _ (s1.trans (Same.new hp)) (.tup upd_same (hvs.same (Same.new hp)))⟩
theorem evd_lst (h : EvDs ds σ H0 tr) (hl : ds.length ≤ 1000) : EvD (.list ds) σ H0 (tLst tr) := fun H s R q =>
  h H s _ fun vs H1 s1 hvs => ⟨by rw [hvs.len]; exact Nat.le_of_lt (small1000 hl), fun p hp => q _ _ (s1.trans (Same.new hp)) (.lst upd_same (hvs.same (Same.new hp)))⟩
theorem evd_var {i : Nat} {v : V} (e : σ[i]? = some (some v)) (h : Da H0 v d) : EvD d σ H0 (tVar i) := fun H s R q => ⟨v, e, q _ _ (Same.refl H) (h.same s)⟩
theorem evd_ixl {i : Nat} {a : Addr} {xs : List V} {j : Nat} {w : Str} (e : σ[i]? = some (some (.ref a))) (h : H0 a = some (.lst xs)) (hj : xs[j]? = some (.str w)) : EvD (.str w) σ H0 (tOp (rIxL K) (tVar i) (tC (.int (j : Int)))) := fun H s R q =>
  ⟨.ref a, e, a, xs, (j : Int), .str w, rfl, rfl, SqL.of (s _ _ h), atI_nat hj, q _ _ (Same.refl H) (.str w)⟩
theorem evd_ixt {i : Nat} {a : Addr} {xs : List V} {j : Nat} {w : Str} (e : σ[i]? = some (some (.ref a))) (h : H0 a = some (.tup xs)) (hj : xs[j]? = some (.str w)) : EvD (.str w) σ H0 (tOp (rIxT K) (tVar i) (tC (.int (j : Int)))) := fun H s R q =>
  ⟨.ref a, e, a, xs, (j : Int), .str w, rfl, rfl, SqT.of (s _ _ h), atI_nat hj, q _ _ (Same.refl H) (.str w)⟩
theorem evp_nil : EvPs Pd 0 σ H0 tNil := fun H s R q => q _ _ (Same.refl H) (by simp) rfl
theorem evp_cons (st : ∀ {H H' : Hp} {v : V}, Same H H' → Pd H v → Pd H' v) (h : EvP Pd σ H0 te) (ht : EvPs Pd k σ H0 tr) : EvPs Pd (k + 1) σ H0 (tCons te tr) := fun H s R q =>
  h H s _ fun v H1 s1 hv => ht H1 (s.trans s1) _ fun vs H2 s2 hvs hl => q _ _ (s1.trans s2) (fun u hu => by
    rcases List.mem_cons.mp hu with rfl | hu
    · exact st s2 hv
    · exact hvs u hu) (by rw [List.length_cons, hl])
theorem EvP.imp {Pd Pd' : Hp → V → Prop} (h : EvP Pd σ H0 te) (hi : ∀ H v, Same H0 H → Pd H v → Pd' H v) : EvP Pd' σ H0 te := fun H s R q => h H s R fun v H1 s1 hv => q v H1 s1 (hi H1 v (s.trans s1) hv)
/-- a list that stands, and one thing more -/
theorem evp_cat {i : Nat} {ka : Addr} {xs : List V} (ei : σ[i]? = some (some (.ref ka))) (ek : H0 ka = some (.lst xs)) (hl : xs.length ≤ 60) (h : EvD d σ H0 te) : EvP (fun H v => ∃ p u, v = .ref p ∧ H p = some (.lst (xs ++ [u])) ∧ Da H u d ∧ Out H0 p) σ H0 (tOp rCat (tVar i) (tLst (tCons te tNil))) := fun H s R q => by
  refine ⟨_, ei, h H s _ fun u H1 s1 hu => ⟨(by show 1 ≤ sizeLine; decide), fun b hb => ?_⟩⟩
  have sb : Same H1 (upd H1 b (.lst [u])) := Same.new hb
  refine ⟨ka, b, xs, [u], rfl, rfl, sb _ _ (s1 _ _ (s _ _ ek)), upd_same, ?_, fun p hp => ?_⟩
  · exact Nat.le_of_lt (small1000 (by show xs.length + 1 ≤ 1000; omega))
  · have sp : Same (upd H1 b (.lst [u])) (upd (upd H1 b (.lst [u])) p (.lst (xs ++ [u]))) := Same.new hp
    exact q _ _ (s1.trans (sb.trans sp)) ⟨p, u, rfl, upd_same, (hu.same sb).same sp, fun c o e _ => ne_of_none (sb _ _ (s1 _ _ (s _ _ e))) hp⟩
theorem evp_lst (st : ∀ {H H' : Hp} {v : V}, Same H H' → Pd H v → Pd H' v) (h : EvPs Pd k σ H0 tr) (hk : k ≤ 1000) : EvP (fun H v => ∃ p vs, v = .ref p ∧ H p = some (.lst vs) ∧ vs.length = k ∧ (∀ u ∈ vs, Pd H u) ∧ Out H0 p) σ H0 (tLst tr) := fun H s R q =>
  h H s _ fun vs H1 s1 hvs hl => ⟨by rw [hl]; exact Nat.le_of_lt (small1000 hk), fun p hp => q _ _ (s1.trans (Same.new hp)) ⟨p, vs, rfl, upd_same, hl, fun u hu => st (Same.new hp) (hvs u hu), fun b o e _ => ne_of_none (s1 _ _ (s _ _ e)) hp⟩⟩
/-- a list that stands, and a list of more -/
theorem evp_cats (st : ∀ {H H' : Hp} {v : V}, Same H H' → Pd H v → Pd H' v) {i m : Nat} {pa : Addr} {os : List V} (ei : σ[i]? = some (some (.ref pa))) (ep : H0 pa = some (.lst os)) (ho : ∀ u ∈ os, Pd H0 u) (hm : os.length = m) (hmk : m + k ≤ 1000) (h : EvPs Pd k σ H0 tr) :
    EvP (fun H v => ∃ p vs, v = .ref p ∧ H p = some (.lst vs) ∧ vs.length = m + k ∧ (∀ u ∈ vs, Pd H u) ∧ Out H0 p) σ H0 (tOp rCat (tVar i) (tLst tr)) := fun H s R q => by
  refine ⟨_, ei, h H s _ fun vs H1 s1 hvs hl => ⟨by rw [hl]; exact Nat.le_of_lt (small1000 (by omega)), fun b hb => ?_⟩⟩
  have sb : Same H1 (upd H1 b (.lst vs)) := Same.new hb
  refine ⟨pa, b, os, vs, rfl, rfl, sb _ _ (s1 _ _ (s _ _ ep)), upd_same, by rw [hm, hl]; exact Nat.le_of_lt (small1000 hmk), fun p hp => ?_⟩
  have sp : Same (upd H1 b (.lst vs)) (upd (upd H1 b (.lst vs)) p (.lst (os ++ vs))) := Same.new hp
  refine q _ _ (s1.trans (sb.trans sp)) ⟨p, os ++ vs, rfl, upd_same, by rw [List.length_append, hm, hl], fun u hu => ?_, fun c o e _ => ne_of_none (sb _ _ (s1 _ _ (s _ _ e))) hp⟩
  rcases List.mem_append.mp hu with hu | hu
  · exact st (((s.trans s1).trans sb).trans sp) (ho u hu)
  · exact st (sb.trans sp) (hvs u hu)
end
/-! ### no list of declarations with different names -/
abbrev sBadK : Stmt := topS 40
abbrev nBadK : List Str := ["draw", "kinds", "names", "one", "again", "odd"]
/-- a value that Scope refuses as kinds, whatever is done to what stands at S -/
inductive BadK (S : List Addr) (H : Hp) : V → Prop
  | plain {v : V} {d : PyData} (h : Da H v d) (hl : (isLstD d || isTupD d) = false) (ht : tupO d = true) : BadK S H v
  | dict {a : Addr} (h : H a = some (.dK [])) (ha : a ∉ S) : BadK S H (.ref a)
  | decl {a : Addr} {xs : List V} {ds : List PyData} {bs : List Bool} (h : H a = some (.lst xs)) (ha : a ∉ S) (hd : DaAll H xs ds) (ht : tupOs ds = true) (hl : bs.length = ds.length) (hr : ∀ (i : Nat) (d : PyData) (b : Bool), ds[i]? = some d → bs[i]? = some b → DeclRes d b) (hb : bs.all id = false) (h60 : ds.length ≤ 60) : BadK S H (.ref a)
  | inner {a b : Addr} {zs : List V} {es : List PyData} (h : H a = some (.lst [.ref b])) (ha : a ∉ S) (h2 : H b = some (.lst zs)) (hb : b ∉ S) (hd : DaAll H zs es) (ht : tupOs es = true) : BadK S H (.ref a)
  | again {a : Addr} {xs : List V} {L : List Dcl} (h : H a = some (.lst xs)) (ha : a ∉ S) (hd : DaAll H xs (L.map Dcl.d)) (ok : ∀ D ∈ L, D.Ok) (h60 : L.length ≤ 60) (hn : ¬ (L.flatMap Dcl.names).Nodup) : BadK S H (.ref a)
theorem BadK.kp {S : List Addr} {H H' : Hp} {v : V} (h : BadK S H v) (k : Kp S H H') : BadK S H' v := by
  cases h with
  | plain h hl ht => exact .plain (Da.kp k ht h) hl ht
  | dict h ha => exact .dict (k.1 _ _ h ha fun _ z => nomatch z) ha
  | decl h ha hd ht hl hr hb h60 => exact .decl (k.1 _ _ h ha fun _ z => nomatch z) ha (DaAll.kp k ht hd) ht hl hr hb h60
  | inner h ha h2 hb hd ht => exact .inner (k.1 _ _ h ha fun _ z => nomatch z) ha (k.1 _ _ h2 hb fun _ z => nomatch z) hb (DaAll.kp k ht hd) ht
  | again h ha hd ok h60 hn => exact .again (k.1 _ _ h ha fun _ z => nomatch z) ha (DaAll.kp k (tupOs_dcls _) hd) ok h60 hn
theorem BadK.sc {S : List Addr} {P : Program} {w0 : World} {T : List (Addr × Str)} {C BK BF x dx : Addr} {H : Hp} {v fv : V} {Q : VK} {E : XK} (h : BadK S H v) (ex : H x = some (.ins C dx [])) (hT : LamX.Tabs T H) (k : ∀ H', Same H H' → E (.ref BK) none H') :
    spScope P w0 T C BK BF [.ref x, v, fv] H Q E := by
  refine ⟨x, dx, v, fv, rfl, ex, hT, ?_⟩
  cases h with
  | plain h hl ht => exact .inl ⟨_, h, hl, k⟩
  | dict h ha => exact .inl ⟨_, .dct h, rfl, k⟩
  | decl h ha hd ht hl hr hb h60 => exact .inr (.inl ⟨_, _, _, _, rfl, .inl h, hd, hl, hr, hb, h60, k⟩)
  | @inner a b zs es h ha h2 hb hd ht => exact .inr (.inl ⟨a, [.ref b], [.list es], [false], rfl, .inl h, .one (.lst h2 hd), rfl, (by
      intro i d b e1 e2
      cases i with
      | zero =>
        cases e1
        cases e2
        exact .notT rfl
      | succ i => simp at e1), rfl, (by show 1 ≤ 60; decide), k⟩)
  | again h ha hd ok h60 hn => exact .inr (.inr ⟨_, _, _, rfl, .inl h, hd, ok, h60, .inl ⟨hn, k⟩⟩)
/-- the declarations and something that is none -/
theorem bad_more {S : List Addr} {H : Hp} {p : Addr} {xs : List V} {u : V} {L : List Dcl} {d : PyData} (h : H p = some (.lst (xs ++ [u]))) (hp : p ∉ S) (hd : DaAll H xs (L.map Dcl.d)) (hu : Da H u d) (ht : tupO d = true) (ok : ∀ D ∈ L, D.Ok) (hL : L.length ≤ 10) (hr : DeclRes d false) : BadK S H (.ref p) := by
  refine .decl (bs := List.replicate L.length true ++ [false]) h hp (hd.app (.one hu)) ?_ (by simp) ?_ ?_ (by simp; omega)
  · exact tupOs_app (tupOs_dcls L) (by simp only [tupOs, ht, Bool.and_self])
  · intro i d' b e1 e2
    by_cases hi : i < L.length
    · rw [List.getElem?_append_left (by simpa using hi), List.getElem?_map] at e1
      rw [List.getElem?_append_left (by simpa using hi)] at e2
      obtain ⟨D, hD, rfl⟩ := Option.map_eq_some_iff.mp e1
      have eb : b = true := List.eq_of_mem_replicate (List.mem_of_getElem? e2)
      subst eb
      exact (ok D (List.mem_of_getElem? hD)).res
    · rw [List.getElem?_append_right (by simpa using hi)] at e1 e2
      simp only [List.length_map, List.length_replicate] at e1 e2
      generalize i - L.length = j at e1 e2
      cases j with
      | zero =>
        cases e1
        cases e2
        exact hr
      | succ j => simp at e1
  · simp
/-- the declarations and one with a name again -/
theorem bad_again {S : List Addr} {H : Hp} {p : Addr} {xs : List V} {u : V} {L : List Dcl} {D : Dcl} (h : H p = some (.lst (xs ++ [u]))) (hp : p ∉ S) (hd : DaAll H xs (L.map Dcl.d)) (hu : Da H u D.d) (ok : ∀ D ∈ L, D.Ok) (okD : D.Ok) (hL : L.length ≤ 10) (hn : ¬ ((L ++ [D]).flatMap Dcl.names).Nodup) : BadK S H (.ref p) := by
  refine .again (L := L ++ [D]) h hp ?_ (fun E hE => ?_) (by simp; omega) hn
  · rw [List.map_append]
    exact hd.app (.one hu)
  · rcases List.mem_append.mp hE with hE | hE
    · exact ok E hE
    · rw [List.mem_singleton.mp hE]
      exact okD
theorem not_nodup2 {L : List Dcl} {D : Dcl} {x : Str} (h1 : x ∈ L.flatMap Dcl.names) (h2 : x ∈ D.names) : ¬ ((L ++ [D]).flatMap Dcl.names).Nodup := by
  intro n
  rw [List.flatMap_append, List.nodup_append] at n
  exact n.2.2 x h1 x (by simpa using h2) rfl
end SA
set_option Elab.async false
set_option linter.all false
set_option maxRecDepth 100000
set_option maxHeartbeats 8000000
namespace SA
open PySem PySem.Spec PyProof.Rows L2 K1
def spBadK : Sp := fun vs H Q _ => ∃ (d w c ka nm : Addr) (n : Nat) (xs : List V) (L : List Dcl) (ws : List Str) (n1 n2 : Str), vs = [.ref d, .ref ka, .ref nm] ∧ DrawAt H d w c n ∧ H ka = some (.lst xs) ∧ DaAll H xs (L.map Dcl.d) ∧ (∀ D ∈ L, D.Ok) ∧ 1 ≤ L.length ∧ L.length ≤ 10 ∧
  H nm = some (.lst (ws.map V.str)) ∧ ws[1]? = some n1 ∧ ws[2]? = some n2 ∧ isName n1 = true ∧ isName n2 = true ∧ n < 2 ^ 39 ∧
  ∀ (y : V) (H' : Hp), BadK [d, w] H' y → DrawAt H' d w c (n + 2) → But2 d w H H' → Q y H'
theorem DrawAt.neL {H : Hp} {d w c a : Addr} {n : Nat} {xs : List V} {x : V} (h : DrawAt H d w c n) (e : H a = some (.lst xs)) (hx : x ∈ xs) (hn : ∀ i, x ≠ .int i) : a ≠ d ∧ a ≠ w := by
  obtain ⟨⟨r, t, _, _, e1⟩, ⟨zs, e2⟩, _, _⟩ := h
  refine ⟨fun z => ?_, fun z => ?_⟩
  · rw [z, e1] at e
    cases e
  · rw [z, e2] at e
    cases e
    obtain ⟨i, _, rfl⟩ := List.mem_map.mp hx
    exact hn i rfl
section
variable {P : Program} {w0 : World} {K : PySem.W.Frag} {mg : Str → Option Value} {base : Heap}
theorem scBadK : FnScope nBadK ["draw", "kinds", "names"] (defScope sBadK) := ⟨rfl, rfl, rfl, by decide +kernel, rfl, by decide +kernel, by decide +kernel⟩
theorem ok_badK {f fP fT : Addr} {fd fdP fdT : FuncData} (F : Fun K "_law_bad_kinds" "_law_bad_kinds" sBadK f fd) (B : Gb mg) (FP : Fun K "_law_pick" "_law_pick" sPick fP fdP) (bP : Binds K fdP ["draw", "some"] []) (gP : mg "_law_pick" = some (.ref fP))
    (GP : FnOk P w0 K mg base CX0 3 fP fdP ["draw", "some"] (spPick K)) (FT : Fun K "_law_take" "_law_take" sTake fT fdT) (bT : Binds K fdT ["draw", "many"] []) (gT : mg "_law_take" = some (.ref fT)) (GT : FnOk P w0 K mg base CX0 2 fT fdT ["draw", "many"] spTake) :
    FnOk P w0 K mg base CX0 4 f fd ["draw", "kinds", "names"] spBadK := by
  refine F.ok scBadK (fun vs H Q E h => ?_) (fun cdv A outer s H vs Q E hr h => ?_)
  · obtain ⟨d, w, c, ka, nm, n, xs, L, ws, n1, n2, rfl, _⟩ := h
    rfl
  · obtain ⟨d, w, c, ka, nm, n, xs, L, ws, n1, n2, rfl, hD, ek, dk, okL, L1, L10, en, w1, w2, nm1, nm2, hn, k⟩ := h
    have hr2 := hr.mono (by decide : 2 ≤ 3)
    have N1 := fun z : True => z
    refine ⟨_, Evl.pss_cut (ps_set (i := 3) scBadK.nd rfl (.inl rfl) (pe_ix ix_list (pv 1) (pe_call GT hr2 (by rfl) gT FT.kp bT .nil pass0 (pa_cons (pv 0) (pa_cons (pe_callB call_len_seq (by rfl) B.len PySem.boot_len (pa_cons (pv 1) pa_nil)) pa_nil))) (fun _ _ => rfl)))
      (Evl.pss_cut (ps_set (i := 4) scBadK.nd rfl (.inl rfl) (pe_tup (pa_cons pe_str (pa_cons (pe_ix ix_list (pv 2) pe_int (fun _ _ => rfl)) (pa_cons (pe_tup (pa_cons (pe_tup (pa_cons (pe_ix ix_list (pv 2) pe_int (fun _ _ => rfl)) (pa_cons (pe_tup pa_nil) pa_nil))) (pa_cons (pe_tup (pa_cons (pe_ix ix_tup (pv 3) pe_int (fun _ _ => rfl)) (pa_cons (pe_tup (pa_cons pe_str pa_nil)) pa_nil))) pa_nil))) pa_nil)))))
      (Evl.pss_cut (ps_set (i := 5) scBadK.nd rfl (.inl rfl) (pe_lst (pa_cons pe_non (pa_cons pe_int (pa_cons pe_dnewK (pa_cons pe_str
          (pa_cons (pe_op op_cat (pv 1) (pe_lst (pa_cons (pv 3) pa_nil)))
          (pa_cons (pe_op op_cat (pv 1) (pe_lst (pa_cons (pe_tup (pa_cons pe_str (pa_cons (pe_ix ix_tup (pv 3) pe_int (fun _ _ => rfl)) (pa_cons pe_str pa_nil)))) pa_nil)))
          (pa_cons (pe_op op_cat (pv 1) (pe_lst (pa_cons (pv 4) pa_nil)))
          (pa_cons (pe_op op_cat (pv 1) (pe_lst (pa_cons pe_non pa_nil)))
          (pa_cons (pe_lst (pa_cons (pe_callTy call_list_of (by rfl) B.list (by decide +kernel) (pa_cons (pv 3) pa_nil)) pa_nil)) pa_nil)))))))))))
      (Evl.pss_cut (ps_set (i := 5) scBadK.nd rfl (.inl rfl) (pe_op op_cat (pv 5) (pe_lst
          (pa_cons (pe_op op_cat (pv 1) (pe_lst (pa_cons (pe_tup (pa_cons pe_str (pa_cons (pe_ix ix_list (pv 2) pe_int (fun _ _ => rfl)) (pa_cons pe_int pa_nil)))) pa_nil)))
          (pa_cons (pe_op op_cat (pv 1) (pe_lst (pa_cons (pe_tup (pa_cons pe_str (pa_cons (pe_ix ix_list (pv 2) pe_int (fun _ _ => rfl)) (pa_cons (pe_tup pa_nil) pa_nil)))) pa_nil)))
          (pa_cons (pe_op op_cat (pv 1) (pe_lst (pa_cons (pe_tup (pa_cons pe_str (pa_cons (pe_ix ix_list (pv 2) pe_int (fun _ _ => rfl)) (pa_cons (pe_tup (pa_cons (pe_tup (pa_cons (pe_ix ix_list (pv 2) pe_int (fun _ _ => rfl)) (pa_cons (pe_tup (pa_cons pe_str pa_nil)) pa_nil)))
              (pa_cons (pe_tup (pa_cons (pe_ix ix_list (pv 2) pe_int (fun _ _ => rfl)) (pa_cons (pe_tup pa_nil) pa_nil))) pa_nil))) pa_nil)))) pa_nil))) pa_nil))))))
      (Evl.pss_cut (ps_set (i := 5) scBadK.nd rfl (.inl rfl) (pe_op op_cat (pv 5) (pe_lst
          (pa_cons (pe_op op_cat (pv 1) (pe_lst (pa_cons (pe_tup (pa_cons pe_str (pa_cons pe_str (pa_cons pe_str pa_nil)))) pa_nil)))
          (pa_cons (pe_op op_cat (pv 1) (pe_lst (pa_cons (pe_tup (pa_cons pe_str (pa_cons (pe_ix ix_list (pv 2) pe_int (fun _ _ => rfl)) pa_nil))) pa_nil)))
          (pa_cons (pe_op op_cat (pv 1) (pe_lst (pa_cons (pe_tup (pa_cons pe_str (pa_cons (pe_ix ix_list (pv 2) pe_int (fun _ _ => rfl)) (pa_cons pe_str pa_nil)))) pa_nil))) pa_nil))))))
      (pss_one (ps_ret (pe_call GP hr (by rfl) gP FP.kp bP .nil pass0 (pa_cons (pv 0) (pa_cons (pv 5) pa_nil))))))))), ?_⟩
    have lx : xs.length = L.length := by rw [dk.len, List.length_map]
    have nk : ka ≠ d ∧ ka ≠ w := by
      obtain ⟨d', hd', hx⟩ := dk.get (List.getElem?_eq_getElem (show 0 < xs.length by omega))
      rw [List.getElem?_map] at hd'
      obtain ⟨D, hDD, rfl⟩ := Option.map_eq_some_iff.mp hd'
      obtain ⟨oa, y, eo, _⟩ := da_three hx
      exact hD.neL ek (List.getElem_mem (show 0 < xs.length by omega)) (fun i z => by rw [eo] at z; cases z)
    have nn : nm ≠ d ∧ nm ≠ w := hD.neL en (x := .str n1) (List.mem_map_of_mem (List.mem_of_getElem? w1)) fun i z => nomatch z
    -- one
    refine ⟨fun σ H' => ∃ (oa : Addr) (D : Dcl), σ = [some (.ref d), some (.ref ka), some (.ref nm), some (.ref oa), none, none] ∧ D ∈ L ∧ Da H' (.ref oa) D.d ∧ DrawAt H' d w c (n + 1) ∧ But2 d w H H', ?_, ?_⟩
    · refine ⟨_, rfl, _, rfl, _, rfl, ka, xs, rfl, .inl (SqL.of ek), d, w, c, n, xs.length, rfl, hD, by omega, by omega, by omega, fun i H1 i0 i1 D1 b1 => ?_⟩
      obtain ⟨j, rfl⟩ := Int.eq_ofNat_of_zero_le i0
      have hj : j < xs.length := by omega
      have kk : Kp [d, w] H H1 := Kp.of2 hD b1
      have nka := nk
      have e1 := b1 _ _ ek nka.1 nka.2
      obtain ⟨d', hd', hx⟩ := dk.get (List.getElem?_eq_getElem hj)
      rw [List.getElem?_map] at hd'
      obtain ⟨D, hDD, rfl⟩ := Option.map_eq_some_iff.mp hd'
      have hx1 := Da.kp kk (tupO_dcl D) hx
      obtain ⟨oa, y, eo, _⟩ := da_three hx1
      refine ⟨ka, xs, (j : Int), xs[j], rfl, rfl, SqL.of e1, atI_nat (List.getElem?_eq_getElem hj), oa, D, ?_, List.mem_of_getElem? hDD, ?_, D1, b1⟩
      · rw [eo]
        rfl
      · rw [← eo]
        exact hx1
    rintro σ H1 ⟨oa, D, rfl, mD, dD, D1, b1⟩
    have kk : Kp [d, w] H H1 := Kp.of2 hD b1
    have nS : ∀ {H0 : Hp} {m : Nat} {p : Addr}, DrawAt H0 d w c m → Out H0 p → p ∉ [d, w] := fun {H0 m p} hd ho => by
      obtain ⟨⟨r, t, _, _, e1⟩, ⟨zs, e2⟩, _, _⟩ := hd
      intro z
      rcases List.mem_cons.mp z with rfl | z
      · exact ho _ _ e1 (fun _ z => nomatch z) rfl
      · rw [List.mem_singleton.mp z] at ho
        exact ho _ _ e2 (fun _ z => nomatch z) rfl
    have nka : ka ≠ d ∧ ka ≠ w ∧ nm ≠ d ∧ nm ≠ w := ⟨nk.1, nk.2, nn.1, nn.2⟩
    have ek1 := b1 _ _ ek nka.1 nka.2.1
    have en1 := b1 _ _ en nka.2.2.1 nka.2.2.2
    have dk1 := DaAll.kp kk (tupOs_dcls L) dk
    have okD := okL D mD
    obtain ⟨oa', yD, eo, eD⟩ := da_three dD
    cases eo
    have w1' : (ws.map V.str)[1]? = some (.str n1) := by rw [List.getElem?_map, w1]; rfl
    have w2' : (ws.map V.str)[2]? = some (.str n2) := by rw [List.getElem?_map, w2]; rfl
    let again : Dcl := .cho n1 [(n2, []), (D.name, ["number"])]
    have nmD : isName D.name = true := by
      cases okD with
      | row h k l => exact h
      | cho h h1 h4 ok => exact h
    have knum : isKindS "number" = true ∧ ("number" : Str).length ≤ 8 := ⟨by decide +kernel, by decide +kernel⟩
    have ktru : isKindS "truth" = true ∧ ("truth" : Str).length ≤ 8 := ⟨by decide +kernel, by decide +kernel⟩
    have okA : again.Ok := .cho nm1 (by show 1 ≤ 2; decide) (by show 2 ≤ 4; decide) (by
      intro v hv
      simp only [List.mem_cons, List.not_mem_nil, or_false] at hv
      rcases hv with rfl | rfl
      · exact ⟨nm2, by show 0 ≤ 3; decide, by simp⟩
      · exact ⟨nmD, by show 1 ≤ 3; decide, by intro k hk; rw [List.mem_singleton.mp hk]; exact knum⟩)
    have mem : D.name ∈ L.flatMap Dcl.names := List.mem_flatMap.mpr ⟨D, mD, by cases D <;> simp [Dcl.name, Dcl.names]⟩
    -- again
    refine ⟨fun σ H' => ∃ ga : Addr, σ = [some (.ref d), some (.ref ka), some (.ref nm), some (.ref oa), some (.ref ga), none] ∧ Same H1 H' ∧ Da H' (.ref ga) again.d, ?_, ?_⟩
    · have := evd_tup (σ := [some (.ref d), some (.ref ka), some (.ref nm), some (.ref oa), none, none]) (H0 := H1) (evd_cons (evd_str (w := "choice")) (evd_cons (evd_ixl (K := K) (i := 2) (j := 1) rfl en1 w1') (evd_cons (evd_tup (evd_cons (evd_tup (evd_cons (evd_ixl (K := K) (i := 2) (j := 2) rfl en1 w2') (evd_cons (evd_tup evd_nil (by simp)) evd_nil)) (by simp))
        (evd_cons (evd_tup (evd_cons (evd_ixt (K := K) (i := 3) (j := 1) rfl eD rfl) (evd_cons (evd_tup (evd_cons (evd_str (w := "number")) evd_nil) (by simp)) evd_nil)) (by simp)) evd_nil)) (by simp)) evd_nil))) (by simp)
      refine this H1 (Same.refl _) _ fun v H2 s2 hv => ?_
      obtain ⟨ga, zs, rfl, _, _⟩ := da_tup hv
      exact ⟨ga, rfl, s2, hv⟩
    rintro σ H2 ⟨ga, rfl, s2, dG⟩
    have D2 := D1.kp (S := []) (.of s2) (by simp) (by simp) (by simp)
    have ek2 := s2 _ _ ek1
    have en2 := s2 _ _ en1
    have dk2 := dk1.same s2
    have eD2 := s2 _ _ eD
    have dD2 := dD.same s2
    have st : ∀ {H H' : Hp} {v : V}, Same H H' → BadK [d, w] H v → BadK [d, w] H' v := fun s h => h.kp (.of s)
    -- the first nine
    refine ⟨fun σ H' => ∃ (p : Addr) (os : List V), σ = [some (.ref d), some (.ref ka), some (.ref nm), some (.ref oa), some (.ref ga), some (.ref p)] ∧ Same H2 H' ∧ H' p = some (.lst os) ∧ os.length = 9 ∧ ∀ o ∈ os, BadK [d, w] H' o, ?_, ?_⟩
    · have i1 : EvP (BadK [d, w]) [some (.ref d), some (.ref ka), some (.ref nm), some (.ref oa), some (.ref ga), none] H2 (tC .non) := evd_non.imp fun H v _ h => .plain h rfl rfl
      have i2 : EvP (BadK [d, w]) [some (.ref d), some (.ref ka), some (.ref nm), some (.ref oa), some (.ref ga), none] H2 (tC (.int 5)) := evd_int.imp fun H v _ h => .plain h rfl rfl
      have i3 : EvP (BadK [d, w]) [some (.ref d), some (.ref ka), some (.ref nm), some (.ref oa), some (.ref ga), none] H2 tDNewK := fun H s R q p hp => q _ _ (Same.new hp) (.dict upd_same (nS (D2.kp (S := []) (.of s) (by simp) (by simp) (by simp)) (Out.of hp)))
      have i4 : EvP (BadK [d, w]) [some (.ref d), some (.ref ka), some (.ref nm), some (.ref oa), some (.ref ga), none] H2 (tC (.str "ab")) := evd_str.imp fun H v _ h => .plain h rfl rfl
      have i5 : EvP (BadK [d, w]) [some (.ref d), some (.ref ka), some (.ref nm), some (.ref oa), some (.ref ga), none] H2 (tOp rCat (tVar 1) (tLst (tCons (tVar 3) tNil))) := (evp_cat rfl ek2 (by omega) (evd_var rfl dD2)).imp fun H v s ⟨p, u, e, h1, h2, h3⟩ => e ▸ bad_again h1 (nS D2 h3) (dk2.same s) h2 okL okD L10 (not_nodup2 mem (by cases D <;> simp [Dcl.name, Dcl.names]))
      have i6 : EvP (BadK [d, w]) [some (.ref d), some (.ref ka), some (.ref nm), some (.ref oa), some (.ref ga), none] H2 (tOp rCat (tVar 1) (tLst (tCons (tTup (tCons (tC (.str "row")) (tCons (tOp (rIxT K) (tVar 3) (tC (.int 1))) (tCons (tC (.str "number")) tNil)))) tNil))) :=
        (evp_cat rfl ek2 (by omega) (evd_tup (evd_cons evd_str (evd_cons (evd_ixt (K := K) (i := 3) (j := 1) rfl eD2 rfl) (evd_cons evd_str evd_nil))) (by simp))).imp fun H v s ⟨p, u, e, h1, h2, h3⟩ => e ▸ bad_again (D := .row D.name "number") h1 (nS D2 h3) (dk2.same s) h2 okL (.row nmD knum.1 knum.2) L10 (not_nodup2 mem (by simp [Dcl.names]))
      have i7 : EvP (BadK [d, w]) [some (.ref d), some (.ref ka), some (.ref nm), some (.ref oa), some (.ref ga), none] H2 (tOp rCat (tVar 1) (tLst (tCons (tVar 4) tNil))) := (evp_cat rfl ek2 (by omega) (evd_var rfl dG)).imp fun H v s ⟨p, u, e, h1, h2, h3⟩ => e ▸ bad_again (D := again) h1 (nS D2 h3) (dk2.same s) h2 okL okA L10 (not_nodup2 mem (by simp [again, Dcl.names]))
      have i8 : EvP (BadK [d, w]) [some (.ref d), some (.ref ka), some (.ref nm), some (.ref oa), some (.ref ga), none] H2 (tOp rCat (tVar 1) (tLst (tCons (tC .non) tNil))) := (evp_cat rfl ek2 (by omega) evd_non).imp fun H v s ⟨p, u, e, h1, h2, h3⟩ => e ▸ bad_more h1 (nS D2 h3) (dk2.same s) h2 rfl okL L10 (.notT rfl)
      have i9 : EvP (BadK [d, w]) [some (.ref d), some (.ref ka), some (.ref nm), some (.ref oa), some (.ref ga), none] H2 (tLst (tCons (tCB (fun xs H Q => ∃ p ys, xs = [.ref p] ∧ (SqL K H p ys ∨ SqT K H p ys) ∧ ∀ l, H l = none → Q (.ref l) (upd H l (.lst ys))) (tCons (tVar 3) tNil)) tNil)) := fun H s R q => by
        have DH := D2.kp (S := []) (.of s) (by simp) (by simp) (by simp)
        obtain ⟨zs, es, ez, hz, ht⟩ : ∃ zs es, H oa = some (.tup zs) ∧ DaAll H zs es ∧ tupOs es = true := by
          have h := dD2.same s
          have t0 := tupO_dcl D
          have key : ∀ {e : PyData}, tupO e = true → isTupD e = true → Da H (.ref oa) e → ∃ zs es, H oa = some (.tup zs) ∧ DaAll H zs es ∧ tupOs es = true := fun {e} h1 h2 h3 => by
            cases h3 with
            | tup a b => exact ⟨_, _, a, b, by simpa [tupO] using h1⟩
            | lst a b => simp [isTupD] at h2
            | dct a => simp [isTupD] at h2
          exact key t0 (by cases D <;> rfl) h
        refine ⟨_, rfl, oa, zs, rfl, .inr (SqT.of ez), fun b hb => ⟨(by show 1 ≤ sizeLine; decide), fun p hp => ?_⟩⟩
        have sb : Same H (upd H b (.lst zs)) := Same.new hb
        have sp : Same (upd H b (.lst zs)) (upd (upd H b (.lst zs)) p (.lst [.ref b])) := Same.new hp
        exact q _ _ (sb.trans sp) (.inner upd_same (nS (DH.new hb) (Out.of hp)) (sp _ _ upd_same) (nS DH (Out.of hb)) ((hz.same sb).same sp) ht)
      have all := evp_lst (Pd := BadK [d, w]) st (evp_cons (Pd := BadK [d, w]) st i1 (evp_cons (Pd := BadK [d, w]) st i2 (evp_cons (Pd := BadK [d, w]) st i3 (evp_cons (Pd := BadK [d, w]) st i4 (evp_cons (Pd := BadK [d, w]) st i5 (evp_cons (Pd := BadK [d, w]) st i6 (evp_cons (Pd := BadK [d, w]) st i7 (evp_cons (Pd := BadK [d, w]) st i8 (evp_cons (Pd := BadK [d, w]) st i9 evp_nil))))))))) (by decide)
      refine all H2 (Same.refl _) _ fun v H3 s3 hv => ?_
      obtain ⟨p, vs, rfl, ep, hl, hvs, _⟩ := hv
      exact ⟨p, vs, rfl, s3, ep, hl, hvs⟩
    rintro σ H3 ⟨p3, os3, rfl, s3, ep3, l3, bad3⟩
    have D3 := D2.kp (S := []) (.of s3) (by simp) (by simp) (by simp)
    have ek3 := s3 _ _ ek2
    have en3 := s3 _ _ en2
    have dk3 := dk2.same s3
    refine ⟨fun σ H' => ∃ (p : Addr) (os : List V), σ = [some (.ref d), some (.ref ka), some (.ref nm), some (.ref oa), some (.ref ga), some (.ref p)] ∧ Same H3 H' ∧ H' p = some (.lst os) ∧ os.length = 12 ∧ ∀ o ∈ os, BadK [d, w] H' o, ?_, ?_⟩
    · skip
      have i1 : EvP (BadK [d, w]) [some (.ref d), some (.ref ka), some (.ref nm), some (.ref oa), some (.ref ga), some (.ref p3)] H3 (tOp rCat (tVar 1) (tLst (tCons (tTup (tCons (tC (.str "row")) (tCons (tOp (rIxL K) (tVar 2) (tC (.int 1))) (tCons (tC (.int 5)) tNil)))) tNil))) :=
        (evp_cat rfl ek3 (by omega) (evd_tup (evd_cons evd_str (evd_cons (evd_ixl (K := K) (i := 2) (j := 1) rfl en3 w1') (evd_cons evd_int evd_nil))) (by simp))).imp fun H v s ⟨p, u, e, h1, h2, h3⟩ => e ▸ bad_more h1 (nS D3 h3) (dk3.same s) h2 rfl okL L10 (.row _ _ nm1 (.int 5))
      have i2 : EvP (BadK [d, w]) [some (.ref d), some (.ref ka), some (.ref nm), some (.ref oa), some (.ref ga), some (.ref p3)] H3 (tOp rCat (tVar 1) (tLst (tCons (tTup (tCons (tC (.str "choice")) (tCons (tOp (rIxL K) (tVar 2) (tC (.int 1))) (tCons (tTup tNil) tNil)))) tNil))) :=
        (evp_cat rfl ek3 (by omega) (evd_tup (evd_cons evd_str (evd_cons (evd_ixl (K := K) (i := 2) (j := 1) rfl en3 w1') (evd_cons (evd_tup evd_nil (by simp)) evd_nil))) (by simp))).imp fun H v s ⟨p, u, e, h1, h2, h3⟩ => e ▸ bad_more h1 (nS D3 h3) (dk3.same s) h2 rfl okL L10 (DeclRes.cho n1 [] nm1 (by simp))
      have i3 : EvP (BadK [d, w]) [some (.ref d), some (.ref ka), some (.ref nm), some (.ref oa), some (.ref ga), some (.ref p3)] H3 (tOp rCat (tVar 1) (tLst (tCons (tTup (tCons (tC (.str "choice")) (tCons (tOp (rIxL K) (tVar 2) (tC (.int 1))) (tCons (tTup (tCons (tTup (tCons (tOp (rIxL K) (tVar 2) (tC (.int 2))) (tCons (tTup (tCons (tC (.str "truth")) tNil)) tNil))) (tCons (tTup (tCons (tOp (rIxL K) (tVar 2) (tC (.int 2))) (tCons (tTup tNil) tNil))) tNil))) tNil)))) tNil))) :=
        (evp_cat rfl ek3 (by omega) (evd_tup (evd_cons evd_str (evd_cons (evd_ixl (K := K) (i := 2) (j := 1) rfl en3 w1') (evd_cons (evd_tup (evd_cons (evd_tup (evd_cons (evd_ixl (K := K) (i := 2) (j := 2) rfl en3 w2') (evd_cons (evd_tup (evd_cons evd_str evd_nil) (by simp)) evd_nil)) (by simp)) (evd_cons (evd_tup (evd_cons (evd_ixl (K := K) (i := 2) (j := 2) rfl en3 w2') (evd_cons (evd_tup evd_nil (by simp)) evd_nil)) (by simp)) evd_nil)) (by simp)) evd_nil))) (by simp))).imp
          fun H v s ⟨p, u, e, h1, h2, h3⟩ => e ▸ bad_again (D := .cho n1 [(n2, ["truth"]), (n2, [])]) h1 (nS D3 h3) (dk3.same s) h2 okL (.cho nm1 (by show 1 ≤ 2; decide) (by show 2 ≤ 4; decide) (by
            intro v hv
            simp only [List.mem_cons, List.not_mem_nil, or_false] at hv
            rcases hv with rfl | rfl
            · exact ⟨nm2, by show 1 ≤ 3; decide, by intro k hk; rw [List.mem_singleton.mp hk]; exact ktru⟩
            · exact ⟨nm2, by show 0 ≤ 3; decide, by simp⟩)) L10 (by
            intro n
            rw [List.flatMap_append, List.nodup_append] at n
            have := n.2.1
            simp [Dcl.names] at this)
      have all := evp_cats (Pd := BadK [d, w]) (i := 5) (m := 9) st rfl ep3 bad3 l3 (by decide) (evp_cons (Pd := BadK [d, w]) st i1 (evp_cons (Pd := BadK [d, w]) st i2 (evp_cons (Pd := BadK [d, w]) st i3 evp_nil)))
      refine all H3 (Same.refl _) _ fun v H4 s4 hv => ?_
      obtain ⟨p, vs, rfl, ep, hl, hvs, ho⟩ := hv
      exact ⟨p, vs, rfl, s4, ep, hl, hvs⟩
    rintro σ H4 ⟨p4, os4, rfl, s4, ep4, l4, bad4⟩
    have D4 := D3.kp (S := []) (.of s4) (by simp) (by simp) (by simp)
    have ek4 := s4 _ _ ek3
    have en4 := s4 _ _ en3
    have dk4 := dk3.same s4
    refine ⟨fun σ H' => ∃ (p : Addr) (os : List V), σ = [some (.ref d), some (.ref ka), some (.ref nm), some (.ref oa), some (.ref ga), some (.ref p)] ∧ Same H4 H' ∧ H' p = some (.lst os) ∧ os.length = 15 ∧ (∀ o ∈ os, BadK [d, w] H' o) ∧ Out H4 p, ?_, ?_⟩
    · skip
      have i1 : EvP (BadK [d, w]) [some (.ref d), some (.ref ka), some (.ref nm), some (.ref oa), some (.ref ga), some (.ref p4)] H4 (tOp rCat (tVar 1) (tLst (tCons (tTup (tCons (tC (.str "row")) (tCons (tC (.str "while")) (tCons (tC (.str "number")) tNil)))) tNil))) :=
        (evp_cat rfl ek4 (by omega) (evd_tup (evd_cons evd_str (evd_cons evd_str (evd_cons evd_str evd_nil))) (by simp))).imp fun H v s ⟨p, u, e, h1, h2, h3⟩ => e ▸ bad_more h1 (nS D4 h3) (dk4.same s) h2 rfl okL L10 (.noName _ _ _ (by decide +kernel) (by decide +kernel))
      have i2 : EvP (BadK [d, w]) [some (.ref d), some (.ref ka), some (.ref nm), some (.ref oa), some (.ref ga), some (.ref p4)] H4 (tOp rCat (tVar 1) (tLst (tCons (tTup (tCons (tC (.str "row")) (tCons (tOp (rIxL K) (tVar 2) (tC (.int 1))) tNil))) tNil))) :=
        (evp_cat rfl ek4 (by omega) (evd_tup (evd_cons evd_str (evd_cons (evd_ixl (K := K) (i := 2) (j := 1) rfl en4 w1') evd_nil)) (by simp))).imp fun H v s ⟨p, u, e, h1, h2, h3⟩ => e ▸ bad_more h1 (nS D4 h3) (dk4.same s) h2 rfl okL L10 (.notT rfl)
      have i3 : EvP (BadK [d, w]) [some (.ref d), some (.ref ka), some (.ref nm), some (.ref oa), some (.ref ga), some (.ref p4)] H4 (tOp rCat (tVar 1) (tLst (tCons (tTup (tCons (tC (.str "heap")) (tCons (tOp (rIxL K) (tVar 2) (tC (.int 1))) (tCons (tC (.str "number")) tNil)))) tNil))) :=
        (evp_cat rfl ek4 (by omega) (evd_tup (evd_cons evd_str (evd_cons (evd_ixl (K := K) (i := 2) (j := 1) rfl en4 w1') (evd_cons evd_str evd_nil))) (by simp))).imp fun H v s ⟨p, u, e, h1, h2, h3⟩ => e ▸ bad_more h1 (nS D4 h3) (dk4.same s) h2 rfl okL L10 (.other _ _ _ nm1 (by decide +kernel) (by decide +kernel))
      have all := evp_cats (Pd := BadK [d, w]) (i := 5) (m := 12) st rfl ep4 bad4 l4 (by decide) (evp_cons (Pd := BadK [d, w]) st i1 (evp_cons (Pd := BadK [d, w]) st i2 (evp_cons (Pd := BadK [d, w]) st i3 evp_nil)))
      refine all H4 (Same.refl _) _ fun v H5 s5 hv => ?_
      obtain ⟨p, vs, rfl, ep, hl, hvs, ho⟩ := hv
      exact ⟨p, vs, rfl, s5, ep, hl, hvs, ho⟩
    rintro σ H5 ⟨p5, os5, rfl, s5, ep5, l5, bad5, ou5⟩
    have D5 := D4.kp (S := []) (.of s5) (by simp) (by simp) (by simp)
    have np := nS D4 ou5
    simp only [List.mem_cons, List.not_mem_nil, or_false, not_or] at np
    refine ⟨_, rfl, _, rfl, d, w, c, p5, n + 1, os5, rfl, D5, by omega, np.1, np.2, SqL.of ep5, (fun z => by rw [z] at l5; cases l5), (by rw [l5]; decide), fun y H6 hy D6 b6 => ?_⟩
    have k6 : Kp [d, w] H5 H6 := Kp.of2 D5 b6
    exact k y H6 ((bad5 y hy).kp k6) D6 ((b1.trans (But2.of (((s2.trans s3).trans s4).trans s5))).trans b6)
end
end SA
set_option Elab.async false
set_option linter.all false
set_option maxRecDepth 100000
set_option maxHeartbeats 8000000
namespace SA
open PySem PySem.Spec PyProof.Rows L2 K1
/-! ### functions that are none: the worths -/
abbrev sBadF : Stmt := topS 41
abbrev nBadF : List Str := ["draw", "functions", "names", "table", "name", "odd", "k", "wrong"]
/-- x is the data d, and stays it whatever is done to what stands at S -/
def DaS (S : List Addr) (H : Hp) (v : V) (d : PyData) : Prop := ∀ H', Kp S H H' → Da H' v d
def DaSs (S : List Addr) (H : Hp) (vs : List V) (ds : List PyData) : Prop := ∀ H', Kp S H H' → DaAll H' vs ds
theorem DaS.da {S : List Addr} {H : Hp} {v : V} {d : PyData} (h : DaS S H v d) : Da H v d := h H (Kp.refl S H)
theorem DaS.kp {S : List Addr} {H H' : Hp} {v : V} {d : PyData} (h : DaS S H v d) (k : Kp S H H') : DaS S H' v d := fun H2 k2 => h H2 (k.trans k2)
theorem DaSs.kp {S : List Addr} {H H' : Hp} {vs : List V} {ds : List PyData} (h : DaSs S H vs ds) (k : Kp S H H') : DaSs S H' vs ds := fun H2 k2 => h H2 (k.trans k2)
theorem DaS.of {S : List Addr} {H : Hp} {v : V} {d : PyData} (h : Da H v d) (ht : tupO d = true) : DaS S H v d := fun H' k => Da.kp k ht h
theorem DaS.tup {S : List Addr} {H : Hp} {a : Addr} {xs : List V} {ds : List PyData} (e : H a = some (.tup xs)) (h : DaSs S H xs ds) : DaS S H (.ref a) (.tuple ds) := fun H' k => .tup (k.2 _ _ e) (h H' k)
theorem DaS.lst {S : List Addr} {H : Hp} {a : Addr} {xs : List V} {ds : List PyData} (e : H a = some (.lst xs)) (ha : a ∉ S) (h : DaSs S H xs ds) : DaS S H (.ref a) (.list ds) := fun H' k => .lst (k.1 _ _ e ha fun _ z => nomatch z) (h H' k)
abbrev EvS (S : List Addr) (d : PyData) (σ : L2.St) (H0 : Hp) (te : TE) : Prop := EvP (fun H v => DaS S H v d) σ H0 te
def EvSs (S : List Addr) (ds : List PyData) (σ : L2.St) (H0 : Hp) (tr : TA) : Prop := ∀ H, Same H0 H → ∀ R : List V → Hp → Prop, (∀ vs H1, Same H H1 → DaSs S H1 vs ds → vs.length = ds.length → R vs H1) → tr σ H R
section
variable {S : List Addr} {σ : L2.St} {H0 : Hp} {te : TE} {tr : TA} {d : PyData} {ds : List PyData}
theorem evs_of (h : EvD d σ H0 te) (ht : tupO d = true) : EvS S d σ H0 te := h.imp fun H v _ hv => .of hv ht
theorem evs_nil : EvSs S [] σ H0 tNil := fun H s R q => q _ _ (Same.refl H) (fun _ _ => .nil) rfl
theorem evs_cons (h : EvS S d σ H0 te) (ht : EvSs S ds σ H0 tr) : EvSs S (d :: ds) σ H0 (tCons te tr) := fun H s R q =>
  h H s _ fun v H1 s1 hv => ht H1 (s.trans s1) _ fun vs H2 s2 hvs hl => q _ _ (s1.trans s2) (fun H' k => .cons (hv H' ((Kp.of s2).trans k)) (hvs H' k)) (by rw [List.length_cons, List.length_cons, hl])
theorem evs_tup (h : EvSs S ds σ H0 tr) (hl : ds.length ≤ 1000) : EvS S (.tuple ds) σ H0 (tTup tr) := fun H s R q =>
  h H s _ fun vs H1 s1 hvs l => ⟨by rw [l]; exact Nat.le_of_lt (small1000 hl), fun p hp => q _ _ (s1.trans (Same.new hp)) (.tup upd_same (hvs.kp (.of (Same.new hp))))⟩
theorem evs_lst (hS : ∀ {H : Hp} {p : Addr}, Same H0 H → H p = none → p ∉ S) (h : EvSs S ds σ H0 tr) (hl : ds.length ≤ 1000) : EvS S (.list ds) σ H0 (tLst tr) := fun H s R q =>
  h H s _ fun vs H1 s1 hvs l => ⟨by rw [l]; exact Nat.le_of_lt (small1000 hl), fun p hp => q _ _ (s1.trans (Same.new hp)) (.lst upd_same (hS (s.trans s1) hp) (hvs.kp (.of (Same.new hp))))⟩
end
/-- a worth that tells nothing -/
def BadW (S : List Addr) (H : Hp) (v : V) : Prop := ∃ d, DaS S H v d ∧ ToldRes d false
theorem BadW.kp {S : List Addr} {H H' : Hp} {v : V} (h : BadW S H v) (k : Kp S H H') : BadW S H' v := by
  obtain ⟨d, h1, h2⟩ := h
  exact ⟨d, h1.kp k, h2⟩
theorem told_kinds {ds : List PyData} {bs : List Bool} {c : PyData} {b : Bool} (h : ds.length ≤ 3) (e : bs.length = ds.length) (hb : ∀ (i : Nat) (d : PyData) (b : Bool), ds[i]? = some d → bs[i]? = some b → KindRes d b) (k : KindRes c b) (z : (bs.all id && b) = false) : ToldRes (.tuple [.tuple ds, c]) false := z ▸ .kinds ds bs c b h e hb k
section
variable {S : List Addr} {σ : L2.St} {H0 : Hp}
theorem badw1 : EvP (BadW S) σ H0 (tC .non) := evd_non.imp fun H v _ h => ⟨_, .of h rfl, .notT rfl⟩
theorem badw2 : EvP (BadW S) σ H0 (tTup tNil) := (evd_tup evd_nil (by simp)).imp fun H v _ h => ⟨_, .of h rfl, .notT rfl⟩
theorem badw3 {a b : Str} : EvP (BadW S) σ H0 (tTup (tCons (tTup tNil) (tCons (tC (.str a)) (tCons (tC (.str b)) tNil)))) :=
  (evd_tup (evd_cons (evd_tup evd_nil (by simp)) (evd_cons evd_str (evd_cons evd_str evd_nil))) (by simp)).imp fun H v _ h => ⟨_, .of h rfl, .notT rfl⟩
theorem badw4 {a : Str} (hS : ∀ {H : Hp} {p : Addr}, Same H0 H → H p = none → p ∉ S) : EvP (BadW S) σ H0 (tLst (tCons (tTup tNil) (tCons (tC (.str a)) tNil))) :=
  (evs_lst hS (evs_cons (evs_of (evd_tup evd_nil (by simp)) rfl) (evs_cons (evs_of evd_str rfl) evs_nil)) (by simp)).imp fun H v _ h => ⟨_, h, .notT rfl⟩
theorem badw5 {a b : Str} (hS : ∀ {H : Hp} {p : Addr}, Same H0 H → H p = none → p ∉ S) : EvP (BadW S) σ H0 (tTup (tCons (tLst (tCons (tC (.str a)) tNil)) (tCons (tC (.str b)) tNil))) :=
  (evs_tup (evs_cons (evs_lst hS (evs_cons (evs_of evd_str rfl) evs_nil) (by simp)) (evs_cons (evs_of evd_str rfl) evs_nil)) (by simp)).imp fun H v _ h => ⟨_, h, .notP _ _ rfl⟩
theorem badw6 : EvP (BadW S) σ H0 (tTup (tCons (tTup tNil) (tCons (tC .non) tNil))) :=
  (evd_tup (evd_cons (evd_tup evd_nil (by simp)) (evd_cons evd_non evd_nil)) (by simp)).imp fun H v _ h => ⟨_, .of h rfl, told_kinds (bs := []) (b := false) (by simp) rfl (by simp) .non rfl⟩
theorem badw7 {a c : Str} {i : Int} (ha : a.length ≤ 100000) (hc : c.length ≤ 100000) : EvP (BadW S) σ H0 (tTup (tCons (tTup (tCons (tC (.str a)) (tCons (tC (.int i)) tNil))) (tCons (tC (.str c)) tNil))) :=
  (evd_tup (evd_cons (evd_tup (evd_cons evd_str (evd_cons evd_int evd_nil)) (by simp)) (evd_cons evd_str evd_nil)) (by simp)).imp fun H v _ h => ⟨_, .of h rfl, told_kinds (bs := [isKindS a, false]) (b := isKindS c) (by simp) rfl (by
    intro i d b h1 h2
    match i with
    | 0 => cases h1; cases h2; exact .str _ ha
    | 1 => cases h1; cases h2; exact .int _
    | i + 2 => simp at h1) (.str _ hc) (by simp)⟩
theorem badw8 {a b c e r : Str} : EvP (BadW S) σ H0 (tTup (tCons (tTup (tCons (tC (.str a)) (tCons (tC (.str b)) (tCons (tC (.str c)) (tCons (tC (.str e)) tNil))))) (tCons (tC (.str r)) tNil))) :=
  (evd_tup (evd_cons (evd_tup (evd_cons evd_str (evd_cons evd_str (evd_cons evd_str (evd_cons evd_str evd_nil)))) (by simp)) (evd_cons evd_str evd_nil)) (by simp)).imp fun H v _ h => ⟨_, .of h rfl, .many _ _ (by simp)⟩
theorem badw9 {a : Str} (ha : a.length ≤ 100000) (hk : isKindS a = false) : EvP (BadW S) σ H0 (tTup (tCons (tTup tNil) (tCons (tC (.str a)) tNil))) :=
  (evd_tup (evd_cons (evd_tup evd_nil (by simp)) (evd_cons evd_str evd_nil)) (by simp)).imp fun H v _ h => ⟨_, .of h rfl, told_kinds (bs := []) (b := isKindS a) (by simp) rfl (by simp) (.str _ ha) (by rw [hk]; rfl)⟩
theorem badw10 {a c : Str} (ha : a.length ≤ 100000) (hc : c.length ≤ 100000) (hk : isKindS a = false) : EvP (BadW S) σ H0 (tTup (tCons (tTup (tCons (tC (.str a)) tNil)) (tCons (tC (.str c)) tNil))) :=
  (evd_tup (evd_cons (evd_tup (evd_cons evd_str evd_nil) (by simp)) (evd_cons evd_str evd_nil)) (by simp)).imp fun H v _ h => ⟨_, .of h rfl, told_kinds (bs := [isKindS a]) (b := isKindS c) (by simp) rfl (by
    intro i d b h1 h2
    match i with
    | 0 => cases h1; cases h2; exact .str _ ha
    | i + 1 => simp at h1) (.str _ hc) (by simp [hk])⟩
end
/-- what Scope refuses as functions, the name told: at every heap that keeps all but S -/
def BadF (P : Program) (w0 : World) (BF : Addr) (S : List Addr) (H : Hp) (fv v : V) : Prop := ∀ H', Kp S H H' → ∀ E : XK, RaiseN BF v H' E → spChk P w0 BF [fv] H' (fun _ _ => False) E
theorem BadF.kp {P : Program} {w0 : World} {BF : Addr} {S : List Addr} {H H' : Hp} {fv v : V} (h : BadF P w0 BF S H fv v) (k : Kp S H H') : BadF P w0 BF S H' fv v := fun H2 k2 => h H2 (k.trans k2)
end SA
set_option Elab.async false
set_option linter.all false
set_option maxRecDepth 100000
set_option maxHeartbeats 4000000
namespace SA
open PySem PySem.Spec PyProof.Rows L2 K1
section
variable {X : Cx}
theorem PSet.or {t t' : TSet} (h : PSet X t) (h' : PSet X t') : PSet X (fun o i v H Q => t o i v H Q ∨ t' o i v H Q) := by
  intro pins s σ H o i v ov iv u Q I ro ri rv q
  rcases q with q | q
  · exact h pins s σ H o i v ov iv u Q I ro ri rv q
  · exact h' pins s σ H o i v ov iv u Q I ro ri rv q
/-- d[y] = v, as a target -/
def rSetD : TSet := fun o i v H Q => ∃ a H', o = .ref a ∧ DPut H a i v H' ∧ Q H'
theorem set_dict (hu : X.A.units + 1 < cLine) : PSet X rSetD := by
  intro pins s σ H o i v ov iv u Q I ro ri rv h
  obtain ⟨a, H', rfl, g, q⟩ := h
  obtain rfl : ov = Value.ref a := ro
  exact wpAny_mono (d_setItem (Q := fun _ s' => Inv X pins σ H' s') hu I g ri rv fun s' I' => I') (fun _ s' I' => ⟨H', I', q⟩) fun _ _ e => e
end
def spBadF (P : Program) (w0 : World) (BF : Addr) : Sp := fun vs H Q _ => ∃ (d w c fa nm : Addr) (n : Nat) (fs : List NFn) (ws : List Str), vs = [.ref d, .ref fa, .ref nm] ∧ DrawAt H d w c n ∧ DictL H fa (fs.map fnE) ∧ (fs.map (·.1)).Nodup ∧ (∀ f ∈ fs, isName f.1 = true ∧ OkF f.2) ∧ fs.length ≤ 40 ∧
  H nm = some (.lst (ws.map V.str)) ∧ 4 ≤ ws.length ∧ ws.Nodup ∧ (∀ x ∈ ws, isName x = true) ∧ (∀ x ∈ ws, x ∉ fs.map (·.1)) ∧ n < 2 ^ 39 ∧
  ∀ (tp : Addr) (fv v : V) (H' : Hp), H' tp = some (.tup [fv, v]) → BadF P w0 BF [d, w] H' fv v → (v = .non ∨ ∃ m, v = .str m ∧ isName m = true) → DrawAt H' d w c (n + 10) → But2 d w H H' → Q (.ref tp) H'
theorem kz_noint : ∀ {ks : List Str} {vs : List V} {i : Int}, valV (kz ks vs) (.inl i) = none
  | [], vs, i => rfl
  | k :: ks, [], i => rfl
  | k :: ks, v :: vs, i => by
    have e : kz (k :: ks) (v :: vs) = ((Sum.inr k : Key), v) :: kz ks vs := rfl
    rw [e, valV_neg (show ¬ ((Sum.inr k : Key) = Sum.inl i) from fun z => by cases z)]
    exact kz_noint
theorem kz_none {k : Str} : ∀ {ks : List Str} {vs : List V}, k ∉ ks → valV (kz ks vs) (.inr k) = none
  | [], vs, _ => rfl
  | k0 :: ks, [], _ => rfl
  | k0 :: ks, v :: vs, h => by
    rw [List.mem_cons, not_or] at h
    have e : kz (k0 :: ks) (v :: vs) = ((Sum.inr k0 : Key), v) :: kz ks vs := rfl
    rw [e, valV_neg (fun z => h.1 (by injection z with z; exact z.symm))]
    exact kz_none h.2
/-- an odd key put -/
theorem put_odd {H : Hp} {es : List (Str × PyData)} {vs : List V} (hd : DaAll H vs (es.map (·.2))) {k : Key} (hk : keyName k = false) (hl : keyLen k) (hn : ∀ p ∈ es, isName p.1 = true) (h40 : es.length ≤ 40) (v : V) :
    (putK (kz (es.map (·.1)) vs) k v).length < 64 ∧ (∀ p ∈ putK (kz (es.map (·.1)) vs) k v, keyLen p.1) ∧ ((putK (kz (es.map (·.1)) vs) k v).all fun p => keyName p.1) = false := by
  have el : (es.map (·.1)).length = vs.length := by rw [hd.len]; simp only [List.length_map]
  have hnone : valV (kz (es.map (·.1)) vs) k = none := by
    cases k with
    | inl i => exact kz_noint
    | inr w =>
      refine (kz_val (k := w) hd).2 (lookup_none_of fun m => ?_)
      obtain ⟨p, hp, rfl⟩ := List.mem_map.mp m
      have := hn p hp
      have hk : isName p.1 = false := hk
      rw [this] at hk
      cases hk
  rw [putK_new _ hnone]
  refine ⟨?_, fun p hp => ?_, ?_⟩
  · rw [List.length_append, kz_len el, List.length_map, List.length_singleton]
    omega
  · rcases List.mem_append.mp hp with hp | hp
    · obtain ⟨i, hi⟩ := List.getElem?_of_mem hp
      obtain ⟨p1, p2⟩ := p
      obtain ⟨w, hw, _, rfl⟩ := kz_get hi
      obtain ⟨q, hq, rfl⟩ := List.mem_map.mp (List.mem_of_getElem? hw)
      exact Nat.le_trans (isName_len (hn q hq)) (by decide)
    · rw [List.mem_singleton.mp hp]
      exact hl
  · rw [List.all_append]
    simp [hk]
section
variable {P : Program} {w0 : World} {K : PySem.W.Frag} {mg : Str → Option Value} {base : Heap} {BF : Addr}
theorem scBadF : FnScope nBadF ["draw", "functions", "names"] (defScope sBadF) := ⟨rfl, rfl, rfl, by decide +kernel, rfl, by decide +kernel, by decide +kernel⟩
theorem ok_badF {f fP fT : Addr} {fd fdP fdT : FuncData} (F : Fun K "_law_bad_functions" "_law_bad_functions" sBadF f fd) (B : Gb mg) (FP : Fun K "_law_pick" "_law_pick" sPick fP fdP) (bP : Binds K fdP ["draw", "some"] []) (gP : mg "_law_pick" = some (.ref fP))
    (GP : FnOk P w0 K mg base CX0 3 fP fdP ["draw", "some"] (spPick K)) (FT : Fun K "_law_take" "_law_take" sTake fT fdT) (bT : Binds K fdT ["draw", "many"] []) (gT : mg "_law_take" = some (.ref fT)) (GT : FnOk P w0 K mg base CX0 2 fT fdT ["draw", "many"] spTake) :
    FnOk P w0 K mg base CX0 4 f fd ["draw", "functions", "names"] (spBadF P w0 BF) := by
  refine F.ok scBadF (fun vs H Q E h => ?_) (fun cdv A outer s H vs Q E hr h => ?_)
  · obtain ⟨d, w, c, fa, nm, n, fs, ws, rfl, _⟩ := h
    rfl
  · obtain ⟨d, w, c, fa, nm, n, fs, ws, rfl, hD, df, ndF, okF, lF, en, l4, ndw, namw, dis, hn, k⟩ := h
    have hr2 := hr.mono (by decide : 2 ≤ 3)
    have hu := hu_of hr
    refine ⟨_, pss_cons (ps_set (i := 3) scBadF.nd rfl (.inl rfl) pe_dnewK)
      (Evl.pss_cut (ps_lock (ps_for PassesOwn.never rfl (pi_keys (pv 1)) (pg_name (i := 4) scBadF.nd rfl (Or.inl rfl)) (pss_one (ps_dput hu (pv 3) (pv 4) (pe_dget hu (pv 1) (pv 4) (fun _ _ => rfl)) rfl))))
      (pss_cons (ps_if (pt_cmpR op_eq (pe_call GT hr2 (by rfl) gT FT.kp bT .nil pass0 (pa_cons (pv 0) (pa_cons pe_int pa_nil))) pe_int (nomark _))
        (pss_cons (ps_asg (pe_tup (pa_cons (pe_tup pa_nil) (pa_cons pe_str pa_nil))) (pg_sub (pv 3) (pe_call GP hr (by rfl) gP FP.kp bP .nil pass0 (pa_cons (pv 0) (pa_cons (pe_lst (pa_cons pe_non (pa_cons pe_int (pa_cons pe_bl (pa_cons pe_str (pa_cons pe_str (pa_cons pe_str pa_nil))))))) pa_nil))) (PSet.or (set_dict hu) set_odd) (fun _ => rfl)))
        (pss_one (ps_ret (pe_tup (pa_cons (pv 3) (pa_cons pe_non pa_nil)))))) pss_nil)
      (Evl.pss_cut (ps_set (i := 5) scBadF.nd rfl (.inl rfl) (pe_lst (pa_cons pe_non (pa_cons (pe_tup pa_nil) (pa_cons (pe_tup (pa_cons (pe_tup pa_nil) (pa_cons pe_str (pa_cons pe_str pa_nil)))) (pa_cons (pe_lst (pa_cons (pe_tup pa_nil) (pa_cons pe_str pa_nil)))
          (pa_cons (pe_tup (pa_cons (pe_lst (pa_cons pe_str pa_nil)) (pa_cons pe_str pa_nil))) (pa_cons (pe_tup (pa_cons (pe_tup pa_nil) (pa_cons pe_non pa_nil))) (pa_cons (pe_tup (pa_cons (pe_tup (pa_cons pe_str (pa_cons pe_int pa_nil))) (pa_cons pe_str pa_nil))) pa_nil)))))))))
      (Evl.pss_cut (ps_set (i := 5) scBadF.nd rfl (.inl rfl) (pe_op op_cat (pv 5) (pe_lst (pa_cons (pe_tup (pa_cons (pe_tup (pa_cons pe_str (pa_cons pe_str (pa_cons pe_str (pa_cons pe_str pa_nil))))) (pa_cons pe_str pa_nil)))
          (pa_cons (pe_tup (pa_cons (pe_tup pa_nil) (pa_cons pe_str pa_nil))) (pa_cons (pe_tup (pa_cons (pe_tup (pa_cons pe_str pa_nil)) (pa_cons pe_str pa_nil))) pa_nil))))))
      (Evl.pss_cut (ps_setLc (i := 7) (own := [("k", 6)]) (g := gName 6) (tt := tYes) (te := tOp (rIxL K) (tVar 2) (tOp (rI0 fun i j => .int (i + j)) (tC (.int 1)) (tVar 6))) (by rfl) scBadF.nd rfl rfl (sw_true rfl rfl rfl (by decide +kernel)) (pi_range1 (by rfl) B.range (pa_cons (pe_op op_add pe_int (pe_call GT hr2 (by rfl) gT FT.kp bT .nil pass0 (pa_cons (pv 0) (pa_cons pe_int pa_nil)))) pa_nil))
          (blkOk_by (N := nBadF) (sc := defScope sBadF) (by decide +kernel)) (fun _ _ _ _ _ => pg_name (i := 6) scBadF.nd rfl (Or.inl rfl)) (fun _ _ _ _ _ => pts_nil) (fun _ _ _ _ _ => pe_ix ix_list (pv 2) (pe_op op_add pe_int (pv 6)) (fun _ _ => rfl)))
      (Evl.pss_cut (ps_for PassesOwn.never rfl (pi_list (pv 7)) (pg_name (i := 4) scBadF.nd rfl (Or.inl rfl)) (pss_one (ps_dput hu (pv 3) (pv 4) (pe_call GP hr (by rfl) gP FP.kp bP .nil pass0 (pa_cons (pv 0) (pa_cons (pv 5) pa_nil))) rfl)))
      (pss_one (ps_ret (pe_tup (pa_cons (pv 3) (pa_cons (pe_callB (call_minS rfl hr.units) (by rfl) B.min (by decide +kernel) (pa_cons (pv 7) pa_nil)) pa_nil))))))))))), ?_⟩
    intro tb htb
    obtain ⟨vs, ef, dv⟩ := id df
    have lvs : vs.length = fs.length := by rw [dv.len]; simp only [List.length_map]
    have nft : fa ≠ tb := ne_of_none ef htb
    have kt := hD.knowD htb
    have s1 : Same H (upd H tb (.dK [])) := Same.new htb
    -- the table: a copy
    refine ⟨fun σ H' => ∃ y4, σ = [some (.ref d), some (.ref fa), some (.ref nm), some (.ref tb), y4, none, none, none] ∧ Same H H' ∧ DictL H' tb (fs.map fnE), ?_, ?_⟩
    · have ef1 := s1 _ _ ef
      have kl : ∀ od, Kp [fa] (upd H tb (.dK [])) (upd (upd H tb (.dK [])) fa (.frz od (.dK (kz ((fs.map fnE).map (·.1)) vs)))) := fun od => Kp.upd ef1 (fun _ z => nomatch z) (by simp)
      refine ⟨fa, _, ef1, trivial, fun od => ?_⟩
      have dvl := DaAll.kp (kl od) (tupOs_fn fs) (dv.same s1)
      have el : (upd (upd H tb (.dK [])) fa (.frz od (.dK (kz ((fs.map fnE).map (·.1)) vs)))) fa = some (.frz od (.dK (kz ((fs.map fnE).map (·.1)) vs))) := upd_same
      have et : (upd (upd H tb (.dK [])) fa (.frz od (.dK (kz ((fs.map fnE).map (·.1)) vs)))) tb = some (.dK []) := by rw [upd_ne nft.symm]; exact upd_same
      have old : ∀ b o, H b = some o → b ≠ fa → (upd (upd H tb (.dK [])) fa (.frz od (.dK (kz ((fs.map fnE).map (·.1)) vs)))) b = some o := fun b o e hb => by rw [upd_ne hb]; exact s1 b o e
      generalize upd (upd H tb (.dK [])) fa (.frz od (.dK (kz ((fs.map fnE).map (·.1)) vs))) = Hl at dvl el et old
      refine ⟨_, rfl, fa, od, rfl, .inl ⟨_, el, for_it walk_keys (fun i σ H' => Kx [tb] Hl H' ∧ DictL H' tb ((fs.map fnE).take i) ∧ ∃ y4, σ = [some (.ref d), some (.ref fa), some (.ref nm), some (.ref tb), y4, none, none, none]) ⟨Kx.refl _ _, ⟨[], et, .nil⟩, none, rfl⟩ (fun i σ H' _ ⟨k, _⟩ => k.keep _ _ el (by simpa using nft)) ?_ ?_⟩⟩
      · rintro i u σ H2 H3 hi ⟨k2, d2, z4, rfl⟩ ⟨rfl, k0, v0, hk0, rfl⟩
        obtain ⟨w0', hw, _, rfl⟩ := kz_get hk0
        rw [List.map_map, List.getElem?_map] at hw
        obtain ⟨f, hf, rfl⟩ := Option.map_eq_some_iff.mp hw
        have mf := List.mem_of_getElem? hf
        obtain ⟨v1, g1, g2⟩ := (kz_val (k := f.1) (DaAll.kp k2.kp (tupOs_fn fs) dvl)).1 (fnD f.2) (lookup_map_some (f := (·.1)) (g := fun f : NFn => fnD f.2) ndF mf)
        obtain ⟨kvs, q1, q2, q3⟩ := d2.putAt (k := f.1) (d := fnD f.2) (v := v1) (by rw [List.getElem?_map, hf]; rfl) (by rw [List.map_map]; exact ndF) (tupOs_fn fs) (by rw [List.length_map]; omega) g2
        refine ⟨_, rfl, _, rfl, fa, v1, rfl, .inl ⟨_, .inr f.1, .inr ⟨od, k2.keep _ _ el (by simpa using nft)⟩, rfl, g1.symm⟩, _, rfl, _, rfl, tb, _, rfl, DPut.k (k := .inr f.1) q1 q2, k2.set q1 (fun _ z => nomatch z) (by simp), q3, _, rfl⟩
      · rintro σ H2 ⟨k2, d2, z4, rfl⟩
        have hfa := k2.keep _ _ el (by simpa using nft)
        refine ⟨hfa, _, rfl, fun b o e => ?_, ?_⟩
        · by_cases hb : b = fa
          · rw [hb] at e ⊢
            rw [upd_same, ← ef, e]
          · rw [upd_ne hb]
            exact k2.keep _ _ (old b o e hb) (by simpa using ne_of_none e htb)
        · have l1 : (kz ((fs.map fnE).map (·.1)) vs).length = (fs.map fnE).length := by
            rw [kz_len (by rw [lvs]; simp only [List.length_map])]
            simp only [List.length_map]
          rw [l1, List.take_of_length_le (Nat.le_refl _)] at d2
          exact d2.kp (Kp.upd (S := [fa]) hfa (fun _ z => nomatch z) (by simp)) (by simpa using nft.symm) (tupOs_fn fs)
    rintro σ H1 ⟨y4, rfl, s1', dt⟩
    have D1 := hD.kp (S := []) (.of s1') (by simp) (by simp) (by simp)
    have ktc : tb ≠ c := by
      obtain ⟨_, _, ⟨cs, e3⟩, _⟩ := hD
      exact (ne_of_none e3 htb).symm
    have nts : tb ∉ [d, w] := by simpa using kt
    refine ⟨_, rfl, d, w, c, n, 4, rfl, D1, by omega, by decide, by decide, fun v H2 v0 v4 D2 b2 => ⟨rfl, _, rfl, ite2 (fun _ => ?_) (fun _ => ?_)⟩⟩
    · -- an odd key
      have k2 : Kp [d, w] H H2 := (Kp.of s1').trans (Kp.of2 D1 b2)
      have b02 : But2 d w H H2 := (But2.of s1').trans b2
      have dt2 := dt.kp (Kp.of2 D1 b2) nts (tupOs_fn fs)
      have ev : EvD (.tuple [.tuple [], .str "number"]) [some (.ref d), some (.ref fa), some (.ref nm), some (.ref tb), y4, none, none, none] H2 (tTup (tCons (tTup tNil) (tCons (tC (.str "number")) tNil))) := evd_tup (evd_cons (evd_tup evd_nil (by simp)) (evd_cons evd_str evd_nil)) (by simp)
      unfold tSeq tAsg
      refine ev H2 (Same.refl _) _ fun val H3 s3 hval => ?_
      have D3 := D2.kp (S := []) (.of s3) (by simp) (by simp) (by simp)
      have dt3 := dt2.same s3
      have k3 := k2.trans (.of s3)
      have b03 := b02.trans (But2.of s3)
      refine ⟨_, rfl, _, rfl, (by show 6 ≤ sizeLine; decide), fun p hp => ?_⟩
      have kp := D3.knowD hp
      refine ⟨d, w, c, p, n + 1, _, rfl, D3.new hp, by omega, kp.1, kp.2, SqL.of upd_same, by simp, by decide, fun x H4 hx D4 b4 => ?_⟩
      have kk4 : Kp [d, w] H3 H4 := (Kp.of (Same.new hp)).trans (Kp.of2 (D3.new hp) b4)
      obtain ⟨us, eu, du⟩ := dt3.kp kk4 nts (tupOs_fn fs)
      have k4 := k3.trans kk4
      have b04 := b03.trans ((But2.of (Same.new hp)).trans b4)
      have lus : us.length = fs.length := by rw [du.len]; simp only [List.length_map]
      have fin : ∀ o : HO, (∀ H', Kp [d, w] (upd H4 tb o) H' → H' tb = some o) → (∀ H', H' tb = some o → ∀ E : XK, RaiseN BF .non H' E → spChk P w0 BF [.ref tb] H' (fun _ _ => False) E) → ∀ (t : Addr), (upd H4 tb o) t = none → Q (.ref t) (upd (upd H4 tb o) t (.tup [.ref tb, .non])) := fun o ho hb t ht => by
        have km : Kp [tb] H4 (upd H4 tb o) := Kp.upd eu (fun _ z => nomatch z) (by simp)
        have st : Same (upd H4 tb o) (upd (upd H4 tb o) t (.tup [.ref tb, .non])) := Same.new ht
        refine k t (.ref tb) .non _ upd_same (fun H' kh E hE => hb H' (ho H' ((Kp.of st).trans kh)) E hE) (.inl rfl) ?_ ((b04.mut htb).trans (But2.of st))
        exact ((D4.kp km (by simpa using kt.1.symm) (by simpa using kt.2.symm) (by simpa using ktc.symm)).kp (S := []) (.of st) (by simp) (by simp) (by simp)).mono (by omega)
      have oddN : ∀ ob (k0 : OK), OddO P w0 ((((fs.map fnE).map (·.1)).zip us).map (fun p => OK.str p.1) ++ [k0]) ob tb → (k0 = .non ∨ k0 = .tru) → ∀ H', H' tb = some (OddD ob tb) → ∀ E : XK, RaiseN BF .non H' E → spChk P w0 BF [.ref tb] H' (fun _ _ => False) E := fun ob k0 O hk H' e E hE =>
        ⟨.ref tb, rfl, .inr (.inl ⟨tb, ob, _, rfl, e, O, ⟨k0, by simp, hk⟩, by
          rw [List.length_append, List.length_map, List.length_zip, List.length_map, List.length_map, List.length_singleton]
          omega, fun w' hw' => by
          rcases List.mem_append.mp hw' with hw' | hw'
          · obtain ⟨q, hq, e⟩ := List.mem_map.mp hw'
            cases e
            have := (List.of_mem_zip hq).1
            rw [List.map_map] at this
            obtain ⟨f0, hf0, e⟩ := List.mem_map.mp this
            rw [← e]
            exact Nat.le_trans (isName_len (okF f0 hf0).1) (by decide)
          · rcases hk with rfl | rfl <;> simp at hw', hE⟩)⟩
      have oddK : ∀ k0 : Key, keyName k0 = false → keyLen k0 → ∀ H', H' tb = some (.dK (putK (kz ((fs.map fnE).map (·.1)) us) k0 val)) → ∀ E : XK, RaiseN BF .non H' E → spChk P w0 BF [.ref tb] H' (fun _ _ => False) E := fun k0 h1 h2 H' e E hE => by
        obtain ⟨q1, q2, q3⟩ := put_odd du h1 h2 (fun p hp => by
          obtain ⟨f0, hf0, rfl⟩ := List.mem_map.mp hp
          exact (okF f0 hf0).1) (by rw [List.length_map]; exact lF) val
        exact ⟨.ref tb, rfl, .inr (.inr (.inl ⟨tb, _, rfl, e, q1, q2, q3, hE⟩))⟩
      have lt : (kz ((fs.map fnE).map (·.1)) us).length < sizeLine := by
        rw [kz_len (by rw [lus]; simp only [List.length_map])]
        simp only [List.length_map]
        exact small1000 (by omega)
      have putK0 : ∀ k0 : Key, keyName k0 = false → keyLen k0 → ∀ t, (upd H4 tb (.dK (putK (kz ((fs.map fnE).map (·.1)) us) k0 val))) t = none → Q (.ref t) (upd (upd H4 tb (.dK (putK (kz ((fs.map fnE).map (·.1)) us) k0 val))) t (.tup [.ref tb, .non])) := fun k0 h1 h2 t ht =>
        fin (.dK (putK (kz ((fs.map fnE).map (·.1)) us) k0 val)) (fun H' kh => kh.1 _ _ upd_same nts (fun _ z => nomatch z)) (oddK k0 h1 h2) t ht
      have putO : ∀ ob (k0 : OK), OddO P w0 ((((fs.map fnE).map (·.1)).zip us).map (fun p => OK.str p.1) ++ [k0]) ob tb → (k0 = .non ∨ k0 = .tru) → ∀ t, (upd H4 tb (OddD ob tb)) t = none → Q (.ref t) (upd (upd H4 tb (OddD ob tb)) t (.tup [.ref tb, .non])) := fun ob k0 O hk t ht =>
        fin (OddD ob tb) (fun H' kh => kh.1 _ _ upd_same nts (fun ps z => nomatch (show HO.ext _ = HO.tbl ps from z))) (oddN ob k0 O hk) t ht
      have lz : (((fs.map fnE).map (·.1)).zip us).length < sizeLine := by
        rw [List.length_zip, lus]
        simp only [List.length_map, Nat.min_self]
        exact small1000 (by omega)
      simp only [List.mem_cons, List.not_mem_nil, or_false] at hx
      rcases hx with rfl | rfl | rfl | rfl | rfl | rfl
      · exact .inr ⟨tb, List.zip ((fs.map fnE).map Prod.fst) us, .non, rfl, eu, .inl rfl, rfl, lz, fun ob O => ⟨_, rfl, (by show 2 ≤ sizeLine; decide), fun t ht => putO ob .non O (.inl rfl) t ht⟩⟩
      · exact .inl ⟨tb, _, rfl, DPut.k (k := .inl 5) eu lt, _, rfl, (by show 2 ≤ sizeLine; decide), fun t ht => putK0 (.inl 5) rfl trivial t ht⟩
      · exact .inr ⟨tb, List.zip ((fs.map fnE).map Prod.fst) us, .tru, rfl, eu, .inr rfl, rfl, lz, fun ob O => ⟨_, rfl, (by show 2 ≤ sizeLine; decide), fun t ht => putO ob .tru O (.inr rfl) t ht⟩⟩
      · exact .inl ⟨tb, _, rfl, DPut.k (k := .inr "") eu lt, _, rfl, (by show 2 ≤ sizeLine; decide), fun t ht => putK0 (.inr "") (by decide +kernel) (by show (Str.ofString "").length ≤ 100000; decide +kernel) t ht⟩
      · exact .inl ⟨tb, _, rfl, DPut.k (k := .inr "Abc") eu lt, _, rfl, (by show 2 ≤ sizeLine; decide), fun t ht => putK0 (.inr "Abc") (by decide +kernel) (by show (Str.ofString "Abc").length ≤ 100000; decide +kernel) t ht⟩
      · exact .inl ⟨tb, _, rfl, DPut.k (k := .inr "while") eu lt, _, rfl, (by show 2 ≤ sizeLine; decide), fun t ht => putK0 (.inr "while") (by decide +kernel) (by show (Str.ofString "while").length ≤ 100000; decide +kernel) t ht⟩
    · -- wrong worths
      have k2 : Kp [d, w] H H2 := (Kp.of s1').trans (Kp.of2 D1 b2)
      have b02 : But2 d w H H2 := (But2.of s1').trans b2
      have dt2 := dt.kp (Kp.of2 D1 b2) nts (tupOs_fn fs)
      have hS : ∀ {H' : Hp} {p : Addr}, Same H2 H' → H' p = none → p ∉ [d, w, tb] := fun {H' p} s hp => by
        have h1 := (D2.kp (S := []) (.of s) (by simp) (by simp) (by simp)).knowD hp
        obtain ⟨us, eu, _⟩ := dt2
        have h2 := ne_of_none (s _ _ eu) hp
        simp only [List.mem_cons, List.not_mem_nil, or_false, not_or]
        exact ⟨h1.1, h1.2, h2.symm⟩
      have st : ∀ {H H' : Hp} {v : V}, Same H H' → BadW [d, w, tb] H v → BadW [d, w, tb] H' v := fun s h => h.kp (.of s)
      refine ⟨fun σ H' => ∃ (p : Addr) (os : List V), σ = [some (.ref d), some (.ref fa), some (.ref nm), some (.ref tb), y4, some (.ref p), none, none] ∧ Same H2 H' ∧ H' p = some (.lst os) ∧ os.length = 7 ∧ ∀ o ∈ os, BadW [d, w, tb] H' o, ?_, ?_⟩
      · have all : EvP _ [some (.ref d), some (.ref fa), some (.ref nm), some (.ref tb), y4, none, none, none] H2 (tLst _) := evp_lst (Pd := BadW [d, w, tb]) st (evp_cons (Pd := BadW [d, w, tb]) st badw1 (evp_cons (Pd := BadW [d, w, tb]) st badw2 (evp_cons (Pd := BadW [d, w, tb]) st (badw3 (a := "number") (b := "number")) (evp_cons (Pd := BadW [d, w, tb]) st (badw4 (a := "number") hS) (evp_cons (Pd := BadW [d, w, tb]) st (badw5 (a := "number") (b := "number") hS)
            (evp_cons (Pd := BadW [d, w, tb]) st badw6 (evp_cons (Pd := BadW [d, w, tb]) st (badw7 (a := "number") (c := "truth") (i := 5) (by decide +kernel) (by decide +kernel)) evp_nil))))))) (by decide)
        refine all H2 (Same.refl _) _ fun v H3 s3 hv => ?_
        obtain ⟨p, vs', rfl, ep, hl, hvs, _⟩ := hv
        exact ⟨p, vs', rfl, s3, ep, hl, hvs⟩
      rintro σ H3 ⟨p3, os3, rfl, s3, ep3, l3, bad3⟩
      refine ⟨fun σ H' => ∃ (p : Addr) (os : List V), σ = [some (.ref d), some (.ref fa), some (.ref nm), some (.ref tb), y4, some (.ref p), none, none] ∧ Same H3 H' ∧ H' p = some (.lst os) ∧ os.length = 10 ∧ (∀ o ∈ os, BadW [d, w, tb] H' o) ∧ Out H3 p, ?_, ?_⟩
      · have all : EvP _ [some (.ref d), some (.ref fa), some (.ref nm), some (.ref tb), y4, some (.ref p3), none, none] H3 (tOp rCat (tVar 5) (tLst _)) := evp_cats (Pd := BadW [d, w, tb]) (i := 5) (m := 7) st rfl ep3 bad3 l3 (by decide) (evp_cons (Pd := BadW [d, w, tb]) st (badw8 (a := "number") (b := "number") (c := "number") (e := "number") (r := "number")) (evp_cons (Pd := BadW [d, w, tb]) st (badw9 (a := "Abc") (by decide +kernel) (by decide +kernel))
            (evp_cons (Pd := BadW [d, w, tb]) st (badw10 (a := "while") (c := "number") (by decide +kernel) (by decide +kernel) (by decide +kernel)) evp_nil)))
        refine all H3 (Same.refl _) _ fun v H4 s4 hv => ?_
        obtain ⟨p, vs', rfl, ep, hl, hvs, ho⟩ := hv
        exact ⟨p, vs', rfl, s4, ep, hl, hvs, ho⟩
      rintro σ H4 ⟨oa, os, rfl, s4, eo, lo, bad, ou⟩
      have s24 := s3.trans s4
      have D4 := D2.kp (S := []) (.of s24) (by simp) (by simp) (by simp)
      have k4 := k2.trans (.of s24)
      have b04 := b02.trans (But2.of s24)
      have dt4 := dt2.same s24
      have D3 := D2.kp (S := []) (.of s3) (by simp) (by simp) (by simp)
      have no : oa ≠ d ∧ oa ≠ w := by
        obtain ⟨⟨r, t, _, _, e1⟩, ⟨zs, e2⟩, _, _⟩ := D3
        exact ⟨fun z => ou _ _ e1 (fun _ z => nomatch z) z.symm, fun z => ou _ _ e2 (fun _ z => nomatch z) z.symm⟩
      have not_ : oa ≠ tb := by
        obtain ⟨us, eu, _⟩ := dt2.same s3
        exact fun z => ou _ _ eu (fun _ z => nomatch z) z.symm
      have enN : nm ≠ d ∧ nm ≠ w := by
        obtain ⟨x0, hx0⟩ : ∃ x0, ws[0]? = some x0 := ⟨ws[0]'(by omega), List.getElem?_eq_getElem (by omega)⟩
        exact hD.neL en (x := .str x0) (List.mem_map_of_mem (List.mem_of_getElem? hx0)) fun i z => nomatch z
      have en4 : H4 nm = some (.lst (ws.map V.str)) := k4.1 _ _ en (by simpa using enN) fun _ z => nomatch z
      -- the wrong names
      refine ⟨fun σ H' => ∃ (wa : Addr) (q : Nat), 1 ≤ q ∧ q ≤ 2 ∧ σ = [some (.ref d), some (.ref fa), some (.ref nm), some (.ref tb), y4, some (.ref oa), none, some (.ref wa)] ∧ DrawAt H' d w c (n + 2) ∧ But2 d w H4 H' ∧ H' wa = some (.lst (((ws.drop 1).take q).map V.str)) ∧ wa ∉ [d, w, tb], ?_, ?_⟩
      · refine ⟨_, rfl, d, w, c, n + 1, 2, rfl, D4, by omega, by decide, by decide, fun u H5 u0 u2 D5 b5 => ⟨_, _, rfl, rfl, 1 + u, rfl, by omega, (by have h62 : (10 : Int) < 2 ^ 62 := (by decide); omega), fun wa hwa => ?_⟩⟩
        obtain ⟨q, hq, h1, h2⟩ : ∃ q : Nat, (1 + u).toNat = q ∧ 1 ≤ q ∧ q ≤ 2 := ⟨(1 + u).toNat, rfl, by omega, by omega⟩
        rw [hq]
        have k5 : Kp [d, w] H4 H5 := Kp.of2 D4 b5
        have en5 := k5.1 _ _ en4 (by simpa using enN) fun _ z => nomatch z
        have kw := D5.knowD hwa
        have kwt : wa ≠ tb := by
          obtain ⟨us, eu, _⟩ := dt4.kp k5 nts (tupOs_fn fs)
          exact (ne_of_none eu hwa).symm
        refine lc_range (lo := 0) (n := q) (fun j H' => Same H5 H' ∧ H' wa = some (.lst (((ws.drop 1).take j).map V.str))) ⟨Same.new hwa, by rw [upd_same]; rfl⟩ ?_ ?_
        · rintro j H6 hj ⟨s6, e6⟩
          obtain ⟨x, hx⟩ : ∃ x, ws[1 + j]? = some x := ⟨ws[1 + j]'(by omega), List.getElem?_eq_getElem (by omega)⟩
          have ix : (1 : Int) + (0 + (j : Int)) = ((1 + j : Nat) : Int) := by omega
          refine ⟨rfl, yes ⟨_, rfl, _, rfl, _, _, rfl, rfl, nm, ws.map V.str, _, .str x, rfl, rfl, SqL.of (s6 _ _ en5), ?_, _, e6, ?_, fun b o e => ?_, ?_⟩⟩
          · rw [ix]
            exact atI_nat (by rw [List.getElem?_map, hx]; rfl)
          · rw [List.length_map, List.length_take]
            exact small1000 (by omega)
          · rw [upd_ne (ne_of_none e hwa)]
            exact s6 b o e
          · rw [upd_same, List.take_add_one, List.getElem?_drop, hx, List.map_append]
            rfl
        · rintro H6 ⟨s6, e6⟩
          exact ⟨wa, q, h1, h2, rfl, D5.kp (S := []) (.of s6) (by simp) (by simp) (by simp), b5.trans (But2.of s6), e6, by simp only [List.mem_cons, List.not_mem_nil, or_false, not_or]; exact ⟨kw.1, kw.2, kwt⟩⟩
      rintro σ H5 ⟨wa, q, q1, q2, rfl, D5, b45, ew, nw⟩
      have k45 : Kp [d, w] H4 H5 := Kp.of2 D4 b45
      have b05 := b04.trans b45
      obtain ⟨W, hW⟩ : ∃ W, W = (ws.drop 1).take q := ⟨_, rfl⟩
      rw [← hW] at ew
      have lW : W.length = q := by rw [hW, List.length_take, List.length_drop]; omega
      have subW : List.Sublist W ws := hW ▸ (List.take_sublist _ _).trans (List.drop_sublist _ _)
      have ndW : W.Nodup := subW.nodup ndw
      have k5 := k4.trans k45
      obtain ⟨us, eu, du⟩ := dt4.kp k45 nts (tupOs_fn fs)
      have lus : us.length = fs.length := by rw [du.len]; simp only [List.length_map]
      have eo5 : H5 oa = some (.lst os) := k45.1 _ _ eo (by simpa using no) fun _ z => nomatch z
      have bad5 : ∀ o ∈ os, BadW [d, w, tb] H5 o := fun o ho => (bad o ho).kp (k45.mono (by intro x hx; simp only [List.mem_cons, List.not_mem_nil, or_false] at hx ⊢; rcases hx with h | h <;> simp [h]))
      have noo : oa ∉ [d, w, tb] := by simp only [List.mem_cons, List.not_mem_nil, or_false, not_or]; exact ⟨no.1, no.2, not_⟩
      have mono3 : ∀ {Ha Hb : Hp}, Kp [d, w] Ha Hb → Kp [d, w, tb] Ha Hb := fun h => h.mono (by intro x hx; simp only [List.mem_cons, List.not_mem_nil, or_false] at hx ⊢; rcases hx with h | h <;> simp [h])
      refine ⟨fun σ H' => ∃ y4 bs, σ = [some (.ref d), some (.ref fa), some (.ref nm), some (.ref tb), y4, some (.ref oa), none, some (.ref wa)] ∧ DrawAt H' d w c (n + 2 + 2) ∧ Kp [d, w, tb] H5 H' ∧ But2 d w H H' ∧ H' tb = some (.dK (kz (fs.map (·.1) ++ W) (us ++ bs))) ∧ bs.length = W.length ∧ ∀ b ∈ bs, BadW [d, w, tb] H' b, ?_, ?_⟩
      · refine ⟨_, rfl, wa, rfl, ⟨_, SqL.of ew⟩, for_list (K := K) (a := wa) (xs := W.map V.str) (fun i σ H' => ∃ y4 bs, σ = [some (.ref d), some (.ref fa), some (.ref nm), some (.ref tb), y4, some (.ref oa), none, some (.ref wa)] ∧ DrawAt H' d w c (n + 2 + i) ∧ Kp [d, w, tb] H5 H' ∧ But2 d w H H' ∧ H' tb = some (.dK (kz (fs.map (·.1) ++ W.take i) (us ++ bs))) ∧ bs.length = i ∧ ∀ b ∈ bs, BadW [d, w, tb] H' b)
          ⟨_, [], rfl, D5, Kp.refl _ _, b05, ?_, rfl, by simp⟩ (fun i σ H' _ ⟨_, _, _, _, k, _⟩ => SqL.of (k.1 _ _ ew nw fun _ z => nomatch z)) ?_ ?_⟩
        · have e : (fs.map fnE).map (·.1) = fs.map (·.1) := by
            rw [List.map_map]
            rfl
          rw [List.take_zero, List.append_nil, List.append_nil, ← e]
          exact eu
        · rintro i x σ H6 hx ⟨z4, bs, rfl, D6, k6, k06, e6, lb, hb⟩
          rw [List.getElem?_map] at hx
          obtain ⟨m, hm, rfl⟩ := Option.map_eq_some_iff.mp hx
          have hi : i < W.length := (List.getElem?_eq_some_iff.mp hm).1
          have eo6 : H6 oa = some (.lst os) := k6.1 _ _ eo5 noo fun _ z => nomatch z
          have hnew : m ∉ fs.map (·.1) ++ W.take i := by
            intro z
            rcases List.mem_append.mp z with z | z
            · exact dis m (subW.subset (List.mem_of_getElem? hm)) z
            · have n2 : (W.take (i + 1)).Nodup := (List.take_sublist _ _).nodup ndW
              rw [List.take_add_one, hm] at n2
              exact (List.nodup_append.mp n2).2.2 m z m (by simp) rfl
          have lks : (fs.map (·.1) ++ W.take i).length = (us ++ bs).length := by
            simp only [List.length_append, List.length_map, List.length_take, lus, lb]
            omega
          refine ⟨_, rfl, _, rfl, d, w, c, oa, n + 2 + i, os, rfl, D6, by omega, no.1, no.2, SqL.of eo6, (fun z => by rw [z] at lo; cases lo), (by rw [lo]; decide), fun y H7 hy D7 b7 => ?_⟩
          have k67 : Kp [d, w] H6 H7 := Kp.of2 D6 b7
          have e7 := k67.1 _ _ e6 nts fun _ z => nomatch z
          have km : Kp [tb] H7 (upd H7 tb (.dK (putK (kz (fs.map (·.1) ++ W.take i) (us ++ bs)) (.inr m) y))) := Kp.upd e7 (fun _ z => nomatch z) (by simp)
          have km3 : Kp [d, w, tb] H7 (upd H7 tb (.dK (putK (kz (fs.map (·.1) ++ W.take i) (us ++ bs)) (.inr m) y))) := km.mono (by simp)
          refine ⟨_, rfl, _, rfl, tb, _, rfl, DPut.k (k := .inr m) e7 ?_, _, bs ++ [y], rfl, D7.kp km (by simpa using kt.1.symm) (by simpa using kt.2.symm) (by simpa using ktc.symm), (k6.trans (mono3 k67)).trans km3, (k06.trans b7).mut htb, ?_, by rw [List.length_append, lb]; rfl, fun b hb' => ?_⟩
          · rw [kz_len lks]
            simp only [List.length_append, List.length_map, List.length_take]
            exact small1000 (by omega)
          · rw [upd_same, putK_new _ (kz_none hnew), List.take_add_one, hm, ← List.append_assoc, ← List.append_assoc]
            show some (HO.dK _) = some (HO.dK (kz (fs.map (·.1) ++ W.take i ++ [m]) (us ++ bs ++ [y])))
            rw [kz_snoc lks]
          · rcases List.mem_append.mp hb' with hb' | hb'
            · exact ((hb b hb').kp (mono3 k67)).kp km3
            · rw [List.mem_singleton.mp hb']
              have hyo := bad5 y hy
              exact ((hyo.kp k6).kp (mono3 k67)).kp km3
        · rintro σ H6 ⟨z4, bs, rfl, D6, k6, k06, e6, lb, hb⟩
          rw [List.length_map] at D6 e6 lb
          rw [List.take_of_length_le (Nat.le_refl _)] at e6
          exact ⟨_, bs, rfl, D6.mono (by omega), k6, k06, e6, lb, hb⟩
      rintro σ H6 ⟨y4', bs, rfl, D6, k6, k06, et6, lb, badb⟩
      have ew6 : H6 wa = some (.lst (W.map V.str)) := k6.1 _ _ ew nw fun _ z => nomatch z
      obtain ⟨z, zs, rfl⟩ : ∃ z zs, W = z :: zs := by
        cases W with
        | nil => simp at lW; omega
        | cons z zs => exact ⟨z, zs, rfl⟩
      refine ⟨_, rfl, _, rfl, wa, z, zs, rfl, SqL.of ew6, fun m hm hle => ⟨(by show 2 ≤ sizeLine; decide), fun t ht => ?_⟩⟩
      have st6 : Same H6 (upd H6 t (.tup [.ref tb, .str m])) := Same.new ht
      refine k t (.ref tb) (.str m) _ upd_same (fun H' kh E hE => ?_) (.inr ⟨m, rfl, namw _ (subW.subset hm)⟩) ((D6.kp (S := []) (.of st6) (by simp) (by simp) (by simp)).mono (by omega)) (k06.trans (But2.of st6))
      have kk : Kp [d, w] H6 H' := (Kp.of st6).trans kh
      have e' : H' tb = some (.dK (kz (fs.map (·.1) ++ (z :: zs)) (us ++ bs))) := kk.1 _ _ et6 nts fun _ z => nomatch z
      have lks : (fs.map (·.1) ++ (z :: zs)).length = (us ++ bs).length := by
        rw [List.length_append, List.length_append, List.length_map, lus, lb]
      have du' : DaAll H' us ((fs.map fnE).map (·.2)) := DaAll.kp ((mono3 kk)) (tupOs_fn fs) (DaAll.kp k6 (tupOs_fn fs) du)
      have bad' : ∀ b ∈ bs, BadW [d, w, tb] H' b := fun b hb => (badb b hb).kp (mono3 kk)
      have ndK : (fs.map (·.1) ++ (z :: zs)).Nodup := List.nodup_append.mpr ⟨ndF, ndW, fun a ha b hb e => dis b (subW.subset hb) (e ▸ ha)⟩
      have mz : (List.zip (fs.map (·.1) ++ (z :: zs)) (us ++ bs)).map Prod.fst = fs.map (·.1) ++ (z :: zs) := List.map_fst_zip (Nat.le_of_eq lks)
      have mem1 : ∀ p ∈ List.zip (fs.map (·.1) ++ (z :: zs)) (us ++ bs), p.1 ∈ fs.map (·.1) ++ (z :: zs) := fun p hp => (List.of_mem_zip hp).1
      refine ⟨.ref tb, rfl, .inr (.inr (.inr ⟨tb, List.zip (fs.map (·.1) ++ (z :: zs)) (us ++ bs), rfl, e', ?_, ?_, fun p hp => ?_, fun w => decide (w ∈ fs.map (·.1)), fun p hp => ?_, fun hall => ?_, fun p hp hb hq => ?_⟩))⟩
      · rw [List.length_zip, ← lks, Nat.min_self, List.length_append, List.length_map, lW]
        omega
      · rw [mz]
        exact ndK
      · rcases List.mem_append.mp (mem1 p hp) with h | h
        · obtain ⟨f0, hf0, e⟩ := List.mem_map.mp h
          rw [← e]
          exact (okF f0 hf0).1
        · exact namw _ (subW.subset h)
      · obtain ⟨i, hi⟩ := List.getElem?_of_mem hp
        rw [List.getElem?_zip_eq_some] at hi
        by_cases hlt : i < fs.length
        · obtain ⟨h1, h2⟩ := hi
          rw [List.getElem?_append_left (by simpa using hlt), List.getElem?_map] at h1
          rw [List.getElem?_append_left (by rw [lus]; exact hlt)] at h2
          obtain ⟨f0, hf0, e⟩ := Option.map_eq_some_iff.mp h1
          obtain ⟨d0, hd0, hda⟩ := du'.get h2
          rw [List.getElem?_map, List.getElem?_map, hf0] at hd0
          cases hd0
          have hm : p.1 ∈ fs.map (·.1) := e ▸ List.mem_map_of_mem (List.mem_of_getElem? hf0)
          refine ⟨_, hda, ?_⟩
          show ToldRes (fnD f0.2) (decide (p.1 ∈ fs.map (·.1)))
          rw [decide_eq_true hm]
          exact (okF f0 (List.mem_of_getElem? hf0)).2.res'
        · obtain ⟨h1, h2⟩ := hi
          rw [List.getElem?_append_right (by simpa using hlt)] at h1
          rw [List.getElem?_append_right (by rw [lus]; omega)] at h2
          have hm : p.1 ∉ fs.map (·.1) := dis p.1 (subW.subset (List.mem_of_getElem? h1))
          obtain ⟨d0, g1, g2⟩ := bad' p.2 (List.mem_of_getElem? h2)
          refine ⟨d0, g1.da, ?_⟩
          show ToldRes d0 (decide (p.1 ∈ fs.map (·.1)))
          rw [decide_eq_false hm]
          exact g2
      · have hz : z ∈ (List.zip (fs.map (·.1) ++ (z :: zs)) (us ++ bs)).map Prod.fst := by
          rw [mz]
          simp
        obtain ⟨p, hp, e⟩ := List.mem_map.mp hz
        have := of_decide_eq_true (hall p hp)
        rw [e] at this
        exact absurd this (dis z (subW.subset (List.mem_cons_self ..)))
      · have hpW : p.1 ∈ z :: zs := by
          rcases List.mem_append.mp (mem1 p hp) with h | h
          · have hb : decide (p.1 ∈ fs.map (·.1)) = false := hb
            rw [decide_eq_true h] at hb
            cases hb
          · exact h
        have hmz : m ∈ (List.zip (fs.map (·.1) ++ (z :: zs)) (us ++ bs)).map Prod.fst := by
          rw [mz]
          exact List.mem_append_right _ hm
        obtain ⟨q, hq1, e⟩ := List.mem_map.mp hmz
        have : p.1 = m := by
          rcases hq q hq1 with h | h
          · rw [e] at h
            exact leS_anti h (hle p.1 hpW)
          · have := of_decide_eq_true h
            rw [e] at this
            exact absurd this (dis m (subW.subset hm))
        rw [this]
        exact hE
end
end SA
set_option Elab.async false
set_option linter.all false
set_option maxRecDepth 100000
set_option maxHeartbeats 8000000
namespace SA
open PySem PySem.Spec PyProof.Rows L2 K1
/-! ### orders of the same things -/
/-- a permutation of what a function makes is made of a permutation -/
theorem perm_map {α β : Type} {f : α → β} : ∀ {bs : List α} {zs : List β}, zs.Perm (bs.map f) → ∃ bs' : List α, bs'.Perm bs ∧ zs = bs'.map f
  | [], zs, h => ⟨[], .refl _, by rw [List.map_nil] at h; rw [List.Perm.eq_nil h]; rfl⟩
  | b :: bs, zs, h => by
    rw [List.map_cons] at h
    have hm : f b ∈ zs := h.mem_iff.mpr (List.mem_cons_self ..)
    obtain ⟨s, t, rfl⟩ := List.append_of_mem hm
    have h2 : (s ++ t).Perm (bs.map f) := (List.perm_cons (f b)).mp ((List.perm_middle.symm).trans h)
    obtain ⟨cs, hc, e⟩ := perm_map h2
    obtain ⟨c1, c2, rfl, e1, e2⟩ := List.map_eq_append_iff.mp e.symm
    refine ⟨c1 ++ b :: c2, List.perm_middle.trans (.cons b hc), ?_⟩
    rw [List.map_append, List.map_cons, e1, e2]
/-- sorted by different names, the order before does not matter -/
theorem sort_uniq {α : Type} {nm : α → Str} {l m : List α} (p : l.Perm m) (nd : (l.map nm).Nodup) : (l.mergeSort fun a b => leS (nm a) (nm b)) = m.mergeSort fun a b => leS (nm a) (nm b) := by
  have s1 : ∀ k : List α, (k.mergeSort fun a b => leS (nm a) (nm b)).Pairwise fun a b => leS (nm a) (nm b) = true := fun k =>
    List.pairwise_mergeSort (le := fun a b : α => leS (nm a) (nm b)) (fun a b c => leS_trans (nm a) (nm b) (nm c)) (fun a b => leS_total (nm a) (nm b)) k
  refine List.Perm.eq_of_pairwise (le := fun a b => leS (nm a) (nm b) = true) (fun a b ha hb h1 h2 => ?_) (s1 l) (s1 m) (((List.mergeSort_perm _ _).trans p).trans (List.mergeSort_perm _ _).symm)
  have ea := (List.mergeSort_perm l _).mem_iff.mp ha
  have eb := p.mem_iff.mpr ((List.mergeSort_perm m _).mem_iff.mp hb)
  have en := leS_anti h1 h2
  obtain ⟨i, hi⟩ := List.getElem?_of_mem ea
  obtain ⟨j, hj⟩ := List.getElem?_of_mem eb
  have : i = j := by
    have h1 : (l.map nm)[i]? = some (nm a) := by rw [List.getElem?_map, hi]; rfl
    have h2 : (l.map nm)[j]? = some (nm a) := by rw [List.getElem?_map, hj, en]; rfl
    have hil : i < (l.map nm).length := (List.getElem?_eq_some_iff.mp h1).1
    exact (List.getElem?_inj hil nd).mp (h1.trans h2.symm)
  subst this
  rw [hi] at hj
  exact Option.some.inj hj
theorem sortD_uniq {L M : List Dcl} (p : L.Perm M) (nd : (L.flatMap Dcl.names).Nodup) : sortD L = sortD M := sort_uniq (nm := Dcl.name) p (nodup_dnames nd)
theorem sortF_uniq {l m : List NFn} (p : l.Perm m) (nd : (l.map (·.1)).Nodup) : sortF l = sortF m := sort_uniq (nm := fun f : NFn => f.1) p nd
end SA
set_option Elab.async false
set_option linter.all false
set_option maxRecDepth 100000
set_option maxHeartbeats 4000000
namespace SA
open PySem PySem.Spec PyProof.Rows L2 K1
/-! ### statements one behind another, from a word to a word -/
def Trip (X : Cx) (st : Stmt) (A B : L2.St → Hp → Prop) : Prop := ∃ t, PS X st t ∧ ∀ D σ H, A σ H → (∀ σ' H', B σ' H' → D.nx σ' H') → t D σ H
def Trips (X : Cx) (sts : List Stmt) (A B : L2.St → Hp → Prop) : Prop := ∃ t, PSs X sts t ∧ ∀ D σ H, A σ H → (∀ σ' H', B σ' H' → D.nx σ' H') → t D σ H
theorem Trips.nil {X : Cx} {A : L2.St → Hp → Prop} : Trips X [] A A := ⟨_, pss_nil, fun D σ H a k => k σ H a⟩
theorem Trips.cons {X : Cx} {st : Stmt} {rest : List Stmt} {A B C : L2.St → Hp → Prop} (h1 : Trip X st A B) (h2 : Trips X rest B C) : Trips X (st :: rest) A C := by
  obtain ⟨t, p, q⟩ := h1
  obtain ⟨u, r, s⟩ := h2
  exact ⟨_, pss_cons p r, fun D σ H a k => q _ σ H a fun σ' H' b => s D σ' H' b k⟩
theorem Trip.mk {X : Cx} {st : Stmt} {A B : L2.St → Hp → Prop} {t : TS} (h : PS X st t) (k : ∀ D σ H, A σ H → (∀ σ' H', B σ' H' → D.nx σ' H') → t D σ H) : Trip X st A B := ⟨t, h, k⟩
theorem But2.kp {d w c : Addr} {n : Nat} {H H' : Hp} (h : DrawAt H d w c n) (b : But2 d w H H') : Kp [d, w] H H' := Kp.of2 h b
/-- an object is made: nothing that stood is touched -/
theorem kp_make {H H' : Hp} {x dx C : Addr} (h1 : H x = none) (h2 : H dx = none) (k : Kp [x] (upd (upd H dx (.own x)) x (.ins C dx [])) H') : Kp [] H H' := by
  have s : Same H (upd (upd H dx (.own x)) x (.ins C dx [])) := fun b o e => by
    rw [upd_ne (ne_of_none e h1), upd_ne (ne_of_none e h2)]
    exact e
  exact ⟨fun b o e _ t => k.1 b o (s b o e) (by simpa using ne_of_none e h1) t, fun b xs e => k.2 b xs (s b _ e)⟩
theorem tabs_make {T : List (Addr × Str)} {H : Hp} {x dx C : Addr} (h1 : H x = none) (h2 : H dx = none) (t : LamX.Tabs T H) : LamX.Tabs T (upd (upd H dx (.own x)) x (.ins C dx [])) := t.ext fun b o e => by
  rw [upd_ne (ne_of_none e h1), upd_ne (ne_of_none e h2)]
  exact e
/-- what the turn's facts are about -/
structure TF (q : Nat) (ws : List Str) (L : List Dcl) (fs : List NFn) : Prop where
  okL : ∀ D ∈ L, D.Ok
  l1 : 1 ≤ L.length
  l4 : L.length ≤ 4
  nd : (L.flatMap Dcl.names ++ ws).Nodup
  nam : ∀ x ∈ ws, isName x = true
  okF : ∀ f ∈ fs, isName f.1 = true ∧ OkF f.2
  ndF : (fs.map (·.1)).Nodup
  lF : fs.length ≤ 3
  dis : ∀ x ∈ ws, x ∉ fs.map (·.1)
  lw : q ≤ ws.length
/-- the names, the declarations and the functions as they stand -/
structure TW (T : List (Addr × Str)) (d w c nm ka fa : Addr) (n : Nat) (ws : List Str) (xs : List V) (L : List Dcl) (fs : List NFn) (H : Hp) : Prop where
  draw : DrawAt H d w c n
  nmE : H nm = some (.lst (ws.map V.str))
  kaE : H ka = some (.lst xs)
  kaD : DaAll H xs (L.map Dcl.d)
  faD : DictL H fa (fs.map fnE)
  tabs : LamX.Tabs T H
  nmN : nm ≠ d ∧ nm ≠ w ∧ nm ≠ c
  kaN : ka ≠ d ∧ ka ≠ w ∧ ka ≠ c ∧ ka ≠ nm
  faN : fa ≠ d ∧ fa ≠ w ∧ fa ≠ c ∧ fa ≠ nm ∧ fa ≠ ka
section
variable {T : List (Addr × Str)} {d w c nm ka fa : Addr} {n m : Nat} {ws : List Str} {xs : List V} {L : List Dcl} {fs : List NFn} {H H' : Hp}
theorem TW.kp {S : List Addr} (h : TW T d w c nm ka fa n ws xs L fs H) (k : Kp S H H') (t : LamX.Tabs T H') (h1 : d ∉ S) (h2 : w ∉ S) (h3 : c ∉ S) (h4 : nm ∉ S) (h5 : ka ∉ S) (h6 : fa ∉ S) : TW T d w c nm ka fa n ws xs L fs H' :=
  ⟨h.draw.kp k h1 h2 h3, k.1 _ _ h.nmE h4 (fun _ z => nomatch z), k.1 _ _ h.kaE h5 (fun _ z => nomatch z), DaAll.kp k (tupOs_dcls L) h.kaD, h.faD.kp k h6 (tupOs_fn fs), t, h.nmN, h.kaN, h.faN⟩
theorem TW.kp0 (h : TW T d w c nm ka fa n ws xs L fs H) (k : Kp [] H H') (t : LamX.Tabs T H') : TW T d w c nm ka fa n ws xs L fs H' := h.kp k t (by simp) (by simp) (by simp) (by simp) (by simp) (by simp)
theorem TW.same (h : TW T d w c nm ka fa n ws xs L fs H) (s : Same H H') : TW T d w c nm ka fa n ws xs L fs H' := h.kp0 (.of s) (h.tabs.ext s)
theorem TW.extn (h : TW T d w c nm ka fa n ws xs L fs H) (s : LamX.ExtN H H') (t : LamX.Tabs T H') : TW T d w c nm ka fa n ws xs L fs H' := h.kp0 (.ext s) t
theorem TW.drew (h : TW T d w c nm ka fa n ws xs L fs H) (D : DrawAt H' d w c m) (b : But2 d w H H') : TW T d w c nm ka fa m ws xs L fs H' := by
  have k := b.kp h.draw
  exact ⟨D, b _ _ h.nmE h.nmN.1 h.nmN.2.1, b _ _ h.kaE h.kaN.1 h.kaN.2.1, DaAll.kp k (tupOs_dcls L) h.kaD, h.faD.kp k (by simpa using ⟨h.faN.1, h.faN.2.1⟩) (tupOs_fn fs), tabs_but2 h.tabs h.draw b, h.nmN, h.kaN, h.faN⟩
theorem TW.mono (h : TW T d w c nm ka fa n ws xs L fs H) (hn : n ≤ m) : TW T d w c nm ka fa m ws xs L fs H := { h with draw := h.draw.mono hn }
/-- what is new is none of these -/
theorem TW.fresh {q : Addr} (h : TW T d w c nm ka fa n ws xs L fs H) (hq : H q = none) : q ∉ [d, w, c, nm, ka, fa] := by
  obtain ⟨⟨r, t, _, _, e1⟩, ⟨zs, e2⟩, ⟨cs', e3⟩, _⟩ := h.draw
  obtain ⟨us, e4, _⟩ := h.faD
  simp only [List.mem_cons, List.not_mem_nil, or_false, not_or]
  exact ⟨(ne_of_none e1 hq).symm, (ne_of_none e2 hq).symm, (ne_of_none e3 hq).symm, (ne_of_none h.nmE hq).symm, (ne_of_none h.kaE hq).symm, (ne_of_none e4 hq).symm⟩
/-- an object of one's own is changed -/
theorem TW.mut {q : Addr} {o o' : HO} (h : TW T d w c nm ka fa n ws xs L fs H) (hq : q ∉ [d, w, c, nm, ka, fa]) (e : H q = some o') (hn : ∀ xs, o' ≠ .tup xs) (h6 : ∀ ps, o' ≠ .tbl ps := by intro _ z; cases z) (h7 : ∀ φ, o' ≠ .ext φ := by intro _ z; cases z) : TW T d w c nm ka fa n ws xs L fs (upd H q o) := by
  simp only [List.mem_cons, List.not_mem_nil, or_false, not_or] at hq
  obtain ⟨q1, q2, q3, q4, q5, q6⟩ := hq
  refine h.kp (S := [q]) (Kp.upd e hn (by simp)) (tabs_upd h.tabs e h6 h7) ?_ ?_ ?_ ?_ ?_ ?_
  · simpa using Ne.symm q1
  · simpa using Ne.symm q2
  · simpa using Ne.symm q3
  · simpa using Ne.symm q4
  · simpa using Ne.symm q5
  · simpa using Ne.symm q6
theorem TW.pop {r : List Str} (h : TW T d w c nm ka fa n ws xs L fs H) : TW T d w c nm ka fa n r xs L fs (upd H nm (.lst (r.map V.str))) := by
  have k : Kp [nm] H (upd H nm (.lst (r.map V.str))) := Kp.upd h.nmE (fun _ z => nomatch z) (by simp)
  exact ⟨h.draw.kp k (by simpa using h.nmN.1.symm) (by simpa using h.nmN.2.1.symm) (by simpa using h.nmN.2.2.symm), upd_same, by rw [upd_ne h.kaN.2.2.2]; exact h.kaE, DaAll.kp k (tupOs_dcls L) h.kaD, h.faD.kp k (by simpa using h.faN.2.2.2.1) (tupOs_fn fs), tabs_upd h.tabs h.nmE (fun _ z => nomatch z) (fun _ z => nomatch z), h.nmN, h.kaN, h.faN⟩
theorem TF.pop {q : Nat} {r : List Str} {y : Str} (h : TF (q + 1) (r ++ [y]) L fs) : TF q r L fs ∧ isName y = true ∧ y ∉ fs.map (·.1) ∧ y ∉ r ∧ y ∉ L.flatMap Dcl.names := by
  have sub : ∀ x ∈ r, x ∈ r ++ [y] := fun x hx => List.mem_append_left _ hx
  have hn := h.nd
  rw [← List.append_assoc, List.nodup_append] at hn
  refine ⟨⟨h.okL, h.l1, h.l4, hn.1, fun x hx => h.nam x (sub x hx), h.okF, h.ndF, h.lF, fun x hx => h.dis x (sub x hx), ?_⟩, h.nam y (by simp), h.dis y (by simp), fun z => ?_, fun z => ?_⟩
  · have := h.lw
    rw [List.length_append, List.length_singleton] at this
    omega
  · exact hn.2.2 y (List.mem_append_right _ z) y (by simp) rfl
  · exact hn.2.2 y (List.mem_append_left _ z) y (by simp) rfl
/-- what stands, for ScopeN.kp -/
theorem TW.stood (h : TW T d w c nm ka fa n ws xs L fs H) {q : Addr} (hq : q ∈ [d, w, c, nm, ka, fa]) : ∃ o, H q = some o ∧ (∀ ps, o ≠ .tbl ps) ∧ ∀ xs, o ≠ .tup xs := by
  obtain ⟨⟨r, t, _, _, e1⟩, ⟨zs, e2⟩, ⟨cs', e3⟩, _⟩ := h.draw
  obtain ⟨us, e4, _⟩ := h.faD
  simp only [List.mem_cons, List.not_mem_nil, or_false] at hq
  rcases hq with rfl | rfl | rfl | rfl | rfl | rfl
  · exact ⟨_, e1, (fun _ z => nomatch z), (fun _ z => nomatch z)⟩
  · exact ⟨_, e2, (fun _ z => nomatch z), (fun _ z => nomatch z)⟩
  · exact ⟨_, e3, (fun _ z => nomatch z), (fun _ z => nomatch z)⟩
  · exact ⟨_, h.nmE, (fun _ z => nomatch z), (fun _ z => nomatch z)⟩
  · exact ⟨_, h.kaE, (fun _ z => nomatch z), (fun _ z => nomatch z)⟩
  · exact ⟨_, e4, (fun _ z => nomatch z), (fun _ z => nomatch z)⟩
end
end SA
set_option Elab.async false
set_option linter.all false
set_option maxRecDepth 100000
set_option maxHeartbeats 8000000
namespace SA
open PySem PySem.Spec PyProof.Rows L2 K1
abbrev sLaw : Stmt := topS 42
abbrev nLaw : List Str := ["script", "draw", "turn", "names", "kinds", "functions", "handed", "word", "name", "more", "pool", "k", "j", "passed", "scope", "coded", "kind", "odd", "wrong"]
theorem scLaw : FnScope nLaw ["script"] (defScope sLaw) := ⟨rfl, rfl, rfl, by decide +kernel, rfl, by decide +kernel, by decide +kernel⟩
def forBody : Stmt → List Stmt
  | .For _ _ b _ _ => b
  | _ => []
def lawB (i : Nat) : Stmt := (forBody ((defBody sLaw).getD 1 (.Pass ⟨0, 0, 0, 0⟩))).getD i (.Pass ⟨0, 0, 0, 0⟩)
abbrev XL (P : Program) (w0 : World) (K : PySem.W.Frag) (mg : Str → Option Value) (base : Heap) (fl cL : Addr) (A0 : Around) (o0 : List Env) (s0 : Shared) (H0 : Hp) (E1 : XK) : Cx := (cxOf CX0 P w0 K mg base nLaw "law" (defScope sLaw) fl (.ref cL) A0 o0 s0 H0 E1).nox
/-- all that the law's def calls -/
structure DefL (P : Program) (w0 : World) (K : PySem.W.Frag) (mg : Str → Option Value) (base : Heap) (T : List (Addr × Str)) (C BK BF UN fE : Addr) : Prop where
  begun : ∃ f fd, Fun K "_law_begun" "_law_begun" sBegun f fd ∧ FnOk P w0 K mg base CX0 1 f fd ["script"] (spBegun K) ∧ L2.Binds K fd ["script"] [] ∧ mg "_law_begun" = some (.ref f)
  take : ∃ f fd, Fun K "_law_take" "_law_take" sTake f fd ∧ FnOk P w0 K mg base CX0 2 f fd ["draw", "many"] spTake ∧ L2.Binds K fd ["draw", "many"] [] ∧ mg "_law_take" = some (.ref f)
  pick : ∃ f fd, Fun K "_law_pick" "_law_pick" sPick f fd ∧ FnOk P w0 K mg base CX0 3 f fd ["draw", "some"] (spPick K) ∧ L2.Binds K fd ["draw", "some"] [] ∧ mg "_law_pick" = some (.ref f)
  names : ∃ f fd, Fun K "_law_names" "_law_names" sNames f fd ∧ FnOk P w0 K mg base CX0 4 f fd ["draw", "many"] spNames ∧ L2.Binds K fd ["draw", "many"] [] ∧ mg "_law_names" = some (.ref f)
  declrd : ∃ f fd, Fun K "_law_declared" "_law_declared" sDeclrd f fd ∧ FnOk P w0 K mg base CX0 4 f fd ["draw", "names"] spDeclared ∧ L2.Binds K fd ["draw", "names"] [] ∧ mg "_law_declared" = some (.ref f)
  shuf : ∃ f fd, Fun K "_law_shuffled" "_law_shuffled" sShuf f fd ∧ FnOk P w0 K mg base CX0 3 f fd ["draw", "some"] spShuf ∧ L2.Binds K fd ["draw", "some"] [] ∧ mg "_law_shuffled" = some (.ref f)
  coded : ∃ f fd, Fun K "_law_coded" "_law_coded" sCoded f fd ∧ FnOk P w0 K mg base CX0 1 f fd ["kind"] spKic ∧ L2.Binds K fd ["kind"] [] ∧ mg "_law_coded" = some (.ref f)
  means : ∃ f fd, Fun K "_law_means" "_law_means" sMeans f fd ∧ FnOk P w0 K mg base CX0 5 f fd ["scope", "kinds", "functions"] (spMeans C) ∧ L2.Binds K fd ["scope", "kinds", "functions"] [] ∧ mg "_law_means" = some (.ref f)
  unm : ∃ f fd, Fun K "_law_unmeant" "_law_unmeant" sUnm f fd ∧ FnOk P w0 K mg base CX0 7 f fd ["scope", "kinds", "functions", "names"] (spUnm K T C) ∧ L2.Binds K fd ["scope", "kinds", "functions", "names"] [] ∧ mg "_law_unmeant" = some (.ref f)
  badK : ∃ f fd, Fun K "_law_bad_kinds" "_law_bad_kinds" sBadK f fd ∧ FnOk P w0 K mg base CX0 4 f fd ["draw", "kinds", "names"] spBadK ∧ L2.Binds K fd ["draw", "kinds", "names"] [] ∧ mg "_law_bad_kinds" = some (.ref f)
  badF : ∃ f fd, Fun K "_law_bad_functions" "_law_bad_functions" sBadF f fd ∧ FnOk P w0 K mg base CX0 4 f fd ["draw", "functions", "names"] (spBadF P w0 BF) ∧ L2.Binds K fd ["draw", "functions", "names"] [] ∧ mg "_law_bad_functions" = some (.ref f)
  serr : ∃ f fd, Fun K "_law_scope_error" "_law_scope_error" sSErr f fd ∧ FnOk P w0 K mg base CX0 8 f fd ["kinds", "functions"] (spSErr P w0 T C BK BF) ∧ L2.Binds K fd ["kinds", "functions"] [] ∧ mg "_law_scope_error" = some (.ref f)
  scope : ∃ f fd, Mk K C f ∧ FnOk P w0 K mg base (L2.CX P w0) 6 f fd ["self", "kinds", "functions"] (spScope P w0 T C BK BF) ∧ L2.Binds K fd ["self", "kinds", "functions"] [] ∧ KBn K fd ["self", "kinds", "functions"] 1 ["kinds", "functions"] cat1 cat1 ∧ mg "Scope" = some (.ref C)
  eqS : ∃ fd, EqC K C fE ∧ FnOk P w0 K mg base CX0 1 fE fd ["self", "other"] (spEq2 (ScEq K C)) ∧ L2.Binds K fd ["self", "other"] []
  cls : Cls K C
  nK : NoAttr K C "kinds"
  nF : NoAttr K C "functions"
  first : ∀ t, (t = .ref C ∨ t = .type "NoneType" ∨ t = .type "list") → PySem.W.notFirst K C t = true
  kit : ∀ t, (t = .type "NoneType" ∨ t = .type "list") → PySem.W.kitOne K t (.ref C) = some false
  ty : ∀ {H : Hp} {p dx : Addr} {fs : List (Str × V)}, H p = some (.ins C dx fs) → TyX K H (.ref p) (.ref C)
abbrev S19 (a d : Addr) (y2 y3 y4 y5 y6 y7 y8 y9 y10 y11 y12 y13 y14 y15 y16 y17 y18 : Option V) : L2.St := [some (.ref a), some (.ref d), y2, y3, y4, y5, y6, y7, y8, y9, y10, y11, y12, y13, y14, y15, y16, y17, y18]
/-- a turn's beginning -/
def Q0 (T : List (Addr × Str)) (a d w c : Addr) (N : Nat) (σ : L2.St) (H : Hp) : Prop := ∃ y2 y3 y4 y5 y6 y7 y8 y9 y10 y11 y12 y13 y14 y15 y16 y17 y18 n, σ = S19 a d y2 y3 y4 y5 y6 y7 y8 y9 y10 y11 y12 y13 y14 y15 y16 y17 y18 ∧ DrawAt H d w c n ∧ LamX.Tabs T H ∧ n ≤ N
/-- behind the names -/
def Q1 (T : List (Addr × Str)) (a d w c : Addr) (N : Nat) (σ : L2.St) (H : Hp) : Prop := ∃ nm y2 y4 y5 y6 y7 y8 y9 y10 y11 y12 y13 y14 y15 y16 y17 y18 n ws, σ = S19 a d y2 (some (.ref nm)) y4 y5 y6 y7 y8 y9 y10 y11 y12 y13 y14 y15 y16 y17 y18 ∧ DrawAt H d w c n ∧ LamX.Tabs T H ∧ n ≤ N + 350 ∧
  H nm = some (.lst (ws.map V.str)) ∧ NamesOk 50 ws ∧ nm ≠ d ∧ nm ≠ w ∧ nm ≠ c
section
variable {P : Program} {w0 : World} {K : PySem.W.Frag} {mg : Str → Option Value} {base : Heap} {T : List (Addr × Str)} {C BK BF UN fE fl cL : Addr} {A0 : Around} {o0 : List Env} {s0 : Shared} {H0 : Hp} {E1 : XK} {a d w c : Addr} {N : Nat}
theorem law_b0 (B : Gb mg) (DF : DefL P w0 K mg base T C BK BF UN fE) (hr : Room 8 (XL P w0 K mg base fl cL A0 o0 s0 H0 E1).A) (hN : N < 2 ^ 20) : Trip (XL P w0 K mg base fl cL A0 o0 s0 H0 E1) (lawB 0) (Q0 T a d w c N) (Q1 T a d w c N) := by
  obtain ⟨f, fd, F, G, b, g⟩ := DF.names
  have hr4 := hr.mono (by decide : 4 ≤ 8)
  refine .mk (ps_set (i := 3) scLaw.nd rfl (.inl rfl) (pe_call G hr4 (by rfl) g F.kp b .nil pass0 (pa_cons (pv 1) (pa_cons pe_int pa_nil)))) fun D σ H h k => ?_
  obtain ⟨y2, y3, y4, y5, y6, y7, y8, y9, y10, y11, y12, y13, y14, y15, y16, y17, y18, n, rfl, hD, hT, hn⟩ := h
  have big : (2 : Nat) ^ 20 + 500 < 2 ^ 40 := by decide
  refine ⟨_, rfl, d, w, c, n, 50, rfl, hD, by omega, by decide, fun nm ws H1 nk D1 b1 hn1 e1 => ?_⟩
  have kn := hD.knowD hn1
  refine k _ _ ⟨nm, _, _, _, _, _, _, _, _, _, _, _, _, _, _, _, _, _, ws, rfl, D1, tabs_but2 hT hD b1, by omega, e1, nk, kn.1, kn.2, ?_⟩
  obtain ⟨_, _, ⟨cs, e3⟩, _⟩ := hD
  exact (ne_of_none e3 hn1).symm
end
end SA
set_option Elab.async false
set_option linter.all false
set_option maxRecDepth 100000
set_option maxHeartbeats 8000000
namespace SA
open PySem PySem.Spec PyProof.Rows L2 K1
/-- behind the declarations -/
def Q2 (T : List (Addr × Str)) (a d w c : Addr) (N : Nat) (σ : L2.St) (H : Hp) : Prop := ∃ nm ka fa ha y2 y7 y8 y9 y10 y11 y12 y13 y14 y15 y16 y17 y18 n ws xs L, σ = S19 a d y2 (some (.ref nm)) (some (.ref ka)) (some (.ref fa)) (some (.ref ha)) y7 y8 y9 y10 y11 y12 y13 y14 y15 y16 y17 y18 ∧ TW T d w c nm ka fa n ws xs L [] H ∧ n ≤ N + 450 ∧
  TF 29 ws L [] ∧ H ha = some (.dK []) ∧ ha ∉ [d, w, c, nm, ka, fa]
/-- behind the pool -/
def Q3 (T : List (Addr × Str)) (a d w c : Addr) (N : Nat) (σ : L2.St) (H : Hp) : Prop := ∃ nm ka fa ha po y2 y7 y8 y9 y11 y12 y13 y14 y15 y16 y17 y18 n ws xs L zs, σ = S19 a d y2 (some (.ref nm)) (some (.ref ka)) (some (.ref fa)) (some (.ref ha)) y7 y8 y9 (some (.ref po)) y11 y12 y13 y14 y15 y16 y17 y18 ∧ TW T d w c nm ka fa n ws xs L [] H ∧ n ≤ N + 450 ∧
  TF 28 ws L [] ∧ H ha = some (.dK []) ∧ ha ∉ [d, w, c, nm, ka, fa] ∧ H po = some (.lst (zs.map V.str)) ∧ po ∉ [d, w, c, nm, ka, fa] ∧ po ≠ ha ∧ zs ≠ [] ∧ zs.length ≤ 10 ∧ ∀ z ∈ zs, isKindS z = true ∧ z.length ≤ 8
/-- behind the functions -/
def Q4 (T : List (Addr × Str)) (a d w c : Addr) (N : Nat) (σ : L2.St) (H : Hp) : Prop := ∃ nm ka fa ha y2 y7 y8 y9 y10 y11 y12 y13 y14 y15 y16 y17 y18 n ws xs L fs, σ = S19 a d y2 (some (.ref nm)) (some (.ref ka)) (some (.ref fa)) (some (.ref ha)) y7 y8 y9 y10 y11 y12 y13 y14 y15 y16 y17 y18 ∧ TW T d w c nm ka fa n ws xs L fs H ∧ n ≤ N + 500 ∧
  TF 25 ws L fs ∧ H ha = some (.dK []) ∧ ha ∉ [d, w, c, nm, ka, fa]
section
variable {P : Program} {w0 : World} {K : PySem.W.Frag} {mg : Str → Option Value} {base : Heap} {T : List (Addr × Str)} {C BK BF UN fE fl cL : Addr} {A0 : Around} {o0 : List Env} {s0 : Shared} {H0 : Hp} {E1 : XK} {a d w c : Addr} {N : Nat}
theorem dictL_nil {H : Hp} {a : Addr} (h : H a = some (.dK [])) : DictL H a [] := ⟨[], h, .nil⟩
theorem law_b1 (B : Gb mg) (DF : DefL P w0 K mg base T C BK BF UN fE) (hr : Room 8 (XL P w0 K mg base fl cL A0 o0 s0 H0 E1).A) (hN : N < 2 ^ 20) : Trip (XL P w0 K mg base fl cL A0 o0 s0 H0 E1) (lawB 1) (Q1 T a d w c N) (Q2 T a d w c N) := by
  obtain ⟨f, fd, F, G, b, g⟩ := DF.declrd
  have hr4 := hr.mono (by decide : 4 ≤ 8)
  refine .mk (ps_par3 (i := 4) (j := 5) (l := 6) rfl scLaw.nd rfl rfl rfl (by decide) (by decide) (by decide) rfl rfl rfl (pa_cons (pe_call G hr4 (by rfl) g F.kp b .nil pass0 (pa_cons (pv 1) (pa_cons (pv 3) pa_nil))) (pa_cons pe_dnewK (pa_cons pe_dnewK pa_nil))) rfl) fun D σ H h k => ?_
  obtain ⟨nm, y2, y4, y5, y6, y7, y8, y9, y10, y11, y12, y13, y14, y15, y16, y17, y18, n, ws, rfl, hD, hT, hn, en, nok, n1, n2, n3⟩ := h
  have big : (2 : Nat) ^ 20 + 500 < 2 ^ 39 := by decide
  refine ⟨_, rfl, _, rfl, d, w, c, nm, ws, n, rfl, hD, en, n1, n2, n3, by omega, nok.len, nok.nodup, nok.names, fun ka xs L ws' H1 N1 ok ek dk okL l1 l4 nd sub l29 => ?_⟩
  have T1 := N1.tb T hT
  have kd : ka ≠ d ∧ ka ≠ w ∧ ka ≠ c ∧ ka ≠ nm := by
    obtain ⟨⟨r, t, _, _, e1⟩, ⟨zs, e2⟩, ⟨cs, e3⟩, _⟩ := hD
    exact ⟨fun z => ok _ _ e1 (fun _ z => nomatch z) z.symm, fun z => ok _ _ e2 (fun _ z => nomatch z) z.symm, fun z => ok _ _ e3 (fun _ z => nomatch z) z.symm, fun z => ok _ _ en (fun _ z => nomatch z) z.symm⟩
  refine fun fa hfa ha hha => ⟨_, _, _, rfl, k _ _ ⟨nm, ka, fa, ha, y2, y7, y8, y9, y10, y11, y12, y13, y14, y15, y16, y17, y18, _, ws', xs, L, rfl, ?_, (by omega : n + 100 ≤ N + 450), ⟨okL, l1, l4, nd, fun x hx => nok.names x (sub x hx), by simp, .nil, by simp, by simp, l29⟩, upd_same, ?_⟩⟩
  all_goals have ff := N1.fresh hfa
  all_goals have fk : fa ≠ ka := (ne_of_none ek hfa).symm
  all_goals have s1 : Same H1 (upd H1 fa (.dK [])) := Same.new hfa
  all_goals have W : TW T d w c nm ka fa (n + 100) ws' xs L [] (upd H1 fa (.dK [])) := ⟨N1.draw.new hfa, s1 _ _ N1.nmE, s1 _ _ ek, dk.same s1, dictL_nil upd_same, T1.ext s1, ⟨n1, n2, n3⟩, kd, ff.1, ff.2.1, ff.2.2.1, ff.2.2.2.1, fk⟩
  · exact W.same (Same.new hha)
  · exact W.fresh hha
theorem law_b2 (B : Gb mg) (DF : DefL P w0 K mg base T C BK BF UN fE) (hr : Room 8 (XL P w0 K mg base fl cL A0 o0 s0 H0 E1).A) (hN : N < 2 ^ 20) : Trip (XL P w0 K mg base fl cL A0 o0 s0 H0 E1) (lawB 2) (Q2 T a d w c N) (Q3 T a d w c N) := by
  refine .mk (ps_set (i := 10) scLaw.nd rfl (.inr rfl) (pe_op op_cat (pe_lst (pa_cons pe_str (pa_cons pe_str (pa_cons (pe_bm0 PySem.F.plainAttrs_list PySem.F.slot_list_pop PySem.F.type_list_pop mt_pop (pv 3)) pa_nil))))
      (pe_lc (own := [("word", 7), ("name", 8), ("more", 9)]) (g := gTup K 3 (gCons (gName 7) (gCons (gName 8) (gCons (gName 9) gNil)))) (tt := tYes) (te := tVar 8) (by rfl) scLaw.nd (pi_list (pv 4)) (blkOk_by (N := nLaw) (sc := defScope sLaw) (by decide +kernel))
        (fun _ _ _ _ _ => pg_tup (by rfl) (pgs_cons (pg_name (i := 7) scLaw.nd rfl (Or.inl rfl)) (pgs_cons (pg_name (i := 8) scLaw.nd rfl (Or.inl rfl)) (pgs_cons (pg_name (i := 9) scLaw.nd rfl (Or.inl rfl)) pgs_nil)))) (fun _ _ _ _ _ => pts_nil) (fun _ _ _ _ _ => pv 8)))) fun D σ H h k => ?_
  obtain ⟨nm, ka, fa, ha, y2, y7, y8, y9, y10, y11, y12, y13, y14, y15, y16, y17, y18, n, ws, xs, L, rfl, W, hn, F, eh, nh⟩ := h
  obtain ⟨r, st, rfl⟩ : ∃ r y, ws = r ++ [y] := snoc_of (by intro z; have := F.lw; rw [z] at this; simp at this)
  obtain ⟨F1, st1, _, _, _⟩ := F.pop
  refine ⟨_, rfl, .inl ⟨rfl, _, SqL.of W.nmE⟩, nm, _, .str st, rfl, rfl, W.nmE, last_at.1, ?_⟩
  rw [last_at.2]
  have W1 := W.pop (r := r)
  have nh' := nh
  simp only [List.mem_cons, List.not_mem_nil, or_false, not_or] at nh'
  have eh1 : (upd H nm (.lst (r.map V.str))) ha = some (.dK []) := by rw [upd_ne nh'.2.2.2.1]; exact eh
  generalize upd H nm (.lst (r.map V.str)) = H1 at W1 eh1
  refine ⟨(by show 3 ≤ sizeLine; decide), fun p1 hp1 => ?_⟩
  have W2 := W1.same (Same.new (o := .lst [V.str "number", V.str "truth", V.str st]) hp1)
  have eh2 := (Same.new (o := .lst [V.str "number", V.str "truth", V.str st]) hp1) _ _ eh1
  have e1 : (upd H1 p1 (.lst [V.str "number", V.str "truth", V.str st])) p1 = some (.lst [V.str "number", V.str "truth", V.str st]) := upd_same
  generalize upd H1 p1 (.lst [V.str "number", V.str "truth", V.str st]) = H2 at W2 eh2 e1
  have lx : xs.length = L.length := by rw [W2.kaD.len, List.length_map]
  have l4 := F.l4
  refine ⟨_, rfl, ka, rfl, ⟨_, SqL.of W2.kaE⟩, fun q hq => lc_list (K := K) (a := ka) (xs := xs) (fun i H' => Same H2 H' ∧ H' q = some (.lst (((L.take i).map Dcl.name).map V.str))) ⟨Same.new hq, by rw [upd_same]; rfl⟩ (fun i H' _ ⟨s, _⟩ => SqL.of (s _ _ W2.kaE)) ?_ ?_⟩
  · rintro i u H3 hu1 ⟨s3, e3⟩
    obtain ⟨d', hd2, hx2⟩ := W2.kaD.get hu1
    rw [List.getElem?_map] at hd2
    obtain ⟨D', hD', rfl⟩ := Option.map_eq_some_iff.mp hd2
    obtain ⟨b, y, rfl, eb⟩ := da_three (hx2.same s3)
    refine ⟨b, _, rfl, SqT.of eb, rfl, _, _, rfl, _, _, rfl, _, _, rfl, rfl, rfl, yes ⟨_, rfl, _, e3, ?_, fun b o e => ?_, ?_⟩⟩
    · rw [List.length_map, List.length_map, List.length_take]
      exact small1000 (by omega)
    · rw [upd_ne (ne_of_none e hq)]
      exact s3 b o e
    · rw [upd_same, List.take_add_one, hD', List.map_append, List.map_append]
      rfl
  · rintro H3 ⟨s3, e3⟩
    rw [lx, List.take_of_length_le (Nat.le_refl _)] at e3
    have W3 := W2.same s3
    refine ⟨p1, q, _, _, rfl, rfl, s3 _ _ e1, e3, ?_, fun p hp => ?_⟩
    · rw [List.length_map, List.length_map]
      exact Nat.le_of_lt (small1000 (by show 3 + L.length ≤ 1000; omega))
    have s4 : Same H3 (upd H3 p (.lst ([V.str "number", V.str "truth", V.str st] ++ ((L.map Dcl.name).map V.str)))) := Same.new hp
    refine k _ _ ⟨nm, ka, fa, ha, p, _, _, _, _, _, _, _, _, _, _, _, _, n, r, xs, L, ("number" : Str) :: ("truth" : Str) :: st :: L.map Dcl.name, rfl, W3.same s4, hn, F1, s4 _ _ (s3 _ _ eh2), nh, ?_, W3.fresh hp, (ne_of_none (s3 _ _ eh2) hp).symm, by simp, ?_, fun z hz => ?_⟩
    · rw [upd_same]
      rfl
    · simp only [List.length_cons, List.length_map]
      omega
    · have nk : ∀ {z : Str}, isName z = true → isKindS z = true ∧ z.length ≤ 8 := fun {z} hz => ⟨by unfold isKindS; rw [hz, Bool.or_true], isName_len hz⟩
      simp only [List.mem_cons] at hz
      rcases hz with rfl | rfl | rfl | hz
      · exact ⟨by decide +kernel, by decide +kernel⟩
      · exact ⟨by decide +kernel, by decide +kernel⟩
      · exact nk st1
      · obtain ⟨D', hD', rfl⟩ := List.mem_map.mp hz
        have := F.okL D' hD'
        cases this with
        | row h k l => exact nk h
        | cho h h1 h4 ok => exact nk h
end
end SA
set_option Elab.async false
set_option linter.all false
set_option maxRecDepth 100000
set_option maxHeartbeats 8000000
namespace SA
open PySem PySem.Spec PyProof.Rows L2 K1
theorem DictL.add {H : Hp} {a : Addr} {es : List (Str × PyData)} {k : Str} {v : V} {d : PyData} (h : DictL H a es) (e : k ∉ es.map (·.1)) (ht : tupOs (es.map (·.2)) = true) (hd : tupO d = true) (hv : Da H v d) (hl : es.length ≤ 900) :
    ∃ kvs, H a = some (.dK kvs) ∧ kvs.length < sizeLine ∧ DictL (upd H a (.dK (putK kvs (.inr k) v))) a (es ++ [(k, d)]) := by
  obtain ⟨vs, h1, h2⟩ := h
  have l1 : (es.map (·.1)).length = vs.length := by rw [h2.len, List.length_map, List.length_map]
  refine ⟨_, h1, ?_, DictL.put h1 h2 (lookup_none_of e) ht hd hv⟩
  rw [kz_len l1, List.length_map]
  exact small1000 (by omega)
/-- a function more -/
theorem TW.addF {T : List (Addr × Str)} {d w c nm ka fa : Addr} {n : Nat} {ws : List Str} {xs : List V} {L : List Dcl} {fs : List NFn} {H : Hp} {q : Nat} {y : Str} {f : Fn} {v : V} (h : TW T d w c nm ka fa n ws xs L fs H) (hF : TF q ws L fs) (hy : isName y = true) (hn : y ∉ fs.map (·.1)) (hw : y ∉ ws) (ok : OkF f) (hv : Da H v (fnD f)) (l3 : fs.length ≤ 2) :
    TF q ws L (fs ++ [(y, f)]) ∧ ∃ kvs, H fa = some (.dK kvs) ∧ kvs.length < sizeLine ∧ TW T d w c nm ka fa n ws xs L (fs ++ [(y, f)]) (upd H fa (.dK (putK kvs (.inr y) v))) := by
  refine ⟨⟨hF.okL, hF.l1, hF.l4, hF.nd, hF.nam, fun g hg => ?_, ?_, by rw [List.length_append, List.length_singleton]; omega, fun x hx => ?_, hF.lw⟩, ?_⟩
  · rcases List.mem_append.mp hg with hg | hg
    · exact hF.okF g hg
    · rw [List.mem_singleton.mp hg]
      exact ⟨hy, ok⟩
  · rw [List.map_append, List.nodup_append]
    exact ⟨hF.ndF, by simp, fun a ha b hb => by simp at hb; subst hb; exact fun z => hn (z ▸ ha)⟩
  · rw [List.map_append, List.mem_append, not_or]
    refine ⟨hF.dis x hx, fun z => ?_⟩
    simp at z
    exact hw (z ▸ hx)
  · have e1 : (fs.map fnE).map (·.1) = fs.map (·.1) := by
      rw [List.map_map]
      rfl
    obtain ⟨kvs, q1, q2, q3⟩ := h.faD.add (k := y) (d := fnD f) (v := v) (by rw [e1]; exact hn) (tupOs_fn fs) (tupO_fn f) hv (by rw [List.length_map]; omega)
    have kk : Kp [fa] H (upd H fa (.dK (putK kvs (.inr y) v))) := Kp.upd q1 (fun _ z => nomatch z) (by simp)
    obtain ⟨f1, f2, f3, f4, f5⟩ := h.faN
    refine ⟨kvs, q1, q2, h.draw.kp kk (by simpa using f1.symm) (by simpa using f2.symm) (by simpa using f3.symm), by rw [upd_ne f4.symm]; exact h.nmE, by rw [upd_ne f5.symm]; exact h.kaE, DaAll.kp kk (tupOs_dcls L) h.kaD, ?_, tabs_upd h.tabs q1 (fun _ z => nomatch z) (fun _ z => nomatch z), h.nmN, h.kaN, h.faN⟩
    rw [List.map_append]
    exact q3
section
variable {P : Program} {w0 : World} {K : PySem.W.Frag} {mg : Str → Option Value} {base : Heap} {T : List (Addr × Str)} {C BK BF UN fE fl cL : Addr} {A0 : Around} {o0 : List Env} {s0 : Shared} {H0 : Hp} {E1 : XK} {a d w c : Addr} {N : Nat}
theorem law_b3 (B : Gb mg) (DF : DefL P w0 K mg base T C BK BF UN fE) (hr : Room 8 (XL P w0 K mg base fl cL A0 o0 s0 H0 E1).A) (hN : N < 2 ^ 20) : Trip (XL P w0 K mg base fl cL A0 o0 s0 H0 E1) (lawB 3) (Q3 T a d w c N) (Q4 T a d w c N) := by
  obtain ⟨fT, fdT, FT, GT, bT, gT⟩ := DF.take
  obtain ⟨fP, fdP, FP, GP, bP, gP⟩ := DF.pick
  have hr2 := hr.mono (by decide : 2 ≤ 8)
  have hr3 := hr.mono (by decide : 3 ≤ 8)
  have hu := hu_of hr
  refine .mk (ps_for PassesOwn.never rfl (pi_range1 (by rfl) B.range (pa_cons (pe_call GT hr2 (by rfl) gT FT.kp bT .nil pass0 (pa_cons (pv 1) (pa_cons pe_int pa_nil))) pa_nil)) (pg_name (i := 11) scLaw.nd rfl (.inl rfl))
    (pss_one (ps_asg (pe_tup (pa_cons (pe_callTy call_tuple_of (by rfl) B.tuple (by decide +kernel) (pa_cons (pe_lc (own := [("j", 12)]) (g := gName 12) (tt := tYes) (te := tCall (spPick K) [] E0 (tCons (tVar 1) (tCons (tVar 10) tNil))) (by rfl) scLaw.nd
        (pi_range1 (by rfl) B.range (pa_cons (pe_call GT hr2 (by rfl) gT FT.kp bT .nil pass0 (pa_cons (pv 1) (pa_cons pe_int pa_nil))) pa_nil))
        (blkOk_by (N := nLaw) (sc := defScope sLaw) (by decide +kernel)) (fun _ _ _ _ _ => pg_name (i := 12) scLaw.nd rfl (Or.inl rfl)) (fun _ _ _ _ _ => pts_nil)
        (fun _ _ _ _ _ => pe_call GP hr3 (by rfl) gP FP.kp bP .nil pass0 (pa_cons (pv 1) (pa_cons (pv 10) pa_nil)))) pa_nil))
      (pa_cons (pe_call GP hr3 (by rfl) gP FP.kp bP .nil pass0 (pa_cons (pv 1) (pa_cons (pv 10) pa_nil))) pa_nil)))
      (pg_sub (pv 5) (pe_bm0 PySem.F.plainAttrs_list PySem.F.slot_list_pop PySem.F.type_list_pop mt_pop (pv 3)) (set_dict hu) (fun _ => rfl))))) fun D σ H h k => ?_
  obtain ⟨nm, ka, fa, ha, po, y2, y7, y8, y9, y11, y12, y13, y14, y15, y16, y17, y18, n, ws, xs, L, zs, rfl, W, hn, F, eh, nh, ep, np, nph, z0, z10, hz⟩ := h
  have big : (2 : Nat) ^ 20 + 1000 < 2 ^ 40 := by decide
  refine ⟨_, rfl, d, w, c, n, 4, rfl, W.draw, by omega, by decide, by decide, fun v H1 v0 v4 D1 b1 => ?_⟩
  have np' := np
  have nh' := nh
  simp only [List.mem_cons, List.not_mem_nil, or_false, not_or] at np' nh'
  have W1 := W.drew D1 b1
  have eh1 := b1 _ _ eh nh'.1 nh'.2.1
  have ep1 := b1 _ _ ep np'.1 np'.2.1
  have h62 : (100 : Int) < 2 ^ 62 := by decide
  refine ⟨v, rfl, by omega, by omega, ?_⟩
  obtain ⟨m, hm⟩ : ∃ m : Nat, v.toNat = m := ⟨_, rfl⟩
  rw [hm]
  have m3 : m ≤ 3 := by omega
  refine for_range (lo := 0) (n := m) (fun i σ H' => ∃ y11 y12 n' ws' fs, σ = S19 a d y2 (some (.ref nm)) (some (.ref ka)) (some (.ref fa)) (some (.ref ha)) y7 y8 y9 (some (.ref po)) y11 y12 y13 y14 y15 y16 y17 y18 ∧ TW T d w c nm ka fa n' ws' xs L fs H' ∧ n' ≤ N + 451 + 5 * i ∧ TF (28 - i) ws' L fs ∧ fs.length = i ∧ H' ha = some (.dK []) ∧ H' po = some (.lst (zs.map V.str)))
    ⟨_, _, _, _, [], rfl, W1, by omega, F, rfl, eh1, ep1⟩ ?_ ?_
  · rintro i σ H2 hi ⟨z11, z12, n2, ws2, fs, rfl, W2, hn2, F2, lfs, eh2, ep2⟩
    refine ⟨_, rfl, d, w, c, n2, 4, rfl, W2.draw, by omega, by decide, by decide, fun v2 H3 u0 u4 D3 b3 => ?_⟩
    have W3 := W2.drew D3 b3
    have eh3 := b3 _ _ eh2 nh'.1 nh'.2.1
    have ep3 := b3 _ _ ep2 np'.1 np'.2.1
    refine ⟨v2, rfl, by omega, by omega, fun q hq => ?_⟩
    obtain ⟨m2, hm2⟩ : ∃ m : Nat, v2.toNat = m := ⟨_, rfl⟩
    rw [hm2]
    have m23 : m2 ≤ 3 := by omega
    have fq := W3.fresh hq
    have fq' := fq
    simp only [List.mem_cons, List.not_mem_nil, or_false, not_or] at fq'
    have qh : q ≠ ha := (ne_of_none eh3 hq).symm
    have qp : q ≠ po := (ne_of_none ep3 hq).symm
    refine lc_range (lo := 0) (n := m2) (fun j H' => ∃ ks : List Str, TW T d w c nm ka fa (n2 + 1 + j) ws2 xs L fs H' ∧ H' ha = some (.dK []) ∧ H' po = some (.lst (zs.map V.str)) ∧ H' q = some (.lst (ks.map V.str)) ∧ ks.length = j ∧ ∀ x ∈ ks, x ∈ zs)
      ⟨[], W3.same (Same.new hq), (Same.new hq) _ _ eh3, (Same.new hq) _ _ ep3, by rw [upd_same]; rfl, rfl, by simp⟩ ?_ ?_
    · rintro j H4 hj ⟨ks, W4, eh4, ep4, eq4, lk, hk⟩
      refine ⟨rfl, yes ⟨_, rfl, _, rfl, d, w, c, po, _, zs.map V.str, rfl, W4.draw, by omega, np'.1, np'.2.1, SqL.of ep4, by simpa using z0, by rw [List.length_map]; omega, fun x H5 hx D5 b5 => ?_⟩⟩
      obtain ⟨z, hzm, rfl⟩ := List.mem_map.mp hx
      have W5 := W4.drew D5 b5
      have eq5 := b5 _ _ eq4 fq'.1 fq'.2.1
      refine ⟨_, eq5, by rw [List.length_map]; exact small1000 (by omega), ks ++ [z], (W5.mut (o := .lst (ks.map V.str ++ [V.str z])) fq eq5 (fun _ z => nomatch z)).mono (by omega), ?_, ?_, by rw [upd_same, List.map_append]; rfl, by rw [List.length_append, lk]; rfl, fun x hx => ?_⟩
      · rw [upd_ne qh.symm]
        exact b5 _ _ eh4 nh'.1 nh'.2.1
      · rw [upd_ne qp.symm]
        exact b5 _ _ ep4 np'.1 np'.2.1
      · rcases List.mem_append.mp hx with hx | hx
        · exact hk x hx
        · rw [List.mem_singleton.mp hx]
          exact hzm
    · rintro H4 ⟨ks, W4, eh4, ep4, eq4, lk, hk⟩
      refine ⟨q, _, rfl, .inl ⟨SqL.of eq4, fun t ht => ?_⟩⟩
      have s5 : Same H4 (upd H4 t (.tup (ks.map V.str))) := Same.new ht
      have W5 := W4.same s5
      have eh5 := s5 _ _ eh4
      have ep5 := s5 _ _ ep4
      have et5 : (upd H4 t (.tup (ks.map V.str))) t = some (.tup (ks.map V.str)) := upd_same
      generalize upd H4 t (.tup (ks.map V.str)) = H5 at W5 eh5 ep5 et5
      refine ⟨_, rfl, _, rfl, d, w, c, po, _, zs.map V.str, rfl, W5.draw, by omega, np'.1, np'.2.1, SqL.of ep5, by simpa using z0, by rw [List.length_map]; omega, fun x H6 hx D6 b6 => ?_⟩
      obtain ⟨r, hrm, rfl⟩ := List.mem_map.mp hx
      have W6 := W5.drew D6 b6
      have eh6 := b6 _ _ eh5 nh'.1 nh'.2.1
      have ep6 := b6 _ _ ep5 np'.1 np'.2.1
      have et6 := (But2.kp W5.draw b6).2 _ _ et5
      refine ⟨(by show 2 ≤ sizeLine; decide), fun p hp => ?_⟩
      have s7 : Same H6 (upd H6 p (.tup [.ref t, .str r])) := Same.new hp
      have W7 := W6.same s7
      have eh7 := s7 _ _ eh6
      have ep7 := s7 _ _ ep6
      have et7 := s7 _ _ et6
      have epp : (upd H6 p (.tup [V.ref t, V.str r])) p = some (.tup [V.ref t, V.str r]) := upd_same
      generalize upd H6 p (.tup [V.ref t, V.str r]) = H7 at W7 eh7 ep7 et7 epp
      have okf : OkF (ks, r) := ⟨by show ks.length ≤ 3; omega, fun x hx => hz x (hk x hx), hz r hrm⟩
      obtain ⟨r2, st, rfl⟩ : ∃ r y, ws2 = r ++ [y] := snoc_of (by intro z; have := F2.lw; rw [z] at this; simp at this; omega)
      have e28 : 28 - i = (28 - (i + 1)) + 1 := by omega
      rw [e28] at F2
      obtain ⟨F3, st1, stF, stR, _⟩ := F2.pop
      refine ⟨_, rfl, _, rfl, .inl ⟨rfl, _, SqL.of W7.nmE⟩, nm, _, .str st, rfl, rfl, W7.nmE, last_at.1, ?_⟩
      rw [last_at.2]
      have W8 := W7.pop (r := r2)
      have km : Kp [nm] H7 (upd H7 nm (.lst (r2.map V.str))) := Kp.upd W7.nmE (fun _ z => nomatch z) (by simp)
      have eh8 : (upd H7 nm (.lst (r2.map V.str))) ha = some (.dK []) := by rw [upd_ne nh'.2.2.2.1]; exact eh7
      have ep8 : (upd H7 nm (.lst (r2.map V.str))) po = some (.lst (zs.map V.str)) := by rw [upd_ne np'.2.2.2.1]; exact ep7
      have dv : Da (upd H7 nm (.lst (r2.map V.str))) (.ref p) (fnD (ks, r)) := Da.kp km (tupO_fn _) (.tup epp (.cons (.tup et7 (strs_da ks)) (.cons (.str r) .nil)))
      obtain ⟨F4, kvs, g1, g2, W9⟩ := W8.addF F3 st1 stF stR okf dv (by omega)
      refine ⟨fa, _, rfl, DPut.k (k := .inr st) g1 g2, _, _, _, _, fs ++ [(st, (ks, r))], rfl, W9, by omega, F4, by rw [List.length_append, lfs]; rfl, ?_, ?_⟩
      · rw [upd_ne nh'.2.2.2.2.2]
        exact eh8
      · rw [upd_ne np'.2.2.2.2.2]
        exact ep8
  · rintro σ H2 ⟨z11, z12, n2, ws2, fs, rfl, W2, hn2, F2, lfs, eh2, ep2⟩
    refine k _ _ ⟨nm, ka, fa, ha, _, _, _, _, _, _, _, _, _, _, _, _, _, n2, ws2, xs, L, fs, rfl, W2, by omega, { F2 with lw := by have := F2.lw; omega }, eh2, nh⟩
end
end SA
set_option Elab.async false
set_option linter.all false
set_option maxRecDepth 100000
set_option maxHeartbeats 8000000
namespace SA
open PySem PySem.Spec PyProof.Rows L2 K1
/-- behind what is handed in -/
def Q5 (T : List (Addr × Str)) (a d w c : Addr) (N : Nat) (σ : L2.St) (H : Hp) : Prop := ∃ nm ka fa ha y2 y7 y8 y9 y10 y11 y12 y13 y14 y15 y16 y17 y18 n ws xs L fs fs', σ = S19 a d y2 (some (.ref nm)) (some (.ref ka)) (some (.ref fa)) (some (.ref ha)) y7 y8 y9 y10 y11 y12 y13 y14 y15 y16 y17 y18 ∧ TW T d w c nm ka fa n ws xs L fs H ∧ n ≤ N + 510 ∧
  TF 25 ws L fs ∧ ha ∉ [d, w, c, nm, ka, fa] ∧ DictL H ha (List.map fnE fs') ∧ List.Perm fs' fs
/-- behind what is passed -/
def Q6 (T : List (Addr × Str)) (a d w c : Addr) (N : Nat) (σ : L2.St) (H : Hp) : Prop := ∃ nm ka fa ha pa y2 y7 y8 y9 y10 y11 y12 y14 y15 y16 y17 y18 n ws xs L fs fs' ys L', σ = S19 a d y2 (some (.ref nm)) (some (.ref ka)) (some (.ref fa)) (some (.ref ha)) y7 y8 y9 y10 y11 y12 (some (.ref pa)) y14 y15 y16 y17 y18 ∧ TW T d w c nm ka fa n ws xs L fs H ∧ n ≤ N + 520 ∧
  TF 25 ws L fs ∧ ha ∉ [d, w, c, nm, ka, fa] ∧ DictL H ha (List.map fnE fs') ∧ List.Perm fs' fs ∧ pa ∉ [d, w, c, nm, ka, fa] ∧ pa ≠ ha ∧ H pa = some (.lst ys) ∧ DaAll H ys (List.map Dcl.d L') ∧ List.Perm L' L
theorem kz_keysV : ∀ {ks : List Str} {vs : List V}, ks.length = vs.length → (kz ks vs).map (fun kv => kV kv.1) = ks.map V.str
  | [], [], _ => rfl
  | k :: ks, v :: vs, h => by
    have e : kz (k :: ks) (v :: vs) = ((Sum.inr k : Key), v) :: kz ks vs := rfl
    rw [e, List.map_cons, List.map_cons, kz_keysV (by simpa using h)]
    rfl
  | [], _ :: _, h => by cases h
  | _ :: _, [], h => by cases h
theorem shd_str {x : Str} (h : okS x) : ShD (.str x) := ⟨rfl, rfl, h, by show 0 ≤ 60; decide⟩
section
variable {P : Program} {w0 : World} {K : PySem.W.Frag} {mg : Str → Option Value} {base : Heap} {T : List (Addr × Str)} {C BK BF UN fE fl cL : Addr} {A0 : Around} {o0 : List Env} {s0 : Shared} {H0 : Hp} {E1 : XK} {a d w c : Addr} {N : Nat}
theorem law_b4 (B : Gb mg) (DF : DefL P w0 K mg base T C BK BF UN fE) (hr : Room 8 (XL P w0 K mg base fl cL A0 o0 s0 H0 E1).A) (hN : N < 2 ^ 20) : Trip (XL P w0 K mg base fl cL A0 o0 s0 H0 E1) (lawB 4) (Q4 T a d w c N) (Q5 T a d w c N) := by
  obtain ⟨fS, fdS, FS, GS, bS, gS⟩ := DF.shuf
  have hr3 := hr.mono (by decide : 3 ≤ 8)
  have hu := hu_of hr
  refine .mk (ps_for PassesOwn.never rfl (pi_list (pe_call GS hr3 (by rfl) gS FS.kp bS .nil pass0 (pa_cons (pv 1) (pa_cons (pe_callTy (call_listD rfl) (by rfl) B.list (by decide +kernel) (pa_cons (pv 5) pa_nil)) pa_nil)))) (pg_name (i := 8) scLaw.nd rfl (.inl rfl))
    (pss_one (ps_dput hu (pv 6) (pv 8) (pe_dget hu (pv 5) (pv 8) (fun _ _ => rfl)) rfl))) fun D σ H h k => ?_
  obtain ⟨nm, ka, fa, ha, y2, y7, y8, y9, y10, y11, y12, y13, y14, y15, y16, y17, y18, n, ws, xs, L, fs, rfl, W, hn, F, eh, nh⟩ := h
  have big : (2 : Nat) ^ 20 + 1000 < 2 ^ 39 := by decide
  obtain ⟨vs, ef, dv⟩ := W.faD
  have lv : ((fs.map fnE).map (·.1)).length = vs.length := by rw [dv.len]; simp only [List.length_map]
  refine ⟨_, rfl, _, rfl, fa, _, rfl, .inl ef, fun q hq => ?_⟩
  rw [kz_keysV lv]
  have s1 : Same H (upd H q (.lst (((fs.map fnE).map (·.1)).map V.str))) := Same.new hq
  have W1 := W.same s1
  have eq1 : (upd H q (.lst (((fs.map fnE).map (·.1)).map V.str))) q = some (.lst (((fs.map fnE).map (·.1)).map V.str)) := upd_same
  have eh1 := s1 _ _ eh
  generalize upd H q (.lst (((fs.map fnE).map (·.1)).map V.str)) = H1 at s1 W1 eq1 eh1
  have lF := F.lF
  refine ⟨d, w, c, q, n, _, rfl, W1.draw, eq1, by simp only [List.length_map]; omega, fun x hx => ?_, by omega, fun p ys H2 pm D2 b2 hp e2 => ?_⟩
  · obtain ⟨z, hz, rfl⟩ := List.mem_map.mp hx
    rw [List.map_map] at hz
    obtain ⟨f, hf, rfl⟩ := List.mem_map.mp hz
    exact ⟨_, .str _, shd_str (okS_name (F.okF f hf).1)⟩
  have W2 := W1.drew D2 b2
  have nh' := nh
  simp only [List.mem_cons, List.not_mem_nil, or_false, not_or] at nh'
  have eh2 := b2 _ _ eh1 nh'.1 nh'.2.1
  have np := W1.fresh hp
  have nph : p ≠ ha := (ne_of_none eh1 hp).symm
  rw [show ((fs.map fnE).map (·.1)).map V.str = fs.map (fun f : NFn => V.str f.1) by simp only [List.map_map]; rfl] at pm
  obtain ⟨fs', pf, rfl⟩ := perm_map pm
  have nd' : ((fs'.map fnE).map Prod.fst).Nodup := by
    rw [List.map_map]
    exact (pf.map _).nodup_iff.mpr F.ndF
  have l' : fs'.length ≤ 3 := by rw [pf.length_eq]; exact F.lF
  refine ⟨p, rfl, ⟨_, SqL.of e2⟩, for_list (K := K) (a := p) (xs := fs'.map fun f : NFn => V.str f.1) (fun i σ H' => ∃ y8 n', σ = S19 a d y2 (some (.ref nm)) (some (.ref ka)) (some (.ref fa)) (some (.ref ha)) y7 y8 y9 y10 y11 y12 y13 y14 y15 y16 y17 y18 ∧ TW T d w c nm ka fa n' ws xs L fs H' ∧ n' ≤ N + 510 ∧ DictL H' ha ((fs'.map fnE).take i) ∧ H' p = some (.lst (fs'.map fun f : NFn => V.str f.1)))
    ⟨_, _, rfl, W2, by simp only [List.length_map]; omega, dictL_nil eh2, e2⟩ (fun i σ H' _ ⟨_, _, _, _, _, _, e⟩ => SqL.of e) ?_ ?_⟩
  · rintro i u σ H3 hu1 ⟨z8, n3, rfl, W3, hn3, dh3, e3⟩
    rw [List.getElem?_map] at hu1
    obtain ⟨f, hf, rfl⟩ := Option.map_eq_some_iff.mp hu1
    have mf := pf.mem_iff.mp (List.mem_of_getElem? hf)
    obtain ⟨v, g1, g2⟩ := W3.faD.get (k := f.1) (d := fnD f.2) (lookup_map_some (f := (·.1)) (g := fun f : NFn => fnD f.2) F.ndF mf)
    obtain ⟨kvs, q1, q2, q3⟩ := dh3.putAt (W := fs'.map fnE) (k := f.1) (d := fnD f.2) (v := v) (by rw [List.getElem?_map, hf]; rfl) nd' (tupOs_fn fs') (by rw [List.length_map]; omega) g2
    refine ⟨_, rfl, _, rfl, fa, v, rfl, g1, _, rfl, _, rfl, ha, _, rfl, DPut.k (k := .inr f.1) q1 q2, _, _, rfl, W3.mut nh q1 (fun _ z => nomatch z), hn3, q3, ?_⟩
    rw [upd_ne nph]
    exact e3
  · rintro σ H3 ⟨z8, n3, rfl, W3, hn3, dh3, e3⟩
    rw [List.length_map, List.take_of_length_le (by rw [List.length_map]; exact Nat.le_refl _)] at dh3
    exact k _ _ ⟨nm, ka, fa, ha, _, _, _, _, _, _, _, _, _, _, _, _, _, n3, ws, xs, L, fs, fs', rfl, W3, hn3, F, nh, dh3, pf⟩
theorem law_b5 (B : Gb mg) (DF : DefL P w0 K mg base T C BK BF UN fE) (hr : Room 8 (XL P w0 K mg base fl cL A0 o0 s0 H0 E1).A) (hN : N < 2 ^ 20) : Trip (XL P w0 K mg base fl cL A0 o0 s0 H0 E1) (lawB 5) (Q5 T a d w c N) (Q6 T a d w c N) := by
  obtain ⟨fS, fdS, FS, GS, bS, gS⟩ := DF.shuf
  have hr3 := hr.mono (by decide : 3 ≤ 8)
  refine .mk (ps_set (i := 13) scLaw.nd rfl (.inl rfl) (pe_call GS hr3 (by rfl) gS FS.kp bS .nil pass0 (pa_cons (pv 1) (pa_cons (pv 4) pa_nil)))) fun D σ H h k => ?_
  obtain ⟨nm, ka, fa, ha, y2, y7, y8, y9, y10, y11, y12, y13, y14, y15, y16, y17, y18, n, ws, xs, L, fs, fs', rfl, W, hn, F, nh, dh, pf⟩ := h
  have big : (2 : Nat) ^ 20 + 1000 < 2 ^ 39 := by decide
  have lx : xs.length = L.length := by rw [W.kaD.len, List.length_map]
  have l4 := F.l4
  refine ⟨_, rfl, _, rfl, d, w, c, ka, n, xs, rfl, W.draw, W.kaE, by omega, fun x hx => ?_, by omega, fun p ys H2 pm D2 b2 hp e2 => ?_⟩
  · obtain ⟨i, hi⟩ := List.getElem?_of_mem hx
    obtain ⟨e, he, hda⟩ := W.kaD.get hi
    rw [List.getElem?_map] at he
    obtain ⟨D', hD', rfl⟩ := Option.map_eq_some_iff.mp he
    exact ⟨_, hda, shd_dcl (F.okL D' (List.mem_of_getElem? hD'))⟩
  have W2 := W.drew D2 b2
  have kb := But2.kp W.draw b2
  have nh' := nh
  simp only [List.mem_cons, List.not_mem_nil, or_false, not_or] at nh'
  have dh2 := dh.kp kb (by simpa using ⟨nh'.1, nh'.2.1⟩) (tupOs_fn fs')
  obtain ⟨bs, rfl, rfl, hb⟩ := da_pairs W2.kaD
  obtain ⟨bs', pb, rfl⟩ := perm_map pm
  have nph : p ≠ ha := by
    obtain ⟨vs, e, _⟩ := dh
    exact (ne_of_none e hp).symm
  refine k _ _ ⟨nm, ka, fa, ha, p, _, _, _, _, _, _, _, _, _, _, _, _, _, ws, _, bs.map (·.2), fs, fs', _, bs'.map (·.2), rfl, W2, by omega, F, nh, dh2, pf, W.fresh hp, nph, e2, pairs_da fun b hbm => hb b (pb.mem_iff.mp hbm), pb.map _⟩
end
end SA
set_option Elab.async false
set_option linter.all false
set_option maxRecDepth 100000
set_option maxHeartbeats 8000000
namespace SA
open PySem PySem.Spec PyProof.Rows L2 K1
/-- the scope as it stands, and what stood when it was made -/
structure SC (R : List Addr) (Hs H : Hp) (x C : Addr) (L : List Dcl) (fs : List NFn) : Prop where
  sc : ScopeN Hs H x C (sortD L) (sortF fs)
  st : ∀ q ∈ R, (∃ o, Hs q = some o ∧ ∀ ps, o ≠ .tbl ps) ∧ q ≠ x
theorem SC.kp {S R : List Addr} {Hs H H' : Hp} {x C : Addr} {L : List Dcl} {fs : List NFn} (h : SC R Hs H x C L fs) (k : Kp S H H') (hS : ∀ s ∈ S, s ∈ R) : SC R Hs H' x C L fs :=
  ⟨h.sc.kp k (fun m => (h.st x (hS x m)).2 rfl) fun s hs => (h.st s (hS s hs)).1, h.st⟩
theorem SC.mono {R R' : List Addr} {Hs H : Hp} {x C : Addr} {L : List Dcl} {fs : List NFn} (h : SC R Hs H x C L fs) (hS : ∀ s ∈ R', s ∈ R) : SC R' Hs H x C L fs := ⟨h.sc, fun q hq => h.st q (hS q hq)⟩
/-- behind the scope -/
def Q7 (T : List (Addr × Str)) (C a d w c : Addr) (N : Nat) (σ : L2.St) (H : Hp) : Prop := ∃ nm ka fa ha pa x y2 y7 y8 y9 y10 y11 y12 y15 y16 y17 y18 n ws xs L fs ys kvs Hs, σ = S19 a d y2 (some (.ref nm)) (some (.ref ka)) (some (.ref fa)) (some (.ref ha)) y7 y8 y9 y10 y11 y12 (some (.ref pa)) (some (.ref x)) y15 y16 y17 y18 ∧ TW T d w c nm ka fa n ws xs L fs H ∧ n ≤ N + 520 ∧
  TF 25 ws L fs ∧ ha ∉ [d, w, c, nm, ka, fa] ∧ pa ∉ [d, w, c, nm, ka, fa] ∧ pa ≠ ha ∧ H ha = some (.dK kvs) ∧ H pa = some (.lst ys) ∧ SC [d, w, c, nm, ka, fa, pa, ha] Hs H x C L fs
/-- what is known from then on -/
structure Core (T : List (Addr × Str)) (C d w c : Addr) (N : Nat) (nm ka fa x : Addr) (n : Nat) (ws : List Str) (xs : List V) (L : List Dcl) (fs : List NFn) (H : Hp) : Prop where
  W : TW T d w c nm ka fa n ws xs L fs H
  F : TF 25 ws L fs
  hn : n ≤ N
  S : ∃ Hs, SC [d, w, c, nm, ka, fa] Hs H x C L fs
theorem Core.same {T : List (Addr × Str)} {C d w c : Addr} {N : Nat} {nm ka fa x : Addr} {n : Nat} {ws : List Str} {xs : List V} {L : List Dcl} {fs : List NFn} {H H' : Hp} (h : Core T C d w c N nm ka fa x n ws xs L fs H) (s : Same H H') : Core T C d w c N nm ka fa x n ws xs L fs H' :=
  ⟨h.W.same s, h.F, h.hn, h.S.imp fun Hs q => q.kp (S := []) (.of s) (by simp)⟩
theorem Core.kp0 {T : List (Addr × Str)} {C d w c : Addr} {N : Nat} {nm ka fa x : Addr} {n : Nat} {ws : List Str} {xs : List V} {L : List Dcl} {fs : List NFn} {H H' : Hp} (h : Core T C d w c N nm ka fa x n ws xs L fs H) (k : Kp [] H H') (t : LamX.Tabs T H') : Core T C d w c N nm ka fa x n ws xs L fs H' :=
  ⟨h.W.kp0 k t, h.F, h.hn, h.S.imp fun Hs q => q.kp (S := []) k (by simp)⟩
theorem Core.drew {T : List (Addr × Str)} {C d w c : Addr} {N : Nat} {nm ka fa x : Addr} {n m : Nat} {ws : List Str} {xs : List V} {L : List Dcl} {fs : List NFn} {H H' : Hp} (h : Core T C d w c N nm ka fa x n ws xs L fs H) (D : DrawAt H' d w c m) (b : But2 d w H H') (hm : m ≤ N) : Core T C d w c N nm ka fa x m ws xs L fs H' :=
  ⟨h.W.drew D b, h.F, hm, h.S.imp fun Hs q => q.kp (b.kp h.W.draw) (by intro s hs; simp only [List.mem_cons, List.not_mem_nil, or_false] at hs ⊢; rcases hs with h | h <;> simp [h])⟩
def Q9 (T : List (Addr × Str)) (C a d w c : Addr) (N : Nat) (σ : L2.St) (H : Hp) : Prop := ∃ nm ka fa x y2 y6 y7 y8 y9 y10 y11 y12 y13 y15 y16 y17 y18 n ws xs L fs, σ = S19 a d y2 (some (.ref nm)) (some (.ref ka)) (some (.ref fa)) y6 y7 y8 y9 y10 y11 y12 y13 (some (.ref x)) y15 y16 y17 y18 ∧ Core T C d w c (N + 520) nm ka fa x n ws xs L fs H
/-- the coded functions: empty -/
def Q10 (T : List (Addr × Str)) (C a d w c : Addr) (N : Nat) (σ : L2.St) (H : Hp) : Prop := ∃ nm ka fa x ca y2 y6 y7 y8 y9 y10 y11 y12 y13 y16 y17 y18 n ws xs L fs Hb, σ = S19 a d y2 (some (.ref nm)) (some (.ref ka)) (some (.ref fa)) y6 y7 y8 y9 y10 y11 y12 y13 (some (.ref x)) (some (.ref ca)) y16 y17 y18 ∧ Core T C d w c (N + 520) nm ka fa x n ws xs L fs Hb ∧ Same Hb H ∧ Hb ca = none ∧ H ca = some (.dK [])
/-- the coded functions -/
def Q11 (T : List (Addr × Str)) (C a d w c : Addr) (N : Nat) (σ : L2.St) (H : Hp) : Prop := ∃ nm ka fa x ca y2 y6 y7 y8 y9 y10 y11 y12 y13 y16 y17 y18 n ws xs L fs, σ = S19 a d y2 (some (.ref nm)) (some (.ref ka)) (some (.ref fa)) y6 y7 y8 y9 y10 y11 y12 y13 (some (.ref x)) (some (.ref ca)) y16 y17 y18 ∧ Core T C d w c (N + 520) nm ka fa x n ws xs L fs H ∧ DictL H ca (List.map cfnE fs) ∧ ca ∉ [d, w, c, nm, ka, fa]
section
variable {P : Program} {w0 : World} {K : PySem.W.Frag} {mg : Str → Option Value} {base : Heap} {T : List (Addr × Str)} {C BK BF UN fE fl cL : Addr} {A0 : Around} {o0 : List Env} {s0 : Shared} {H0 : Hp} {E1 : XK} {a d w c : Addr} {N : Nat}
theorem law_b6 (B : Gb mg) (DF : DefL P w0 K mg base T C BK BF UN fE) (hr : Room 8 (XL P w0 K mg base fl cL A0 o0 s0 H0 E1).A) (hN : N < 2 ^ 20) : Trip (XL P w0 K mg base fl cL A0 o0 s0 H0 E1) (lawB 6) (Q6 T a d w c N) (Q7 T C a d w c N) := by
  obtain ⟨fI, fdI, M, GI, bI, kI, gS⟩ := DF.scope
  have hr7 := hr.mono (by decide : 7 ≤ 8)
  refine .mk (ps_set (i := 14) scLaw.nd rfl (.inl rfl) (pe_makeK0 (E := E0) M GI hr7 (by rfl) gS kI passL (pk_cons (pv 13) (pk_cons (pv 6) pk_nil)))) fun D σ H h k => ?_
  obtain ⟨nm, ka, fa, ha, pa, y2, y7, y8, y9, y10, y11, y12, y14, y15, y16, y17, y18, n, ws, xs, L, fs, fs', ys, L', rfl, W, hn, F, nh, dh, pf, np, nph, ep, dy, pL⟩ := h
  refine ⟨_, rfl, _, rfl, rfl, rfl, fun x dx hx hdx hne => ?_⟩
  have st : Same H (upd (upd H dx (.own x)) x (.ins C dx [])) := fun b o e => by
    rw [upd_ne (ne_of_none e hx), upd_ne (ne_of_none e hdx)]
    exact e
  have ndL : (L.flatMap Dcl.names).Nodup := (List.nodup_append.mp F.nd).1
  have ndL' : (L'.flatMap Dcl.names).Nodup := (nodup_perm_flat pL).mpr ndL
  have ndF' : (fs'.map (·.1)).Nodup := (pf.map _).nodup_iff.mpr F.ndF
  have lL' := pL.length_eq
  have lf' := pf.length_eq
  have l4 := F.l4
  have lF := F.lF
  refine ⟨x, dx, .ref pa, .ref ha, rfl, upd_same, tabs_make hx hdx W.tabs, .inr (.inr ⟨pa, ys, L', rfl, .inl (st _ _ ep), dy.same st, fun D hD => F.okL D (pL.mem_iff.mp hD), by omega, .inr ⟨ndL', .inr ⟨ha, fs', rfl, dh.same st, ndF', fun f hf => F.okF f (pf.mem_iff.mp hf), by omega, fun H' k1 t1 sc => ⟨rfl, ?_⟩⟩⟩⟩)⟩
  have kk : Kp [] H H' := kp_make hx hdx k1
  obtain ⟨kvs, eh, _⟩ := id dh
  have sS : ∀ q ∈ [d, w, c, nm, ka, fa, pa, ha], (∃ o, (upd (upd H dx (.own x)) x (.ins C dx [])) q = some o ∧ ∀ ps, o ≠ .tbl ps) ∧ q ≠ x := fun q hq => by
    have : ∃ o, H q = some o ∧ ∀ ps, o ≠ .tbl ps := by
      have hq' : q ∈ [d, w, c, nm, ka, fa] ∨ q = pa ∨ q = ha := by
        simp only [List.mem_cons, List.not_mem_nil, or_false] at hq ⊢
        rcases hq with h | h | h | h | h | h | h | h <;> simp [h]
      rcases hq' with h | rfl | rfl
      · obtain ⟨o, e, t, _⟩ := W.stood h
        exact ⟨o, e, t⟩
      · exact ⟨_, ep, fun _ z => nomatch z⟩
      · exact ⟨_, eh, fun _ z => nomatch z⟩
    obtain ⟨o, e, t⟩ := this
    exact ⟨⟨o, st _ _ e, t⟩, ne_of_none e hx⟩
  rw [sortD_uniq pL ndL', sortF_uniq pf ndF'] at sc
  exact k _ _ ⟨nm, ka, fa, ha, pa, x, _, _, _, _, _, _, _, _, _, _, _, n, ws, xs, L, fs, ys, _, _, rfl, W.kp0 kk t1, hn, F, nh, np, nph, kk.1 _ _ eh (by simp) (fun _ z => nomatch z), kk.1 _ _ ep (by simp) (fun _ z => nomatch z), sc, sS⟩
theorem law_b7 : Trip (XL P w0 K mg base fl cL A0 o0 s0 H0 E1) (lawB 7) (Q7 T C a d w c N) (Q7 T C a d w c N) := by
  refine .mk (ps_expr (pe_bm0 PySem.F.plainAttrs_list PySem.F.slot_list_clear PySem.F.type_list_clear mt_clear (pv 13))) fun D σ H h k => ?_
  obtain ⟨nm, ka, fa, ha, pa, x, y2, y7, y8, y9, y10, y11, y12, y15, y16, y17, y18, n, ws, xs, L, fs, ys, kvs, Hs, rfl, W, hn, F, nh, np, nph, eh, ep, sc⟩ := h
  have kk : Kp [pa] H (upd H pa (.lst [])) := Kp.upd ep (fun _ z => nomatch z) (by simp)
  refine ⟨_, rfl, .inl ⟨rfl, _, SqL.of ep⟩, pa, _, rfl, rfl, ep, k _ _ ⟨nm, ka, fa, ha, pa, x, _, _, _, _, _, _, _, _, _, _, _, n, ws, xs, L, fs, [], kvs, Hs, rfl, W.mut np ep (fun _ z => nomatch z), hn, F, nh, np, nph, ?_, upd_same, sc.kp kk (by simp)⟩⟩
  rw [upd_ne nph.symm]
  exact eh
theorem law_b8 : Trip (XL P w0 K mg base fl cL A0 o0 s0 H0 E1) (lawB 8) (Q7 T C a d w c N) (Q9 T C a d w c N) := by
  refine .mk (ps_expr (pe_dclear (pv 6))) fun D σ H h k => ?_
  obtain ⟨nm, ka, fa, ha, pa, x, y2, y7, y8, y9, y10, y11, y12, y15, y16, y17, y18, n, ws, xs, L, fs, ys, kvs, Hs, rfl, W, hn, F, nh, np, nph, eh, ep, sc⟩ := h
  have kk : Kp [ha] H (upd H ha (.dK [])) := Kp.upd eh (fun _ z => nomatch z) (by simp)
  exact ⟨_, rfl, .inr (.inr (.inl ⟨rfl, .inl ⟨_, eh⟩⟩)), ha, _, rfl, rfl, eh, k _ _ ⟨nm, ka, fa, x, _, _, _, _, _, _, _, _, _, _, _, _, _, n, ws, xs, L, fs, rfl, W.mut nh eh (fun _ z => nomatch z), F, hn, Hs, (sc.kp kk (by simp)).mono (by simp +contextual)⟩⟩
theorem law_b9 (B : Gb mg) (DF : DefL P w0 K mg base T C BK BF UN fE) (hr : Room 8 (XL P w0 K mg base fl cL A0 o0 s0 H0 E1).A) : Trip (XL P w0 K mg base fl cL A0 o0 s0 H0 E1) (lawB 9) (Q9 T C a d w c N) (Q9 T C a d w c N) := by
  obtain ⟨fM, fdM, FM, GM, bM, gM⟩ := DF.means
  obtain ⟨fU, fdU, FU, GU, bU, gU⟩ := DF.unm
  have hr5 := hr.mono (by decide : 5 ≤ 8)
  have hr7 := hr.mono (by decide : 7 ≤ 8)
  refine .mk (ps_if (PW.pt (pw_or (pt_not (pt_val (pe_call GM hr5 (by rfl) gM FM.kp bM .nil pass0 (pa_cons (pv 14) (pa_cons (pv 4) (pa_cons (pv 5) pa_nil))))))
      (pw_or1 (pt_not (pt_val (pe_call GU hr7 (by rfl) gU FU.kp bU .nil pass0 (pa_cons (pv 14) (pa_cons (pv 4) (pa_cons (pv 5) (pa_cons (pv 3) pa_nil)))))))))) (pss_one (ps_ret pe_bl)) pss_nil) fun D σ H h k => ?_
  obtain ⟨nm, ka, fa, x, y2, y6, y7, y8, y9, y10, y11, y12, y13, y15, y16, y17, y18, n, ws, xs, L, fs, rfl, Co⟩ := h
  have W := Co.W
  have F := Co.F
  obtain ⟨Hs, S⟩ := Co.S
  have ndL : (L.flatMap Dcl.names).Nodup := (List.nodup_append.mp F.nd).1
  have l4 := F.l4
  have lF := F.lF
  obtain ⟨o0, of1, of2⟩ := (S.st fa (by simp)).1
  refine ⟨_, rfl, _, rfl, _, rfl, x, ka, fa, Hs, L, fs, xs, o0, rfl, S.sc, W.kaE, W.kaD, W.faD, of1, of2, ndL, F.okL, by omega, F.ndF, F.okF, by omega, fun H1 s1 => ⟨_, rfl, iteF ?_⟩⟩
  have C1 := Co.same s1
  have W1 := C1.W
  obtain ⟨Hs1, S1⟩ := C1.S
  obtain ⟨nm0, ws', rfl⟩ : ∃ y r, ws = y :: r := by
    cases ws with
    | nil => have := F.lw; simp at this
    | cons y r => exact ⟨y, r, rfl⟩
  refine ⟨_, rfl, _, rfl, _, rfl, _, rfl, x, ka, fa, nm, L, fs, xs, nm0, ws', rfl, S1.sc.at_, W1.kaE, W1.kaD, W1.faD, W1.nmE, F.nam nm0 (by simp), F.okL, by omega, fun f hf => (F.okF f hf).1, F.ndF, by omega, W1.tabs, fun H2 e2 t2 => ⟨_, rfl, iteF ?_⟩⟩
  exact k _ _ ⟨nm, ka, fa, x, _, _, _, _, _, _, _, _, _, _, _, _, _, n, _, xs, L, fs, rfl, C1.kp0 (.ext e2) t2⟩
theorem law_b10 : Trip (XL P w0 K mg base fl cL A0 o0 s0 H0 E1) (lawB 10) (Q9 T C a d w c N) (Q10 T C a d w c N) := by
  refine .mk (ps_set (i := 15) scLaw.nd rfl (.inl rfl) pe_dnewK) fun D σ H h k => ?_
  obtain ⟨nm, ka, fa, x, y2, y6, y7, y8, y9, y10, y11, y12, y13, y15, y16, y17, y18, n, ws, xs, L, fs, rfl, Co⟩ := h
  exact fun p hp => k _ _ ⟨nm, ka, fa, x, p, _, _, _, _, _, _, _, _, _, _, _, _, n, ws, xs, L, fs, H, rfl, Co, Same.new hp, hp, upd_same⟩
end
end SA
set_option Elab.async false
set_option linter.all false
set_option maxRecDepth 100000
set_option maxHeartbeats 8000000
namespace SA
open PySem PySem.Spec PyProof.Rows L2 K1
section
variable {P : Program} {w0 : World} {K : PySem.W.Frag} {mg : Str → Option Value} {base : Heap} {T : List (Addr × Str)} {C BK BF UN fE fl cL : Addr} {A0 : Around} {o0 : List Env} {s0 : Shared} {H0 : Hp} {E1 : XK} {a d w c : Addr} {N : Nat}
theorem law_b11 (B : Gb mg) (DF : DefL P w0 K mg base T C BK BF UN fE) (hr : Room 8 (XL P w0 K mg base fl cL A0 o0 s0 H0 E1).A) : Trip (XL P w0 K mg base fl cL A0 o0 s0 H0 E1) (lawB 11) (Q10 T C a d w c N) (Q11 T C a d w c N) := by
  obtain ⟨fC, fdC, FC, GC, bC, gC⟩ := DF.coded
  have hr1 := hr.mono (by decide : 1 ≤ 8)
  have hu := hu_of hr
  refine .mk (ps_lock (ps_for PassesOwn.never rfl (pi_keys (pv 5)) (pg_name (i := 8) scLaw.nd rfl (Or.inl rfl))
    (pss_one (ps_dput hu (pv 15) (pv 8) (pe_tup (pa_cons (pe_callTy call_tuple_of (by rfl) B.tuple (by decide +kernel) (pa_cons (pe_lc (own := [("kind", 16)]) (g := gName 16) (tt := tYes) (te := tCall spKic [] E0 (tCons (tVar 16) tNil)) (by rfl) scLaw.nd (pi_tup (pe_ix ix_tup (pe_dget hu (pv 5) (pv 8) (fun _ _ => rfl)) pe_int (fun _ _ => rfl)))
        (blkOk_by (N := nLaw) (sc := defScope sLaw) (by decide +kernel)) (fun _ _ _ _ _ => pg_name (i := 16) scLaw.nd rfl (Or.inl rfl)) (fun _ _ _ _ _ => pts_nil) (fun _ _ _ _ _ => pe_call GC hr1 (by rfl) gC FC.kp bC .nil pass0 (pa_cons (pv 16) pa_nil))) pa_nil))
      (pa_cons (pe_call GC hr1 (by rfl) gC FC.kp bC .nil pass0 (pa_cons (pe_ix ix_tup (pe_dget hu (pv 5) (pv 8) (fun _ _ => rfl)) pe_int (fun _ _ => rfl)) pa_nil)) pa_nil))) rfl)))) fun D σ H h k => ?_
  obtain ⟨nm, ka, fa, x, ca, y2, y6, y7, y8, y9, y10, y11, y12, y13, y16, y17, y18, n, ws, xs, L, fs, Hb, rfl, Co, sb, hca, eca⟩ := h
  have Wb := Co.W
  have F := Co.F
  have lF := F.lF
  obtain ⟨vs, ef, dv⟩ := Wb.faD.same sb
  have nca := Wb.fresh hca
  have nca' := nca
  simp only [List.mem_cons, List.not_mem_nil, or_false, not_or] at nca'
  have nfc : fa ≠ ca := nca'.2.2.2.2.2 ∘ Eq.symm
  have kl : ∀ od, Kp [fa] H (upd H fa (.frz od (.dK (kz ((fs.map fnE).map (·.1)) vs)))) := fun od => Kp.upd ef (fun _ z => nomatch z) (by simp)
  refine ⟨fa, _, ef, trivial, fun od => ?_⟩
  have dvl := DaAll.kp (kl od) (tupOs_fn fs) dv
  have el : (upd H fa (.frz od (.dK (kz ((fs.map fnE).map (·.1)) vs)))) fa = some (.frz od (.dK (kz ((fs.map fnE).map (·.1)) vs))) := upd_same
  have ecl : (upd H fa (.frz od (.dK (kz ((fs.map fnE).map (·.1)) vs)))) ca = some (.dK []) := by rw [upd_ne nfc.symm]; exact eca
  have old : ∀ b o, H b = some o → b ≠ fa → (upd H fa (.frz od (.dK (kz ((fs.map fnE).map (·.1)) vs)))) b = some o := fun b o e hb => by rw [upd_ne hb]; exact e
  generalize upd H fa (.frz od (.dK (kz ((fs.map fnE).map (·.1)) vs))) = Hl at dvl el ecl old
  have ndF := F.ndF
  refine ⟨_, rfl, fa, od, rfl, .inl ⟨_, el, for_it walk_keys (fun i σ H' => Kx [ca] Hl H' ∧ DictL H' ca ((fs.map cfnE).take i) ∧ ∃ y8, σ = S19 a d y2 (some (.ref nm)) (some (.ref ka)) (some (.ref fa)) y6 y7 y8 y9 y10 y11 y12 y13 (some (.ref x)) (some (.ref ca)) y16 y17 y18) ⟨Kx.refl _ _, dictL_nil ecl, _, rfl⟩ (fun i σ H' _ ⟨kk, _⟩ => kk.keep _ _ el (by simpa using nfc)) ?_ ?_⟩⟩
  · rintro i u σ H2 H3 hi ⟨k2, d2, z8, rfl⟩ ⟨rfl, k0, v0, hk0, rfl⟩
    obtain ⟨w0', hw, _, rfl⟩ := kz_get hk0
    rw [List.map_map, List.getElem?_map] at hw
    obtain ⟨f, hf, rfl⟩ := Option.map_eq_some_iff.mp hw
    have mf := List.mem_of_getElem? hf
    have okf := (F.okF f mf).2
    have l3 := okf.len
    have lock : ∀ {H' : Hp}, Kx [ca] Hl H' → H' fa = some (.frz od (.dK (kz ((fs.map fnE).map (·.1)) vs))) := fun kk => kk.keep _ _ el (by simpa using nfc)
    have getF : ∀ {H' : Hp}, Kx [ca] Hl H' → ∃ v, valV (kz ((fs.map fnE).map (·.1)) vs) (.inr f.1) = some v ∧ Da H' v (fnD f.2) := fun kk => (kz_val (k := f.1) (DaAll.kp kk.kp (tupOs_fn fs) dvl)).1 (fnD f.2) (lookup_map_some (f := (·.1)) (g := fun f : NFn => fnD f.2) ndF mf)
    obtain ⟨v1, g1, g2⟩ := getF k2
    obtain ⟨a2, y2, rfl, e2, dy2⟩ := da_fn2 g2
    obtain ⟨b2, rfl, eb2⟩ := da_fld dy2
    refine ⟨_, rfl, _, rfl, fa, .ref a2, rfl, .inl ⟨_, .inr f.1, .inr ⟨od, lock k2⟩, rfl, g1.symm⟩, a2, _, 0, .ref b2, rfl, rfl, SqT.of e2, rfl, b2, rfl, ⟨_, SqT.of eb2⟩, fun q hq => lc_da walk_tup ((f.2.1.map codedS).map PyData.str) (by simp) (tupOs_strs _) (small1000 (by rw [List.length_map]; omega)) hq (fun H' s' => SqT.of (s' _ _ eb2)) ?_ ?_⟩
    · intro i x d R H' hx' hd' s' hR
      rw [List.getElem?_map] at hx' hd'
      rw [List.getElem?_map] at hd'
      obtain ⟨w, hw, rfl⟩ := Option.map_eq_some_iff.mp hx'
      rw [hw] at hd'
      cases hd'
      exact ⟨rfl, _, rfl, w, rfl, hR _ _ (Same.refl _) (.str _)⟩
    · intro H7 ys s7 e7 dy
      refine ⟨q, _, rfl, .inl ⟨SqL.of e7, fun l hl => ?_⟩⟩
      have s8 : Same H7 (upd H7 l (.tup ys)) := Same.new hl
      have k8 := k2.same (s7.trans s8)
      have d8 := d2.same (s7.trans s8)
      have el8 : (upd H7 l (.tup ys)) l = some (.tup ys) := upd_same
      have dy8 := dy.same s8
      generalize upd H7 l (.tup ys) = H8 at k8 d8 el8 dy8
      obtain ⟨v3, g3, g4⟩ := getF k8
      rw [g1] at g3
      cases g3
      obtain ⟨a4, y4, ea4, e4, dy4⟩ := da_fn2 g4
      cases ea4
      refine ⟨_, rfl, _, rfl, fa, .ref a2, rfl, .inl ⟨_, .inr f.1, .inr ⟨od, lock k8⟩, rfl, g1.symm⟩, a2, _, 1, .str f.2.2, rfl, rfl, SqT.of e4, rfl, f.2.2, rfl, (by show 2 ≤ sizeLine; decide), fun p hp => ?_⟩
      have s9 : Same H8 (upd H8 p (.tup [.ref l, .str (codedS f.2.2)])) := Same.new hp
      have dvv : Da (upd H8 p (.tup [.ref l, .str (codedS f.2.2)])) (.ref p) (fnD (codedF f.2)) := .tup upd_same (.cons (.tup (s9 _ _ el8) (dy8.same s9)) (.cons (.str _) .nil))
      have k9 := k8.same s9
      have d9 := d8.same s9
      generalize upd H8 p (.tup [V.ref l, V.str (codedS f.2.2)]) = H9 at dvv k9 d9
      obtain ⟨kvs, q1, q2, q3⟩ := d9.putAt (W := fs.map cfnE) (k := f.1) (d := fnD (codedF f.2)) (v := .ref p) (by rw [List.getElem?_map, hf]; rfl) (by rw [List.map_map]; exact ndF) (tupOs_cfn fs) (by rw [List.length_map]; omega) dvv
      exact ⟨_, rfl, _, rfl, ca, _, rfl, DPut.k (k := .inr f.1) q1 q2, k9.set q1 (fun _ z => nomatch z) (by simp), q3, _, rfl⟩
  · rintro σ H2 ⟨k2, d2, z8, rfl⟩
    have hfa := k2.keep _ _ el (by simpa using nfc)
    have lv : ((fs.map fnE).map (·.1)).length = vs.length := by rw [dv.len]; simp only [List.length_map]
    have l1 : (kz ((fs.map fnE).map (·.1)) vs).length = (fs.map cfnE).length := by
      rw [kz_len lv]
      simp only [List.length_map]
    rw [l1, List.take_of_length_le (Nat.le_refl _)] at d2
    refine ⟨hfa, k _ _ ⟨nm, ka, fa, x, ca, _, _, _, _, _, _, _, _, _, _, _, _, n, ws, xs, L, fs, rfl, Co.same fun b o e => ?_, d2.kp (Kp.upd (S := [fa]) hfa (fun _ z => nomatch z) (by simp)) (by simpa using nfc.symm) (tupOs_cfn fs), nca⟩⟩
    have eH := sb b o e
    by_cases hb : b = fa
    · rw [hb] at eH ⊢
      rw [upd_same, ← ef, eH]
    · rw [upd_ne hb]
      exact k2.keep _ _ (old b o eH hb) (by simpa using ne_of_none e hca)
end
end SA
set_option Elab.async false
set_option linter.all false
set_option maxRecDepth 100000
set_option maxHeartbeats 8000000
namespace SA
open PySem PySem.Spec PyProof.Rows L2 K1
theorem shDs_of {L : List Dcl} (h : ∀ D ∈ L, D.Ok) : ShDs (L.map Dcl.d) := shaped_tup fun d hd => by
  obtain ⟨D, hD, rfl⟩ := List.mem_map.mp hd
  exact shd_dcl (h D hD)
theorem shDs_sort {L : List Dcl} (h : ∀ D ∈ L, D.Ok) : ShDs ((sortD L).map Dcl.d) := shDs_of fun D hD => h D ((sortD_perm L).mem_iff.mp hD)
theorem dictEqP {K : PySem.W.Frag} {H : Hp} {a b : Addr} {fs fs' : List NFn} (ha : DictL H a (fs.map cfnE)) (hb : DictL H b (fs'.map cfnE)) (p : fs.Perm fs') (nd : (fs'.map (·.1)).Nodup) (shf : ∀ f ∈ fs, SeqAt.shaped (fnD (codedF f.2)) = true) {neg : Bool} {Q : VK} (k : Q (.bl (!neg)) H) : rDictEq K neg (.ref a) (.ref b) H Q := by
  obtain ⟨vs, e1, e2⟩ := ha
  obtain ⟨ws, g1, g2⟩ := hb
  have l1 : vs.length = fs.length := by rw [e2.len]; simp only [List.length_map]
  have l2 : ws.length = fs'.length := by rw [g2.len]; simp only [List.length_map]
  have z1 : (kz ((fs.map cfnE).map (·.1)) vs).length = fs.length := by rw [kz_len (by rw [l1]; simp only [List.length_map])]; simp only [List.length_map]
  have z2 : (kz ((fs'.map cfnE).map (·.1)) ws).length = fs'.length := by rw [kz_len (by rw [l2]; simp only [List.length_map])]; simp only [List.length_map]
  refine ⟨a, b, _, _, true, rfl, rfl, e1, g1, fun _ => sameHits g2 e2 fun q hq => ?_, ?_⟩
  · obtain ⟨f, hf, rfl⟩ := List.mem_map.mp hq
    exact ⟨lookup_map_some (f := (·.1)) (g := fun f : NFn => fnD (codedF f.2)) nd (p.mem_iff.mp hf), tupO_fn _, rfl, shf f hf⟩
  · rw [z1, z2, p.length_eq]
    cases neg <;> simpa using k
/-- Scope(declarations, functions) -/
theorem made {P : Program} {w0 : World} {T : List (Addr × Str)} {C BK BF : Addr} {H : Hp} {a fa : Addr} {ys : List V} {L : List Dcl} {fs : List NFn} {R : VK} {E : XK} {x dx : Addr} (hT : LamX.Tabs T H) (e : Seq2 H a ys) (dy : DaAll H ys (L.map Dcl.d)) (ok : ∀ D ∈ L, D.Ok) (l60 : L.length ≤ 60) (nd : (L.flatMap Dcl.names).Nodup)
    (df : DictL H fa (fs.map fnE)) (ndF : (fs.map (·.1)).Nodup) (okF : ∀ f ∈ fs, isName f.1 = true ∧ OkF f.2) (lF : fs.length < 64) (hx : H x = none) (hdx : H dx = none) (hne : dx ≠ x) (k : ∀ H', Kp [] H H' → LamX.Tabs T H' → ScopeAt H' x C (sortD L) (sortF fs) → R .non H') :
    spScope P w0 T C BK BF (.ref x :: ([.ref a, .ref fa] ++ [])) (upd (upd H dx (.own x)) x (.ins C dx [])) R E := by
  have st : Same H (upd (upd H dx (.own x)) x (.ins C dx [])) := fun b o e => by
    rw [upd_ne (ne_of_none e hx), upd_ne (ne_of_none e hdx)]
    exact e
  exact ⟨x, dx, .ref a, .ref fa, rfl, upd_same, tabs_make hx hdx hT, .inr (.inr ⟨a, ys, L, rfl, e.same st, dy.same st, ok, l60, .inr ⟨nd, .inr ⟨fa, fs, rfl, df.same st, ndF, okF, lF, fun H' k1 t1 sc => k H' (kp_make hx hdx k1) t1 sc.at_⟩⟩⟩)⟩
theorem shf_of {fs : List NFn} (h : ∀ f ∈ fs, isName f.1 = true ∧ OkF f.2) : ∀ f ∈ sortF fs, SeqAt.shaped (fnD (codedF f.2)) = true := fun f hf => (OkF.coded (h f ((sortF_perm fs).mem_iff.mp hf)).2).shaped
theorem ndS_of {fs : List NFn} (h : (fs.map (·.1)).Nodup) : ((sortF fs).map (·.1)).Nodup := ((sortF_perm fs).map _).nodup_iff.mpr h
section
variable {P : Program} {w0 : World} {K : PySem.W.Frag} {mg : Str → Option Value} {base : Heap} {T : List (Addr × Str)} {C BK BF UN fE fl cL : Addr} {A0 : Around} {o0 : List Env} {s0 : Shared} {H0 : Hp} {E1 : XK} {a d w c : Addr} {N : Nat}
/-- two scopes compared -/
theorem own_eq (DF : DefL P w0 K mg base T C BK BF UN fE) {H : Hp} {x y : Addr} {L L' : List Dcl} {fs fs' : List NFn} {neg b : Bool} {Q : VK} (h1 : ScopeAt H x C (sortD L) (sortF fs)) (h2 : ScopeAt H y C (sortD L') (sortF fs')) (ok : ∀ D ∈ L, D.Ok) (ok' : ∀ D ∈ L', D.Ok) (okF : ∀ f ∈ fs, isName f.1 = true ∧ OkF f.2) (ndF : (fs.map (·.1)).Nodup)
    (h : (L = L' ∧ fs = fs' ∧ b = true) ∨ (L.length ≠ L'.length ∧ b = false) ∨ (L = L' ∧ (fs.length ≠ fs'.length ∨ ∃ f r, sortF fs = f :: r ∧ f.1 ∉ fs'.map (·.1)) ∧ b = false)) (k : ∀ H', Same H H' → Q (.bl (if neg = true then !b else b)) H') : rOwnEq K C (ScEq K C) neg (.ref x) (.ref y) H Q := by
  obtain ⟨dx, kt, fd, td, dd, cd, rs, e1, _⟩ := h1.ex
  obtain ⟨dx', kt', fd', td', dd', cd', rs', e1', _⟩ := h2.ex
  have ty := DF.ty e1'
  refine ⟨x, dx, _, .ref C, b, rfl, e1, ty, DF.first _ (.inl rfl), .inr ⟨y, sortD L, sortF fs, sortD L', sortF fs', rfl, ty, h1, h2, shDs_sort ok, shDs_sort ok', shf_of okF, ndS_of ndF, ?_⟩, k⟩
  have ls : ∀ M : List Dcl, (sortD M).length = M.length := fun M => (sortD_perm M).length_eq
  have lf : ∀ M : List NFn, (sortF M).length = M.length := fun M => (sortF_perm M).length_eq
  rcases h with ⟨rfl, rfl, rfl⟩ | ⟨hl, rfl⟩ | ⟨rfl, hf, rfl⟩
  · exact .inl ⟨rfl, rfl, rfl⟩
  · exact .inr (.inl ⟨by rw [ls, ls]; exact hl, rfl⟩)
  · refine .inr (.inr ⟨rfl, ?_, rfl⟩)
    rcases hf with hf | ⟨f, r, e, hn⟩
    · exact .inl (by rw [lf, lf]; exact hf)
    · exact .inr ⟨f, r, e, fun z => hn (((sortF_perm fs').map _).mem_iff.mp z)⟩
/-- a scope compared with what is none -/
theorem own_eq0 (DF : DefL P w0 K mg base T C BK BF UN fE) {H : Hp} {x : Addr} {y : V} {L : List Dcl} {fs : List NFn} {t : Value} {Q : VK} (h1 : ScopeAt H x C L fs) (ty : TyX K H y t) (ht : t = .type "NoneType" ∨ t = .type "list") (k : ∀ H', Same H H' → Q (.bl false) H') : rOwnEq K C (ScEq K C) false (.ref x) y H Q := by
  obtain ⟨dx, kt, fd, td, dd, cd, rs, e1, _⟩ := h1.ex
  exact ⟨x, dx, _, t, false, rfl, e1, ty, DF.first _ (.inr ht), .inl ⟨t, ty, DF.kit _ ht, rfl⟩, k⟩
theorem law_b12 (B : Gb mg) (DF : DefL P w0 K mg base T C BK BF UN fE) (hr : Room 8 (XL P w0 K mg base fl cL A0 o0 s0 H0 E1).A) {Pl : Addr} (TB : LamX.TabB base mg cL Pl) (hmT : (Pl, (XL P w0 K mg base fl cL A0 o0 s0 H0 E1).env.qual ++ "<lambda>") ∈ T) (hu2 : ∀ p ∈ T, p.1 = Pl → p.2 = (XL P w0 K mg base fl cL A0 o0 s0 H0 E1).env.qual ++ "<lambda>") :
    Trip (XL P w0 K mg base fl cL A0 o0 s0 H0 E1) (lawB 12) (Q11 T C a d w c N) (Q11 T C a d w c N) := by
  have hu66 : (XL P w0 K mg base fl cL A0 o0 s0 H0 E1).A.units + 66 < cLine := by have := hr.un; omega
  refine .mk (ps_if (PW.pt (pw_or (pt_cmpR (op_neD hr.units) (pe_fld (pv 14) rfl) (pe_callTy call_tuple_of (by rfl) B.tuple (by decide +kernel) (pa_cons (pe_sortKey (k := 6) (T := T) (by rfl) B.sorted (pa_cons (pv 4) pa_nil) TB rfl hmT hu2 hr rfl rfl rfl rfl rfl (fun _ _ _ _ _ _ _ => rfl)) pa_nil)) (nomark _))
      (pw_or1 (pt_cmpR (op_dictNe hu66) (pe_fld (pv 14) rfl) (pv 15) (nomark _))))) (pss_one (ps_ret pe_bl)) pss_nil) fun D σ H h k => ?_
  obtain ⟨nm, ka, fa, x, ca, y2, y6, y7, y8, y9, y10, y11, y12, y13, y16, y17, y18, n, ws, xs, L, fs, rfl, Co, dc, nca⟩ := h
  have W := Co.W
  have F := Co.F
  have l4 := F.l4
  obtain ⟨Hs, S⟩ := Co.S
  obtain ⟨dx, kt, fd, td, dd, cd, rs, e1, e2, e3, e4, _⟩ := S.sc.at_.ex
  refine ⟨_, rfl, x, C, dx, _, .ref kt, rfl, e1, DF.cls, DF.nK, rfl, _, rfl, W.tabs, ?_⟩
  obtain ⟨bs, rfl, hL, hb⟩ := da_pairs W.kaD
  refine ⟨Addr × Dcl, ka, bs, (·.1), fun b => b.2.name, rfl, .inl (SqL.of W.kaE), fun b hbm => ?_, fun H2 p x2 t2 hp => ?_⟩
  · obtain ⟨a', y, r, ea, e⟩ := da_name (hb b hbm)
    cases ea
    exact ⟨y, r, e⟩
  have kk : Kp [] H H2 := .ext x2
  have sp : Same H2 (upd H2 p (.lst ((bs.mergeSort fun a b => leS a.2.name b.2.name).map fun b => V.ref b.1))) := Same.new hp
  have ep : (upd H2 p (.lst ((bs.mergeSort fun a b => leS a.2.name b.2.name).map fun b => V.ref b.1))) p = some (.lst ((bs.mergeSort fun a b => leS a.2.name b.2.name).map fun b => V.ref b.1)) := upd_same
  have t3 := t2.ext sp
  have k3 : Kp [] H (upd H2 p (.lst ((bs.mergeSort fun a b => leS a.2.name b.2.name).map fun b => V.ref b.1))) := kk.trans (.of sp)
  generalize upd H2 p (.lst ((bs.mergeSort fun a b => leS a.2.name b.2.name).map fun b => V.ref b.1)) = H3 at ep t3 k3
  refine ⟨p, _, rfl, .inl ⟨SqL.of ep, fun l hl => ?_⟩⟩
  have sl : Same H3 (upd H3 l (.tup ((bs.mergeSort fun a b => leS a.2.name b.2.name).map fun b => V.ref b.1))) := Same.new hl
  have el : (upd H3 l (.tup ((bs.mergeSort fun a b => leS a.2.name b.2.name).map fun b => V.ref b.1))) l = some (.tup ((bs.mergeSort fun a b => leS a.2.name b.2.name).map fun b => V.ref b.1)) := upd_same
  have k4 : Kp [] H (upd H3 l (.tup ((bs.mergeSort fun a b => leS a.2.name b.2.name).map fun b => V.ref b.1))) := k3.trans (.of sl)
  have t4 := t3.ext sl
  generalize upd H3 l (.tup ((bs.mergeSort fun a b => leS a.2.name b.2.name).map fun b => V.ref b.1)) = H4 at el k4 t4
  have C4 := Co.kp0 k4 t4
  have sh : SeqAt.shaped (.tuple ((sortD L).map Dcl.d)) = true := shDs_sort F.okL
  have lay := SeqAt.canLay_of_shaped sh
  have da1 : Da H4 (.ref kt) (.tuple ((sortD L).map Dcl.d)) := .tup (k4.2 _ _ e2) (DaAll.kp k4 (tupOs_dcls _) e3)
  have da2 : Da H4 (.ref l) (.tuple ((sortD L).map Dcl.d)) := by
    refine .tup el ?_
    rw [hL, ← map_sortD]
    refine pairs_da fun b hbm => Da.kp k4 (tupO_dcl _) (hb b ?_)
    exact (List.mergeSort_perm _ _).mem_iff.mp hbm
  refine ⟨_, _, da_dp da1 lay, da_dp da2 lay, sh, sh, ?_⟩
  rw [PySem.SeqAt.eqv_refl _ lay]
  refine ⟨_, rfl, iteF ?_⟩
  obtain ⟨Hs4, S4⟩ := C4.S
  obtain ⟨dx', kt', fd', td', dd', cd', rs', g1, g2, g3, g4, _⟩ := S4.sc.at_.ex
  have dc4 := dc.kp k4 (by simp) (tupOs_cfn fs)
  exact ⟨_, rfl, x, C, dx', _, .ref fd', rfl, g1, DF.cls, DF.nF, rfl, _, rfl, dictEqP g4 dc4 (sortF_perm fs) F.ndF (shf_of F.okF) ⟨_, rfl, iteF (k _ _ ⟨nm, ka, fa, x, ca, _, _, _, _, _, _, _, _, _, _, _, _, n, ws, _, L, fs, rfl, C4, dc4, nca⟩)⟩⟩
end
end SA
set_option Elab.async false
set_option linter.all false
set_option maxRecDepth 100000
set_option maxHeartbeats 8000000
namespace SA
open PySem PySem.Spec PyProof.Rows L2 K1
/-- behind the dict with one function more -/
def Q14 (T : List (Addr × Str)) (C a d w c : Addr) (N : Nat) (σ : L2.St) (H : Hp) : Prop := ∃ nm ka fa x ma y2 y6 y7 y8 y10 y11 y12 y13 y15 y16 y17 y18 n n0 ws xs L fs, σ = S19 a d y2 (some (.ref nm)) (some (.ref ka)) (some (.ref fa)) y6 y7 y8 (some (.ref ma)) y10 y11 y12 y13 (some (.ref x)) y15 y16 y17 y18 ∧ Core T C d w c (N + 520) nm ka fa x n (n0 :: ws) xs L fs H ∧ DictL H ma (List.map fnE [(n0, ([], "number"))])
section
variable {P : Program} {w0 : World} {K : PySem.W.Frag} {mg : Str → Option Value} {base : Heap} {T : List (Addr × Str)} {C BK BF UN fE fl cL : Addr} {A0 : Around} {o0 : List Env} {s0 : Shared} {H0 : Hp} {E1 : XK} {a d w c : Addr} {N : Nat}
theorem law_b13 (B : Gb mg) (DF : DefL P w0 K mg base T C BK BF UN fE) (hr : Room 8 (XL P w0 K mg base fl cL A0 o0 s0 H0 E1).A) : Trip (XL P w0 K mg base fl cL A0 o0 s0 H0 E1) (lawB 13) (Q11 T C a d w c N) (Q9 T C a d w c N) := by
  obtain ⟨fI, fdI, M, GI, bI, kI, gS⟩ := DF.scope
  obtain ⟨fdE, EC, GE, bE⟩ := DF.eqS
  have hr7 := hr.mono (by decide : 7 ≤ 8)
  have hr1 := hr.mono (by decide : 1 ≤ 8)
  have hr2 := hr.mono (by decide : 2 ≤ 8)
  refine .mk (ps_if (PW.pt (pw_or (pt_cmpR (op_neD hr.units) (pe_callTy (call_listD rfl) (by rfl) B.list (by decide +kernel) (pa_cons (pe_fld (pv 14) rfl) pa_nil)) (pe_callB (call_sortedD rfl) (by rfl) B.sorted (by decide +kernel) (pa_cons (pv 15) pa_nil)) (nomark _))
      (pw_or (pt_cmpR (op_ownNe EC GE bE hr2) (pv 14) (pe_make (E := E0) M GI hr7 (by rfl) gS bI .nil passL (pa_cons (pe_callTy call_tuple_of (by rfl) B.tuple (by decide +kernel) (pa_cons (pv 4) pa_nil)) (pa_cons (pv 5) pa_nil))) (nomark _))
      (pw_or (pt_cmpR (op_ownEq EC GE bE hr1) (pv 14) pe_non (nomark _))
      (pw_or1 (pt_cmpR (op_ownEq EC GE bE hr1) (pv 14) (pv 4) (nomark _))))))) (pss_one (ps_ret pe_bl)) pss_nil) fun D σ H h k => ?_
  obtain ⟨nm, ka, fa, x, ca, y2, y6, y7, y8, y9, y10, y11, y12, y13, y16, y17, y18, n, ws, xs, L, fs, rfl, Co, dc, nca⟩ := h
  have F := Co.F
  have l4 := F.l4
  have lF := F.lF
  obtain ⟨Hs, S⟩ := Co.S
  obtain ⟨dx, kt, fd, td, dd, cd, rs, e1, e2, e3, e4, _⟩ := S.sc.at_.ex
  obtain ⟨us, ef, du⟩ := id e4
  have lu : (((sortF fs).map cfnE).map (·.1)).length = us.length := by rw [du.len]; simp only [List.length_map]
  have en : ((sortF fs).map cfnE).map (·.1) = (sortF fs).map (·.1) := by
    rw [List.map_map]
    rfl
  refine ⟨_, rfl, x, C, dx, _, .ref fd, rfl, e1, DF.cls, DF.nF, rfl, fd, _, rfl, .inl ef, fun p hp => ?_⟩
  rw [kz_keysV lu, en]
  have s1 : Same H (upd H p (.lst (((sortF fs).map (·.1)).map V.str))) := Same.new hp
  have ep : (upd H p (.lst (((sortF fs).map (·.1)).map V.str))) p = some (.lst (((sortF fs).map (·.1)).map V.str)) := upd_same
  generalize upd H p (.lst (((sortF fs).map (·.1)).map V.str)) = H1 at s1 ep
  obtain ⟨vs, ec, dv⟩ := dc.same s1
  have lv : ((fs.map cfnE).map (·.1)).length = vs.length := by rw [dv.len]; simp only [List.length_map]
  refine ⟨_, rfl, ca, _, (fs.map cfnE).map (·.1), rfl, .inl ec, kz_keys lv, by simp only [List.length_map]; omega, fun ys q pm srt hq => ?_⟩
  have ey : ys = (sortF fs).map (·.1) := by
    refine sorted_uniq (pw_sorted srt) (sortF_names fs) (pm.trans ?_)
    rw [List.map_map]
    exact ((sortF_perm fs).map (·.1)).symm
  subst ey
  have s2 : Same H1 (upd H1 q (.lst (((sortF fs).map (·.1)).map V.str))) := Same.new hq
  have eq2 : (upd H1 q (.lst (((sortF fs).map (·.1)).map V.str))) q = some (.lst (((sortF fs).map (·.1)).map V.str)) := upd_same
  generalize upd H1 q (.lst (((sortF fs).map (·.1)).map V.str)) = H2 at s2 eq2
  have shL : SeqAt.shaped (.list (((sortF fs).map (·.1)).map .str)) = true := shaped_list fun d hd => by
    obtain ⟨z, hz, rfl⟩ := List.mem_map.mp hd
    obtain ⟨f, hf, rfl⟩ := List.mem_map.mp hz
    exact shd_str (okS_name (F.okF f ((sortF_perm fs).mem_iff.mp hf)).1)
  have layL := SeqAt.canLay_of_shaped shL
  refine ⟨_, _, da_dp (.lst (s2 _ _ ep) (strs_da _)) layL, da_dp (.lst eq2 (strs_da _)) layL, shL, shL, ?_⟩
  rw [PySem.SeqAt.eqv_refl _ layL]
  refine ⟨_, rfl, iteF ?_⟩
  have C2 := Co.same (s1.trans s2)
  have W2 := C2.W
  have ndL : (L.flatMap Dcl.names).Nodup := (List.nodup_append.mp F.nd).1
  refine ⟨_, rfl, _, rfl, ka, _, rfl, .inl ⟨SqL.of W2.kaE, fun l hl => ?_⟩⟩
  have s3 : Same H2 (upd H2 l (.tup xs)) := Same.new hl
  have el : (upd H2 l (.tup xs)) l = some (.tup xs) := upd_same
  have C3 := C2.same s3
  generalize upd H2 l (.tup xs) = H3 at s3 el C3
  have W3 := C3.W
  refine ⟨_, rfl, fun x2 dx2 hx hdx hne => made W3.tabs (.inr el) W3.kaD F.okL (by omega) ndL W3.faD F.ndF F.okF (by omega) hx hdx hne fun H4 k4 t4 sc4 => ⟨rfl, ?_⟩⟩
  have C4 := C3.kp0 k4 t4
  obtain ⟨Hs4, S4⟩ := C4.S
  refine own_eq DF (b := true) (neg := true) S4.sc.at_ sc4 F.okL F.okL F.okF F.ndF (.inl ⟨rfl, rfl, rfl⟩) fun H5 s5 => ⟨_, rfl, iteF ?_⟩
  have C5 := C4.same s5
  obtain ⟨Hs5, S5⟩ := C5.S
  refine ⟨_, rfl, ?_⟩
  unfold tC
  refine own_eq0 DF S5.sc.at_ (.base .non) (.inl rfl) fun H6 s6 => ⟨_, rfl, iteF ?_⟩
  have C6 := C5.same s6
  obtain ⟨Hs6, S6⟩ := C6.S
  exact ⟨_, rfl, _, rfl, own_eq0 DF S6.sc.at_ (.base (.lst C6.W.kaE)) (.inr rfl) fun H7 s7 => ⟨_, rfl, iteF (k _ _ ⟨nm, ka, fa, x, _, _, _, _, _, _, _, _, _, _, _, _, _, n, ws, xs, L, fs, rfl, C6.same s7⟩)⟩⟩
theorem law_b14 : Trip (XL P w0 K mg base fl cL A0 o0 s0 H0 E1) (lawB 14) (Q9 T C a d w c N) (Q14 T C a d w c N) := by
  refine .mk (ps_set (i := 9) scLaw.nd rfl (.inl rfl) (pe_disp (pps_cons (pe_ix ix_list (pv 3) pe_int (fun _ _ => rfl)) (pe_tup (pa_cons (pe_tup pa_nil) (pa_cons pe_str pa_nil))) pps_nil) (by rfl) (by rfl) (fun z => by cases z) (by decide))) fun D σ H h k => ?_
  obtain ⟨nm, ka, fa, x, y2, y6, y7, y8, y9, y10, y11, y12, y13, y15, y16, y17, y18, n, ws, xs, L, fs, rfl, Co⟩ := h
  obtain ⟨n0, ws', rfl⟩ : ∃ y r, ws = y :: r := by
    cases ws with
    | nil => have := Co.F.lw; simp at this
    | cons y r => exact ⟨y, r, rfl⟩
  intro p hp
  have s1 : Same H (upd H p (.dK [])) := Same.new hp
  have ep1 : (upd H p (.dK [])) p = some (.dK []) := upd_same
  generalize upd H p (.dK []) = H1 at s1 ep1
  refine ⟨_, rfl, nm, _, 0, .str n0, rfl, rfl, SqL.of (s1 _ _ Co.W.nmE), (atI_nat (by rfl) : atI _ ((0 : Nat) : Int) = _), (by show 0 ≤ sizeLine; decide), fun q hq => ?_⟩
  have s2 : Same H1 (upd H1 q (.tup [])) := Same.new hq
  have eq2 : (upd H1 q (.tup [])) q = some (.tup []) := upd_same
  generalize upd H1 q (.tup []) = H2 at s2 eq2
  refine ⟨(by show 2 ≤ sizeLine; decide), fun t ht => ?_⟩
  have s3 : Same H2 (upd H2 t (.tup [.ref q, .str "number"])) := Same.new ht
  have et3 : (upd H2 t (.tup [.ref q, .str "number"])) t = some (.tup [.ref q, .str "number"]) := upd_same
  generalize upd H2 t (.tup [V.ref q, V.str "number"]) = H3 at s3 et3
  have ep3 := s3 _ _ (s2 _ _ ep1)
  refine ⟨ep3, [(.inr n0, .ref t)], rfl, (by show 1 ≤ 15; decide), ?_⟩
  have kk : Kp [p] H3 (upd H3 p (.dK (mergeK [] [((Sum.inr n0 : Key), V.ref t)]))) := Kp.upd ep3 (fun _ z => nomatch z) (by simp)
  have sH : Same H (upd H3 p (.dK (mergeK [] [((Sum.inr n0 : Key), V.ref t)]))) := fun b o e => by
    rw [upd_ne (ne_of_none e hp)]
    exact s3 _ _ (s2 _ _ (s1 _ _ e))
  refine k _ _ ⟨nm, ka, fa, x, p, _, _, _, _, _, _, _, _, _, _, _, _, n, n0, ws', xs, L, fs, rfl, Co.same sH, [.ref t], ?_, .cons (Da.kp kk (tupO_fn ([], "number")) (.tup et3 (.cons (.tup (s3 _ _ eq2) .nil) (.cons (.str _) .nil)))) .nil⟩
  rw [upd_same]
  rfl
theorem law_b15 (DF : DefL P w0 K mg base T C BK BF UN fE) (hr : Room 8 (XL P w0 K mg base fl cL A0 o0 s0 H0 E1).A) : Trip (XL P w0 K mg base fl cL A0 o0 s0 H0 E1) (lawB 15) (Q14 T C a d w c N) (Q14 T C a d w c N) := by
  obtain ⟨fI, fdI, M, GI, bI, kI, gS⟩ := DF.scope
  obtain ⟨fdE, EC, GE, bE⟩ := DF.eqS
  have hr7 := hr.mono (by decide : 7 ≤ 8)
  have hr1 := hr.mono (by decide : 1 ≤ 8)
  refine .mk (ps_if (PW.pt (pw_or (pt_cmpR (op_ownEq EC GE bE hr1) (pv 14) (pe_make (E := E0) M GI hr7 (by rfl) gS bI .nil passL (pa_cons (pe_op op_cat (pv 4) (pe_lst (pa_cons (pe_tup (pa_cons pe_str (pa_cons (pe_ix ix_list (pv 3) pe_int (fun _ _ => rfl)) (pa_cons pe_str pa_nil)))) pa_nil))) (pa_cons (pv 5) pa_nil))) (nomark _))
      (pw_or1 (pt_cmpR (op_ownEq EC GE bE hr1) (pv 14) (pe_make (E := E0) M GI hr7 (by rfl) gS bI .nil passL (pa_cons (pe_slice sl_list (pv 4) (po_some pe_int) po_none) (pa_cons (pv 5) pa_nil))) (nomark _))))) (pss_one (ps_ret pe_bl)) pss_nil) fun D σ H h k => ?_
  obtain ⟨nm, ka, fa, x, ma, y2, y6, y7, y8, y10, y11, y12, y13, y15, y16, y17, y18, n, n0, ws, xs, L, fs, rfl, Co, dm⟩ := h
  have F := Co.F
  have W := Co.W
  have l1 := F.l1
  have l4 := F.l4
  have lF := F.lF
  have lx : xs.length = L.length := by rw [W.kaD.len, List.length_map]
  have ndL : (L.flatMap Dcl.names).Nodup := (List.nodup_append.mp F.nd).1
  have ev : EvP _ (S19 a d y2 (some (.ref nm)) (some (.ref ka)) (some (.ref fa)) y6 y7 y8 (some (.ref ma)) y10 y11 y12 y13 (some (.ref x)) y15 y16 y17 y18) H (tOp rCat (tVar 4) (tLst (tCons (tTup (tCons (tC (.str "row")) (tCons (tOp (rIxL K) (tVar 3) (tC (.int 0))) (tCons (tC (.str "number")) tNil)))) tNil))) :=
    evp_cat rfl W.kaE (by omega) (evd_tup (evd_cons evd_str (evd_cons (evd_ixl (K := K) (i := 3) (j := 0) (w := n0) rfl W.nmE rfl) (evd_cons evd_str evd_nil))) (by simp))
  refine ⟨_, rfl, ev H (Same.refl _) _ fun v H1 s1 ⟨p, u, ev, ep, du, _⟩ => ?_⟩
  subst ev
  have C1 := Co.same s1
  have W1 := C1.W
  have nm0 := F.nam n0 (by simp)
  refine ⟨_, rfl, fun x2 dx2 hx hdx hne => made (L := L ++ [.row n0 "number"]) W1.tabs (.inl ep) ?_ (fun D hD => ?_) (by simp; omega) ?_ W1.faD F.ndF F.okF (by omega) hx hdx hne fun H2 k2 t2 sc2 => ⟨rfl, ?_⟩⟩
  · rw [List.map_append]
    exact W1.kaD.app (.one du)
  · rcases List.mem_append.mp hD with hD | hD
    · exact F.okL D hD
    · rw [List.mem_singleton.mp hD]
      exact .row nm0 (by decide +kernel) (by decide +kernel)
  · rw [List.flatMap_append]
    have := F.nd
    rw [List.nodup_append] at this ⊢
    exact ⟨this.1, by simp [Dcl.names], fun z hz y hy e => this.2.2 z hz y (by simp [Dcl.names] at hy; simp [hy]) e⟩
  have C2 := C1.kp0 k2 t2
  obtain ⟨Hs2, S2⟩ := C2.S
  refine own_eq DF (b := false) (neg := false) S2.sc.at_ sc2 F.okL (fun D hD => ?_) F.okF F.ndF (.inr (.inl ⟨by simp, rfl⟩)) fun H3 s3 => ⟨_, rfl, iteF ?_⟩
  · rcases List.mem_append.mp hD with hD | hD
    · exact F.okL D hD
    · rw [List.mem_singleton.mp hD]
      exact .row nm0 (by decide +kernel) (by decide +kernel)
  have C3 := C2.same s3
  have W3 := C3.W
  refine ⟨_, rfl, _, rfl, _, rfl, ka, xs, rfl, SqL.of W3.kaE, fun l hl => ?_⟩
  have ecut : cutV xs (some 1) none = xs.drop 1 := by
    cases xs with
    | nil => rfl
    | cons y ys => simp [cutV, HT.sIx]
  rw [ecut]
  have s4 : Same H3 (upd H3 l (.lst (xs.drop 1))) := Same.new hl
  have el : (upd H3 l (.lst (xs.drop 1))) l = some (.lst (xs.drop 1)) := upd_same
  have C4 := C3.same s4
  generalize upd H3 l (.lst (xs.drop 1)) = H4 at s4 el C4
  have W4 := C4.W
  obtain ⟨D0, L0, rfl⟩ : ∃ D0 L0, L = D0 :: L0 := by
    cases L with
    | nil => simp at l1
    | cons y r => exact ⟨y, r, rfl⟩
  have dk := W4.kaD
  rw [List.map_cons] at dk
  obtain ⟨y0, ys, rfl, d1, d2⟩ := da_cons dk
  have ndL0 : (L0.flatMap Dcl.names).Nodup := by
    rw [List.flatMap_cons, List.nodup_append] at ndL
    exact ndL.2.1
  have ok0 : ∀ D ∈ L0, D.Ok := fun D hD => F.okL D (List.mem_cons_of_mem _ hD)
  refine ⟨_, rfl, fun x2 dx2 hx hdx hne => made (L := L0) W4.tabs (.inl el) d2 ok0 (by simp at l4; omega) ndL0 W4.faD F.ndF F.okF (by omega) hx hdx hne fun H5 k5 t5 sc5 => ⟨rfl, ?_⟩⟩
  have C5 := C4.kp0 k5 t5
  obtain ⟨Hs5, S5⟩ := C5.S
  refine own_eq DF (b := false) (neg := false) S5.sc.at_ sc5 F.okL ok0 F.okF F.ndF (.inr (.inl ⟨by simp, rfl⟩)) fun H6 s6 => ⟨_, rfl, iteF ?_⟩
  exact k _ _ ⟨nm, ka, fa, x, ma, _, _, _, _, _, _, _, _, _, _, _, _, n, n0, ws, _, _, fs, rfl, C5.same s6, ((((dm.same s1).kp k2 (by simp) (tupOs_fn _)).same s3).same s4 |>.kp k5 (by simp) (tupOs_fn _)).same s6⟩
theorem law_b16 (DF : DefL P w0 K mg base T C BK BF UN fE) (hr : Room 8 (XL P w0 K mg base fl cL A0 o0 s0 H0 E1).A) : Trip (XL P w0 K mg base fl cL A0 o0 s0 H0 E1) (lawB 16) (Q14 T C a d w c N) (Q9 T C a d w c N) := by
  obtain ⟨fI, fdI, M, GI, bI, kI, gS⟩ := DF.scope
  obtain ⟨fdE, EC, GE, bE⟩ := DF.eqS
  have hr7 := hr.mono (by decide : 7 ≤ 8)
  have hr1 := hr.mono (by decide : 1 ≤ 8)
  have hu66 : (XL P w0 K mg base fl cL A0 o0 s0 H0 E1).A.units + 66 < cLine := by have := hr.un; omega
  refine .mk (ps_if (PW.pt (pw_or (pt_cmpR (op_ownEq EC GE bE hr1) (pv 14) (pe_make (E := E0) M GI hr7 (by rfl) gS bI .nil passL (pa_cons (pv 4) (pa_cons (pv 9) pa_nil))) (nomark _))
      (pw_or1 (PW.pt (pw_and (pt_cmpR (op_dictNe hu66) (pv 5) pe_dnewK (nomark _)) (pw_and1 (pt_cmpR (op_ownEq EC GE bE hr1) (pv 14) (pe_make (E := E0) M GI hr7 (by rfl) gS bI .nil passL (pa_cons (pv 4) (pa_cons pe_dnewK pa_nil))) (nomark _)))))))) (pss_one (ps_ret pe_bl)) pss_nil) fun D σ H h k => ?_
  obtain ⟨nm, ka, fa, x, ma, y2, y6, y7, y8, y10, y11, y12, y13, y15, y16, y17, y18, n, n0, ws, xs, L, fs, rfl, Co, dm⟩ := h
  have F := Co.F
  have W := Co.W
  have l4 := F.l4
  have lF := F.lF
  have ndL : (L.flatMap Dcl.names).Nodup := (List.nodup_append.mp F.nd).1
  have nm0 := F.nam n0 (by simp)
  have ok1 : ∀ f ∈ ([(n0, ([], "number"))] : List NFn), isName f.1 = true ∧ OkF f.2 := fun f hf => by
    rw [List.mem_singleton.mp hf]
    exact ⟨nm0, by show 0 ≤ 3; decide, (fun _ h => by cases h), (by decide +kernel : isKindS "number" = true), (by decide +kernel : ("number" : Str).length ≤ 8)⟩
  refine ⟨_, rfl, _, rfl, _, rfl, fun x2 dx2 hx hdx hne => made (fs := [(n0, ([], "number"))]) W.tabs (.inl W.kaE) W.kaD F.okL (by omega) ndL dm (by simp) ok1 (by show 1 < 64; decide) hx hdx hne fun H1 k1 t1 sc1 => ⟨rfl, ?_⟩⟩
  have C1 := Co.kp0 k1 t1
  obtain ⟨Hs1, S1⟩ := C1.S
  have hf : fs.length ≠ ([(n0, ([], "number"))] : List NFn).length ∨ ∃ f r, sortF fs = f :: r ∧ f.1 ∉ ([(n0, ([], "number"))] : List NFn).map (·.1) := by
    cases e : sortF fs with
    | nil =>
      left
      have := (sortF_perm fs).length_eq
      rw [e] at this
      rw [← this]
      simp
    | cons f r =>
      right
      refine ⟨f, r, rfl, fun z => ?_⟩
      simp at z
      have hm : f ∈ fs := (sortF_perm fs).mem_iff.mp (by rw [e]; simp)
      exact F.dis n0 (by simp) (z ▸ List.mem_map_of_mem hm)
  refine own_eq DF (b := false) (neg := false) S1.sc.at_ sc1 F.okL F.okL F.okF F.ndF (.inr (.inr ⟨rfl, hf, rfl⟩)) fun H2 s2 => ⟨_, rfl, iteF ?_⟩
  have C2 := C1.same s2
  refine ⟨_, rfl, fun p hp => ?_⟩
  have s3 : Same H2 (upd H2 p (.dK [])) := Same.new hp
  have ep : (upd H2 p (.dK [])) p = some (.dK []) := upd_same
  have C3 := C2.same s3
  generalize upd H2 p (.dK []) = H3 at s3 ep C3
  have W3 := C3.W
  obtain ⟨vs, ef, dv⟩ := id W3.faD
  have lv : ((fs.map fnE).map (·.1)).length = vs.length := by rw [dv.len]; simp only [List.length_map]
  have lz : (kz ((fs.map fnE).map (·.1)) vs).length = fs.length := by
    rw [kz_len lv]
    simp only [List.length_map]
  have fin : ∀ {H' : Hp}, Core T C d w c (N + 520) nm ka fa x n (n0 :: ws) xs L fs H' → D.nx (S19 a d y2 (some (.ref nm)) (some (.ref ka)) (some (.ref fa)) y6 y7 y8 (some (.ref ma)) y10 y11 y12 y13 (some (.ref x)) y15 y16 y17 y18) H' := fun C' => k _ _ ⟨nm, ka, fa, x, _, _, _, _, _, _, _, _, _, _, _, _, _, n, _, xs, L, fs, rfl, C'⟩
  cases fs with
  | nil =>
    refine ⟨fa, p, _, _, true, rfl, rfl, ef, ep, fun _ => ?_, ?_⟩
    · cases da_nil dv
      exact .nil
    · rw [lz]
      exact ⟨_, rfl, iteF (iteF (fin C3))⟩
  | cons f r =>
    refine ⟨fa, p, _, _, true, rfl, rfl, ef, ep, fun z => ?_, ?_⟩
    · rw [lz] at z
      simp at z
    · rw [lz]
      refine ⟨_, rfl, iteT ?_⟩
      refine ⟨_, rfl, _, rfl, fun q hq x3 dx3 hx3 hdx3 hne3 => ?_⟩
      have s4 : Same H3 (upd H3 q (.dK [])) := Same.new hq
      have eq4 : (upd H3 q (.dK [])) q = some (.dK []) := upd_same
      have C4 := C3.same s4
      generalize upd H3 q (.dK []) = H4 at s4 eq4 C4 hx3 hdx3
      have W4 := C4.W
      refine made (fs := []) W4.tabs (.inl W4.kaE) W4.kaD F.okL (by omega) ndL (dictL_nil eq4) (by simp) (by simp) (by decide) hx3 hdx3 hne3 fun H5 k5 t5 sc5 => ⟨rfl, ?_⟩
      have C5 := C4.kp0 k5 t5
      obtain ⟨Hs5, S5⟩ := C5.S
      exact own_eq DF (b := false) (neg := false) S5.sc.at_ sc5 F.okL F.okL F.okF F.ndF (.inr (.inr ⟨rfl, .inl (by simp), rfl⟩)) fun H6 s6 => ⟨_, rfl, iteF (fin (C5.same s6))⟩
end
end SA
set_option Elab.async false
set_option linter.all false
set_option maxRecDepth 100000
set_option maxHeartbeats 8000000
namespace SA
open PySem PySem.Spec PyProof.Rows L2 K1
/-- behind the bad kinds and the bad functions -/
def Q17 (P : Program) (w0 : World) (BF : Addr) (T : List (Addr × Str)) (C a d w c : Addr) (N : Nat) (σ : L2.St) (H : Hp) : Prop := ∃ nm ka fa x tp y2 y6 y7 y8 y9 y10 y11 y12 y13 y15 y16 n ws xs L fs od fv wv, σ = S19 a d y2 (some (.ref nm)) (some (.ref ka)) (some (.ref fa)) y6 y7 y8 y9 y10 y11 y12 y13 (some (.ref x)) y15 y16 (some od) (some (.ref tp)) ∧ Core T C d w c (N + 540) nm ka fa x n ws xs L fs H ∧
  BadK [d, w] H od ∧ H tp = some (.tup [fv, wv]) ∧ BadF P w0 BF [d, w] H fv wv ∧ (wv = .non ∨ ∃ m, wv = .str m ∧ isName m = true)
theorem shd_one {x : Str} (h : okS x) : ShD (.tuple [.str x]) := ⟨rfl, rfl, by simp only [PyData.canLay0, PyData.canLayAll0, Bool.and_true]; exact h, by show max 0 0 + 1 ≤ 60; decide⟩
theorem same_make {H : Hp} {x dx C : Addr} (hx : H x = none) (hdx : H dx = none) : Same H (upd (upd H dx (.own x)) x (.ins C dx [])) := fun b o e => by
  rw [upd_ne (ne_of_none e hx), upd_ne (ne_of_none e hdx)]
  exact e
theorem Core.mono {T : List (Addr × Str)} {C d w c : Addr} {N N' : Nat} {nm ka fa x : Addr} {n : Nat} {ws : List Str} {xs : List V} {L : List Dcl} {fs : List NFn} {H : Hp} (h : Core T C d w c N nm ka fa x n ws xs L fs H) (hn : N ≤ N') : Core T C d w c N' nm ka fa x n ws xs L fs H := ⟨h.W, h.F, Nat.le_trans h.hn hn, h.S⟩
section
variable {P : Program} {w0 : World} {K : PySem.W.Frag} {mg : Str → Option Value} {base : Heap} {T : List (Addr × Str)} {C BK BF UN fE fl cL : Addr} {A0 : Around} {o0 : List Env} {s0 : Shared} {H0 : Hp} {E1 : XK} {a d w c : Addr} {N : Nat}
theorem law_b17 (B : Gb mg) (DF : DefL P w0 K mg base T C BK BF UN fE) (hr : Room 8 (XL P w0 K mg base fl cL A0 o0 s0 H0 E1).A) (hN : N < 2 ^ 20) : Trip (XL P w0 K mg base fl cL A0 o0 s0 H0 E1) (lawB 17) (Q9 T C a d w c N) (Q17 P w0 BF T C a d w c N) := by
  obtain ⟨fK, fdK, FK, GK, bK, gK⟩ := DF.badK
  obtain ⟨fF, fdF, FF, GF, bF, gF⟩ := DF.badF
  have hr4 := hr.mono (by decide : 4 ≤ 8)
  refine .mk (ps_par (i := 17) (j := 18) rfl scLaw.nd rfl rfl (by decide) rfl rfl (pa_cons (pe_call GK hr4 (by rfl) gK FK.kp bK .nil pass0 (pa_cons (pv 1) (pa_cons (pv 4) (pa_cons (pv 3) pa_nil)))) (pa_cons (pe_call GF hr4 (by rfl) gF FF.kp bF .nil pass0 (pa_cons (pv 1) (pa_cons (pv 5) (pa_cons (pv 3) pa_nil)))) pa_nil)) rfl) fun D σ H h k => ?_
  obtain ⟨nm, ka, fa, x, y2, y6, y7, y8, y9, y10, y11, y12, y13, y15, y16, y17, y18, n, ws, xs, L, fs, rfl, Co⟩ := h
  have W := Co.W
  have F := Co.F
  have l1 := F.l1
  have l4 := F.l4
  have lF := F.lF
  have big : (2 : Nat) ^ 20 + 1000 < 2 ^ 39 := by decide
  have hn := Co.hn
  obtain ⟨n0, n1, n2, n3, r, rfl⟩ : ∃ n0 n1 n2 n3 r, ws = n0 :: n1 :: n2 :: n3 :: r := by
    have := F.lw
    match ws, this with
    | a :: b :: c :: e :: r, _ => exact ⟨a, b, c, e, r, rfl⟩
    | [], h => simp at h
    | [_], h => simp at h
    | [_, _], h => simp at h
    | [_, _, _], h => simp at h
  have ndw : (n0 :: n1 :: n2 :: n3 :: r).Nodup := (List.nodup_append.mp F.nd).2.1
  refine ⟨_, rfl, _, rfl, _, rfl, d, w, c, ka, nm, n, xs, L, _, n1, n2, rfl, W.draw, W.kaE, W.kaD, F.okL, l1, by omega, W.nmE, rfl, rfl, F.nam n1 (by simp), F.nam n2 (by simp), by omega, fun y H1 bad D1 b1 => ?_⟩
  have C1 := (Co.mono (by omega : N + 520 ≤ N + 540)).drew D1 b1 (by omega)
  have W1 := C1.W
  refine ⟨_, rfl, _, rfl, _, rfl, d, w, c, fa, nm, n + 2, fs, _, rfl, W1.draw, W1.faD, F.ndF, F.okF, by omega, W1.nmE, by show 4 ≤ r.length + 1 + 1 + 1 + 1; omega, ndw, F.nam, F.dis, by omega, fun tp fv wv H2 etp hB hw D2 b2 => ?_⟩
  have C2 := C1.drew D2 b2 (by omega)
  exact ⟨_, _, rfl, k _ _ ⟨nm, ka, fa, x, tp, _, _, _, _, _, _, _, _, _, _, _, _, _, xs, L, fs, y, fv, wv, rfl, C2, bad.kp (b2.kp W1.draw), etp, hB, hw⟩⟩
theorem law_b18 (B : Gb mg) (DF : DefL P w0 K mg base T C BK BF UN fE) (hr : Room 8 (XL P w0 K mg base fl cL A0 o0 s0 H0 E1).A) (hN : N < 2 ^ 20) : Trip (XL P w0 K mg base fl cL A0 o0 s0 H0 E1) (lawB 18) (Q17 P w0 BF T C a d w c N) (Q17 P w0 BF T C a d w c (N + 1)) := by
  obtain ⟨fE', fdE, FE, GE, bE, gE⟩ := DF.serr
  obtain ⟨fP, fdP, FP, GP, bP, gP⟩ := DF.pick
  have hr3 := hr.mono (by decide : 3 ≤ 8)
  refine .mk (ps_if (pt_cmpR (op_neD hr.units) (pe_call GE hr (by rfl) gE FE.kp bE .nil pass0 (pa_cons (pv 17) (pa_cons (pe_call GP hr3 (by rfl) gP FP.kp bP .nil pass0 (pa_cons (pv 1) (pa_cons (pe_lst (pa_cons (pv 5) (pa_cons pe_non pa_nil))) pa_nil))) pa_nil))) (pe_tup (pa_cons pe_str pa_nil)) (nomark _)) (pss_one (ps_ret pe_bl)) pss_nil) fun D σ H h k => ?_
  obtain ⟨nm, ka, fa, x, tp, y2, y6, y7, y8, y9, y10, y11, y12, y13, y15, y16, n, ws, xs, L, fs, od, fv, wv, rfl, Co, bad, etp, hB, hw⟩ := h
  have big : (2 : Nat) ^ 20 + 1000 < 2 ^ 39 := by decide
  have hn := Co.hn
  refine ⟨_, rfl, _, rfl, _, rfl, (by show 2 ≤ sizeLine; decide), fun p hp => ?_⟩
  have s1 : Same H (upd H p (.lst [.ref fa, .non])) := Same.new hp
  have ep : (upd H p (.lst [.ref fa, .non])) p = some (.lst [.ref fa, .non]) := upd_same
  have C1 := Co.same s1
  have kp := Co.W.draw.knowD hp
  generalize upd H p (.lst [V.ref fa, V.non]) = H1 at s1 ep C1
  refine ⟨d, w, c, p, n, _, rfl, C1.W.draw, by omega, kp.1, kp.2, SqL.of ep, by simp, by show 2 < 2 ^ 29; decide, fun u H2 hu D2 b2 => ?_⟩
  have k2 := (b2.kp C1.W.draw)
  have C2 := (C1.mono (by omega : N + 540 ≤ N + 1 + 540)).drew D2 b2 (by omega)
  have bad2 := (bad.kp (.of s1)).kp k2
  have etp2 := k2.2 _ _ (s1 _ _ etp)
  have hB2 := (hB.kp (.of s1)).kp k2
  refine ⟨od, u, rfl, fun x2 dx2 hx hdx hne => ?_⟩
  have sm := same_make (C := C) hx hdx
  refine (bad2.kp (.of sm)).sc upd_same (tabs_make hx hdx C2.W.tabs) fun H3 s3 => .inl ⟨rfl, fun q hq => ?_⟩
  have s4 : Same H3 (upd H3 q (.tup [.str "kinds"])) := Same.new hq
  refine ⟨(by show 1 ≤ sizeLine; decide), fun r hr' => ?_⟩
  have s5 : Same (upd H3 q (.tup [.str "kinds"])) (upd (upd H3 q (.tup [.str "kinds"])) r (.tup [.str "kinds"])) := Same.new hr'
  have sa := ((sm.trans s3).trans s4).trans s5
  refine ne_same (d := .tuple [.str "kinds"]) (.tup (s5 _ _ upd_same) (.cons (.str _) .nil)) (.tup upd_same (.cons (.str _) .nil)) (shd_one (by unfold okS; decide +kernel)) ⟨_, rfl, iteF ?_⟩
  exact k _ _ ⟨nm, ka, fa, x, tp, _, _, _, _, _, _, _, _, _, _, _, _, ws, xs, L, fs, od, fv, wv, rfl, C2.same sa, bad2.kp (.of sa), sa _ _ etp2, hB2.kp (.of sa), hw⟩
end
end SA
set_option Elab.async false
set_option linter.all false
set_option maxRecDepth 100000
set_option maxHeartbeats 8000000
namespace SA
open PySem PySem.Spec PyProof.Rows L2 K1
theorem shd_pair {x : Str} {e : PyData} (h : okS x) (he : ShD e) (hd : e.depth ≤ 50) : ShD (.tuple [.str x, e]) := ⟨by simp only [tupO, tupOs, he.tup, Bool.and_self], rfl, by
  have h : PyData.canLay0 (.str x) = true := h
  simp only [PyData.canLay0, PyData.canLayAll0, he.lay, Bool.and_true]
  exact h, by
  show max 0 (max e.depth 0) + 1 ≤ 60
  omega⟩
section
variable {P : Program} {w0 : World} {K : PySem.W.Frag} {mg : Str → Option Value} {base : Heap} {T : List (Addr × Str)} {C BK BF UN fE fl cL : Addr} {A0 : Around} {o0 : List Env} {s0 : Shared} {H0 : Hp} {E1 : XK} {a d w c : Addr} {N : Nat}
/-- right kinds, wrong functions -/
theorem bad_call {nm ka fa x : Addr} {n : Nat} {ws : List Str} {xs : List V} {L : List Dcl} {fs : List NFn} {H : Hp} {fv wv : V} {Q : VK} {E : XK} (Co : Core T C d w c N nm ka fa x n ws xs L fs H) (hchk : ∀ H1, Same H H1 → ∀ E, RaiseN BF wv H1 E → spChk P w0 BF [fv] H1 (fun _ _ => False) E)
    (k : ∀ p H2, Same H H2 → H2 p = none → Q (.ref p) (upd H2 p (.tup [.str "functions", wv]))) : spSErr P w0 T C BK BF [.ref ka, fv] H Q E := by
  have W := Co.W
  have F := Co.F
  have l4 := F.l4
  have ndL : (L.flatMap Dcl.names).Nodup := (List.nodup_append.mp F.nd).1
  refine ⟨.ref ka, fv, rfl, fun x dx hx hdx hne => ?_⟩
  have sm := same_make (C := C) hx hdx
  exact ⟨x, dx, .ref ka, fv, rfl, upd_same, tabs_make hx hdx W.tabs, .inr (.inr ⟨ka, xs, L, rfl, .inl (sm _ _ W.kaE), W.kaD.same sm, F.okL, by omega, .inr ⟨ndL, .inl fun H1 s1 => hchk H1 (sm.trans s1) _ fun dd H' s' hdd e => .inr ⟨rfl, dd, wv, rfl, e, fun p hp => k p H' ((sm.trans s1).trans s') hp⟩⟩⟩)⟩
theorem law_b19 (B : Gb mg) (DF : DefL P w0 K mg base T C BK BF UN fE) (hr : Room 8 (XL P w0 K mg base fl cL A0 o0 s0 H0 E1).A) (hN : N < 2 ^ 20) : Trip (XL P w0 K mg base fl cL A0 o0 s0 H0 E1) (lawB 19) (Q17 P w0 BF T C a d w c N) (Q9 T C a d w c (N + 22)) := by
  obtain ⟨fE', fdE, FE, GE, bE, gE⟩ := DF.serr
  obtain ⟨fP, fdP, FP, GP, bP, gP⟩ := DF.pick
  have hr3 := hr.mono (by decide : 3 ≤ 8)
  refine .mk (ps_if (PW.pt (pw_or (pt_cmpR (op_neD hr.units) (pe_call GE hr (by rfl) gE FE.kp bE .nil pass0 (pa_cons (pv 4) (pa_cons (pe_ix ix_tup (pv 18) pe_int (fun _ _ => rfl)) pa_nil))) (pe_tup (pa_cons pe_str (pa_cons (pe_ix ix_tup (pv 18) pe_int (fun _ _ => rfl)) pa_nil))) (nomark _))
      (pw_or1 (pt_cmpR (op_neD hr.units) (pe_call GE hr (by rfl) gE FE.kp bE .nil pass0 (pa_cons (pv 4) (pa_cons (pe_call GP hr3 (by rfl) gP FP.kp bP .nil pass0 (pa_cons (pv 1) (pa_cons (pe_lst (pa_cons pe_non (pa_cons pe_int (pa_cons (pe_lst pa_nil) pa_nil)))) pa_nil))) pa_nil))) (pe_tup (pa_cons pe_str (pa_cons pe_non pa_nil))) (nomark _))))) (pss_one (ps_ret pe_bl)) pss_nil) fun D σ H h k => ?_
  obtain ⟨nm, ka, fa, x, tp, y2, y6, y7, y8, y9, y10, y11, y12, y13, y15, y16, n, ws, xs, L, fs, od, fv, wv, rfl, Co, bad, etp, hB, hw⟩ := h
  have big : (2 : Nat) ^ 20 + 1000 < 2 ^ 39 := by decide
  have hn := Co.hn
  obtain ⟨e, he, sh, dp⟩ : ∃ e : PyData, (∀ H', Da H' wv e) ∧ ShD e ∧ e.depth ≤ 50 := by
    rcases hw with rfl | ⟨m, rfl, hm⟩
    · exact ⟨.none, fun _ => .non, ⟨rfl, rfl, rfl, by show 0 ≤ 60; decide⟩, by show 0 ≤ 50; decide⟩
    · exact ⟨.str m, fun _ => .str m, shd_str (okS_name hm), by show 0 ≤ 50; decide⟩
  refine ⟨_, rfl, _, rfl, tp, _, 0, fv, rfl, rfl, SqT.of etp, rfl, ?_⟩
  unfold tNil
  show spSErr P w0 T C BK BF [.ref ka, fv] H _ _
  refine bad_call Co (fun H1 s1 E hE => hB H1 (.of s1) E hE) fun p H2 s2 hp => ?_
  have s3 : Same H2 (upd H2 p (.tup [.str "functions", wv])) := Same.new hp
  have e3 : (upd H2 p (.tup [.str "functions", wv])) p = some (.tup [.str "functions", wv]) := upd_same
  have sa := s2.trans s3
  generalize upd H2 p (.tup [V.str "functions", wv]) = H3 at s3 e3 sa
  refine ⟨_, rfl, tp, _, 1, wv, rfl, rfl, SqT.of (sa _ _ etp), rfl, (by show 2 ≤ sizeLine; decide), fun q hq => ?_⟩
  have s4 : Same H3 (upd H3 q (.tup [.str "functions", wv])) := Same.new hq
  have e4 : (upd H3 q (.tup [.str "functions", wv])) q = some (.tup [.str "functions", wv]) := upd_same
  have sb := sa.trans s4
  have e34 := s4 _ _ e3
  generalize upd H3 q (.tup [V.str "functions", wv]) = H4 at s4 e4 sb e34
  have okf : okS "functions" := by unfold okS; decide +kernel
  refine ne_same (d := .tuple [.str "functions", e]) (.tup e34 (.cons (.str _) (.cons (he _) .nil))) (.tup e4 (.cons (.str _) (.cons (he _) .nil))) (shd_pair okf sh dp) ⟨_, rfl, iteF ?_⟩
  have C4 := Co.same sb
  refine ⟨_, rfl, _, rfl, (by show 0 ≤ sizeLine; decide), fun l hl => ?_⟩
  have s5 : Same H4 (upd H4 l (.lst [])) := Same.new hl
  have e5 : (upd H4 l (.lst [])) l = some (.lst []) := upd_same
  have kl := C4.W.draw.knowD hl
  have C5 := C4.same s5
  generalize upd H4 l (.lst []) = H5 at s5 e5 C5
  refine ⟨(by show 3 ≤ sizeLine; decide), fun m hm => ?_⟩
  have s6 : Same H5 (upd H5 m (.lst [.non, .int 5, .ref l])) := Same.new hm
  have e6 : (upd H5 m (.lst [.non, .int 5, .ref l])) m = some (.lst [.non, .int 5, .ref l]) := upd_same
  have km := C5.W.draw.knowD hm
  have C6 := C5.same s6
  have el6 := s6 _ _ e5
  generalize upd H5 m (.lst [V.non, V.int 5, V.ref l]) = H6 at s6 e6 C6 el6
  refine ⟨d, w, c, m, n, _, rfl, C6.W.draw, by omega, km.1, km.2, SqL.of e6, by simp, by show 3 < 2 ^ 29; decide, fun u H7 hu D7 b7 => ?_⟩
  have C7 := (C6.mono (by omega : N + 540 ≤ N + 22 + 520)).drew D7 b7 (by omega)
  have el7 := b7 _ _ el6 kl.1 kl.2
  show spSErr P w0 T C BK BF [.ref ka, u] H7 _ _
  refine bad_call (wv := .non) C7 (fun H1 s1 E hE => ⟨u, rfl, .inl ?_⟩) fun p H8 s8 hp => ?_
  · simp only [List.mem_cons, List.not_mem_nil, or_false] at hu
    rcases hu with rfl | rfl | rfl
    · exact ⟨.none, .non, rfl, hE⟩
    · exact ⟨.int 5, .int 5, rfl, hE⟩
    · exact ⟨.list [], .lst (s1 _ _ el7) .nil, rfl, hE⟩
  · have s9 : Same H8 (upd H8 p (.tup [.str "functions", .non])) := Same.new hp
    have e9 : (upd H8 p (.tup [.str "functions", .non])) p = some (.tup [.str "functions", .non]) := upd_same
    have sc := s8.trans s9
    generalize upd H8 p (.tup [V.str "functions", V.non]) = H9 at s9 e9 sc
    refine ⟨(by show 2 ≤ sizeLine; decide), fun r hr' => ?_⟩
    have s10 : Same H9 (upd H9 r (.tup [.str "functions", .non])) := Same.new hr'
    refine ne_same (d := .tuple [.str "functions", .none]) (.tup (s10 _ _ e9) (.cons (.str _) (.cons .non .nil))) (.tup upd_same (.cons (.str _) (.cons .non .nil))) (shd_pair okf ⟨rfl, rfl, rfl, by show 0 ≤ 60; decide⟩ (by show 0 ≤ 50; decide)) ⟨_, rfl, iteF ?_⟩
    exact k _ _ ⟨nm, ka, fa, x, _, _, _, _, _, _, _, _, _, _, _, _, _, _, ws, xs, L, fs, rfl, C7.same (sc.trans s10)⟩
theorem law_b20 (B : Gb mg) (DF : DefL P w0 K mg base T C BK BF UN fE) (hr : Room 8 (XL P w0 K mg base fl cL A0 o0 s0 H0 E1).A) : Trip (XL P w0 K mg base fl cL A0 o0 s0 H0 E1) (lawB 20) (Q9 T C a d w c N) (Q0 T a d w c (N + 520)) := by
  obtain ⟨fE', fdE, FE, GE, bE, gE⟩ := DF.serr
  refine .mk (ps_if (pt_cmpR op_notN (pe_call GE hr (by rfl) gE FE.kp bE .nil pass0 (pa_cons (pe_lst pa_nil) (pa_cons pe_dnewK pa_nil))) pe_non (nomark _)) (pss_one (ps_ret pe_bl)) pss_nil) fun D σ H h k => ?_
  obtain ⟨nm, ka, fa, x, y2, y6, y7, y8, y9, y10, y11, y12, y13, y15, y16, y17, y18, n, ws, xs, L, fs, rfl, Co⟩ := h
  refine ⟨(by show 0 ≤ sizeLine; decide), fun p hp q hq => ?_⟩
  have s1 : Same H (upd H p (.lst [])) := Same.new hp
  have e1 : (upd H p (.lst [])) p = some (.lst []) := upd_same
  have s2 : Same (upd H p (.lst [])) (upd (upd H p (.lst [])) q (.dK [])) := Same.new hq
  have e2 : (upd (upd H p (.lst [])) q (.dK [])) q = some (.dK []) := upd_same
  have e12 := s2 _ _ e1
  have C2 := Co.same (s1.trans s2)
  generalize upd (upd H p (.lst [])) q (.dK []) = H2 at s2 e2 e12 C2
  refine ⟨.ref p, .ref q, rfl, fun x2 dx2 hx hdx hne => ?_⟩
  refine made (L := []) (fs := []) C2.W.tabs (.inl e12) .nil (by simp) (by decide) (by simp) (dictL_nil e2) (by simp) (by simp) (by decide) hx hdx hne fun H3 k3 t3 sc3 => ⟨rfl, ?_⟩
  have C3 := C2.kp0 k3 t3
  refine ⟨rfl, _, rfl, iteF ?_⟩
  exact k _ _ ⟨_, _, _, _, _, _, _, _, _, _, _, _, _, _, _, _, _, n, rfl, C3.W.draw, C3.W.tabs, C3.hn⟩
end
end SA
set_option Elab.async false
set_option linter.all false
set_option maxRecDepth 100000
set_option maxHeartbeats 8000000
namespace SA
open PySem PySem.Spec PyProof.Rows L2 K1
section
variable {P : Program} {w0 : World} {K : PySem.W.Frag} {mg : Str → Option Value} {base : Heap} {T : List (Addr × Str)} {C BK BF UN fE fl cL : Addr} {A0 : Around} {o0 : List Env} {s0 : Shared} {H0 : Hp} {E1 : XK} {a d w c : Addr} {N : Nat}
def qLaw : Str := (envOfC "law" (defScope sLaw) 0 0 .none).qual ++ "<lambda>"
theorem law_turn (B : Gb mg) (DF : DefL P w0 K mg base T C BK BF UN fE) (hr : Room 8 (XL P w0 K mg base fl cL A0 o0 s0 H0 E1).A) {Pl : Addr} (TB : LamX.TabB base mg cL Pl) (hmT : (Pl, qLaw) ∈ T) (hu2 : ∀ p ∈ T, p.1 = Pl → p.2 = qLaw) (hN : N < 2 ^ 19) :
    Trips (XL P w0 K mg base fl cL A0 o0 s0 H0 E1) (forBody ((defBody sLaw).getD 1 (.Pass ⟨0, 0, 0, 0⟩))) (Q0 T a d w c N) (Q0 T a d w c (N + 600)) := by
  have hN1 : N < 2 ^ 20 := Nat.lt_trans hN (by decide)
  have hN2 : N + 1 < 2 ^ 20 := Nat.lt_of_le_of_lt (Nat.succ_le_of_lt hN) (by decide)
  have last : Trip (XL P w0 K mg base fl cL A0 o0 s0 H0 E1) (lawB 20) (Q9 T C a d w c (N + 1 + 22)) (Q0 T a d w c (N + 600)) := by
    obtain ⟨t, p, q⟩ := law_b20 (a := a) (d := d) (w := w) (c := c) (N := N + 1 + 22) B DF hr
    refine ⟨t, p, fun D σ H h k => q D σ H h fun σ' H' h' => k σ' H' ?_⟩
    obtain ⟨y2, y3, y4, y5, y6, y7, y8, y9, y10, y11, y12, y13, y14, y15, y16, y17, y18, n, e, hD, hT, hn⟩ := h'
    exact ⟨y2, y3, y4, y5, y6, y7, y8, y9, y10, y11, y12, y13, y14, y15, y16, y17, y18, n, e, hD, hT, by omega⟩
  show Trips _ [lawB 0, lawB 1, lawB 2, lawB 3, lawB 4, lawB 5, lawB 6, lawB 7, lawB 8, lawB 9, lawB 10, lawB 11, lawB 12, lawB 13, lawB 14, lawB 15, lawB 16, lawB 17, lawB 18, lawB 19, lawB 20] _ _
  exact .cons (law_b0 B DF hr hN1) (.cons (law_b1 B DF hr hN1) (.cons (law_b2 B DF hr hN1) (.cons (law_b3 B DF hr hN1) (.cons (law_b4 B DF hr hN1) (.cons (law_b5 B DF hr hN1) (.cons (law_b6 B DF hr hN1) (.cons law_b7 (.cons law_b8 (.cons (law_b9 B DF hr) (.cons law_b10 (.cons (law_b11 B DF hr)
    (.cons (law_b12 B DF hr TB hmT hu2) (.cons (law_b13 B DF hr) (.cons law_b14 (.cons (law_b15 DF hr) (.cons (law_b16 DF hr) (.cons (law_b17 B DF hr hN1) (.cons (law_b18 B DF hr hN1) (.cons (law_b19 B DF hr hN2) (.cons last .nil))))))))))))))))))))
/-- the law: True -/
def spLaw (K : PySem.W.Frag) (T : List (Addr × Str)) : Sp := fun vs H Q _ => ∃ (a : Addr) (ns : List Int), vs = [.ref a] ∧ SqL K H a (ns.map V.int) ∧ ns.length ≤ 63 ∧ LamX.Tabs T H ∧ ∀ H', Q (.bl true) H'
theorem ok_law {fdL : FuncData} (F : Fun K "law" "law" sLaw fl fdL) (hc : fdL.code = .ref cL) (B : Gb mg) (DF : DefL P w0 K mg base T C BK BF UN fE) {Pl : Addr} (TB : LamX.TabB base mg cL Pl) (hmT : (Pl, qLaw) ∈ T) (hu2 : ∀ p ∈ T, p.1 = Pl → p.2 = qLaw) :
    FnOk P w0 K mg base CX0 9 fl fdL ["script"] (spLaw K T) := by
  refine Fun.okC0 F hc scLaw (fun vs H Q E h => ?_) (fun A outer s H vs Q E hr h => ?_)
  · obtain ⟨a, ns, rfl, _⟩ := h
    rfl
  obtain ⟨a, ns, rfl, hS, hn, hT, k⟩ := h
  obtain ⟨fB, fdB, FB, GB, bB, gB⟩ := DF.begun
  have hr1 := hr.mono (by decide : 1 ≤ 8)
  -- the loop's body, once for all
  have body : ∃ tb, PSs (XL P w0 K mg base fl cL A outer s H E) (forBody ((defBody sLaw).getD 1 (.Pass ⟨0, 0, 0, 0⟩))) tb ∧ ∀ (d w c : Addr) (i : Nat), i < 3 → ∀ D σ H', Q0 T a d w c (i * 600) σ H' → (∀ σ' H'', Q0 T a d w c (i * 600 + 600) σ' H'' → D.nx σ' H'') → tb D σ H' := by
    refine ⟨fun D σ H' => ∃ (d w c : Addr) (i : Nat), i < 3 ∧ Q0 T a d w c (i * 600) σ H' ∧ ∀ σ' H'', Q0 T a d w c (i * 600 + 600) σ' H'' → D.nx σ' H'', ⟨fun pins s' σ H' D I h => ?_⟩, fun d w c i hi D σ H' h k => ⟨d, w, c, i, hi, h, k⟩⟩
    obtain ⟨d, w, c, i, hi, h, k⟩ := h
    have hb : i * 600 < 2 ^ 19 := Nat.lt_of_le_of_lt (Nat.mul_le_mul_right 600 (Nat.le_of_lt_succ hi)) (by decide)
    obtain ⟨t, p, q⟩ := law_turn (fl := fl) (cL := cL) (A0 := A) (o0 := outer) (s0 := s) (H0 := H) (E1 := E) (a := a) (d := d) (w := w) (c := c) (N := i * 600) B DF hr TB hmT hu2 hb
    exact p.run pins s' σ H' D I (q D σ H' h k)
  obtain ⟨tb, pb, qb⟩ := body
  refine ⟨_, pss_cons (ps_set (i := 1) scLaw.nd rfl (.inr rfl) (pe_call GB hr1 (by rfl) gB FB.kp bB .nil pass0 (pa_cons (pv 0) pa_nil)))
    (pss_cons (ps_for PassesOwn.never rfl (pi_range1 (by rfl) B.range (pa_cons pe_int pa_nil)) (pg_name (i := 2) scLaw.nd rfl (.inl rfl)) pb)
    (pss_one (ps_ret pe_bl))), ?_⟩
  refine ⟨_, rfl, a, ns, rfl, hS, hn, fun d w c H1 nd nw nc hD s1 => ?_⟩
  have h62 : (100 : Int) < 2 ^ 62 := by decide
  refine ⟨3, rfl, by decide, by omega, ?_⟩
  refine for_range (lo := 0) (n := 3) (fun i σ H' => Q0 T a d w c (i * 600) σ H') ⟨_, _, _, _, _, _, _, _, _, _, _, _, _, _, _, _, _, 0, rfl, hD, hT.ext s1, by omega⟩ ?_ ?_
  · rintro i σ H2 hi ⟨y2, y3, y4, y5, y6, y7, y8, y9, y10, y11, y12, y13, y14, y15, y16, y17, y18, n, rfl, D2, T2, n2⟩
    refine qb d w c i hi _ _ _ ⟨_, _, _, _, _, _, _, _, _, _, _, _, _, _, _, _, _, n, rfl, D2, T2, n2⟩ fun σ' H'' h => ?_
    show Q0 T a d w c ((i + 1) * 600) σ' H''
    rw [Nat.succ_mul]
    exact h
  · intro σ H2 _
    exact k H2
end
end SA
set_option Elab.async false
set_option linter.all false
set_option maxRecDepth 100000
set_option maxHeartbeats 0
namespace SA
open PySem PySem.Spec PyProof.Rows L2 K1
/-! ### what the top has left -/
abbrev fIs (K : PySem.W.Frag) (C : Addr) (x : Str) (v : Option Value) : Bool := decide (PySem.W.findIn K (.ref C) x = some v)
def excB (K : PySem.W.Frag) (C : Addr) : Bool :=
  fIs K C "__getattribute__" (some (.builtin "BaseException.__getattribute__")) && (fIs K C "__getattr__" none && (decide (PySem.W.subIn K (.ref C) (.type "BaseException") = some true) && (PySem.W.hasDictIn K C && (fIs K C "__class__" (some (.builtin "object.__class__")) &&
    (decide (PySem.W.specialIn K (.builtin "object.__class__") "__get__" = some (some (.builtin "getset_descriptor.__get__"))) && (decide (PySem.W.takesIn K (.builtin "object.__class__") = some true) && decide (PySem.W.mroIn K C (.type "object") = some true)))))))
theorem excB_ok {K : PySem.W.Frag} {C : Addr} (h : excB K C = true) : ExcC K C ∧ XfC K C := by
  unfold excB at h
  simp only [Bool.and_eq_true, decide_eq_true_eq] at h
  obtain ⟨h1, h2, h3, h4, h5, h6, h7, h8⟩ := h
  exact ⟨⟨h1, h2, h3, h4, h5, h6, h7, h8⟩, ⟨h1, h2, h3, h4⟩⟩
/-- an exception class whose objects have a dict and its own or a base's __init__ -/
def oexB (K : PySem.W.Frag) (C : Addr) : Bool := match K.lookup C with
  | some ⟨.type t, _, .cls cd, sl⟩ => (match cd.mro, sl.toList with
    | .ref C' :: bm, [_, _, _, _, some (.builtin n), _] => decide (t = "type") && (decide (C' = C) && (decide (n = "ValueError.__new__") && (!cd.hasDel && (cd.hasDict && PySem.HandSPX.refsVE bm))))
    | _, _ => false)
  | _ => false
def oexB2 (K : PySem.W.Frag) (C : Addr) : Bool := oexB K C && (fIs K C "__setattr__" (some (.builtin "object.__setattr__")) && (decide (PySem.W.subIn K (.ref C) (.type "BaseException") = some true) && (decide (PySem.W.typeIn K (.ref C) = some (.type "type")) && PySem.W.keepIn K (.ref C))))
theorem oexB_ok {K : PySem.W.Frag} {C : Addr} (h : oexB2 K C = true) : OexC K C := by
  unfold oexB2 at h
  simp only [Bool.and_eq_true, decide_eq_true_eq] at h
  obtain ⟨h0, h1, h2, h3, h4⟩ := h
  refine ⟨?_, h1, h2, h3, h4⟩
  unfold oexB at h0
  split at h0
  · rename_i t dd cd sl e
    split at h0
    · rename_i C' bm k0 k1 k2 k3 n k5 hm hs
      simp only [Bool.and_eq_true, decide_eq_true_eq, Bool.not_eq_true'] at h0
      obtain ⟨rfl, rfl, rfl, hd, hh, hr⟩ := h0
      obtain ⟨nm, bs, mro, ns, qn, hdct, sn, sub, ab, col, del⟩ := cd
      dsimp only at hm hd hh
      subst hm hd hh
      obtain ⟨l⟩ := sl
      dsimp only at hs
      subst hs
      exact ⟨nm, qn, ns, bs, bm, sn, sub, ab, col, dd, k0, k1, k2, k3, k5, e, hr⟩
    · cases h0
  · cases h0
def ownB (K : PySem.W.Frag) (C : Addr) (fs : List Str) : Bool := oexB2 K C && (fIs K C "__init__" (some (.ref (He.ma K C "__init__"))) && (decide (PySem.W.typeIn K (.ref (He.ma K C "__init__")) = some (.type "function")) && fs.all fun x => fIs K C x none))
theorem ownB_ok {K : PySem.W.Frag} {C : Addr} {fs : List Str} (h : ownB K C fs = true) : Own24 K C (He.ma K C "__init__") fs := by
  unfold ownB at h
  simp only [Bool.and_eq_true, decide_eq_true_eq, List.all_eq_true] at h
  obtain ⟨h1, h2, h3, h4⟩ := h
  exact ⟨oexB_ok h1, h2, h3, h4⟩
theorem FunD_fun {K : PySem.W.Frag} {x qual : Str} {st : Stmt} {f : Addr} (h : ∃ fd, FunD K x qual (defArgs st) (defBody st) (defScope st) [] [] f fd) : ∃ fd, Fun K x qual st f fd := by
  obtain ⟨fd, F⟩ := h
  exact ⟨fd, SA.FunD.toFun F⟩
def d_is_tuple_of : He.DefD := ⟨("is_tuple_of", none), "is_tuple_of", "is_tuple_of", defArgs sTupOf, defBody sTupOf, defScope sTupOf, [], []⟩
def d_is_list : He.DefD := ⟨("is_list", none), "is_list", "is_list", defArgs sIsList, defBody sIsList, defScope sIsList, [], []⟩
def d_first_again : He.DefD := ⟨("first_again", none), "first_again", "first_again", defArgs sFirst, defBody sFirst, defScope sFirst, [], []⟩
def d_is_name : He.DefD := ⟨("is_name", none), "is_name", "is_name", defArgs sIsName, defBody sIsName, defScope sIsName, [], []⟩
def d_declared_names : He.DefD := ⟨("declared_names", none), "declared_names", "declared_names", defArgs sDeclN, defBody sDeclN, defScope sDeclN, [], []⟩
def d_is_kind : He.DefD := ⟨("is_kind", none), "is_kind", "is_kind", defArgs sIsKind, defBody sIsKind, defScope sIsKind, [], []⟩
def d_is_declaration : He.DefD := ⟨("is_declaration", none), "is_declaration", "is_declaration", defArgs sIsDecl, defBody sIsDecl, defScope sIsDecl, [], []⟩
def d__is_tuple_between : He.DefD := ⟨("_is_tuple_between", none), "_is_tuple_between", "_is_tuple_between", defArgs sTupB, defBody sTupB, defScope sTupB, [], []⟩
def d__is_variant : He.DefD := ⟨("_is_variant", none), "_is_variant", "_is_variant", defArgs sIsVar, defBody sIsVar, defScope sIsVar, [], []⟩
def d__kind_in_code : He.DefD := ⟨("_kind_in_code", none), "_kind_in_code", "_kind_in_code", defArgs sKic, defBody sKic, defScope sKic, [], []⟩
def d__kinds_in_code : He.DefD := ⟨("_kinds_in_code", none), "_kinds_in_code", "_kinds_in_code", defArgs sKsic, defBody sKsic, defScope sKsic, [], []⟩
def d__in_code : He.DefD := ⟨("_in_code", none), "_in_code", "_in_code", defArgs sInC, defBody sInC, defScope sInC, [], []⟩
def d__check_functions : He.DefD := ⟨("_check_functions", none), "_check_functions", "_check_functions", defArgs sChk, defBody sChk, defScope sChk, [], []⟩
def d__is_told : He.DefD := ⟨("_is_told", none), "_is_told", "_is_told", defArgs sTold, defBody sTold, defScope sTold, [], []⟩
def d__law_begun : He.DefD := ⟨("_law_begun", none), "_law_begun", "_law_begun", defArgs sBegun, defBody sBegun, defScope sBegun, [], []⟩
def d__law_mixed : He.DefD := ⟨("_law_mixed", none), "_law_mixed", "_law_mixed", defArgs sMixed, defBody sMixed, defScope sMixed, [], []⟩
def d__law_take : He.DefD := ⟨("_law_take", none), "_law_take", "_law_take", defArgs sTake, defBody sTake, defScope sTake, [], []⟩
def d__law_pick : He.DefD := ⟨("_law_pick", none), "_law_pick", "_law_pick", defArgs sPick, defBody sPick, defScope sPick, [], []⟩
def d__law_names : He.DefD := ⟨("_law_names", none), "_law_names", "_law_names", defArgs sNames, defBody sNames, defScope sNames, [], []⟩
def d__law_coded : He.DefD := ⟨("_law_coded", none), "_law_coded", "_law_coded", defArgs sCoded, defBody sCoded, defScope sCoded, [], []⟩
def d__law_declared : He.DefD := ⟨("_law_declared", none), "_law_declared", "_law_declared", defArgs sDeclrd, defBody sDeclrd, defScope sDeclrd, [], []⟩
def d__law_shuffled : He.DefD := ⟨("_law_shuffled", none), "_law_shuffled", "_law_shuffled", defArgs sShuf, defBody sShuf, defScope sShuf, [], []⟩
def d__law_scope_error : He.DefD := ⟨("_law_scope_error", none), "_law_scope_error", "_law_scope_error", defArgs sSErr, defBody sSErr, defScope sSErr, [], []⟩
def d__law_unknown : He.DefD := ⟨("_law_unknown", none), "_law_unknown", "_law_unknown", defArgs sUnk, defBody sUnk, defScope sUnk, [], []⟩
def d__law_means : He.DefD := ⟨("_law_means", none), "_law_means", "_law_means", defArgs sMeans, defBody sMeans, defScope sMeans, [], []⟩
def d__law_unmeant : He.DefD := ⟨("_law_unmeant", none), "_law_unmeant", "_law_unmeant", defArgs sUnm, defBody sUnm, defScope sUnm, [], []⟩
def d__law_bad_kinds : He.DefD := ⟨("_law_bad_kinds", none), "_law_bad_kinds", "_law_bad_kinds", defArgs sBadK, defBody sBadK, defScope sBadK, [], []⟩
def d__law_bad_functions : He.DefD := ⟨("_law_bad_functions", none), "_law_bad_functions", "_law_bad_functions", defArgs sBadF, defBody sBadF, defScope sBadF, [], []⟩
def d_law : He.DefD := ⟨("law", none), "law", "law", defArgs sLaw, defBody sLaw, defScope sLaw, [], []⟩
def d_BadFunctions___init__ : He.DefD := ⟨("BadFunctions", some "__init__"), "__init__", "BadFunctions.__init__", defArgs sIBF, defBody sIBF, defScope sIBF, [], []⟩
def d_Unknown___init__ : He.DefD := ⟨("Unknown", some "__init__"), "__init__", "Unknown.__init__", defArgs sIUn, defBody sIUn, defScope sIUn, [], []⟩
def d_Scope___init__ : He.DefD := ⟨("Scope", some "__init__"), "__init__", "Scope.__init__", defArgs sInit, defBody sInit, defScope sInit, [], []⟩
def d_Scope___eq__ : He.DefD := ⟨("Scope", some "__eq__"), "__eq__", "Scope.__eq__", defArgs sEqS, defBody sEqS, defScope sEqS, [], []⟩
def d_Scope_choice : He.DefD := ⟨("Scope", some "choice"), "choice", "Scope.choice", defArgs sChoice, defBody sChoice, defScope sChoice, [], []⟩
def d_Scope_variants : He.DefD := ⟨("Scope", some "variants"), "variants", "Scope.variants", defArgs sVars, defBody sVars, defScope sVars, [], []⟩
def d_Scope_fields : He.DefD := ⟨("Scope", some "fields"), "fields", "Scope.fields", defArgs sFields, defBody sFields, defScope sFields, [], []⟩
def d_Scope_item : He.DefD := ⟨("Scope", some "item"), "item", "Scope.item", defArgs sItem, defBody sItem, defScope sItem, [], []⟩
def d_Scope_takes : He.DefD := ⟨("Scope", some "takes"), "takes", "Scope.takes", defArgs sTakes, defBody sTakes, defScope sTakes, [], []⟩
def d_Scope_gives : He.DefD := ⟨("Scope", some "gives"), "gives", "Scope.gives", defArgs sGives, defBody sGives, defScope sGives, [], []⟩
def d_Scope__case : He.DefD := ⟨("Scope", some "_case"), "_case", "Scope._case", defArgs sCase, defBody sCase, defScope sCase, [], []⟩
def d_Scope__declaration : He.DefD := ⟨("Scope", some "_declaration"), "_declaration", "Scope._declaration", defArgs sDcln, defBody sDcln, defScope sDcln, [], []⟩
def d_Scope__function : He.DefD := ⟨("Scope", some "_function"), "_function", "Scope._function", defArgs sFunc, defBody sFunc, defScope sFunc, [], []⟩
def fn30 : List He.DefD := [d_is_tuple_of, d_is_list, d_first_again, d_is_name, d_declared_names, d_is_kind, d_is_declaration, d__is_tuple_between, d__is_variant, d__kind_in_code, d__kinds_in_code, d__in_code, d__check_functions, d__is_told, d__law_begun, d__law_mixed, d__law_take, d__law_pick, d__law_names, d__law_coded, d__law_declared, d__law_shuffled, d__law_scope_error, d__law_unknown, d__law_means, d__law_unmeant, d__law_bad_kinds, d__law_bad_functions, d_law, d_BadFunctions___init__, d_Unknown___init__, d_Scope___init__, d_Scope___eq__, d_Scope_choice, d_Scope_variants, d_Scope_fields, d_Scope_item, d_Scope_takes, d_Scope_gives, d_Scope__case, d_Scope__declaration, d_Scope__function]
def fa30 : List He.Fa := [.glo "is_tuple_of", .glo "is_list", .glo "first_again", .glo "is_name", .glo "declared_names", .glo "is_kind", .glo "is_declaration", .glo "_is_tuple_between", .glo "_is_variant", .glo "_kind_in_code", .glo "_kinds_in_code", .glo "_in_code", .glo "_check_functions", .glo "_is_told", .glo "_law_begun", .glo "_law_mixed", .glo "_law_take", .glo "_law_pick", .glo "_law_names", .glo "_law_coded", .glo "_law_declared", .glo "_law_shuffled", .glo "_law_scope_error", .glo "_law_unknown", .glo "_law_means", .glo "_law_unmeant", .glo "_law_bad_kinds", .glo "_law_bad_functions", .glo "law", .glo "StopError", .glo "BadKinds", .glo "BadFunctions", .glo "Unknown", .glo "KEPT", .glo "Scope", .str "LETTERS" lettersS, .cls "Scope", .mkr "Scope", .exc "BadKinds", .meth "Scope" "__eq__", .meth "Scope" "choice", .meth "Scope" "variants", .meth "Scope" "fields", .meth "Scope" "item", .meth "Scope" "takes", .meth "Scope" "gives", .meth "Scope" "_case", .meth "Scope" "_declaration", .meth "Scope" "_function", .noat "Scope" "kinds", .noat "Scope" "functions", .noat "Scope" "_told", .noat "Scope" "_declared", .noat "Scope" "_cases", .exm "BadKinds" "BadKinds" true, .exm "BadFunctions" "BadKinds" false, .exm "BadFunctions" "BadFunctions" true, .exm "Unknown" "Unknown" true, .noat "BadFunctions" "name", .noat "Unknown" "name", .free "isinstance", .free "str", .free "len", .free "all", .free "tuple", .free "list", .free "dict", .free "bool", .free "set", .free "enumerate", .free "sorted", .free "range", .free "min", .free "int", .free "abs"]
def insB (K : PySem.W.Frag) (C : Addr) : Bool := fIs K C "__class__" (some (.builtin "object.__class__")) && (decide (PySem.W.specialIn K (.builtin "object.__class__") "__get__" = some (some (.builtin "getset_descriptor.__get__"))) && (decide (PySem.W.takesIn K (.builtin "object.__class__") = some true) && decide (PySem.W.mroIn K C (.type "object") = some true)))
def eqB (K : PySem.W.Frag) (C : Addr) : Bool := fIs K C "__ne__" (some (.builtin "object.__ne__")) && (decide (PySem.W.subIn K (.ref C) (.type "object") = some true) && (PySem.W.notFirst K C (.ref C) && (PySem.W.notFirst K C (.type "NoneType") && (PySem.W.notFirst K C (.type "list") &&
  (decide (PySem.W.kitOne K (.type "NoneType") (.ref C) = some false) && decide (PySem.W.kitOne K (.type "list") (.ref C) = some false))))))
def difB (K : PySem.W.Frag) (p q : He.Defn) : Bool := decide ((He.cT K p).2 ≠ (He.cT K q).2)
abbrev tI : He.Defn := ("Scope", some "__init__")
abbrev tU : He.Defn := ("_law_unmeant", none)
abbrev tL : He.Defn := ("law", none)
def ex30 (K : PySem.W.Frag) : Bool := He.tupB K "KEPT" (keptS.map He.Dv.str) && (excB K (He.ga K "BadFunctions") && (excB K (He.ga K "Unknown") && (ownB K (He.ga K "BadFunctions") ["name"] && (ownB K (He.ga K "Unknown") ["name"] && (decide (PySem.W.kitOne K (.ref (He.ga K "Unknown")) (.ref (He.ga K "StopError")) = some true) &&
  (insB K (He.ga K "Scope") && (eqB K (He.ga K "Scope") && (difB K tI tU && (difB K tI tL && difB K tU tL)))))))))
def tf30 : List He.Defn := [tI, tU, tL]
abbrev T30 (K : PySem.W.Frag) : List (Addr × Str) := [((He.cT K tI).2, qInit), ((He.cT K tU).2, qUnm), ((He.cT K tL).2, qLaw)]
abbrev hk30 : PySem.W.Hook := He.hookX 4 fa30 fn30 [] tf30 ex30
abbrev Says30 (w : World) (h : Heap) (K : PySem.W.Frag) : Prop := He.SaysX fa30 fn30 [] tf30 ex30 w h K
abbrev R : PySem.W.OpenRow := PySem.W.OpenLaw.row PySem.Challenge.rw_stopanywhere_k30_scopes_meant
def ob30 (s : PySem.W.SharedT) : He.AlX := He.obsX 4 fa30 fn30 [] tf30 ex30 (HandSHeadRun.getT s)
theorem ob_eq (s : PySem.W.SharedT) : ob30 s = hk30.obs s.abs := He.obsX_eq fun a => HandSHeadRun.getT_eq s a
theorem kbM {K : PySem.W.Frag} {x qual p : Str} {st : Stmt} {f : Addr} {fd : FuncData} (F : Fun K x qual st f fd)
    (h2 : ∀ (kV doc pm : Value) (an : Option Addr) (cdv ct u v : Value), bindArgs (PySem.W.fnOf x qual (defArgs st) (defBody st) (defScope st) .none kV doc pm an cdv ct) ⟨[u], [(p, v)]⟩ = pure [(("self" : Str), u), (p, v)]) : KBinds K fd ["self", p] [p] kw1 kw1 := by
  obtain ⟨oc, od, kV, doc, pm, an, cdv, ct, osl, rfl, _, _⟩ := F.ex
  refine ⟨fun s us ws _ hl => ?_, fun {vs us zs ws} r rz => ?_⟩
  · match us, ws, hl with
    | [u], [v], _ => exact .of_eq (h2 kV doc pm an cdv ct u v)
    | [], ws, hl => simp [kw1] at hl
    | [_], [], hl => simp [kw1] at hl
    | [_], _ :: _ :: _, hl => simp [kw1] at hl
    | _ :: _ :: _, _, hl => simp [kw1] at hl
  · cases r with
    | nil => exact .nil
    | cons h1 t1 =>
      cases t1 with
      | cons _ _ => exact .nil
      | nil =>
        cases rz with
        | nil => exact .nil
        | cons h2 t2 =>
          cases t2 with
          | nil => exact .cons h1 (.cons h2 .nil)
          | cons _ _ => exact .nil
theorem kbI {K : PySem.W.Frag} {x qual p q : Str} {st : Stmt} {f : Addr} {fd : FuncData} (F : Fun K x qual st f fd)
    (h2 : ∀ (kV doc pm : Value) (an : Option Addr) (cdv ct u v z : Value), bindArgs (PySem.W.fnOf x qual (defArgs st) (defBody st) (defScope st) .none kV doc pm an cdv ct) ⟨[u], [(p, v), (q, z)]⟩ = pure [(("self" : Str), u), (p, v), (q, z)]) : KBn K fd ["self", p, q] 1 [p, q] cat1 cat1 := by
  obtain ⟨oc, od, kV, doc, pm, an, cdv, ct, osl, rfl, _, _⟩ := F.ex
  refine ⟨fun s us ws _ h1 h3 => ?_, fun {vs us zs ws} r rz => r.append rz⟩
  match us, ws, h1, h3 with
  | [u], [v, z], _, _ => exact .of_eq (h2 kV doc pm an cdv ct u v z)
section
variable {P : Program} {w0 : World} {K : PySem.W.Frag} {h : Heap} {mg : Str → Option Value} {fL : Addr}
theorem law_of {w : World} (X : K.In h) (GG : h.Ns mainGlobals mg) (hfa : mg ("law" : Str) = some (.ref fL)) (c : Says30 w h K) (base : Heap) (TBs : ∀ p ∈ tf30.map (He.cT K), LamX.TabB base mg p.1 p.2) :
    ∃ fd, FnOk P w0 K mg base CX0 9 fL fd ["script"] (spLaw K (T30 K)) ∧ Fun K "law" "law" sLaw fL fd ∧ ∀ (s : Shared) (u : Value), BindsTo s fd ⟨[u], []⟩ [("script", u)] := by
  have c2 : He.SaysD fa30 fn30 K := congrArg (fun z : He.AlT => z.1) c.t
  obtain ⟨fd0, F0⟩ := FunD_fun (st := sTupOf) (c2.def_ 0 (d := d_is_tuple_of) rfl)
  have g0 := He.glo_ok X GG (c2.fact 0 (f := .glo "is_tuple_of") rfl)
  have b0 := F0.binds (ps := ["thing", "many"]) fun _ _ _ _ _ _ us hl => match us, hl with | [_, _], _ => rfl
  obtain ⟨fd1, F1⟩ := FunD_fun (st := sIsList) (c2.def_ 1 (d := d_is_list) rfl)
  have g1 := He.glo_ok X GG (c2.fact 1 (f := .glo "is_list") rfl)
  have b1 := F1.binds (ps := ["thing"]) fun _ _ _ _ _ _ us hl => match us, hl with | [_], _ => rfl
  obtain ⟨fd2, F2⟩ := FunD_fun (st := sFirst) (c2.def_ 2 (d := d_first_again) rfl)
  have g2 := He.glo_ok X GG (c2.fact 2 (f := .glo "first_again") rfl)
  have b2 := F2.binds (ps := ["names"]) fun _ _ _ _ _ _ us hl => match us, hl with | [_], _ => rfl
  obtain ⟨fd3, F3⟩ := FunD_fun (st := sIsName) (c2.def_ 3 (d := d_is_name) rfl)
  have g3 := He.glo_ok X GG (c2.fact 3 (f := .glo "is_name") rfl)
  have b3 := F3.binds (ps := ["thing"]) fun _ _ _ _ _ _ us hl => match us, hl with | [_], _ => rfl
  obtain ⟨fd4, F4⟩ := FunD_fun (st := sDeclN) (c2.def_ 4 (d := d_declared_names) rfl)
  have g4 := He.glo_ok X GG (c2.fact 4 (f := .glo "declared_names") rfl)
  have b4 := F4.binds (ps := ["declaration"]) fun _ _ _ _ _ _ us hl => match us, hl with | [_], _ => rfl
  obtain ⟨fd5, F5⟩ := FunD_fun (st := sIsKind) (c2.def_ 5 (d := d_is_kind) rfl)
  have g5 := He.glo_ok X GG (c2.fact 5 (f := .glo "is_kind") rfl)
  have b5 := F5.binds (ps := ["thing"]) fun _ _ _ _ _ _ us hl => match us, hl with | [_], _ => rfl
  obtain ⟨fd6, F6⟩ := FunD_fun (st := sIsDecl) (c2.def_ 6 (d := d_is_declaration) rfl)
  have g6 := He.glo_ok X GG (c2.fact 6 (f := .glo "is_declaration") rfl)
  have b6 := F6.binds (ps := ["thing"]) fun _ _ _ _ _ _ us hl => match us, hl with | [_], _ => rfl
  obtain ⟨fd7, F7⟩ := FunD_fun (st := sTupB) (c2.def_ 7 (d := d__is_tuple_between) rfl)
  have g7 := He.glo_ok X GG (c2.fact 7 (f := .glo "_is_tuple_between") rfl)
  have b7 := F7.binds (ps := ["thing", "least", "most"]) fun _ _ _ _ _ _ us hl => match us, hl with | [_, _, _], _ => rfl
  obtain ⟨fd8, F8⟩ := FunD_fun (st := sIsVar) (c2.def_ 8 (d := d__is_variant) rfl)
  have g8 := He.glo_ok X GG (c2.fact 8 (f := .glo "_is_variant") rfl)
  have b8 := F8.binds (ps := ["thing"]) fun _ _ _ _ _ _ us hl => match us, hl with | [_], _ => rfl
  obtain ⟨fd9, F9⟩ := FunD_fun (st := sKic) (c2.def_ 9 (d := d__kind_in_code) rfl)
  have g9 := He.glo_ok X GG (c2.fact 9 (f := .glo "_kind_in_code") rfl)
  have b9 := F9.binds (ps := ["kind"]) fun _ _ _ _ _ _ us hl => match us, hl with | [_], _ => rfl
  obtain ⟨fd10, F10⟩ := FunD_fun (st := sKsic) (c2.def_ 10 (d := d__kinds_in_code) rfl)
  have g10 := He.glo_ok X GG (c2.fact 10 (f := .glo "_kinds_in_code") rfl)
  have b10 := F10.binds (ps := ["kinds"]) fun _ _ _ _ _ _ us hl => match us, hl with | [_], _ => rfl
  obtain ⟨fd11, F11⟩ := FunD_fun (st := sInC) (c2.def_ 11 (d := d__in_code) rfl)
  have g11 := He.glo_ok X GG (c2.fact 11 (f := .glo "_in_code") rfl)
  have b11 := F11.binds (ps := ["told"]) fun _ _ _ _ _ _ us hl => match us, hl with | [_], _ => rfl
  obtain ⟨fd12, F12⟩ := FunD_fun (st := sChk) (c2.def_ 12 (d := d__check_functions) rfl)
  have g12 := He.glo_ok X GG (c2.fact 12 (f := .glo "_check_functions") rfl)
  have b12 := F12.binds (ps := ["functions"]) fun _ _ _ _ _ _ us hl => match us, hl with | [_], _ => rfl
  obtain ⟨fd13, F13⟩ := FunD_fun (st := sTold) (c2.def_ 13 (d := d__is_told) rfl)
  have g13 := He.glo_ok X GG (c2.fact 13 (f := .glo "_is_told") rfl)
  have b13 := F13.binds (ps := ["thing"]) fun _ _ _ _ _ _ us hl => match us, hl with | [_], _ => rfl
  obtain ⟨fd14, F14⟩ := FunD_fun (st := sBegun) (c2.def_ 14 (d := d__law_begun) rfl)
  have g14 := He.glo_ok X GG (c2.fact 14 (f := .glo "_law_begun") rfl)
  have b14 := F14.binds (ps := ["script"]) fun _ _ _ _ _ _ us hl => match us, hl with | [_], _ => rfl
  obtain ⟨fd15, F15⟩ := FunD_fun (st := sMixed) (c2.def_ 15 (d := d__law_mixed) rfl)
  have g15 := He.glo_ok X GG (c2.fact 15 (f := .glo "_law_mixed") rfl)
  have b15 := F15.binds (ps := ["draw"]) fun _ _ _ _ _ _ us hl => match us, hl with | [_], _ => rfl
  obtain ⟨fd16, F16⟩ := FunD_fun (st := sTake) (c2.def_ 16 (d := d__law_take) rfl)
  have g16 := He.glo_ok X GG (c2.fact 16 (f := .glo "_law_take") rfl)
  have b16 := F16.binds (ps := ["draw", "many"]) fun _ _ _ _ _ _ us hl => match us, hl with | [_, _], _ => rfl
  obtain ⟨fd17, F17⟩ := FunD_fun (st := sPick) (c2.def_ 17 (d := d__law_pick) rfl)
  have g17 := He.glo_ok X GG (c2.fact 17 (f := .glo "_law_pick") rfl)
  have b17 := F17.binds (ps := ["draw", "some"]) fun _ _ _ _ _ _ us hl => match us, hl with | [_, _], _ => rfl
  obtain ⟨fd18, F18⟩ := FunD_fun (st := sNames) (c2.def_ 18 (d := d__law_names) rfl)
  have g18 := He.glo_ok X GG (c2.fact 18 (f := .glo "_law_names") rfl)
  have b18 := F18.binds (ps := ["draw", "many"]) fun _ _ _ _ _ _ us hl => match us, hl with | [_, _], _ => rfl
  obtain ⟨fd19, F19⟩ := FunD_fun (st := sCoded) (c2.def_ 19 (d := d__law_coded) rfl)
  have g19 := He.glo_ok X GG (c2.fact 19 (f := .glo "_law_coded") rfl)
  have b19 := F19.binds (ps := ["kind"]) fun _ _ _ _ _ _ us hl => match us, hl with | [_], _ => rfl
  obtain ⟨fd20, F20⟩ := FunD_fun (st := sDeclrd) (c2.def_ 20 (d := d__law_declared) rfl)
  have g20 := He.glo_ok X GG (c2.fact 20 (f := .glo "_law_declared") rfl)
  have b20 := F20.binds (ps := ["draw", "names"]) fun _ _ _ _ _ _ us hl => match us, hl with | [_, _], _ => rfl
  obtain ⟨fd21, F21⟩ := FunD_fun (st := sShuf) (c2.def_ 21 (d := d__law_shuffled) rfl)
  have g21 := He.glo_ok X GG (c2.fact 21 (f := .glo "_law_shuffled") rfl)
  have b21 := F21.binds (ps := ["draw", "some"]) fun _ _ _ _ _ _ us hl => match us, hl with | [_, _], _ => rfl
  obtain ⟨fd22, F22⟩ := FunD_fun (st := sSErr) (c2.def_ 22 (d := d__law_scope_error) rfl)
  have g22 := He.glo_ok X GG (c2.fact 22 (f := .glo "_law_scope_error") rfl)
  have b22 := F22.binds (ps := ["kinds", "functions"]) fun _ _ _ _ _ _ us hl => match us, hl with | [_, _], _ => rfl
  obtain ⟨fd23, F23⟩ := FunD_fun (st := sUnk) (c2.def_ 23 (d := d__law_unknown) rfl)
  have g23 := He.glo_ok X GG (c2.fact 23 (f := .glo "_law_unknown") rfl)
  have b23 := F23.binds (ps := ["call", "thing"]) fun _ _ _ _ _ _ us hl => match us, hl with | [_, _], _ => rfl
  obtain ⟨fd24, F24⟩ := FunD_fun (st := sMeans) (c2.def_ 24 (d := d__law_means) rfl)
  have g24 := He.glo_ok X GG (c2.fact 24 (f := .glo "_law_means") rfl)
  have b24 := F24.binds (ps := ["scope", "kinds", "functions"]) fun _ _ _ _ _ _ us hl => match us, hl with | [_, _, _], _ => rfl
  obtain ⟨fd25, F25⟩ := FunD_fun (st := sUnm) (c2.def_ 25 (d := d__law_unmeant) rfl)
  have g25 := He.glo_ok X GG (c2.fact 25 (f := .glo "_law_unmeant") rfl)
  have b25 := F25.binds (ps := ["scope", "kinds", "functions", "names"]) fun _ _ _ _ _ _ us hl => match us, hl with | [_, _, _, _], _ => rfl
  obtain ⟨fd26, F26⟩ := FunD_fun (st := sBadK) (c2.def_ 26 (d := d__law_bad_kinds) rfl)
  have g26 := He.glo_ok X GG (c2.fact 26 (f := .glo "_law_bad_kinds") rfl)
  have b26 := F26.binds (ps := ["draw", "kinds", "names"]) fun _ _ _ _ _ _ us hl => match us, hl with | [_, _, _], _ => rfl
  obtain ⟨fd27, F27⟩ := FunD_fun (st := sBadF) (c2.def_ 27 (d := d__law_bad_functions) rfl)
  have g27 := He.glo_ok X GG (c2.fact 27 (f := .glo "_law_bad_functions") rfl)
  have b27 := F27.binds (ps := ["draw", "functions", "names"]) fun _ _ _ _ _ _ us hl => match us, hl with | [_, _, _], _ => rfl
  obtain ⟨fd28, F28⟩ := FunD_fun (st := sLaw) (c2.def_ 28 (d := d_law) rfl)
  have g28 := He.glo_ok X GG (c2.fact 28 (f := .glo "law") rfl)
  have b28 := F28.binds (ps := ["script"]) fun _ _ _ _ _ _ us hl => match us, hl with | [_], _ => rfl
  obtain ⟨fd29, F29⟩ := FunD_fun (st := sIBF) (c2.def_ 29 (d := d_BadFunctions___init__) rfl)
  have b29 := F29.binds (ps := ["self", "name"]) fun _ _ _ _ _ _ us hl => match us, hl with | [_, _], _ => rfl
  obtain ⟨fd30, F30⟩ := FunD_fun (st := sIUn) (c2.def_ 30 (d := d_Unknown___init__) rfl)
  have b30 := F30.binds (ps := ["self", "name"]) fun _ _ _ _ _ _ us hl => match us, hl with | [_, _], _ => rfl
  obtain ⟨fd31, F31⟩ := FunD_fun (st := sInit) (c2.def_ 31 (d := d_Scope___init__) rfl)
  have b31 := F31.binds (ps := ["self", "kinds", "functions"]) fun _ _ _ _ _ _ us hl => match us, hl with | [_, _, _], _ => rfl
  obtain ⟨fd32, F32⟩ := FunD_fun (st := sEqS) (c2.def_ 32 (d := d_Scope___eq__) rfl)
  have b32 := F32.binds (ps := ["self", "other"]) fun _ _ _ _ _ _ us hl => match us, hl with | [_, _], _ => rfl
  obtain ⟨fd33, F33⟩ := FunD_fun (st := sChoice) (c2.def_ 33 (d := d_Scope_choice) rfl)
  have b33 := F33.binds (ps := ["self", "variant"]) fun _ _ _ _ _ _ us hl => match us, hl with | [_, _], _ => rfl
  obtain ⟨fd34, F34⟩ := FunD_fun (st := sVars) (c2.def_ 34 (d := d_Scope_variants) rfl)
  have b34 := F34.binds (ps := ["self", "choice"]) fun _ _ _ _ _ _ us hl => match us, hl with | [_, _], _ => rfl
  obtain ⟨fd35, F35⟩ := FunD_fun (st := sFields) (c2.def_ 35 (d := d_Scope_fields) rfl)
  have b35 := F35.binds (ps := ["self", "variant"]) fun _ _ _ _ _ _ us hl => match us, hl with | [_, _], _ => rfl
  obtain ⟨fd36, F36⟩ := FunD_fun (st := sItem) (c2.def_ 36 (d := d_Scope_item) rfl)
  have b36 := F36.binds (ps := ["self", "kind"]) fun _ _ _ _ _ _ us hl => match us, hl with | [_, _], _ => rfl
  obtain ⟨fd37, F37⟩ := FunD_fun (st := sTakes) (c2.def_ 37 (d := d_Scope_takes) rfl)
  have b37 := F37.binds (ps := ["self", "function"]) fun _ _ _ _ _ _ us hl => match us, hl with | [_, _], _ => rfl
  obtain ⟨fd38, F38⟩ := FunD_fun (st := sGives) (c2.def_ 38 (d := d_Scope_gives) rfl)
  have b38 := F38.binds (ps := ["self", "function"]) fun _ _ _ _ _ _ us hl => match us, hl with | [_, _], _ => rfl
  obtain ⟨fd39, F39⟩ := FunD_fun (st := sCase) (c2.def_ 39 (d := d_Scope__case) rfl)
  have b39 := F39.binds (ps := ["self", "variant"]) fun _ _ _ _ _ _ us hl => match us, hl with | [_, _], _ => rfl
  obtain ⟨fd40, F40⟩ := FunD_fun (st := sDcln) (c2.def_ 40 (d := d_Scope__declaration) rfl)
  have b40 := F40.binds (ps := ["self", "kind", "word"]) fun _ _ _ _ _ _ us hl => match us, hl with | [_, _, _], _ => rfl
  obtain ⟨fd41, F41⟩ := FunD_fun (st := sFunc) (c2.def_ 41 (d := d_Scope__function) rfl)
  have b41 := F41.binds (ps := ["self", "function"]) fun _ _ _ _ _ _ us hl => match us, hl with | [_, _], _ => rfl
  have z_isinstance := He.free_ok X GG (c2.fact 60 (f := .free "isinstance") rfl)
  have z_str := He.free_ok X GG (c2.fact 61 (f := .free "str") rfl)
  have z_len := He.free_ok X GG (c2.fact 62 (f := .free "len") rfl)
  have z_all := He.free_ok X GG (c2.fact 63 (f := .free "all") rfl)
  have z_tuple := He.free_ok X GG (c2.fact 64 (f := .free "tuple") rfl)
  have z_list := He.free_ok X GG (c2.fact 65 (f := .free "list") rfl)
  have z_dict := He.free_ok X GG (c2.fact 66 (f := .free "dict") rfl)
  have z_bool := He.free_ok X GG (c2.fact 67 (f := .free "bool") rfl)
  have z_set := He.free_ok X GG (c2.fact 68 (f := .free "set") rfl)
  have z_enumerate := He.free_ok X GG (c2.fact 69 (f := .free "enumerate") rfl)
  have z_sorted := He.free_ok X GG (c2.fact 70 (f := .free "sorted") rfl)
  have z_range := He.free_ok X GG (c2.fact 71 (f := .free "range") rfl)
  have z_min := He.free_ok X GG (c2.fact 72 (f := .free "min") rfl)
  have z_int := He.free_ok X GG (c2.fact 73 (f := .free "int") rfl)
  have z_abs := He.free_ok X GG (c2.fact 74 (f := .free "abs") rfl)
  have g_StopError := He.glo_ok X GG (c2.fact 29 (f := .glo "StopError") rfl)
  have g_BadKinds := He.glo_ok X GG (c2.fact 30 (f := .glo "BadKinds") rfl)
  have g_BadFunctions := He.glo_ok X GG (c2.fact 31 (f := .glo "BadFunctions") rfl)
  have g_Unknown := He.glo_ok X GG (c2.fact 32 (f := .glo "Unknown") rfl)
  have g_KEPT := He.glo_ok X GG (c2.fact 33 (f := .glo "KEPT") rfl)
  have g_Scope := He.glo_ok X GG (c2.fact 34 (f := .glo "Scope") rfl)
  have s_L := He.str_ok X GG (c2.fact 35 (f := .str "LETTERS" lettersS) rfl)
  have cC := He.cls_ok (c2.fact 36 (f := .cls "Scope") rfl)
  have MK := He.mkr_ok (c2.fact 37 (f := .mkr "Scope") rfl)
  obtain ⟨xK, kK, bK, tK⟩ := He.exc_ok (c2.fact 38 (f := .exc "BadKinds") rfl)
  have m___eq__ := He.meth_ok (c2.fact 39 (f := .meth "Scope" "__eq__") rfl)
  have m_choice := He.meth_ok (c2.fact 40 (f := .meth "Scope" "choice") rfl)
  have m_variants := He.meth_ok (c2.fact 41 (f := .meth "Scope" "variants") rfl)
  have m_fields := He.meth_ok (c2.fact 42 (f := .meth "Scope" "fields") rfl)
  have m_item := He.meth_ok (c2.fact 43 (f := .meth "Scope" "item") rfl)
  have m_takes := He.meth_ok (c2.fact 44 (f := .meth "Scope" "takes") rfl)
  have m_gives := He.meth_ok (c2.fact 45 (f := .meth "Scope" "gives") rfl)
  have m__case := He.meth_ok (c2.fact 46 (f := .meth "Scope" "_case") rfl)
  have m__declaration := He.meth_ok (c2.fact 47 (f := .meth "Scope" "_declaration") rfl)
  have m__function := He.meth_ok (c2.fact 48 (f := .meth "Scope" "_function") rfl)
  have n_kinds := He.noat_ok (c2.fact 49 (f := .noat "Scope" "kinds") rfl)
  have n_functions := He.noat_ok (c2.fact 50 (f := .noat "Scope" "functions") rfl)
  have n__told := He.noat_ok (c2.fact 51 (f := .noat "Scope" "_told") rfl)
  have n__declared := He.noat_ok (c2.fact 52 (f := .noat "Scope" "_declared") rfl)
  have n__cases := He.noat_ok (c2.fact 53 (f := .noat "Scope" "_cases") rfl)
  have e_BadKinds_BadKinds := He.exm_ok (c2.fact 54 (f := .exm "BadKinds" "BadKinds" true) rfl)
  have e_BadFunctions_BadKinds := He.exm_ok (c2.fact 55 (f := .exm "BadFunctions" "BadKinds" false) rfl)
  have e_BadFunctions_BadFunctions := He.exm_ok (c2.fact 56 (f := .exm "BadFunctions" "BadFunctions" true) rfl)
  have e_Unknown_Unknown := He.exm_ok (c2.fact 57 (f := .exm "Unknown" "Unknown" true) rfl)
  have nBF := He.noat_ok (c2.fact 58 (f := .noat "BadFunctions" "name") rfl)
  have nUN := He.noat_ok (c2.fact 59 (f := .noat "Unknown" "name") rfl)
  have m := c.more
  unfold ex30 at m
  simp only [Bool.and_eq_true, decide_eq_true_eq] at m
  obtain ⟨m1, m2, m3, m4, m5, m6, m7, m8, m9, m10, m11⟩ := m
  have mapE : ∀ l : List Str, (l.map He.Dv.str).map (He.Dv.v K) = l.map V.str := fun l => by
    rw [List.map_map]
    rfl
  have T3 : Top3 K mg (He.ga K "KEPT") := ⟨g_KEPT, fun H => mapE keptS ▸ He.tupB_ok m1 H, s_L⟩
  have OF := ownB_ok m4
  have OU := ownB_ok m5
  have B : Gb mg := ⟨z_isinstance, z_str, z_len, z_all, z_tuple, z_list, z_dict, z_bool, z_set, z_enumerate, z_sorted, z_range, z_min, z_int, z_abs⟩
  have KB : Cl0 K mg "BadKinds" (He.ga K "BadKinds") := ⟨g_BadKinds, xK, kK, bK, tK⟩
  unfold insB at m7
  unfold eqB at m8
  simp only [Bool.and_eq_true, decide_eq_true_eq] at m7 m8
  obtain ⟨i1, i2, i3, i4⟩ := m7
  obtain ⟨q1, q2, q3, q4, q5, q6, q7⟩ := m8
  have d1 : (He.cT K tI).2 ≠ (He.cT K tU).2 := of_decide_eq_true m9
  have d2 : (He.cT K tI).2 ≠ (He.cT K tL).2 := of_decide_eq_true m10
  have d3 : (He.cT K tU).2 ≠ (He.cT K tL).2 := of_decide_eq_true m11
  have TBI := TBs (He.cT K tI) (by simp [tf30])
  have TBU := TBs (He.cT K tU) (by simp [tf30])
  have TBL := TBs (He.cT K tL) (by simp [tf30])
  have huI : ∀ p ∈ T30 K, p.1 = (He.cT K tI).2 → p.2 = qInit := fun p hp e => by
    simp only [List.mem_cons, List.not_mem_nil, or_false] at hp
    rcases hp with rfl | rfl | rfl
    · rfl
    · exact absurd e.symm d1
    · exact absurd e.symm d2
  have huU : ∀ p ∈ T30 K, p.1 = (He.cT K tU).2 → p.2 = qUnm := fun p hp e => by
    simp only [List.mem_cons, List.not_mem_nil, or_false] at hp
    rcases hp with rfl | rfl | rfl
    · exact absurd e d1
    · rfl
    · exact absurd e.symm d3
  have huL : ∀ p ∈ T30 K, p.1 = (He.cT K tL).2 → p.2 = qLaw := fun p hp e => by
    simp only [List.mem_cons, List.not_mem_nil, or_false] at hp
    rcases hp with rfl | rfl | rfl
    · exact absurd e d2
    · exact absurd e d3
    · rfl
  have hcI : fd31.code = .ref (He.cT K tI).1 := by
    obtain ⟨oc, od, kV, doc, pm, an, cdv, ct, osl, rfl, lk, hcd⟩ := F31.ex
    obtain ⟨c0, rfl⟩ := He.codeIn_ref hcd
    have e := He.codeOf_eq (K := K) (p := tI) (c := c0) lk rfl
    show Value.ref c0 = .ref (He.codeOf K tI)
    rw [e]
  have hcU : fd25.code = .ref (He.cT K tU).1 := by
    obtain ⟨oc, od, kV, doc, pm, an, cdv, ct, osl, rfl, lk, hcd⟩ := F25.ex
    obtain ⟨c0, rfl⟩ := He.codeIn_ref hcd
    have e := He.codeOf_eq (K := K) (p := tU) (c := c0) lk rfl
    show Value.ref c0 = .ref (He.codeOf K tU)
    rw [e]
  have hcL : fd28.code = .ref (He.cT K tL).1 := by
    obtain ⟨oc, od, kV, doc, pm, an, cdv, ct, osl, rfl, lk, hcd⟩ := F28.ex
    obtain ⟨c0, rfl⟩ := He.codeIn_ref hcd
    have e := He.codeOf_eq (K := K) (p := tL) (c := c0) lk rfl
    show Value.ref c0 = .ref (He.codeOf K tL)
    rw [e]
  have e := hfa.symm.trans g28
  cases e
  have G0 := ok_tupOf (P := P) (w0 := w0) (mg := mg) (base := base) F0 B
  have G7 := ok_tupB (P := P) (w0 := w0) (mg := mg) (base := base) F7 B
  have G1 := ok_isList (P := P) (w0 := w0) (mg := mg) (base := base) F1 B
  have G2 := ok_first (P := P) (w0 := w0) (mg := mg) (base := base) F2 B
  have G3 := ok_isName (P := P) (w0 := w0) (mg := mg) (base := base) F3 T3 B
  have G5 := ok_isKind (P := P) (w0 := w0) (mg := mg) (base := base) F5 F3 b3 g3 G3
  have G8 := ok_isVar (P := P) (w0 := w0) (mg := mg) (base := base) F8 B F3 b3 g3 G3 F5 b5 g5 G5 F0 b0 g0 G0 F7 b7 g7 G7
  have G6 := ok_isDecl (P := P) (w0 := w0) (mg := mg) (base := base) F6 B F3 b3 g3 G3 F5 b5 g5 G5 F0 b0 g0 G0 F7 b7 g7 G7 F8 b8 g8 G8
  have G4 := ok_declN (P := P) (w0 := w0) (mg := mg) (base := base) F4
  have G9 := ok_kic (P := P) (w0 := w0) (mg := mg) (base := base) F9
  have G10 := ok_ksic (P := P) (w0 := w0) (mg := mg) (base := base) F10 B F9 b9 g9 G9
  have G11 := ok_inC (P := P) (w0 := w0) (mg := mg) (base := base) F11 F9 b9 g9 G9 F10 b10 g10 G10
  have G13 := ok_told (P := P) (w0 := w0) (mg := mg) (base := base) F13 B F5 b5 g5 G5 F0 b0 g0 G0
  have G29 := okI_BF (P := P) (w0 := w0) (mg := mg) (base := base) F29 OF
  have G30 := okI_Un (P := P) (w0 := w0) (mg := mg) (base := base) F30 OU
  have G12 := ok_chk (P := P) (w0 := w0) (mg := mg) (base := base) F12 B g_BadFunctions OF G29 b29 F3 b3 g3 G3 F13 b13 g13 G13
  have nA : ∀ x ∈ ["kinds", "functions", "_told", "_declared", "_cases"], NoAttr K (He.ga K "Scope") (Str.ofString x) := fun x hx => by
    simp only [List.mem_cons, List.not_mem_nil, or_false] at hx
    rcases hx with rfl | rfl | rfl | rfl | rfl
    · exact n_kinds
    · exact n_functions
    · exact n__told
    · exact n__declared
    · exact n__cases
  have G31 := ok_init (T := T30 K) (P := P) (w0 := w0) (mg := mg) (base := base) F31 hcI TBI (by simp) huI B cC nA KB F1 b1 g1 G1 F6 b6 g6 G6 F2 b2 g2 G2 F4 b4 g4 G4 F12 b12 g12 G12 F11 b11 g11 G11 F10 b10 g10 G10
  have G39 := ok_case (P := P) (w0 := w0) (mg := mg) (base := base) F39 B g_Unknown OU G30 b30 cC n__cases
  have G41 := ok_func (P := P) (w0 := w0) (mg := mg) (base := base) F41 B g_Unknown OU G30 b30 cC n__told
  have G40 := ok_dcln (P := P) (w0 := w0) (mg := mg) (base := base) F40 B g_Unknown OU G30 b30 cC n__declared
  have G33 := ok_choice (P := P) (w0 := w0) (mg := mg) (base := base) F33 cC m__case b39 G39
  have G35 := ok_fields (P := P) (w0 := w0) (mg := mg) (base := base) F35 cC m__case b39 G39
  have G37 := ok_takes (P := P) (w0 := w0) (mg := mg) (base := base) F37 cC m__function b41 G41
  have G38 := ok_gives (P := P) (w0 := w0) (mg := mg) (base := base) F38 cC m__function b41 G41
  have G36 := ok_item (P := P) (w0 := w0) (mg := mg) (base := base) F36 cC m__declaration b40 G40 F9 b9 g9 G9
  have G34 := ok_vars (P := P) (w0 := w0) (mg := mg) (base := base) F34 B cC m__declaration b40 G40
  have G32 := ok_eqS (P := P) (w0 := w0) (mg := mg) (base := base) F32 B g_Scope MK.kp cC n_kinds n_functions
  have k_choice : KBinds K fd33 ["self", "variant"] ["variant"] kw1 kw1 := kbM F33 fun _ _ _ _ _ _ _ _ => rfl
  have k_variants : KBinds K fd34 ["self", "choice"] ["choice"] kw1 kw1 := kbM F34 fun _ _ _ _ _ _ _ _ => rfl
  have k_fields : KBinds K fd35 ["self", "variant"] ["variant"] kw1 kw1 := kbM F35 fun _ _ _ _ _ _ _ _ => rfl
  have k_item : KBinds K fd36 ["self", "kind"] ["kind"] kw1 kw1 := kbM F36 fun _ _ _ _ _ _ _ _ => rfl
  have k_takes : KBinds K fd37 ["self", "function"] ["function"] kw1 kw1 := kbM F37 fun _ _ _ _ _ _ _ _ => rfl
  have k_gives : KBinds K fd38 ["self", "function"] ["function"] kw1 kw1 := kbM F38 fun _ _ _ _ _ _ _ _ => rfl
  have G15 := ok_mixed (P := P) (w0 := w0) (mg := mg) (base := base) F15 z_int
  have G14 := ok_begun (P := P) (w0 := w0) (mg := mg) (base := base) F14 z_int z_abs
  have G16 := ok_take (P := P) (w0 := w0) (mg := mg) (base := base) F16 F15 b15 g15 z_int G15
  have G17 := ok_pick (P := P) (w0 := w0) (mg := mg) (base := base) F17 F16 b16 g16 z_len G16
  have GS := ok_pickS (P := P) (w0 := w0) (mg := mg) (base := base) F17 F16 b16 g16 z_len G16
  have G18 := ok_names (P := P) (w0 := w0) (mg := mg) (base := base) F18 B F17 b17 g17 G17 GS
  have G19 := ok_coded (P := P) (w0 := w0) (mg := mg) (base := base) F19
  have G20 := ok_declared (P := P) (w0 := w0) (mg := mg) (base := base) F20 B F17 b17 g17 G17 F16 b16 g16 G16
  have G21 := ok_shuf (P := P) (w0 := w0) (mg := mg) (base := base) F21 B F16 b16 g16 G16
  have G22 := ok_serr (T := T30 K) (P := P) (w0 := w0) (mg := mg) (base := base) F22 MK g_Scope b31 G31 g_BadKinds g_BadFunctions e_BadKinds_BadKinds e_BadFunctions_BadKinds e_BadFunctions_BadFunctions (excB_ok m2).2 nBF
  have G24 := ok_means (UN := He.ga K "Unknown") (P := P) (w0 := w0) (mg := mg) (base := base) F24 B cC F19 b19 g19 G19 ⟨m_choice, G33, b33, k_choice⟩ ⟨m_variants, G34, b34, k_variants⟩ ⟨m_fields, G35, b35, k_fields⟩ ⟨m_item, G36, b36, k_item⟩ ⟨m_takes, G37, b37, k_takes⟩ ⟨m_gives, G38, b38, k_gives⟩
  have G25 := ok_unm (UN := He.ga K "Unknown") (T := T30 K) (P := P) (w0 := w0) (mg := mg) (base := base) F25 hcU TBU (by simp) huU B cC F23 g23 b23 g_Unknown g_StopError e_Unknown_Unknown (excB_ok m3).2 nUN (excB_ok m3).1 m6 ⟨m_choice, G33, b33, k_choice⟩ ⟨m_variants, G34, b34, k_variants⟩ ⟨m_fields, G35, b35, k_fields⟩ ⟨m_item, G36, b36, k_item⟩ ⟨m_takes, G37, b37, k_takes⟩ ⟨m_gives, G38, b38, k_gives⟩
  have G26 := ok_badK (P := P) (w0 := w0) (mg := mg) (base := base) F26 B F17 b17 g17 G17 F16 b16 g16 G16
  have G27 := ok_badF (BF := He.ga K "BadFunctions") (P := P) (w0 := w0) (mg := mg) (base := base) F27 B F17 b17 g17 G17 F16 b16 g16 G16
  have DF : DefL P w0 K mg base (T30 K) (He.ga K "Scope") (He.ga K "BadKinds") (He.ga K "BadFunctions") (He.ga K "Unknown") (He.ma K (He.ga K "Scope") "__eq__") :=
    ⟨⟨_, _, F14, G14, b14, g14⟩, ⟨_, _, F16, G16, b16, g16⟩, ⟨_, _, F17, G17, b17, g17⟩, ⟨_, _, F18, G18, b18, g18⟩, ⟨_, _, F20, G20, b20, g20⟩, ⟨_, _, F21, G21, b21, g21⟩, ⟨_, _, F19, G19, b19, g19⟩, ⟨_, _, F24, G24, b24, g24⟩, ⟨_, _, F25, G25, b25, g25⟩, ⟨_, _, F26, G26, b26, g26⟩, ⟨_, _, F27, G27, b27, g27⟩, ⟨_, _, F22, G22, b22, g22⟩, ⟨_, _, MK, G31, b31, kbI F31 fun _ _ _ _ _ _ _ _ _ => rfl, g_Scope⟩, ⟨_, ⟨m___eq__.at_, m___eq__.fn, q1, q2⟩, G32, b32⟩, cC, n_kinds, n_functions, fun t ht => by
      rcases ht with rfl | rfl | rfl
      · exact q3
      · exact q4
      · exact q5, fun t ht => by
      rcases ht with rfl | rfl
      · exact q6
      · exact q7, fun e => .base (.ins e cC i1 i2 i3 i4)⟩
  refine ⟨fd28, ok_law F28 hcL B DF TBL (by simp) huL, F28, fun s u => ?_⟩
  obtain ⟨oc, od, kV, doc, pm, an, cdv, ct, osl, rfl, _, _⟩ := F28.ex
  exact .of_eq rfl
end
end SA
set_option Elab.async false
set_option linter.all false
set_option maxRecDepth 100000
set_option maxHeartbeats 0
namespace SA
open PySem PySem.Spec PyProof.Rows L2 K1
/-- the goal that the head leaves -/
theorem walk30 {l : PySem.W.OpenLaw} {n : Nat} {q : Program} {loose : List Str} {XP : (Str → Option Value) → Heap → Prop} {d : DefRec} (hn : l.most = some n) (h63 : n ≤ 63) (hdf : d.params.defaults = []) (hd : d.name = ("law" : Str)) :
    PySem.W.WalkO q loose XP hk30.says l.row.toRowW d [] (fun f vs => PySem.call f vs) := by
  refine Att.attach_call hn hdf fun w s₀ s₁ mg mb fa o pm cd doc a vs ns G Y ho hd' hcd hmg hobj hints hlen hg => ?_
  obtain ⟨K, KX, c⟩ := Y
  rw [hd] at hmg
  have mem : ∀ {p : Addr × Addr}, p ∈ tf30.map (He.cT K) → ∃ t ∈ tf30, p = He.cT K t := fun {p} hp => by
    obtain ⟨t, ht, e⟩ := List.mem_map.mp hp
    exact ⟨t, ht, e.symm⟩
  have fd0 : ∃ fd : FuncData, (∀ base : Heap, K.In base → base.Ns mainGlobals mg → (∀ p ∈ tf30.map (He.cT K), LamX.TabB base mg p.1 p.2) → FnOk l.prog w K mg base CX0 9 fa fd ["script"] (spLaw K (T30 K))) ∧ ∀ (s : Shared) (u : Value), BindsTo s fd ⟨[u], []⟩ [("script", u)] := by
    have c2 : He.SaysD fa30 fn30 K := congrArg (fun z : He.AlT => z.1) c.t
    have eg := hmg.symm.trans (He.glo_ok KX G.T.g (c2.fact 28 (f := .glo "law") rfl))
    cases eg
    obtain ⟨fd, F⟩ := FunD_fun (st := sLaw) (c2.def_ 28 (d := d_law) rfl)
    refine ⟨fd, fun base _ _ TBs => ?_, fun s u => ?_⟩
    · obtain ⟨fd', h1, F', _⟩ := law_of (P := l.prog) (w0 := w) KX G.T.g hmg c base TBs
      have e : fd' = fd := by
        obtain ⟨oc, od, kV, doc, pm, an, cdv, ct, osl, e1, lk, _⟩ := F.ex
        obtain ⟨oc', od', kV', doc', pm', an', cdv', ct', osl', e1', lk', _⟩ := F'.ex
        have := lk.symm.trans lk'
        simp only [Option.some.injEq, Obj.mk.injEq, Data.func.injEq] at this
        exact this.2.2.1.symm
      rw [← e]
      exact h1
    · obtain ⟨oc, od, kV, doc, pm, an, cdv, ct, osl, rfl, _, _⟩ := F.ex
      exact .of_eq rfl
  obtain ⟨fd, hF, hb⟩ := fd0
  refine LamX.law_callTs (CX := CX0) (cs := tf30.map (He.cT K)) (k := 9) (sp := spLaw K (T30 K)) KX G.T.g G.T.b G.T.builtins G.T.nolimit hg ?_ ?_ ?_ G.T.bmain hobj hints (Nat.le_trans hlen (Nat.le_trans h63 (by decide))) ⟨by decide, by decide, by decide⟩ hF hb (fun H hH hS => ⟨a, ns, rfl, hS, Nat.le_trans hlen h63, ?_, fun _ => rfl⟩) fun H e s' h => h
  · intro p hp
    obtain ⟨t, ht, rfl⟩ := mem hp
    exact c.empty t ht
  · intro p hp
    obtain ⟨t, ht, rfl⟩ := mem hp
    exact c.out t ht
  · intro p hp
    obtain ⟨t, ht, rfl⟩ := mem hp
    exact PySem.W.codeHd_of_K KX (c.hd t ht)
  · intro p hp
    simp only [List.mem_cons, List.not_mem_nil, or_false] at hp
    rcases hp with rfl | rfl | rfl
    · exact LamX.TabS.nil (hH (He.cT K tI) (by simp [tf30]))
    · exact LamX.TabS.nil (hH (He.cT K tU) (by simp [tf30]))
    · exact LamX.TabS.nil (hH (He.cT K tL) (by simp [tf30]))
end SA
set_option Elab.async false
set_option linter.all false
set_option maxRecDepth 100000
set_option maxHeartbeats 0
namespace SA
open PySem PySem.W PySem.Calls PyProof.Rows
def names : List PySem.Str := [("is_tuple_of" : PySem.Str), ("is_list" : PySem.Str), ("first_again" : PySem.Str), ("StopError" : PySem.Str), ("BadKinds" : PySem.Str), ("BadFunctions" : PySem.Str), ("Unknown" : PySem.Str), ("KEPT" : PySem.Str), ("LETTERS" : PySem.Str), ("is_name" : PySem.Str), ("declared_names" : PySem.Str), ("is_kind" : PySem.Str), ("is_declaration" : PySem.Str), ("_is_tuple_between" : PySem.Str), ("_is_variant" : PySem.Str), ("Scope" : PySem.Str), ("_kind_in_code" : PySem.Str), ("_kinds_in_code" : PySem.Str), ("_in_code" : PySem.Str), ("_check_functions" : PySem.Str), ("_is_told" : PySem.Str), ("_law_begun" : PySem.Str), ("_law_mixed" : PySem.Str), ("_law_take" : PySem.Str), ("_law_pick" : PySem.Str), ("_law_names" : PySem.Str), ("_law_coded" : PySem.Str), ("_law_declared" : PySem.Str), ("_law_shuffled" : PySem.Str), ("_law_scope_error" : PySem.Str), ("_law_unknown" : PySem.Str), ("_law_means" : PySem.Str), ("_law_unmeant" : PySem.Str), ("_law_bad_kinds" : PySem.Str), ("_law_bad_functions" : PySem.Str)]
theorem run (w : World) : HandSHeadRun.RunEq R (view R.prog [42]) hk30 ob30 8000 names w := by
  intro os
  kernel_rfl
end SA
open PySem PySem.W PySem.Calls PyProof.Rows
theorem PySem.Challenge.cw_stopanywhere_k30_scopes_meant_holds : PySem.Challenge.rw_stopanywhere_k30_scopes_meant.Holds := by
  w_on; o_law
  refine HandSHeadRun.head_any (r := SA.R) (q := view SA.R.prog [42]) (H := SA.hk30) (ob := SA.ob30) (M := 8000) (loose := SA.names) (d := HandSHeadRun.topDef SA.R.prog 42) (kwd := []) SA.ob_eq
    (by kernel_rfl) (fun s => by kernel_rfl) SA.run (by kernel_rfl) (by kernel_rfl) (by kernel_rfl) (by rfl) (by first | assumption | decide +kernel) (by decide +kernel) ⟨rfl, rfl, rfl, rfl, rfl, by decide +kernel⟩ ?hw ?hc
  case hw => w_witness2
  case hc => exact SA.walk30 (l := PySem.Challenge.rw_stopanywhere_k30_scopes_meant) (n := 63) rfl (by decide) (by kernel_rfl) (by kernel_rfl)
