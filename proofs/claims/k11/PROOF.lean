import PyProof.Rows.All
import Wide.All
import OpenK.AllK
import Wide.FinOn
import HandS.ForMost
import HandS.Evl
import HandS.ExcInit
import HandS.ExcValue
import HandS.ExcIs
import HandS.ExcField
import HandS.IsInst
import PyProof.ReprRoads
import HandS.Head0
import HandS.Head1
import HandS.Head2
import HandS.HeadEnd
import HandS.HeadHook1
import HandS.HeadHook2
import HandS.Lambda
import HandS.TryOnly
import HandS.CallLocal
import HandS.ForExc
import HandS.Style
import HandS.StrMore
import HandS.FStr
import HandS.Wide
import PyProof.ReprLen
import PyProof.Rows.StrNews2
import PyProof.StrLawsIn
import PyProof.StrBlock2
import HandS.Zip
import HandS.Walk
import KE.GoesZip
import KE.GoesMore
import HandS.HeadHook4
import HandS.More
import KE.KDictZip
import KE.KDictDisplayH
import HandS.Dict
import KE.SortKeyHeap
import HandS.SortKw
import KE.IntTextLaws
import HandS.Star
import HandS.DictComp
import HandS.TupAny
import HandS.SetKeys
import PyProof.NeKinds
import PyProof.EqKinds
import HandS.Deep
import PyProof.EnumMake
import HandS.EndTab
import HandS.SetTxt0
import HandS.Strs
import PyProof.SetNew
import HandS.Set
import KE.DataMinMax
import KE.SortData
import PyProof.Claim2Refuses
import HandS.MakeKwOnly
import HandS.Conv
import HandS.Iter
import PySem.Challenge.RW_stopanywhere_k11_units_in_order_or_the_s
set_option Elab.async false
set_option linter.all false
set_option maxRecDepth 100000
set_option maxHeartbeats 4000000
/-! ### exceptions held as values: isinstance, fields, made with their own __init__; repr of data -/
namespace SA
section
open PySem PySem.Spec PySem.Calls PyProof.Rows PySem.W
variable {prog : Program} {w : World} {A : Around} {E : Value → Shared → Prop} {s : Shared} {K : Frag} {x D : Addr} {ox : Obj} {od : Option Obj}
/-- a data descriptor of the class is found first, whatever the object's own dict holds -/
theorem find_data {name : Str} {a g : Value} (hc : (clsIn K D).isSome = true) (ha : findIn K (.ref D) name = some (some a)) (hg : specialIn K a "__get__" = some (some g))
    (ht : takesIn K a = some true) : findObj K D od name = some (.bind g a) := by
  obtain ⟨cd, e⟩ := Option.isSome_iff_exists.mp hc
  unfold findObj
  rw [e, Option.bind_some, ha, Option.bind_some]
  simp [hg, ht]
/-- e.__class__ of an exception object of the class at D -/
theorem exc_class {Q : Option Value → Shared → Prop} (C : L2.ExcC K D) (X : K.In s.heap) (I : InstAt s.heap x ox D od) (h : Q (some (.ref D)) { s with toks := s.toks + 1 }) :
    wpAny (model prog w) A (getAttr? (.ref x) "__class__") Q E s := by
  have hcd : (clsIn K D).isSome = true := by
    obtain ⟨cd, hc, _⟩ := any_some C.hd
    rw [hc] <;> rfl
  have hf : findObj K D od "__class__" = some (.bind (.builtin "getset_descriptor.__get__") (.builtin "object.__class__")) := find_data hcd C.ha C.hn C.ht
  obtain ⟨hp, g, d, t, os⟩ := s
  have t0 := I.type (M := model prog w)
  have t1 := looks_findIn (M := model prog w) X C.hg
  have t2 := looks_findIn (M := model prog w) X C.hk
  have t3 := looks_find (M := model prog w) X I hf
  have sub : Looks (model prog w) hp (isInstance (.ref x) (.type "BaseException")) true := t0.andThen (looks_subIn X C.hs)
  have n0 : (false && onTheHeap (Value.builtin "BaseException.__getattribute__")) = false := rfl
  have n2 : (Value.builtin "BaseException.__getattribute__" == Value.builtin "object.__getattribute__") = false := by decide +kernel
  have n1 : (onTheHeap (Value.ref D) && Value.builtin "BaseException.__getattribute__" == Value.builtin "object.__getattribute__") = false := by rw [n2] <;> rfl
  unfold getAttr? getAttrBy? getAttrBy
  refine wpAny_bind (wpAny_mkText (wpAny_bind (wpAny_attempt (wpAny_holding (wpAny_bind (t0.at (wpAny_bind (t1.at ?_))))))))
  show wpAny _ _ (if (onTheHeap (Value.ref D) && Value.builtin "BaseException.__getattribute__" == Value.builtin "object.__getattribute__") = true then _ else _) _ _ _
  rw [n1, if_neg Bool.false_ne_true]
  unfold getAttrByItsOwn hookBefore
  refine wpAny_bind ?_
  rw [if_pos (show onTheHeap (Value.ref D) = true from rfl)]
  refine t2.at ?_
  refine wpAny_bind (wpAny_attempt (wpAny_holding ?_))
  unfold callGetattribute
  rw [n0, if_neg Bool.false_ne_true]
  unfold boundAndCalled
  rw [PySem.F.excAttr_ValueError.ga.bind (.ref x)]
  refine wpAny_bind (wpAny_pure ?_)
  show wpAny _ _ (call (.builtin "BaseException.__getattribute__") [.ref x, .str "__class__" t]) _ _ _
  refine wpAny_call (codeAny_call_builtin PySem.F.excAttr_ValueError.ga.plain PySem.F.entry_bexc_ga ?_)
  refine @check_slot (model prog w) _ _ ⟨hp, g, d, t + 1, os⟩ "BaseException.__getattribute__" "BaseException" "__getattribute__" (.ref x) [.str "__class__" t] [] _ (by decide +kernel) (by decide +kernel) sub (PySem.F.args_bexc_ga (.ref x) (.str "__class__" t)) ?_
  unfold Builtin.«object.__getattribute__»
  refine wpAny_bind (wpAny_of_eq (a := ((Value.ref x : Value), [Value.str "__class__" t])) (by first | rfl | (simp only [slotArgs]; rfl)) ?_)
  refine wpAny_bind (wpAny_pure (wpAny_bind (t0.at (wpAny_bind (t3.at ?_)))))
  show wpAny _ _ (holding [Value.builtin "object.__class__"] (call (.builtin "getset_descriptor.__get__") [.builtin "object.__class__", .ref x, .ref D]) >>= ret) _ _ _
  refine wpAny_bind (wpAny_holding (wpAny_call (class_get (s := ⟨hp, g, d, t + 1, os⟩) (ox := ox) (od := od) X I C.hm ?_)))
  refine wpAny_pure ?_
  show wpAny _ _ (handedOut (.ref D)) _ _ _
  rw [handedOut_of (v := .ref D) rfl]
  first
    | exact wpAny_pure (wpAny_pure h)
    | exact wpAny_pure h
    | exact wpAny_pure (wpAny_bind (wpAny_pure (wpAny_pure h)))
theorem is_class {c : Addr} (h : hasDictIn K c = true) : ∃ oc od cd sl, K.lookup c = some ⟨oc, od, .cls cd, sl⟩ := by
  obtain ⟨cd, hc, _⟩ := any_some h
  unfold clsIn at hc
  split at hc
  · rename_i c' d' cd' sl' ho
    exact ⟨_, _, _, _, ho⟩
  · cases hc
theorem kit_exc (C : L2.ExcC K D) : KitX K (.ref x) (.ref D) (fun h => InstAt h x ox D od) where
  ty := fun _ _ _ I => I.type
  it := fun _ _ X _ => by
    obtain ⟨oc, dd, cd, sl, ho⟩ := is_class C.hd
    intro A' Q' E' s' k q
    unfold isType loadHead
    exact wpAny_bind (wpAny_loadPart (k _ _ (X _ _ ho)) (wpAny_pure q))
  ne := fun h tp dd its n sl X htp => Bool.eq_false_iff.mpr fun q => by
    obtain ⟨oc, d2, cd, sl2, ho⟩ := is_class C.hd
    have e : D = tp := Value.ref.inj (beq_iff_eq.mp q)
    subst e
    have z := (X _ _ ho).symm.trans htp
    cases z
  ca := fun X I k => exc_class C X I k
end
section
open PySem PySem.Spec PyProof.Rows L2
/-- at a stands an exception of the class at C, not raised: without a dict | with its dict at d -/
def XAt (H : Hp) (a C : Addr) : Prop := H a = some (ExO (.ref C) a) ∨ ∃ (d : Addr) (fs : List (Str × V)), H a = some (exo a C (some d)) ∧ H d = some (exd d fs)
variable {X : Cx}
theorem XAt.inst {pins : List (Addr × Obj)} {σ : L2.St} {H : Hp} {s : Shared} {a C : Addr} (I : Inv X pins σ H s) (h : XAt H a C) : ∃ ox od, PySem.W.InstAt s.heap a ox C od := by
  rcases h with h | ⟨d, fs, h1, h2⟩
  · obtain ⟨⟨oe, vs, e, z, dt, _⟩, _⟩ := I.hok a _ h
    refine ⟨oe, none, e, z.1, ?_, ?_⟩
    · unfold PySem.W.notCls
      rw [dt] <;> rfl
    · rw [z.2]
      trivial
  · obtain ⟨t1, e⟩ := exo_at I.hok h1
    obtain ⟨mA, hn, _⟩ := exd_at I.hok h2
    obtain ⟨od, ho, _⟩ := lookIn_ns hn
    exact ⟨_, some od, e, rfl, rfl, ho⟩
/-- isinstance(e, c), e an exception held as a value -/
def rIsX (K : PySem.W.Frag) : List V → Hp → VK → Prop := fun xs H Q => ∃ (a D : Addr) (c : V) (cv : Value) (b : Bool), xs = [.ref a, c] ∧ ClsV c cv ∧ XAt H a D ∧ ExcC K D ∧ PySem.W.kitOne K (.ref D) cv = some b ∧ Q (.bl b) H
theorem call_isX : CallR X (.builtin "isinstance") (rIsX X.K) := by
  intro pins s σ H xs us Q I r h
  obtain ⟨a, D, c, cv, b, rfl, k, hx, hC, e, q⟩ := h
  obtain ⟨u1, u2, rfl, r1, r2⟩ := vals2 r
  have e2 := k.eq r2
  subst e2
  obtain rfl : u1 = Value.ref a := r1
  obtain ⟨ox, od, J⟩ := hx.inst I
  exact PySem.W.kia_one (kit_exc hC) I.kIn J e (fun z => nomatch z) fun tk => ⟨.bl b, H, I.kept (t' := tk) fun _ _ z => z, rfl, q⟩
/-- e.f, e an exception held as a value -/
def tXfld (K : PySem.W.Frag) (te : TE) (f : Str) : TE := fun σ H Q => te σ H fun x H1 => ∃ (a C d : Addr) (fs : List (Str × V)) (v : V), x = .ref a ∧ H1 a = some (exo a C (some d)) ∧ H1 d = some (exd d fs) ∧ XfC K C ∧
  PySem.W.findIn K (.ref C) f = some none ∧ fs.lookup f = some v ∧ Q v H1
theorem pe_xfld {e : Expr} {te : TE} {f : Str} {pos : Pos} (he : PE X e te) (hb : attributeBase e f X.env (eval e X.env) = eval e X.env := by rfl) : PE X (.Attribute e f pos) (tXfld X.K te f) := by
  refine ⟨fun pins s σ H Q I h => ?_⟩
  refine attr_of hb (thn (he.run pins s σ H _ I h) fun u s1 hh => ?_)
  obtain ⟨x, H1, I1, rx, a, C, d, fs, v, ex, h1, h2, T, hno, hl, q⟩ := hh
  subst ex
  obtain rfl : u = Value.ref a := rx
  obtain ⟨t1, ha⟩ := exo_at I1.hok h1
  obtain ⟨mA, hns, hr⟩ := exd_at I1.hok h2
  obtain ⟨od, ho, hlk⟩ := lookIn_ns hns
  obtain ⟨u, hu, ru⟩ := RelO.some_of (v := v) (o := mA f) (by rw [← hl]; exact hr f)
  have J : PySem.W.InstAt s1.heap a _ C (some od) := ⟨ha, rfl, rfl, ho⟩
  exact HandSPX.exc_get I1.kIn J T.ga T.gg T.exC (PySem.W.findObj_own T.hdC hno rfl (by rw [hlk, hu])) (handed_of ru) ⟨v, H1, I1.tok _, ru, q⟩
end
end SA

set_option Elab.async false
set_option linter.all false
set_option maxRecDepth 100000
set_option maxHeartbeats 4000000
namespace SA
open PySem PySem.Spec PyProof.Rows L2
/-! ### data of any depth, dicts too, and its repr -/
def keyD : Key → PyData
  | .inl i => .int i
  | .inr x => .str x
mutual
inductive Dx (K : PySem.W.Frag) (H : Hp) : V → PyData → Prop
  | non : Dx K H .non .none
  | bl (b : Bool) : Dx K H (.bl b) (.bool b)
  | int (i : Int) : Dx K H (.int i) (.int i)
  | str (x : Str) : Dx K H (.str x) (.str x)
  | lst {a : Addr} {xs : List V} {ds : List PyData} : SqL K H a xs → DxAll K H xs ds → Dx K H (.ref a) (.list ds)
  | tup {a : Addr} {xs : List V} {ds : List PyData} : SqT K H a xs → DxAll K H xs ds → Dx K H (.ref a) (.tuple ds)
  | dct {a : Addr} {kvs : List (Key × V)} {ds : List (PyData × PyData)} : H a = some (.dK kvs) → kvs.map (fun p => keyD p.1) = ds.map (·.1) → DxAll K H (kvs.map (·.2)) (ds.map (·.2)) → Dx K H (.ref a) (.dict ds)
inductive DxAll (K : PySem.W.Frag) (H : Hp) : List V → List PyData → Prop
  | nil : DxAll K H [] []
  | cons {v : V} {vs : List V} {d : PyData} {ds : List PyData} : Dx K H v d → DxAll K H vs ds → DxAll K H (v :: vs) (d :: ds)
end
/-- the written part knows sys.modules, a dict -/
def SysK (K : PySem.W.Frag) : Prop := ∃ o, K.lookup sysModules = some o ∧ o.cls = .type "dict"
section
variable {X : Cx} {pins : List (Addr × Obj)} {σ : L2.St} {H : Hp} {s : Shared}
theorem SysK.trk (S : SysK X.K) (I : Inv X pins σ H s) {a : Addr} {o : HO} (h : H a = some o) : sysModules ≠ a := fun e => by
  obtain ⟨ob, h1, _⟩ := S
  obtain ⟨_, z⟩ := I.bs sysModules ob (I.mod.kin _ _ h1)
  rw [e, h] at z
  cases z
theorem SysK.seqL (S : SysK X.K) (I : Inv X pins σ H s) {a : Addr} {xs : List V} (h : SqL X.K H a xs) : sysModules ≠ a := by
  rcases h with (h | ⟨o, h⟩) | ⟨o, its, n, h, hc, _⟩
  · exact S.trk I h
  · exact S.trk I h
  · intro e
    obtain ⟨ob, h1, h2⟩ := S
    rw [e, h] at h1
    cases h1
    rw [hc] at h2
    exact absurd (Value.type.inj h2) (by decide)
theorem pairs_keys {P : Program} {w : World} : ∀ {es : List DictEntry} {vs : List (Key × Value)}, Pairs (mixKind P w) es vs → ∃ as, ReadsAll s.heap (es.map (·.key)) (vs.map fun p => keyD p.1) as ∧ as = []
  | _, _, .nil => ⟨[], .nil, rfl⟩
  | _, _, .cons (e := e) (kv := kv) h1 h2 t => by
    obtain ⟨as, r, rfl⟩ := pairs_keys t
    have hk : Reads s.heap e.key (keyD kv.1) [] := by
      rcases keyIs_shape (k := kv.1) (v := e.key) h1 with ⟨i, t, e1, e2⟩ | ⟨x, t, e1, e2⟩
      · rw [e1, e2]
        exact .int i t
      · rw [e1, e2]
        exact .str x t
    exact ⟨[] ++ [], .cons hk r, rfl⟩
theorem pairs_vals {P : Program} {w : World} : ∀ {es : List DictEntry} {vs : List (Key × Value)}, Pairs (mixKind P w) es vs → es.map (·.val) = vs.map (·.2)
  | _, _, .nil => rfl
  | _, _, .cons h1 h2 t => by
    rw [List.map_cons, List.map_cons, pairs_vals t, h2]
theorem kv_keys : ∀ {kvs : List (Key × V)} {vs : List (Key × Value)}, KV kvs vs → kvs.map (fun p => keyD p.1) = vs.map (fun p => keyD p.1) ∧ Vals (kvs.map (·.2)) (vs.map (·.2))
  | _, _, .nil => ⟨rfl, .nil⟩
  | _, _, .cons r t => by
    obtain ⟨h1, h2⟩ := kv_keys t
    obtain ⟨q1, q2⟩ := r
    exact ⟨by rw [List.map_cons, List.map_cons, h1, q1], .cons q2 h2⟩
mutual
theorem Dx.reads (S : SysK X.K) (I : Inv X pins σ H s) : ∀ {d : PyData} {v : V} {u : Value}, Dx X.K H v d → RelV v u → ∃ as, Reads s.heap u d as ∧ sysModules ∉ as
  | _, _, u, .non, r => ⟨[], by obtain rfl : u = Value.none := r; exact .none, by simp⟩
  | _, _, u, .bl b, r => ⟨[], by obtain rfl : u = Value.bool b := r; exact .bool b, by simp⟩
  | _, _, u, .int i, r => by
    obtain ⟨t, rfl⟩ := r
    exact ⟨[], .int i t, by simp⟩
  | _, _, u, .str x, r => by
    obtain ⟨t, rfl⟩ := r
    exact ⟨[], .str x t, by simp⟩
  | _, _, u, .lst (a := a) hs ha, r => by
    obtain rfl : u = Value.ref a := r
    obtain ⟨its, rv, ⟨o, n, ho, hc, _, hd⟩, _⟩ := I.list hs
    obtain ⟨as, hr, hn⟩ := DxAll.reads S I ha rv
    exact ⟨_, .list ho hc hd hr, fun m => (List.mem_cons.mp m).elim (S.seqL I hs) hn⟩
  | _, _, u, .tup (a := a) hs ha, r => by
    obtain rfl : u = Value.ref a := r
    obtain ⟨its, rv, ⟨o, ho, hc, n, hd⟩, _⟩ := I.tuple hs
    obtain ⟨as, hr, hn⟩ := DxAll.reads S I ha rv
    exact ⟨_, .tuple ho hc hd hr, hn⟩
  | _, _, u, .dct (a := a) (kvs := kvs) (ds := ds) h1 hk ha, r => by
    obtain rfl : u = Value.ref a := r
    obtain ⟨_, hsm, vs, kv, o, es, ep, ho, hx, hd, _, hp, _⟩ := (show ObjOk X.prog X.w H s.heap a (.dK kvs) from I.hok a _ h1)
    obtain ⟨e1, e2⟩ := kv_keys kv
    obtain ⟨bs, hr, hn⟩ := DxAll.reads S I ha e2
    obtain ⟨as, hr2, rfl⟩ := pairs_keys (s := s) hp
    refine ⟨a :: [] ++ bs, .dict ho hx.1 hd (by rw [← hk, e1]; exact hr2) (by rw [pairs_vals hp]; exact hr), fun m => ?_⟩
    have m2 : sysModules ∈ a :: bs := m
    exact (List.mem_cons.mp m2).elim (S.trk I h1) hn
theorem DxAll.reads (S : SysK X.K) (I : Inv X pins σ H s) : ∀ {ds : List PyData} {vs : List V} {us : List Value}, DxAll X.K H vs ds → Vals vs us → ∃ as, ReadsAll s.heap us ds as ∧ sysModules ∉ as
  | _, _, _, .nil, .nil => ⟨[], .nil, by simp⟩
  | _, _, _, .cons h1 h2, .cons r1 r2 => by
    obtain ⟨as, q1, n1⟩ := Dx.reads S I h1 r1
    obtain ⟨bs, q2, n2⟩ := DxAll.reads S I h2 r2
    exact ⟨_, .cons q1 q2, fun m => (List.mem_append.mp m).elim n1 n2⟩
end
end
/-- repr of a list, a tuple, a dict -/
def rRepr (K : PySem.W.Frag) : List V → Hp → VK → Prop := fun xs H Q => ∃ (a : Addr) (d : PyData), xs = [.ref a] ∧ Dx K H (.ref a) d ∧ d.showable = true ∧ d.shown.length ≤ sizeLine ∧ d.depth ≤ 60 ∧ Q (.str d.shown) H
theorem call_repr {X : Cx} (S : SysK X.K) (hg : X.A.guards = some []) (hu : X.A.units + 64 < cLine) : CallR X (.builtin "repr") (rRepr X.K) := by
  intro pins s σ H xs us Q I r h
  obtain ⟨a, d, rfl, hd, hs, hz, hp, q⟩ := h
  obtain ⟨u, rfl, ru⟩ := vals1 r
  obtain rfl : u = Value.ref a := ru
  obtain ⟨as, hr, hn⟩ := Dx.reads S I hd (u := .ref a) rfl
  exact repr_of_reads' hr hs (fun _ => hn) hg (by omega) (fun _ _ e => e) (fun h' u tk hk => ⟨.str d.shown, H, I.kept (t' := tk) hk, ⟨u, rfl⟩, q⟩) hz
/-! ### X(e, ..) by its own __init__, as a value -/
def tOex (C : Addr) (sp : Sp) (dvs : List V) (ta : TA) : TE := fun σ H Q => ta σ H fun vs H1 => vs.length ≤ 1000 ∧ ∀ a, H1 a = none → sp (.ref a :: (vs ++ dvs)) (upd H1 a (exo a C none)) (fun v H2 => v = .non ∧ Q (.ref a) H2) (fun _ _ _ => False)
theorem pe_oex {X : Cx} {CX : CXT} {x : Str} {C fI : Addr} {k : Nat} {fd : FuncData} {ps : List Str} {sp : Sp} {ds : List Value} {dvs : List V} {e : Expr} {es : List Expr} {ta : TA} {p pos : Pos}
    (T : OexC X.K C) (iC : PySem.W.findIn X.K (.ref C) "__init__" = some (some (.ref fI))) (tI : PySem.W.typeIn X.K (.ref fI) = some (.type "function"))
    (F1 : FnOk X.prog X.w X.K X.mg X.base CX k fI fd ps sp) (hr : Room (k + 1) X.A) (hb : L2.Binds X.K fd ps ds) (hd : Vals dvs ds) (hx : Passes CX X (fun _ _ _ => False)) (hg : Gl X x) (hm : X.mg x = some (.ref C)) (ha : PA X (e :: es) ta)
    (hdb : (x == ("__debug__" : Str)) = false := by decide) (he : starEach (e :: es) X.env = (false, eval e X.env) :: starEach es X.env := by rfl) (hpl : (backTo pos (starEach es X.env)).any (·.1) = false := by rfl) :
    PE X (.Call (.Name x p) (e :: es) [] pos) (tOex C sp dvs ta) := by
  refine ⟨fun pins s σ H Q I h => ?_⟩
  obtain ⟨nm, q, N, bs, bm, sn, sub, ab, col, dd, k0, k1, k2, k3, k5, hC, hbm⟩ := T.cls
  refine wpAny_Call_Name_kw (ld_glob I hg hm ?_ hdb)
  refine PySem.W.callWith_K (h₀ := X.base) I.ok.mod.kin T.kC (thn (ha.run pos pins s σ H _ I h) fun us s1 ⟨vs, H1, I1, r1, hz, q1⟩ => ⟨I1.kIn, ?_⟩) he hpl
  show wpAny _ _ (call (.ref C) us) _ _ _
  obtain ⟨hp, g, dr, tk, os⟩ := s1
  have hsz : hp.objs.size ≤ hp.objs.size + 1 := Nat.le_succ _
  have hn : H1 (hp.objs.size + 1) = none := I1.hok.fresh hsz
  have hq := q1 (hp.objs.size + 1) hn
  have hget : ((hp.push (PySem.W.kdv_tup us)).push (PySem.HandSPX.excO C hp.objs.size)).get? (hp.objs.size + 1) = some (PySem.HandSPX.excO C hp.objs.size) := by heap_get
  have I2 : Inv X pins σ (upd H1 (hp.objs.size + 1) (exo (hp.objs.size + 1) C none)) ⟨(hp.push (PySem.W.kdv_tup us)).push (PySem.HandSPX.excO C hp.objs.size), g, dr, tk, os⟩ :=
    I1.laid (t' := tk) (fun b o z => Heap.get?_push_of_some _ (Heap.get?_push_of_some _ z)) hsz (exo_ok hget)
  have r2 : Vals (V.ref (hp.objs.size + 1) :: (vs ++ dvs)) (Value.ref (hp.objs.size + 1) :: (us ++ ds)) := .cons rfl (r1.append hd)
  have hl : (Value.ref (hp.objs.size + 1) :: us ++ ds).length = ps.length := r2.length.symm.trans (F1.len _ _ _ _ hq)
  have hus : us.length ≤ sizeLine := by
    have z := Paired.length r1
    rw [sizeLine_eq]
    omega
  refine wpAny_call (PySem.HandSPX.call_own F.excBase_ValueError (fun Y => PySem.HandSPX.refsVE_contains Y bm hbm) (I1.kIn _ _ hC) (PySem.W.looks_findIn I1.kIn iC) (fun self => PySem.W.bind_fn I1.kIn self tI) hus
    (codeAny_mono (F1.run _ X.stack _ _ ⟨Value.ref (hp.objs.size + 1) :: us, []⟩ (Value.ref (hp.objs.size + 1) :: (us ++ ds)) _ _ (fun _ _ _ => False) (hr.make C us []) (I2.env0.make C us []) (hb _ (Value.ref (hp.objs.size + 1) :: us) I2.kIn hl) r2 hq) fun r s' hq' => ?_))
  cases r with
  | error er => exact hx pins σ _ _ er s' I2 hq'
  | ok fl =>
    cases fl with
    | ret u =>
      obtain ⟨v, H2, J, rv, ev, q2⟩ := I2.after hq'
      subst ev
      exact ⟨rv, .ref (hp.objs.size + 1), H2, J, rfl, q2⟩
    | next => exact False.elim hq'
    | brk => exact False.elim hq'
    | cont => exact False.elim hq'
end SA

set_option Elab.async false
set_option linter.all false
set_option maxRecDepth 100000
set_option maxHeartbeats 4000000
namespace SA
open PySem PySem.Spec PyProof.Rows L2
/-! ### the law's def, entered where no repr is under way -/
/-- what the law's def does when the claim's caller calls it -/
def LawRun (P : Program) (w : World) (K : PySem.W.Frag) (mg : Str → Option Value) (base : Heap) (fa : Addr) (n : Nat) : Prop :=
  ∀ (s : Shared) (H : Hp) (a : Addr) (ns : List Int), Env0 P w K mg base callerA [] s H → SqL K H a (ns.map V.int) → ns.length ≤ n →
    codeAny (model P w) callerA (.call (.ref fa) ⟨[.ref a], []⟩) (CR CX0 [] P w H s (fun v _ => v = .bl true) E0) s
section
variable {P : Program} {w : World} {K : PySem.W.Frag} {mg mb : Str → Option Value} {fa a : Addr} {s : Shared} {vs : List Value} {ns : List Int} {n : Nat}
abbrev Done (s : Shared) : Result → Shared → Prop := fun r s' => r = .ok (.ret (.bool true)) ∧ OldK s.heap s'.heap ∧ s'.os = s.os ∧ AllBare s'.gens
/-- from an abstract heap in which at most the script is tracked -/
theorem law_from (KX : K.In s.heap) (hns : s.heap.Ns mainGlobals mg) (hb : s.heap.Ns builtinsNs mb) (hbb : ∀ x : Str, x ≠ "__name__" → mb x = bootBuiltins x) (hlim : s.heap.NoLimit) (hg : s.gens = #[])
    (ha : s.heap.get? a = some { cls := .type "list", data := .seq vs.toArray }) (hn : ns.length ≤ n) (F : ∀ base : Heap, K.In base → base.Ns mainGlobals mg → LawRun P w K mg base fa n)
    (H : Hp) (hO : Only H) (hS : SqL K H a (ns.map V.int)) (hok : HOk P w H s.heap) (hA : ∀ b, H b ≠ none → b = a) (hK : H a ≠ none → K.lookup a = none) : codeAny (model P w) callerA (.call (.ref fa) ⟨[.ref a], []⟩) (Done s) s := by
  have only : ∀ {b : Addr}, b ≠ a → H b = none := fun {b} nb => by
    cases q : H b with
    | none => rfl
    | some u => exact absurd (hA b (by rw [q]; simp)) nb
  have nsd : ∀ {b : Addr} {m : Str → Option Value}, s.heap.Ns b m → (hidT s.heap H).Ns b m := fun {b m} z => by
    obtain ⟨o, es, ep, e, d, r⟩ := z
    refine ⟨o, es, ep, hidT_get e (only fun eb => ?_), d, r⟩
    rw [eb, ha] at e
    cases e
    cases d
  have kin : K.In (hidT s.heap H) := fun b o e => hidT_get (KX b o e) (by
    by_cases eb : b = a
    · cases q : H b with
      | none => rfl
      | some u =>
        have z := hK (by rw [← eb, q]; simp)
        rw [← eb, e] at z
        cases z
    · exact only eb)
  have env : Env0 P w K mg (hidT s.heap H) callerA [] s H :=
    ⟨rfl, ⟨kin, nsd hns, ⟨mb, nsd hb, hbb⟩, let ⟨mc, h1, h2⟩ := hlim; ⟨mc, nsd h1, h2⟩⟩, fun b o e => of_hidT e, Nat.le_of_eq (hidT_size _ _), trivial, fun b z => absurd (show b ∈ ([] : List Addr) from z) (by simp), hok, .of_eq hg⟩
  refine codeAny_mono (F _ kin (nsd hns) s H a ns env hS hn) fun r s' h => ?_
  match r, h with
  | .error _, h => exact False.elim h
  | .ok .next, h => exact False.elim h
  | .ok .brk, h => exact False.elim h
  | .ok .cont, h => exact False.elim h
  | .ok (.ret u), ⟨v, H', os, bare, un, hok', rv, q⟩ =>
    have ev : v = .bl true := q
    subst ev
    obtain rfl : u = Value.bool true := rv
    refine ⟨rfl, OldK.of_keep fun b o e => ?_, os, bare⟩
    rcases hO b with z | ⟨ob, xs, z⟩
    · exact un.keep b o e z (fun y => absurd (show b ∈ ([] : List Addr) from y) (by simp)) (by simp)
    · obtain ⟨e1, _⟩ := hok b _ z
      obtain ⟨e2, _⟩ := hok' b _ (un.frzs b ob _ z)
      rw [e] at e1
      cases e1
      exact e2
theorem law_callG (KX : K.In s.heap) (hns : s.heap.Ns mainGlobals mg) (hb : s.heap.Ns builtinsNs mb) (hbb : ∀ x : Str, x ≠ "__name__" → mb x = bootBuiltins x) (hlim : s.heap.NoLimit) (hg : s.gens = #[])
    (ha : s.heap.get? a = some { cls := .type "list", data := .seq vs.toArray }) (hi : IntsAre vs ns) (hl : ns.length ≤ sizeLine) (hn : ns.length ≤ n) (F : ∀ base : Heap, K.In base → base.Ns mainGlobals mg → LawRun P w K mg base fa n) :
    codeAny (model P w) callerA (.call (.ref fa) ⟨[.ref a], []⟩) (Done s) s := by
  have rv := vals_ints hi
  cases hk : K.lookup a with
  | some o =>
    have e := KX a o hk
    rw [ha] at e
    cases e
    exact law_from KX hns hb hbb hlim hg ha hn F (fun _ => none) (fun _ => .inl rfl) (.inr ⟨_, vs.toArray, _, hk, rfl, rfl, rfl, by rw [List.size_toArray, hi.length]; exact hl, by simpa using rv⟩)
      (fun b u z => absurd (show (none : Option HO) = some u from z) (by simp)) (fun b z => absurd rfl z) fun z => absurd rfl z
  | none =>
    have at_ : ∀ b, (fun b => if b = a then some (HO.frz { cls := .type "list", data := .seq vs.toArray } (.lst (ns.map V.int))) else none : Hp) b ≠ none → b = a := fun b z => by
      by_cases hb : b = a
      · exact hb
      · exact absurd (if_neg hb) z
    refine law_from KX hns hb hbb hlim hg ha hn F (fun b => if b = a then some (.frz { cls := .type "list", data := .seq vs.toArray } (.lst (ns.map V.int))) else none) (fun b => ?_) (.inl (.inr ⟨_, if_pos rfl⟩)) (fun b u z => ?_) at_ fun _ => hk
    · by_cases hb : b = a
      · exact .inr ⟨_, _, if_pos hb⟩
      · exact .inl (if_neg hb)
    · have eb := at_ b (by rw [z]; simp)
      subst eb
      have z2 := (if_pos rfl).symm.trans z
      cases z2
      exact ⟨ha, by rw [List.length_map]; exact hl, vs, _, rv, ha⟩
end
/-- the goal that the head leaves, from what the law's def does -/
theorem walk_G {l : PySem.W.OpenLaw} {n : Nat} {q : Program} {loose : List Str} {XP : (Str → Option Value) → Heap → Prop} {YP : World → Heap → Prop} {d : DefRec} (hn : l.most = some n) (hn2 : n ≤ sizeLine) (hdf : d.params.defaults = [])
    (F : ∀ (w : World) (mg : Str → Option Value) (fa : Addr) (h : Heap), YP w h → h.Ns mainGlobals mg → mg d.name = some (.ref fa) →
      ∃ K : PySem.W.Frag, K.In h ∧ ∀ base : Heap, K.In base → base.Ns mainGlobals mg → LawRun l.prog w K mg base fa n) :
    PySem.W.WalkO q loose XP YP l.row.toRowW d [] (fun f vs => PySem.call f vs) := by
  refine Att.attach_call hn hdf fun w s₀ s₁ mg mb fa o pm cd doc a vs ns G Y ho hd hcd hmg hobj hints hlen hg => ?_
  obtain ⟨K, KX, hF⟩ := F w mg fa _ Y G.T.g hmg
  exact law_callG KX G.T.g G.T.b G.T.builtins G.T.nolimit hg hobj hints (Nat.le_trans hlen hn2) hlen hF
/-- LawRun from the body of the law's def -/
theorem law_run {P : Program} {w : World} {K : PySem.W.Frag} {mg : Str → Option Value} {base : Heap} {fa : Addr} {fd : FuncData} {st : Stmt} {N : List Str} {x : Str} {n k : Nat} (F : Fun K "law" "law" st fa fd) (S : FnScope N [x] (defScope st))
    (hb : ∀ (s : Shared) (u : Value), BindsTo s fd ⟨[u], []⟩ [(x, u)]) (hr : Room (k + 1) callerA)
    (body : ∀ (cdv : Value) (s : Shared) (H : Hp) (a : Addr) (ns : List Int), Room k (callerA.deeper (envOfC "law" (defScope st) s.heap.objs.size fa cdv)) → SqL K H a (ns.map V.int) → ns.length ≤ n →
      ∃ t, PSs (cxOf CX0 P w K mg base N "law" (defScope st) fa cdv callerA [] s H E0).nox (defBody st) t ∧ t { nx := fun _ _ => V.non = V.bl true, rt := fun v _ => v = .bl true } (start N [.ref a]) H) :
    LawRun P w K mg base fa n := by
  intro s H a ns env hS hn
  obtain ⟨oc, od, kV, doc, pm, an, cdv, ct, osl, rfl, lk, hcd⟩ := F.ex
  refine LamX.run_ofS (k := k) (N := N) (ps := [x]) (us := [.ref a]) (vs := [.ref a]) (Q := fun v _ => v = .bl true) (E := E0) lk hcd S hr env (hb s (.ref a)) (.cons rfl .nil) rfl fun hr' => ?_
  obtain ⟨t, h1, h2⟩ := body cdv s H a ns hr' hS hn
  exact ⟨t, h1.nox, h2⟩
theorem FunD.toFun {K : PySem.W.Frag} {x qual : Str} {st : Stmt} {f : Addr} {fd : FuncData} (F : FunD K x qual (defArgs st) (defBody st) (defScope st) [] [] f fd) : Fun K x qual st f fd := by
  obtain ⟨⟨oc, od, dV, kV, doc, pm, an, cdv, ct, osl, e, l, c, hD, hK⟩, kp⟩ := F
  rcases hD with ⟨_, rfl⟩ | ⟨z, _⟩
  · exact ⟨⟨oc, od, kV, doc, pm, an, cdv, ct, osl, e, l, c⟩, kp⟩
  · exact absurd rfl z
end SA

set_option Elab.async false
set_option linter.all false
set_option maxRecDepth 100000
set_option maxHeartbeats 4000000
/-! ### a caught exception that outlives its except suite -/
namespace SA
open PySem PySem.Spec PyProof.Rows L2
/-- at a stands an exception of the class cls, its dict at d, that was caught -/
def HX (cls : Value) (d : Option Addr) (a : Addr) : HO := .ext fun h => ∃ (oe : Obj) (vs : Array Value), h.get? a = some oe ∧ Zc cls d oe ∧ oe.data = .fields vs
theorem hx_ok {P : Program} {w : World} {H : Hp} {h : Heap} {a : Addr} {cls : Value} {d : Option Addr} {oe : Obj} {vs : Array Value} (e : h.get? a = some oe) (z : Zc cls d oe) (q : oe.data = .fields vs) : ObjOk P w H h a (HX cls d a) :=
  ⟨⟨oe, vs, e, z, q⟩, ⟨oe, e⟩, fun _ _ ⟨o, v, q, r⟩ k => ⟨o, v, k o q, r⟩⟩
section
variable {X : Cx} {pins : List (Addr × Obj)} {σ : L2.St} {H : Hp} {s : Shared}
theorem Inv.track {a : Addr} {o : HO} (I : Inv X pins σ H s) (hn : H a = none) (h0 : X.s_0.heap.get? a = none) (nL : a ≠ X.env.locals) (nC : ∀ x c, X.env.cells.lookup x = some c → c ≠ a) (nP : ∀ p ∈ X.pn ++ pins, p.1 ≠ a) (new : ObjOk X.prog X.w (upd H a o) s.heap a o) :
    Inv X pins σ (upd H a o) s := by
  have up : ∀ {b : Addr} {u : HO}, H b = some u → upd H a o b = some u := fun {b u} e => by
    rw [upd_ne (ne_of_none e hn)]
    exact e
  refine ⟨I.ok, I.os, I.bare, ⟨I.base.keep, I.base.slot, fun b u e n hx => ?_, I.base.there, fun b xs e => up (I.base.tups b xs e), fun b u v e => up (I.base.frzs b u v e), fun b ps e => ?_⟩, I.loc, I.cell, ?_, fun x c e => ?_, fun p hp => ?_, ?_, I.len⟩
  · rw [upd_ne (fun z => by rw [z, h0] at e; cases e)]
    exact I.base.free b u e n hx
  · obtain ⟨more, q⟩ := I.base.tbls b ps e
    exact ⟨more, up q⟩
  · rw [upd_ne nL.symm]
    exact I.free
  · rw [upd_ne (nC x c e)]
    exact I.freeC x c e
  · obtain ⟨e, n, q⟩ := I.pin p hp
    refine ⟨e, ?_, q⟩
    rw [upd_ne (nP p hp)]
    exact n
  · exact I.hok.laidN (fun _ _ e => e) hn new
/-- an object of fields is no frame -/
theorem fields_noframe {B h : Heap} {l : List Env} {a : Addr} {o : Obj} {vs : Array Value} (ff : h.FunFrames B l) (e : h.get? a = some o) (d : o.data = .fields vs) : a ∉ frs l := fun m => by
  obtain ⟨_, o2, e2, z⟩ := ff.mem m
  cases e.symm.trans e2
  exact z _ d
/-- an exception that came up within is new to the def: no frame, no pin, nothing that stood at the entry -/
structure NewX (X : Cx) (pins : List (Addr × Obj)) (a : Addr) : Prop where
  nloc : a ≠ X.env.locals
  nfs : a ∉ X.fs
  old : X.s_0.heap.get? a = none
  npin : ∀ p ∈ X.pn ++ pins, p.1 ≠ a
theorem newX {B h : Heap} {a : Addr} {o : Obj} {vs : Array Value} {sI : Shared} (hs : X.stack = X.env :: X.outer) (hf : X.env.frame = some X.env.locals) (hex : X.ex = []) (J : Inv X pins σ H sI)
    (nb : ∀ b u, sI.heap.get? b = some u → b ∉ frs X.stack → B.get? b = some u) (hB : B.get? a = none) (ff : h.FunFrames B (X.env :: X.outer)) (e : h.get? a = some o) (d : o.data = .fields vs) : NewX X pins a := by
  have nf := fields_noframe ff e d
  have gone : ∀ u, sI.heap.get? a ≠ some u := fun u q => by
    have z := nb a u q (hs ▸ nf)
    rw [hB] at z
    cases z
  refine ⟨fun z => nf (List.mem_filterMap.mpr ⟨X.env, List.mem_cons_self, z ▸ hf⟩), fun m => ?_, ?_, fun p hp z => gone _ (z ▸ (J.pin p hp).1)⟩
  · obtain ⟨v, hv, q⟩ := List.mem_filterMap.mp m
    exact nf (List.mem_filterMap.mpr ⟨v, List.mem_cons_of_mem _ hv, q⟩)
  · match q : X.s_0.heap.get? a with
    | none => rfl
    | some u =>
      obtain ⟨u', q'⟩ := J.base.there a u q (hex ▸ List.not_mem_nil)
      exact (gone u' q').elim
/-- what the clause 'except x as n' wishes whose suite keeps the exception: behind the suite it stands at a, told by HX -/
def wHold (K : PySem.W.Frag) (c : Value) (m i : Nat) (ts : Addr → Value → Option Addr → TS) (Wout : WX) (D : Ends) : WX := fun cls d σ H =>
  ∃ b, PySem.W.exmOne K cls c = some b ∧ (b = false → Wout cls d σ H) ∧
    (b = true → σ.length = m → ∀ a, H a = none → ts a cls d { nx := fun σ1 H1 => D.nx (σ1.set i none) (upd H1 a (HX cls d a)), rt := fun _ _ => False, bk := fun _ _ => False, ct := fun _ _ => False } (σ.set i (some (.ref a))) H)
end
section
variable {X : Cx} {x n : Str} {c : Value} {i : Nat} {body suite : List Stmt} {b₀ : Stmt} {np p1 p2 : Pos} {tb : WX → TS} {ts : Addr → Value → Option Addr → TS} {Wout : WX}
/-- try: body / except x as n: suite, the suite neither returning nor leaving a loop: the exception may be kept under another name -/
theorem ps_try_hold (hs : X.stack = X.env :: X.outer) (hf : X.env.frame = some X.env.locals) (hex : X.ex = []) (hN : X.N.Nodup) (hi : X.N[i]? = some n) (hln : X.env.kindOf n = some .local) (hc : Names X x c) (tk : Takes X Wout)
    (hb : ∀ (W : WX) (pn : List (Addr × Obj)) (xe : Value → Shared → Prop), Takes (X.tr pn xe) W → PassesOwn (model X.prog X.w) X.A X.env xe → PSs (X.tr pn xe) body (tb W))
    (hsu : ∀ (a : Addr) (oe : Obj) (cls : Value) (d : Option Addr) (pn : List (Addr × Obj)), Zc cls d oe → (∃ vs, oe.data = .fields vs) → PSs (X.suite a ((a, oe) :: pn)) (b₀ :: suite) (ts a cls d)) :
    PS X (.Try body [.ExceptHandler (some (.Name x np)) (some n) (b₀ :: suite) p1] [] [] p2) (fun D σ H => tb (wHold X.K c X.N.length i ts Wout D) D σ H) := ⟨fun pins s σ H D I hw => by
  have ok := I.ok
  have fr : X.A.frames = some (X.env :: X.outer) := hs ▸ ok.frames
  -- what is done with an exception that the body lets out
  let caught : Value → Shared → Prop := fun e t1 => wpAny (model X.prog X.w) X.A (noteFrame e X.env) (fun _ t2 => wpAny (model X.prog X.w) X.A (setFlight e none) (fun _ t3 => wpAny (model X.prog X.w) X.A (handleBy e X.env [.ExceptHandler (some (.Name x np)) (some n) (b₀ :: suite) p1]) (SP X pins D) X.xe t3) X.xe t2) X.xe t1
  have takes : Takes (X.tr (X.pn ++ pins) caught) (wHold X.K c X.N.length i ts Wout D) := fun u t ⟨a, B, sI, _, σ1, H1, cls, d, eu, I1, nb, up, sky, na, os, ag, b, hcls, hno, hyes⟩ => by
    subst eu
    have J : Inv X pins σ1 H1 sI := I1.ofTry ok
    refine Sky.land Zc.steady fr hf (show Sky B (X.env :: X.outer) a (Zc cls d) X.env.locals t.heap from hs ▸ sky) fun h3 fl3 up3 => ?_
    obtain ⟨o3, v3, g3, z3, d3⟩ := fl3.there
    have nx := newX hs hf hex J nb fl3.2.1 fl3.2.2.1 g3 d3
    have J3 : Inv X pins σ1 H1 { t with heap := h3 } := J.landed nb fl3.1 (up.trans up3) os ag
    have T3 := J3.suite g3 d3 na nx.nloc nx.nfs
    have cl : PySem.W.Looks (model X.prog X.w) h3 (typeOf (.ref a)) cls := fun _ _ _ t' k q => wpAny_typeOf_ref (k _ _ g3) (z3.1.symm ▸ q)
    refine wpAny_handleBy_cons (codeAny_handlers_test ?_) (fun q => nomatch q)
    have named : ∀ {Q E : Value → Shared → Prop}, Q c { t with heap := h3 } → wpAny (model X.prog X.w) (X.A.mark (some (.ref a))) (eval (.Name x np) X.env) Q E { t with heap := h3 } := fun q => by
      obtain ⟨hg, hdb, hm⟩ := hc
      rcases hm with hm | ⟨hm, hv, hnn⟩
      · exact ld_glob (X := X.suite a ((a, o3) :: (X.pn ++ pins))) T3 hg hm q hdb
      · exact ld_blt (X := X.suite a ((a, o3) :: (X.pn ++ pins))) T3 hg hm hv q hnn hdb
    refine named ((PySem.W.exm_one (M := model X.prog X.w) J3.kIn cl hcls).here ?_)
    match b, hno, hyes with
    | false, hno, _ =>
      show wpAny _ X.A (handleBy (.ref a) X.env []) _ _ _
      obtain ⟨_, _, _, oe, vs, T, _, _, g, _, dd, h1, _⟩ := id fl3
      have out : wpAny (model X.prog X.w) X.A (setFlight (.ref a) X.env.frame) (fun _ t4 => wpAny (model X.prog X.w) X.A (throw (.ref a) : Sem Flow) (SP X pins D) X.xe t4) X.xe { t with heap := h3 } := by
        rw [hf]
        refine HandSPX.setFlight_upZ fl3 fun h4 k4 up4 => wpAny_throw (tk _ _ ⟨a, B, sI, pins, σ1, H1, cls, d, rfl, J, nb, (up.trans up3).trans up4, .inr (.inr (hs ▸ k4)), na, os, ag, hno rfl⟩)
      refine wpAny_handleBy_nil ?_
      unfold PySem.passOn
      refine wpAny_bind (wpAny_field g dd h1 ?_)
      rw [if_neg (show ¬ ((Value.ref T == Value.none) = true) from by simp)]
      first
        | exact wpAny_bind out
        | exact wpAny_bind (wpAny_pure (wpAny_bind out))
    | true, _, hyes =>
      refine codeAny_handlers_suite_as (HandSPX.lands_againZ fl3 fun h4 fl4 up4 => ?_)
      obtain ⟨o4, v4, g4, z4, d4⟩ := fl4.there
      have J4 : Inv X pins σ1 H1 { t with heap := h4 } := J.landed nb fl4.1 ((up.trans up3).trans up4) os ag
      refine store_ok (X := X.suite a ((a, o4) :: (X.pn ++ pins))) (v := .ref a) (J4.suite g4 d4 na nx.nloc nx.nfs) hN hi (.inl hln) rfl (fun s5 T5 => ?_) (.inr hln)
      refine wpAny_mono ((hsu a o4 cls d (X.pn ++ pins) z4 ⟨_, d4⟩).run [] s5 _ H1 _ T5 (hyes rfl J.len a na)) (fun f s6 q => ?_) (fun _ _ z => z.elim)
      match f, q with
      | .brk, ⟨_, _, _, z⟩ => exact z.elim
      | .cont, ⟨_, _, _, z⟩ => exact z.elim
      | .ret _, ⟨_, _, _, _, _, z⟩ => exact z.elim
      | .next, ⟨σ6, H6, T6, q6⟩ =>
        refine gone_ok (X := X.suite a ((a, o4) :: (X.pn ++ pins))) T6 hN hi hln fun s7 T7 => ?_
        obtain ⟨g7, n7, _, _, c7⟩ := T7.pin (a, o4) (by rw [List.append_nil]; exact List.mem_cons_self)
        have J7 : Inv X pins (σ6.set i none) H6 s7 := T7.unsuite ok
        refine ⟨_, _, Inv.track J7 n7 nx.old nx.nloc (fun y c' e z => ?_) nx.npin (hx_ok g7 z4 d4), q6⟩
        obtain ⟨v, o, ho, hd⟩ := J7.cell y c' e
        rw [z] at ho
        cases g7.symm.trans ho
        exact c7 v hd
  refine wpAny_Try_except (wpAny_mono ((hb _ (X.pn ++ pins) caught takes PassesOwn.looking).run [] s σ H D (I.toTry _) hw) (fun f s1 q => ?_) fun e s1 q => q)
  match f, q with
  | .next, ⟨_, _, T, q⟩ => exact wpAny_execs_nil ⟨_, _, T.ofTry ok, q⟩
  | .brk, ⟨_, _, T, q⟩ => exact ⟨_, _, T.ofTry ok, q⟩
  | .cont, ⟨_, _, T, q⟩ => exact ⟨_, _, T.ofTry ok, q⟩
  | .ret _, ⟨_, _, _, T, r, q⟩ => exact ⟨_, _, _, T.ofTry ok, r, q⟩⟩
end
section
variable {X : Cx}
/-- it is an instance of its class -/
theorem HX.inst {pins : List (Addr × Obj)} {σ : L2.St} {H : Hp} {s : Shared} {a C : Addr} {d : Option Addr} (I : Inv X pins σ H s) (h : H a = some (HX (.ref C) d a)) (hd : ∀ dx, d = some dx → ∃ fs, H dx = some (.xd fs)) : ∃ ox od, PySem.W.InstAt s.heap a ox C od ∧
    (∀ dx fs, d = some dx → H dx = some (.xd fs) → ∃ o mA, od = some o ∧ s.heap.Ns1 dx mA ∧ s.heap.get? dx = some o ∧ ∀ f, RelO (fs.lookup f) (mA f)) := by
  obtain ⟨⟨oe, vs, e, z, dt⟩, _⟩ := I.hok a _ h
  have hnc : PySem.W.notCls oe = true := by
    unfold PySem.W.notCls
    rw [dt] <;> rfl
  cases d with
  | none =>
    refine ⟨oe, none, ⟨e, z.1, hnc, ?_⟩, fun dx fs q => by cases q⟩
    rw [z.2]
    trivial
  | some dx =>
    obtain ⟨fs, hx⟩ := hd dx rfl
    obtain ⟨mA, hns, hr⟩ := I.hok dx _ hx
    obtain ⟨od, ho, hlk⟩ := lookIn_ns hns
    refine ⟨oe, some od, ⟨e, z.1, hnc, ?_⟩, fun dx' fs' q hx' => ?_⟩
    · rw [z.2]
      exact ho
    · cases q
      rw [hx] at hx'
      cases hx'
      exact ⟨od, mA, rfl, hns, ho, hr⟩
end
end SA

set_option Elab.async false
set_option linter.all false
set_option maxRecDepth 100000
set_option maxHeartbeats 4000000
/-! ### what is asked of a caught exception -/
namespace SA
open PySem PySem.Spec PyProof.Rows L2
section
variable {X : Cx}
/-- isinstance(e, c), e a caught exception -/
def rIsH (K : PySem.W.Frag) : List V → Hp → VK → Prop := fun xs H Q => ∃ (a D : Addr) (d : Option Addr) (c : V) (cv : Value) (b : Bool), xs = [.ref a, c] ∧ ClsV c cv ∧ H a = some (HX (.ref D) d a) ∧ (∀ dx, d = some dx → ∃ fs, H dx = some (.xd fs)) ∧ ExcC K D ∧ PySem.W.kitOne K (.ref D) cv = some b ∧ Q (.bl b) H
theorem call_isH : CallR X (.builtin "isinstance") (rIsH X.K) := by
  intro pins s σ H xs us Q I r h
  obtain ⟨a, D, d, c, cv, b, rfl, k, hx, hd, hC, e, q⟩ := h
  obtain ⟨u1, u2, rfl, r1, r2⟩ := vals2 r
  have e2 := k.eq r2
  subst e2
  obtain rfl : u1 = Value.ref a := r1
  obtain ⟨ox, od, J, _⟩ := HX.inst I hx hd
  exact PySem.W.kia_one (kit_exc hC) I.kIn J e (fun z => nomatch z) fun tk => ⟨.bl b, H, I.kept (t' := tk) fun _ _ z => z, rfl, q⟩
/-- e.f, e a caught exception whose dict is told -/
def tHfld (K : PySem.W.Frag) (te : TE) (f : Str) : TE := fun σ H Q => te σ H fun x H1 => ∃ (a C dx : Addr) (fs : List (Str × V)) (v : V), x = .ref a ∧ H1 a = some (HX (.ref C) (some dx) a) ∧ H1 dx = some (.xd fs) ∧ XfC K C ∧
  PySem.W.findIn K (.ref C) f = some none ∧ fs.lookup f = some v ∧ Q v H1
theorem pe_hfld {e : Expr} {te : TE} {f : Str} {pos : Pos} (he : PE X e te) (hb : attributeBase e f X.env (eval e X.env) = eval e X.env := by rfl) : PE X (.Attribute e f pos) (tHfld X.K te f) := by
  refine ⟨fun pins s σ H Q I h => ?_⟩
  refine attr_of hb (thn (he.run pins s σ H _ I h) fun u s1 hh => ?_)
  obtain ⟨x, H1, I1, rx, a, C, dx, fs, v, ex, h1, h2, T, hno, hl, q⟩ := hh
  subst ex
  obtain rfl : u = Value.ref a := rx
  obtain ⟨ox, od, J, g⟩ := HX.inst I1 h1 fun dx' e => ⟨fs, by cases e; exact h2⟩
  obtain ⟨o, mA, eo, hns, ho, hr⟩ := g dx fs rfl h2
  obtain ⟨o', ho', hlk⟩ := lookIn_ns hns
  rw [ho] at ho'
  cases ho'
  subst eo
  obtain ⟨w, hw, rw'⟩ := RelO.some_of (v := v) (o := mA f) (by rw [← hl]; exact hr f)
  exact HandSPX.exc_get I1.kIn J T.ga T.gg T.exC (PySem.W.findObj_own T.hdC hno rfl (by rw [hlk, hw])) (handed_of rw') ⟨v, H1, I1.tok _, rw', q⟩
end
end SA

set_option Elab.async false
set_option linter.all false
set_option maxRecDepth 100000
set_option maxHeartbeats 4000000
namespace SA
open PySem PySem.Spec PyProof.Rows L2
/-! ### a def of the module, all that a call of it needs -/
structure Dq (P : Program) (w : World) (K : PySem.W.Frag) (mg : Str → Option Value) (base : Heap) (CX : CXT) (k : Nat) (x : Str) (ps : List Str) (sp : Sp) : Prop where
  ex : ∃ (f : Addr) (fd : FuncData), FnOk P w K mg base CX k f fd ps sp ∧ mg x = some (.ref f) ∧ PySem.W.keepIn K (.ref f) = true ∧ L2.Binds K fd ps []
/-- .. called by keywords -/
structure Dk (P : Program) (w : World) (K : PySem.W.Frag) (mg : Str → Option Value) (base : Heap) (CX : CXT) (k : Nat) (x : Str) (ps ks : List Str) (gV : List V → List V → List V) (sp : Sp) : Prop where
  ex : ∃ (f : Addr) (fd : FuncData) (g : List Value → List Value → List Value), FnOk P w K mg base CX k f fd ps sp ∧ mg x = some (.ref f) ∧ PySem.W.keepIn K (.ref f) = true ∧ KBinds K fd ps ks g gV
/-- what raises nothing passes -/
theorem passN {P : Program} {w : World} {X : Cx} : Passes (L2.CX P w) X (fun _ _ _ => False) := fun _ _ _ _ _ _ _ ⟨_, _, _, _, _, _, _, _, _, _, _, _, h⟩ => h.elim
section
variable {X : Cx} {CX : CXT} {k j : Nat} {x : Str} {p pos : Pos} {e : Expr} {es : List Expr} {t tk : TA} {sp : Sp} {ps ks : List Str} {E : XK} {kws : List Keyword} {gV : List V → List V → List V}
theorem pe_qX (c : Dq X.prog X.w X.K X.mg X.base CX k x ps sp) (hr : Room j X.A) (hk : k ≤ j) (hg : Gl X x) (hx : Passes CX X E) (ha : PA X (e :: es) t)
    (hdb : (x == ("__debug__" : Str)) = false := by decide) (he : starEach (e :: es) X.env = (false, eval e X.env) :: starEach es X.env := by rfl) (hpl : (backTo pos (starEach es X.env)).any (·.1) = false := by rfl) :
    PE X (.Call (.Name x p) (e :: es) [] pos) (tCall sp [] E t) := by
  obtain ⟨f, fd, F, hm, kp, b⟩ := c.ex
  exact pe_call F (hr.mono hk) hg hm kp b .nil hx ha hdb he hpl
theorem pe_q (c : Dq X.prog X.w X.K X.mg X.base CX0 k x ps sp) (hr : Room j X.A) (hk : k ≤ j) (hg : Gl X x) (ha : PA X (e :: es) t)
    (hdb : (x == ("__debug__" : Str)) = false := by decide) (he : starEach (e :: es) X.env = (false, eval e X.env) :: starEach es X.env := by rfl) (hpl : (backTo pos (starEach es X.env)).any (·.1) = false := by rfl) :
    PE X (.Call (.Name x p) (e :: es) [] pos) (tCall sp [] (fun _ _ _ => False) t) := pe_qX c hr hk hg pass0 ha hdb he hpl
/-- f(a, k = b) -/
theorem pe_qK (c : Dk X.prog X.w X.K X.mg X.base CX k x ps ks gV sp) (hr : Room j X.A) (hk : k ≤ j) (hg : Gl X x) (hx : Passes CX X E) (ha : PA X (e :: es) t) (hkw : PK X kws tk)
    (hall : (backToKw pos (keywordEach kws X.env)).all (·.1.isSome) = true := by rfl) (hks : (backToKw pos (keywordEach kws X.env)).filterMap (·.1) = ks := by rfl)
    (hdb : (x == ("__debug__" : Str)) = false := by decide) (he : starEach (e :: es) X.env = (false, eval e X.env) :: starEach es X.env := by rfl)
    (hpl : ((backTo pos (starEach (e :: es) X.env)).any (·.1) || (backToKw pos (keywordEach kws X.env)).any (·.1.isNone)) = false := by rfl) :
    PE X (.Call (.Name x p) (e :: es) kws pos) (tCallK sp gV E t tk) := by
  obtain ⟨f, fd, g, F, hm, kp, b⟩ := c.ex
  exact pe_callK F (hr.mono hk) hg hm kp b hx ha hkw hall hks hdb he hpl
/-- f(k = b) -/
theorem pe_qK0 (c : Dk X.prog X.w X.K X.mg X.base CX k x ps ks gV sp) (hr : Room j X.A) (hk : k ≤ j) (hg : Gl X x) (hx : Passes CX X E) (hkw : PK X kws tk)
    (hall : (backToKw pos (keywordEach kws X.env)).all (·.1.isSome) = true := by rfl) (hks : (backToKw pos (keywordEach kws X.env)).filterMap (·.1) = ks := by rfl)
    (hdb : (x == ("__debug__" : Str)) = false := by decide) (hpl : ((backTo pos (starEach [] X.env)).any (·.1) || (backToKw pos (keywordEach kws X.env)).any (·.1.isNone)) = false := by rfl) :
    PE X (.Call (.Name x p) [] kws pos) (tCallK sp gV E tNil tk) := by
  obtain ⟨f, fd, g, F, hm, kp, b⟩ := c.ex
  refine ⟨fun pins s σ H Q I h => wpAny_Call_Name_kw (ld_glob I hg hm ?_ hdb)⟩
  refine PySem.W.callWith_KW0 (h₀ := X.base) I.ok.mod.kin kp hall (thn (hkw.run pos pins s σ H _ I h) fun ws s2 ⟨zs, H2, I2, rz, q⟩ => ⟨I2.kIn, ?_⟩) hpl
  rw [hks]
  exact run_fnk (us := []) (vs := []) F (hr.mono hk) b hx I2 .nil rz q
end
/-- what is None where the module's names are: the built-in names that a text uses -/
structure Bn (mg : Str → Option Value) : Prop where
  isinstance : mg "isinstance" = none
  int : mg "int" = none
  bool : mg "bool" = none
  str : mg "str" = none
  len : mg "len" = none
  abs : mg "abs" = none
  range : mg "range" = none
  repr : mg "repr" = none
end SA

set_option Elab.async false
set_option linter.all false
set_option maxRecDepth 100000
set_option maxHeartbeats 4000000
namespace SA
open PySem PySem.Spec PyProof.Rows L2
/-! ### errors -/
theorem small1000' {n : Nat} (h : n ≤ 1000) : n ≤ sizeLine := by
  have := sizeLine_eq
  omega
theorem small5 {n : Nat} (h : n ≤ 100000) : n ≤ sizeLine := by
  have := sizeLine_eq
  omega
structure Own24 (K : PySem.W.Frag) (C f : Addr) (fs : List Str) : Prop where
  oex : OexC K C
  init : PySem.W.findIn K (.ref C) "__init__" = some (some (.ref f))
  fn : PySem.W.typeIn K (.ref f) = some (.type "function")
  no : ∀ x ∈ fs, PySem.W.findIn K (.ref C) x = some none
/-- __init__'s promise: the field holds the argument -/
def spInit1 (C : Addr) (fl : Str) : Sp := fun vs H Q _ => ∃ (a : Addr) (x : V), vs = [.ref a, x] ∧ H a = some (exo a C none) ∧
  ∀ (dx : Addr) (H' : Hp), H dx = none → dx ≠ a → H' a = some (exo a C (some dx)) → H' dx = some (exd dx [(fl, x)]) → (∀ b o, H b = some o → b ≠ a → H' b = some o) → Q .non H'
/-- a class of errors without __init__ -/
structure Cl0 (K : PySem.W.Frag) (mg : Str → Option Value) (x : Str) (C : Addr) : Prop where
  g : mg x = some (.ref C)
  x : PySem.W.excIn K C [.type "ValueError", .type "Exception", .type "BaseException", .type "object"] "ValueError.__new__" = true
  k : PySem.W.keepIn K (.ref C) = true
  b : PySem.W.subIn K (.ref C) (.type "BaseException") = some true
  t : PySem.W.typeIn K (.ref C) = some (.type "type")
/-- a class of errors with one field -/
structure Cl1 (P : Program) (w : World) (K : PySem.W.Frag) (mg : Str → Option Value) (base : Heap) (x fl : Str) (C : Addr) (f : Addr) (fd : FuncData) : Prop where
  g : mg x = some (.ref C)
  o : Own24 K C f [fl]
  G : FnOk P w K mg base CX0 1 f fd ["self", fl] (spInit1 C fl)
  b : L2.Binds K fd ["self", fl] []
/-- an error of the class C with this field is raised, nothing else changed -/
def RaiseF (C : Addr) (fl : Str) (v : V) (H : Hp) (E : XK) : Prop := ∀ (d : Addr) (H' : Hp), Same H H' → H d = none → H' d = some (.xd [(fl, v)]) → E (.ref C) (some d) H'
theorem RaiseF.of {C : Addr} {fl : Str} {v : V} {H H1 : Hp} {E : XK} (s : Same H H1) (h : RaiseF C fl v H E) : RaiseF C fl v H1 E := fun d H' s1 hd e => h d H' (s.trans s1) (s.free hd) e
section
variable {P : Program} {w0 : World} {K : PySem.W.Frag} {mg : Str → Option Value} {base : Heap} {C f : Addr} {fd : FuncData}
/-- from the raising of such an error, its argument worked out, to RaiseF -/
theorem raiseF {fl : Str} {te : TE} {x : V} {σ : L2.St} {H1 : Hp} {E : XK} (ht : ∀ R : V → Hp → Prop, R x H1 → te σ H1 R) (hb : RaiseF C fl x H1 E) : tMkO C (spInit1 C fl) [] (tCons te tNil) σ H1 fun cls d H' => E cls d H' := by
  refine ht _ ⟨(by show 1 ≤ 1000; decide), fun a ha => ⟨a, x, rfl, upd_same, fun dx H' hdx ne e1 e2 kp => ⟨rfl, dx, _, e1, e2, ?_, ?_⟩⟩⟩
  · rw [upd_ne ne] at hdx
    exact hdx
  · have hdx : H1 dx = none := by
      rw [upd_ne ne] at hdx
      exact hdx
    refine hb dx _ (fun b o e => ?_) hdx upd_same
    have nb := ne_of_none e ha
    rw [upd_ne (ne_of_none e hdx), L2.del_ne nb]
    exact kp b o (by rw [upd_ne nb]; exact e) nb
end
/-! ### values of all kinds, by their class -/
inductive Kd (K : PySem.W.Frag) (H : Hp) : V → String → Prop
  | non : Kd K H .non "NoneType"
  | bl (b : Bool) : Kd K H (.bl b) "bool"
  | int (i : Int) : Kd K H (.int i) "int"
  | str (z : Str) : Kd K H (.str z) "str"
  | tup {a : Addr} (h : TyX K H (.ref a) (.type "tuple")) : Kd K H (.ref a) "tuple"
  | lst {a : Addr} (h : TyX K H (.ref a) (.type "list")) : Kd K H (.ref a) "list"
  | dct {a : Addr} (h : TyX K H (.ref a) (.type "dict")) : Kd K H (.ref a) "dict"
theorem Kd.ty {K : PySem.W.Frag} {H : Hp} {x : V} {t : String} (h : Kd K H x t) : TyX K H x (.type t) := by
  cases h with
  | non => exact .base .non
  | bl b => exact .base (.bl b)
  | int i => exact .base (.int i)
  | str z => exact .base (.str z)
  | tup h => exact h
  | lst h => exact h
  | dct h => exact h
theorem Kd.int_of {K : PySem.W.Frag} {H : Hp} {x : V} {t : String} (h : Kd K H x t) (e : t = "int") : ∃ i, x = .int i := by
  cases h <;> first | exact ⟨_, rfl⟩ | exact absurd e (by decide)
theorem Kd.str_of {K : PySem.W.Frag} {H : Hp} {x : V} {t : String} (h : Kd K H x t) (e : t = "str") : ∃ z, x = .str z := by
  cases h <;> first | exact ⟨_, rfl⟩ | exact absurd e (by decide)
/-- isinstance(x, c) of such a value -/
theorem isi_kd {K : PySem.W.Frag} {H : Hp} {x : V} {t c : String} {b : Bool} {Q : VK} (h : Kd K H x t) (hb : PySem.W.kitOne K (.type t) (.type c) = some b) (q : Q (.bl b) H) : rIsi K [x, .ty c] H Q :=
  ⟨x, .ty c, .type t, .type c, b, rfl, .ty _, h.ty, hb, q⟩
end SA

set_option Elab.async false
set_option linter.all false
set_option maxRecDepth 100000
set_option maxHeartbeats 4000000
namespace SA
open PySem PySem.Spec PyProof.Rows L2
def topS (i : Nat) : Stmt := PySem.Challenge.pw_stopanywhere_k11_units_in_order_or_the_s.main.body.getD i (.Pass ⟨0, 0, 0, 0⟩)
def clsB : Stmt → List Stmt
  | .ClassDef _ _ _ b .. => b
  | _ => []
def inClass (s : Stmt) (i : Nat) : Stmt := (clsB s).getD i (.Pass ⟨0, 0, 0, 0⟩)
abbrev s_BadUnits___init__ : Stmt := inClass (topS 2) 0
abbrev n_BadUnits___init__ : List Str := ["self", "at"]
theorem sc_BadUnits___init__ : FnScope n_BadUnits___init__ ["self", "at"] (defScope s_BadUnits___init__) := ⟨rfl, rfl, rfl, by decide +kernel, rfl, by decide +kernel, by decide +kernel⟩
abbrev s_NoUnit___init__ : Stmt := inClass (topS 3) 0
abbrev n_NoUnit___init__ : List Str := ["self", "name"]
theorem sc_NoUnit___init__ : FnScope n_NoUnit___init__ ["self", "name"] (defScope s_NoUnit___init__) := ⟨rfl, rfl, rfl, by decide +kernel, rfl, by decide +kernel, by decide +kernel⟩
abbrev s_UsesRing___init__ : Stmt := inClass (topS 4) 0
abbrev n_UsesRing___init__ : List Str := ["self", "ring"]
theorem sc_UsesRing___init__ : FnScope n_UsesRing___init__ ["self", "ring"] (defScope s_UsesRing___init__) := ⟨rfl, rfl, rfl, by decide +kernel, rfl, by decide +kernel, by decide +kernel⟩
abbrev s_is_number : Stmt := topS 6
abbrev n_is_number : List Str := ["thing"]
theorem sc_is_number : FnScope n_is_number ["thing"] (defScope s_is_number) := ⟨rfl, rfl, rfl, by decide +kernel, rfl, by decide +kernel, by decide +kernel⟩
abbrev s_is_tuple_of : Stmt := topS 7
abbrev n_is_tuple_of : List Str := ["thing", "many"]
theorem sc_is_tuple_of : FnScope n_is_tuple_of ["thing", "many"] (defScope s_is_tuple_of) := ⟨rfl, rfl, rfl, by decide +kernel, rfl, by decide +kernel, by decide +kernel⟩
abbrev s_is_list : Stmt := topS 8
abbrev n_is_list : List Str := ["thing"]
theorem sc_is_list : FnScope n_is_list ["thing"] (defScope s_is_list) := ⟨rfl, rfl, rfl, by decide +kernel, rfl, by decide +kernel, by decide +kernel⟩
abbrev s_is_name : Stmt := topS 12
abbrev n_is_name : List Str := ["thing", "letter"]
theorem sc_is_name : FnScope n_is_name ["thing"] (defScope s_is_name) := ⟨rfl, rfl, rfl, by decide +kernel, rfl, by decide +kernel, by decide +kernel⟩
abbrev s_is_kind : Stmt := topS 16
abbrev n_is_kind : List Str := ["thing"]
theorem sc_is_kind : FnScope n_is_kind ["thing"] (defScope s_is_kind) := ⟨rfl, rfl, rfl, by decide +kernel, rfl, by decide +kernel, by decide +kernel⟩
abbrev s_is_expression : Stmt := topS 17
abbrev n_is_expression : List Str := ["thing"]
theorem sc_is_expression : FnScope n_is_expression ["thing"] (defScope s_is_expression) := ⟨rfl, rfl, rfl, by decide +kernel, rfl, by decide +kernel, by decide +kernel⟩
abbrev s_is_block : Stmt := topS 18
abbrev n_is_block : List Str := ["thing", "statement"]
theorem sc_is_block : FnScope n_is_block ["thing"] (defScope s_is_block) := ⟨rfl, rfl, rfl, by decide +kernel, rfl, by decide +kernel, by decide +kernel⟩
abbrev s_is_function : Stmt := topS 19
abbrev n_is_function : List Str := ["thing"]
theorem sc_is_function : FnScope n_is_function ["thing"] (defScope s_is_function) := ⟨rfl, rfl, rfl, by decide +kernel, rfl, by decide +kernel, by decide +kernel⟩
abbrev s_is_declaration : Stmt := topS 20
abbrev n_is_declaration : List Str := ["thing", "variant"]
theorem sc_is_declaration : FnScope n_is_declaration ["thing"] (defScope s_is_declaration) := ⟨rfl, rfl, rfl, by decide +kernel, rfl, by decide +kernel, by decide +kernel⟩
abbrev s_is_unit : Stmt := topS 21
abbrev n_is_unit : List Str := ["thing", "function", "declaration"]
theorem sc_is_unit : FnScope n_is_unit ["thing"] (defScope s_is_unit) := ⟨rfl, rfl, rfl, by decide +kernel, rfl, by decide +kernel, by decide +kernel⟩
abbrev s__is_headed : Stmt := topS 22
abbrev n__is_headed : List Str := ["thing"]
theorem sc__is_headed : FnScope n__is_headed ["thing"] (defScope s__is_headed) := ⟨rfl, rfl, rfl, by decide +kernel, rfl, by decide +kernel, by decide +kernel⟩
abbrev s__has_form : Stmt := topS 23
abbrev n__has_form : List Str := ["thing", "form", "letter", "part"]
theorem sc__has_form : FnScope n__has_form ["thing", "form"] (defScope s__has_form) := ⟨rfl, rfl, rfl, by decide +kernel, rfl, by decide +kernel, by decide +kernel⟩
abbrev s__is_part : Stmt := topS 24
abbrev n__is_part : List Str := ["letter", "part"]
theorem sc__is_part : FnScope n__is_part ["letter", "part"] (defScope s__is_part) := ⟨rfl, rfl, rfl, by decide +kernel, rfl, by decide +kernel, by decide +kernel⟩
abbrev s__is_tuple_between : Stmt := topS 25
abbrev n__is_tuple_between : List Str := ["thing", "least", "most"]
theorem sc__is_tuple_between : FnScope n__is_tuple_between ["thing", "least", "most"] (defScope s__is_tuple_between) := ⟨rfl, rfl, rfl, by decide +kernel, rfl, by decide +kernel, by decide +kernel⟩
abbrev s__are_names : Stmt := topS 26
abbrev n__are_names : List Str := ["thing", "most", "name"]
theorem sc__are_names : FnScope n__are_names ["thing", "most"] (defScope s__are_names) := ⟨rfl, rfl, rfl, by decide +kernel, rfl, by decide +kernel, by decide +kernel⟩
abbrev s__are_expressions : Stmt := topS 27
abbrev n__are_expressions : List Str := ["thing", "expression"]
theorem sc__are_expressions : FnScope n__are_expressions ["thing"] (defScope s__are_expressions) := ⟨rfl, rfl, rfl, by decide +kernel, rfl, by decide +kernel, by decide +kernel⟩
abbrev s__are_branches : Stmt := topS 28
abbrev n__are_branches : List Str := ["thing", "branch"]
theorem sc__are_branches : FnScope n__are_branches ["thing"] (defScope s__are_branches) := ⟨rfl, rfl, rfl, by decide +kernel, rfl, by decide +kernel, by decide +kernel⟩
abbrev s__is_variant : Stmt := topS 29
abbrev n__is_variant : List Str := ["thing", "kind"]
theorem sc__is_variant : FnScope n__is_variant ["thing"] (defScope s__is_variant) := ⟨rfl, rfl, rfl, by decide +kernel, rfl, by decide +kernel, by decide +kernel⟩
abbrev s_order_by_uses : Stmt := topS 31
abbrev n_order_by_uses : List Str := ["uses", "found", "ready", "name", "other"]
theorem sc_order_by_uses : FnScope n_order_by_uses ["uses"] (defScope s_order_by_uses) := ⟨rfl, rfl, rfl, by decide +kernel, rfl, by decide +kernel, by decide +kernel⟩
abbrev s_shortest_ring : Stmt := topS 32
abbrev n_shortest_ring : List Str := ["uses", "rings", "name", "ring", "_"]
theorem sc_shortest_ring : FnScope n_shortest_ring ["uses"] (defScope s_shortest_ring) := ⟨rfl, rfl, rfl, by decide +kernel, rfl, by decide +kernel, by decide +kernel⟩
abbrev s_shortest_ring_from : Stmt := topS 33
abbrev n_shortest_ring_from : List Str := ["uses", "first", "ways", "met", "longer", "way", "name"]
theorem sc_shortest_ring_from : FnScope n_shortest_ring_from ["uses", "first"] (defScope s_shortest_ring_from) := ⟨rfl, rfl, rfl, by decide +kernel, rfl, by decide +kernel, by decide +kernel⟩
abbrev s_users_by_uses : Stmt := topS 34
abbrev n_users_by_uses : List Str := ["uses", "name", "found", "size", "user", "other"]
theorem sc_users_by_uses : FnScope n_users_by_uses ["uses", "name"] (defScope s_users_by_uses) := ⟨rfl, rfl, rfl, by decide +kernel, rfl, by decide +kernel, by decide +kernel⟩
abbrev s_order_of : Stmt := topS 36
abbrev n_order_of : List Str := ["units", "uses", "found"]
theorem sc_order_of : FnScope n_order_of ["units"] (defScope s_order_of) := ⟨rfl, rfl, rfl, by decide +kernel, rfl, by decide +kernel, by decide +kernel⟩
abbrev s_users_of : Stmt := topS 37
abbrev n_users_of : List Str := ["units", "name", "uses"]
theorem sc_users_of : FnScope n_users_of ["units", "name"] (defScope s_users_of) := ⟨rfl, rfl, rfl, by decide +kernel, rfl, by decide +kernel, by decide +kernel⟩
abbrev s__checked_uses : Stmt := topS 38
abbrev n__checked_uses : List Str := ["units", "uses", "at", "unit", "used", "name"]
theorem sc__checked_uses : FnScope n__checked_uses ["units"] (defScope s__checked_uses) := ⟨rfl, rfl, rfl, by decide +kernel, rfl, by decide +kernel, by decide +kernel⟩
abbrev s__law_begun : Stmt := topS 40
abbrev n__law_begun : List Str := ["script", "wide", "cell"]
theorem sc__law_begun : FnScope n__law_begun ["script"] (defScope s__law_begun) := ⟨rfl, rfl, rfl, by decide +kernel, rfl, by decide +kernel, by decide +kernel⟩
abbrev s__law_mixed : Stmt := topS 41
abbrev n__law_mixed : List Str := ["draw", "turn", "found", "prime", "blend", "cell"]
theorem sc__law_mixed : FnScope n__law_mixed ["draw"] (defScope s__law_mixed) := ⟨rfl, rfl, rfl, by decide +kernel, rfl, by decide +kernel, by decide +kernel⟩
abbrev s__law_take : Stmt := topS 42
abbrev n__law_take : List Str := ["draw", "many", "found"]
theorem sc__law_take : FnScope n__law_take ["draw", "many"] (defScope s__law_take) := ⟨rfl, rfl, rfl, by decide +kernel, rfl, by decide +kernel, by decide +kernel⟩
abbrev s__law_pick : Stmt := topS 43
abbrev n__law_pick : List Str := ["draw", "some"]
theorem sc__law_pick : FnScope n__law_pick ["draw", "some"] (defScope s__law_pick) := ⟨rfl, rfl, rfl, by decide +kernel, rfl, by decide +kernel, by decide +kernel⟩
abbrev s__law_caught : Stmt := topS 44
abbrev n__law_caught : List Str := ["work", "caught", "error"]
theorem sc__law_caught : FnScope n__law_caught ["work"] (defScope s__law_caught) := ⟨rfl, rfl, rfl, by decide +kernel, rfl, by decide +kernel, by decide +kernel⟩
abbrev s__law_shuffled : Stmt := topS 45
abbrev n__law_shuffled : List Str := ["draw", "some", "left", "found"]
theorem sc__law_shuffled : FnScope n__law_shuffled ["draw", "some"] (defScope s__law_shuffled) := ⟨rfl, rfl, rfl, by decide +kernel, rfl, by decide +kernel, by decide +kernel⟩
abbrev s__law_units : Stmt := topS 46
abbrev n__law_units : List Str := ["draw", "names", "found", "way", "at", "name", "some", "goal", "uses", "k", "other"]
theorem sc__law_units : FnScope n__law_units ["draw"] (defScope s__law_units) := ⟨rfl, rfl, rfl, by decide +kernel, rfl, by decide +kernel, by decide +kernel⟩
abbrev s__law_trees : Stmt := topS 47
abbrev n__law_trees : List Str := ["pairs", "name", "uses"]
theorem sc__law_trees : FnScope n__law_trees ["pairs"] (defScope s__law_trees) := ⟨rfl, rfl, rfl, by decide +kernel, rfl, by decide +kernel, by decide +kernel⟩
abbrev s__law_rings : Stmt := topS 48
abbrev n__law_rings : List Str := ["uses", "found", "line", "way", "goal", "name"]
theorem sc__law_rings : FnScope n__law_rings ["uses"] (defScope s__law_rings) := ⟨rfl, rfl, rfl, by decide +kernel, rfl, by decide +kernel, by decide +kernel⟩
abbrev s__law_order : Stmt := topS 49
abbrev n__law_order : List Str := ["uses", "found", "free", "name", "goal"]
theorem sc__law_order : FnScope n__law_order ["uses"] (defScope s__law_order) := ⟨rfl, rfl, rfl, by decide +kernel, rfl, by decide +kernel, by decide +kernel⟩
abbrev s__law_come : Stmt := topS 50
abbrev n__law_come : List Str := ["uses", "name", "met", "turn", "one", "goal"]
theorem sc__law_come : FnScope n__law_come ["uses", "name"] (defScope s__law_come) := ⟨rfl, rfl, rfl, by decide +kernel, rfl, by decide +kernel, by decide +kernel⟩
abbrev s__law_refused_right : Stmt := topS 51
abbrev n__law_refused_right : List Str := ["draw", "pairs", "error", "wrong", "works", "work", "uses", "at", "bad", "name", "odd", "some", "trees", "tree"]
theorem sc__law_refused_right : FnScope n__law_refused_right ["draw", "pairs"] (defScope s__law_refused_right) := ⟨rfl, rfl, rfl, by decide +kernel, rfl, by decide +kernel, by decide +kernel⟩
abbrev s_law : Stmt := topS 52
abbrev n_law : List Str := ["script", "draw", "turn", "pairs", "uses", "rings", "error", "least", "due", "name", "told", "trees", "ring"]
theorem sc_law : FnScope n_law ["script"] (defScope s_law) := ⟨rfl, rfl, rfl, by decide +kernel, rfl, by decide +kernel, by decide +kernel⟩
end SA

set_option Elab.async false
set_option linter.all false
set_option maxRecDepth 100000
set_option maxHeartbeats 4000000
namespace SA
open PySem PySem.Spec PyProof.Rows L2
/-! ### the draw -/
abbrev kW : Key := Sum.inr "wide"
abbrev kC : Key := Sum.inr "cells"
abbrev kR : Key := Sum.inr "rest"
abbrev kT : Key := Sum.inr "turn"
theorem kWC : ¬ kW = kC := by decide +kernel
theorem kWR : ¬ kW = kR := by decide +kernel
theorem kWT : ¬ kW = kT := by decide +kernel
theorem kCR : ¬ kC = kR := by decide +kernel
theorem kCT : ¬ kC = kT := by decide +kernel
theorem kRT : ¬ kR = kT := by decide +kernel
def dkv (w c : Addr) (r t : Int) : List (Key × V) := [(kW, .ref w), (kC, .ref c), (kR, .int r), (kT, .int t)]
theorem dkv_w (w c : Addr) (r t : Int) : valV (dkv w c r t) kW = some (.ref w) := valV_pos rfl
theorem dkv_c (w c : Addr) (r t : Int) : valV (dkv w c r t) kC = some (.ref c) := (valV_neg kWC).trans (valV_pos rfl)
theorem dkv_r (w c : Addr) (r t : Int) : valV (dkv w c r t) kR = some (.int r) := (valV_neg kWR).trans ((valV_neg kCR).trans (valV_pos rfl))
theorem dkv_t (w c : Addr) (r t : Int) : valV (dkv w c r t) kT = some (.int t) := (valV_neg kWT).trans ((valV_neg kCT).trans ((valV_neg kRT).trans (valV_pos rfl)))
theorem get_w {H : Hp} {d w c : Addr} {r t : Int} (e : H d = some (.dK (dkv w c r t))) : DGet H d (.str "wide") (some (.ref w)) := dkv_w w c r t ▸ DGet.k (k := kW) e
theorem get_c {H : Hp} {d w c : Addr} {r t : Int} (e : H d = some (.dK (dkv w c r t))) : DGet H d (.str "cells") (some (.ref c)) := dkv_c w c r t ▸ DGet.k (k := kC) e
theorem get_r {H : Hp} {d w c : Addr} {r t : Int} (e : H d = some (.dK (dkv w c r t))) : DGet H d (.str "rest") (some (.int r)) := dkv_r w c r t ▸ DGet.k (k := kR) e
theorem get_t {H : Hp} {d w c : Addr} {r t : Int} (e : H d = some (.dK (dkv w c r t))) : DGet H d (.str "turn") (some (.int t)) := dkv_t w c r t ▸ DGet.k (k := kT) e
theorem put3 {a b c d : Key} {va vb vc vd x : V} (h1 : ¬ a = c) (h2 : ¬ b = c) (h3 : ¬ c = d) : putK [(a, va), (b, vb), (c, vc), (d, vd)] c x = [(a, va), (b, vb), (c, x), (d, vd)] := by
  have h4 : ¬ d = c := fun e => h3 e.symm
  simp [putK, h1, h2, h4]
theorem put4 {a b c d : Key} {va vb vc vd x : V} (h1 : ¬ a = d) (h2 : ¬ b = d) (h3 : ¬ c = d) : putK [(a, va), (b, vb), (c, vc), (d, vd)] d x = [(a, va), (b, vb), (c, vc), (d, x)] := by
  simp [putK, h1, h2, h3]
theorem dkv_putR (w c : Addr) (r t x : Int) : putK (dkv w c r t) kR (.int x) = dkv w c x t := put3 kWR kCR kRT
theorem dkv_putT (w c : Addr) (r t x : Int) : putK (dkv w c r t) kT (.int x) = dkv w c r x := put4 kWT kCT kRT
theorem merge4 (a b c d : V) : mergeK [] [(kW, a), (kC, b), (kR, c), (kT, d)] = [(kW, a), (kC, b), (kR, c), (kT, d)] := by
  have h1 := kWC
  have h2 := kWR
  have h3 := kWT
  have h4 := kCR
  have h5 := kCT
  have h6 := kRT
  generalize kW = k1 at *
  generalize kC = k2 at *
  generalize kR = k3 at *
  generalize kT = k4 at *
  simp [mergeK, putK, h1, h2, h3, h4, h5, h6]
/-- the draw's dict at d, its lists at w and c; at most n turns so far -/
structure DrawAt (H : Hp) (d w c : Addr) (n : Nat) : Prop where
  dict : ∃ r t : Int, 0 ≤ t ∧ t ≤ n ∧ H d = some (.dK (dkv w c r t))
  wide : ∃ ws : List Int, H w = some (.lst (ws.map V.int))
  cells : ∃ cs : List Int, H c = some (.lst (cs.map V.int))
  ne : w ≠ c
theorem Same.new {H : Hp} {p : Addr} {o : HO} (h : H p = none) : Same H (upd H p o) := fun b x e => by
  rw [upd_ne (ne_of_none e h)]
  exact e
/-- a comprehension without an if -/
theorem yes {σ : L2.St} {H : Hp} {A B : Hp → Prop} (h : A H) : tYes σ H fun b H' => if b = true then A H' else B H' := by
  show (if true = true then A H else B H)
  rw [if_pos rfl]
  exact h
/-- all but d and w stand as they stood -/
def But2 (d w : Addr) (H H' : Hp) : Prop := ∀ b o, H b = some o → b ≠ d → b ≠ w → H' b = some o
theorem But2.refl (d w : Addr) (H : Hp) : But2 d w H H := fun _ _ e _ _ => e
theorem But2.trans {d w : Addr} {H H1 H2 : Hp} (a : But2 d w H H1) (b : But2 d w H1 H2) : But2 d w H H2 := fun x o e h1 h2 => b x o (a x o e h1 h2) h1 h2
theorem But2.d {d w : Addr} {H H' : Hp} {o : HO} (a : But2 d w H H') : But2 d w H (upd H' d o) := fun x u e h1 h2 => by rw [upd_ne h1]; exact a x u e h1 h2
theorem But2.w {d w : Addr} {H H' : Hp} {o : HO} (a : But2 d w H H') : But2 d w H (upd H' w o) := fun x u e h1 h2 => by rw [upd_ne h2]; exact a x u e h1 h2
theorem But2.new {d w p : Addr} {H H' : Hp} {o : HO} (a : But2 d w H H') (h : H' p = none) : But2 d w H (upd H' p o) := fun x u e h1 h2 => by
  have q := a x u e h1 h2
  rw [upd_ne (ne_of_none q h)]; exact q
theorem DrawAt.dw {H : Hp} {d w c : Addr} {n : Nat} (h : DrawAt H d w c n) : d ≠ w := by
  obtain ⟨⟨r, t, _, _, e⟩, ⟨ws, e2⟩, _, _⟩ := h
  exact ne_of e e2 (by intro z; cases z)
theorem DrawAt.dc {H : Hp} {d w c : Addr} {n : Nat} (h : DrawAt H d w c n) : d ≠ c := by
  obtain ⟨⟨r, t, _, _, e⟩, _, ⟨cs, e2⟩, _⟩ := h
  exact ne_of e e2 (by intro z; cases z)
/-- what is new is none of the three -/
theorem DrawAt.new {H : Hp} {d w c p : Addr} {n : Nat} {o : HO} (h : DrawAt H d w c n) (hp : H p = none) : DrawAt (upd H p o) d w c n := by
  obtain ⟨⟨r, t, a1, a2, e⟩, ⟨ws, e2⟩, ⟨cs, e3⟩, ne⟩ := h
  exact ⟨⟨r, t, a1, a2, by rw [upd_ne (ne_of_none e hp)]; exact e⟩, ⟨ws, by rw [upd_ne (ne_of_none e2 hp)]; exact e2⟩, ⟨cs, by rw [upd_ne (ne_of_none e3 hp)]; exact e3⟩, ne⟩
theorem DrawAt.mono {H : Hp} {d w c : Addr} {n m : Nat} (h : DrawAt H d w c n) (hn : n ≤ m) : DrawAt H d w c m := by
  obtain ⟨⟨r, t, a1, a2, e⟩, h2, h3, ne⟩ := h
  exact ⟨⟨r, t, a1, by omega, e⟩, h2, h3, ne⟩
theorem dp_ints {K : PySem.W.Frag} {H : Hp} : ∀ ns : List Int, DpAll K H (ns.map V.int) (ns.map PyData.int)
  | [] => .nil
  | n :: ns => .cons (.int n) (dp_ints ns)
theorem canLay_ints : ∀ ns : List Int, PyData.canLayAll0 (ns.map PyData.int) = true
  | [] => rfl
  | n :: ns => by
    rw [List.map_cons]
    simp only [PyData.canLayAll0, PyData.canLay0, canLay_ints ns, Bool.and_self]
theorem depth_ints : ∀ ns : List Int, (PyData.list (ns.map PyData.int)).depth ≤ 2 := by
  intro ns
  have h : ∀ l : List Int, PyData.depthAll (l.map PyData.int) = 0 := by
    intro l
    induction l with
    | nil => rfl
    | cons n l ih => rw [List.map_cons]; simp only [PyData.depthAll, PyData.depth, ih]; rfl
  simp only [PyData.depth, h]
  decide
theorem shaped_ints (ns : List Int) : SeqAt.shaped (.list (ns.map PyData.int)) = true := by
  show (PyData.canLay0 _ && decide _) = true
  rw [Bool.and_eq_true]
  refine ⟨?_, decide_eq_true (Nat.le_trans (depth_ints ns) (by decide))⟩
  simp only [PyData.canLay0, canLay_ints]
theorem seq0 {α : Type} (x : α) (xs : List α) : seqIndex? 0 (x :: xs).length = some 0 := by
  unfold seqIndex?
  simp
theorem DrawAt.setR {H : Hp} {d w c : Addr} {n : Nat} {r t x : Int} (h : DrawAt H d w c n) (e : H d = some (.dK (dkv w c r t))) : DrawAt (upd H d (.dK (dkv w c x t))) d w c n := by
  have h1 := h.dw
  have h2 := h.dc
  obtain ⟨⟨r', t', a1, a2, e'⟩, ⟨ws, e2⟩, ⟨cs, e3⟩, ne⟩ := h
  have et : t = t' := by
    rw [e] at e'
    injection e' with e'
    injection e' with e'
    have := congrArg (fun l => valV l kT) e'
    simp only [dkv_t] at this
    injection this with this
    injection this
  exact ⟨⟨x, t, by omega, by omega, upd_same⟩, ⟨ws, by rw [upd_ne h1.symm]; exact e2⟩, ⟨cs, by rw [upd_ne h2.symm]; exact e3⟩, ne⟩
/-- one more long number -/
def spMixed : Sp := fun vs H Q _ => ∃ (d w c : Addr) (n : Nat), vs = [.ref d] ∧ DrawAt H d w c n ∧ n < 2 ^ 40 ∧ ∀ (i : Int) (H' : Hp), DrawAt H' d w c (n + 1) → But2 d w H H' → Q (.int i) H'
/-- a number from 0 to many - 1 -/
def spTake : Sp := fun vs H Q _ => ∃ (d w c : Addr) (n : Nat) (m : Int), vs = [.ref d, .int m] ∧ DrawAt H d w c n ∧ n < 2 ^ 40 ∧ 0 < m ∧ m < 2 ^ 62 ∧ ∀ (i : Int) (H' : Hp), 0 ≤ i → i < m → DrawAt H' d w c (n + 1) → But2 d w H H' → Q (.int i) H'
section
variable {P : Program} {w0 : World} {K : PySem.W.Frag} {mg : Str → Option Value} {base : Heap}
theorem ok_take {f fM : Addr} {fd fdM : FuncData} (F : Fun K "_law_take" "_law_take" s__law_take f fd) (FM : Fun K "_law_mixed" "_law_mixed" s__law_mixed fM fdM) (bM : Binds K fdM ["draw"] []) (gM : mg "_law_mixed" = some (.ref fM)) (gi : mg "int" = none)
    (GM : FnOk P w0 K mg base CX0 1 fM fdM ["draw"] spMixed) : FnOk P w0 K mg base CX0 2 f fd ["draw", "many"] spTake := by
  refine F.ok sc__law_take (fun vs H Q E h => ?_) (fun cdv A outer s H vs Q E hr h => ?_)
  · obtain ⟨d, w, c, n, m, rfl, _⟩ := h
    rfl
  · obtain ⟨d, w, c, n, m, rfl, hD, hn, hm0, hm, k⟩ := h
    have hu := hu_of hr
    refine ⟨_, Evl.pss_cut (ps_if (pt_cmpR op_eq (pe_dget hu (pv 0) pe_str (fun _ _ => rfl)) pe_int (nomark _))
        (pss_one (ps_dput hu (pv 0) pe_str (pe_ifExp (pt_cmpR (op_neD hr.units) (pe_dget hu (pv 0) pe_str (fun _ _ => rfl)) (pe_lst pa_nil) (nomark _))
          (pe_bm PySem.F.plainAttrs_list PySem.F.slot_list_pop PySem.F.type_list_pop mt_popAt (pe_dget hu (pv 0) pe_str (fun _ _ => rfl)) (pa_cons pe_int pa_nil))
          (pe_call GM hr (by rfl) gM FM.kp bM .nil pass0 (pa_cons (pv 0) pa_nil))) rfl)) pss_nil)
      (pss_cons (ps_set (i := 2) sc__law_take.nd rfl (.inl rfl) (pe_op op_mod (pe_callTy call_int1 (by rfl) gi PySem.Pv.boot_int (pa_cons (pe_dget hu (pv 0) pe_str (fun _ _ => rfl)) pa_nil)) (pv 1)))
      (pss_cons (ps_dput hu (pv 0) pe_str (pe_op op_fdivW (pe_dget hu (pv 0) pe_str (fun _ _ => rfl)) (pv 1)) rfl)
      (pss_one (ps_ret (pv 2))))), ?_⟩
    obtain ⟨⟨r, t, ht0, htn, hd⟩, ⟨ws, hw⟩, ⟨cs, hc⟩, ne⟩ := id hD
    have hdw : d ≠ w := hD.dw
    refine ⟨fun σ H1 => σ = [some (.ref d), some (.int m), none] ∧ DrawAt H1 d w c (n + 1) ∧ But2 d w H H1, ?_, ?_⟩
    · refine ⟨_, rfl, d, _, rfl, get_r hd, rfl, _, rfl, ?_⟩
      refine ite2 (fun _ => ?_) (fun _ => ?_)
      · -- draw['wide'] != []
        refine ⟨_, rfl, d, _, rfl, get_w hd, Nat.zero_le _, fun p hp => ?_⟩
        have hd1 : (upd H p (.lst [])) d = some (.dK (dkv w c r t)) := by rw [upd_ne (ne_of_none hd hp)]; exact hd
        have hw1 : (upd H p (.lst [])) w = some (.lst (ws.map V.int)) := by rw [upd_ne (ne_of_none hw hp)]; exact hw
        have hD1 : DrawAt (upd H p (.lst [])) d w c n := hD.new hp
        refine ⟨_, _, .lst (SqL.of hw1) (dp_ints ws), .lst (SqL.of upd_same) .nil, shaped_ints ws, rfl, _, rfl, ?_⟩
        cases ws with
        | nil =>
          refine iteF ?_
          refine ⟨_, rfl, d, w, c, n, rfl, hD1, hn, fun i H2 hD2 b2 => ?_⟩
          obtain ⟨⟨r2, t2, a1, a2, e2⟩, q2, q3, q4⟩ := id hD2
          refine ⟨_, rfl, d, _, rfl, DPut.k (k := kR) e2 (by show 4 < sizeLine; decide), ?_⟩
          rw [dkv_putR]
          exact ⟨rfl, hD2.setR e2, ((But2.refl d w H).new hp |>.trans b2).d⟩
        | cons x ws =>
          refine iteT ?_
          refine ⟨_, rfl, d, _, rfl, get_w hd1, Or.inl ⟨rfl, _, SqL.of hw1⟩, w, _, 0, 0, _, rfl, rfl, hw1, by decide, by decide, seq0 _ _, rfl, ?_⟩
          have hd2 : ∀ o, (upd (upd H p (.lst [])) w o) d = some (.dK (dkv w c r t)) := fun o => by rw [upd_ne hdw]; exact hd1
          refine ⟨_, rfl, d, _, rfl, DPut.k (k := kR) (hd2 _) (by show 4 < sizeLine; decide), ?_⟩
          rw [dkv_putR]
          refine ⟨rfl, ⟨⟨x, t, ht0, by omega, upd_same⟩, ⟨ws, ?_⟩, ⟨cs, ?_⟩, ne⟩, (((But2.refl d w H).new hp).w).d⟩
          · rw [upd_ne hdw.symm, upd_same]
            rfl
          · rw [upd_ne hD.dc.symm, upd_ne ne.symm, upd_ne (ne_of_none hc hp)]
            exact hc
      · exact ⟨rfl, hD.mono (Nat.le_succ n), But2.refl d w H⟩
    · rintro σ H1 ⟨rfl, hD1, b1⟩
      obtain ⟨⟨r1, t1, a1, a2, e1⟩, q2, q3, q4⟩ := id hD1
      refine ⟨_, rfl, d, _, rfl, get_r e1, .inl ⟨r1, rfl, _, rfl, r1, m, rfl, rfl, hm0, ?_⟩⟩
      refine ⟨_, rfl, d, _, rfl, get_r e1, _, rfl, r1, m, rfl, rfl, wide_div (b := 62) hm0 (by omega) (by decide) (by decide), _, rfl, d, _, rfl, DPut.k (k := kR) e1 (by show 4 < sizeLine; decide), ?_⟩
      rw [dkv_putR]
      exact ⟨_, rfl, k _ _ (Int.emod_nonneg _ (by omega)) (Int.emod_lt_of_pos _ hm0) (hD1.setR e1) b1.d⟩
def primes : List Int := [2147483629, 2147483587, 2147483579, 2147483563]
theorem prime_bd {i : Nat} {x : V} (h : (primes.map V.int)[i]? = some x) : ∃ p : Int, x = .int p ∧ 2147483563 ≤ p ∧ p ≤ 2147483629 := by
  have hx : x ∈ primes.map V.int := List.mem_of_getElem? h
  obtain ⟨p, hp, rfl⟩ := List.mem_map.mp hx
  refine ⟨p, rfl, ?_⟩
  simp [primes] at hp
  omega
theorem ok_mixed {f : Addr} {fd : FuncData} (F : Fun K "_law_mixed" "_law_mixed" s__law_mixed f fd) (gi : mg "int" = none) : FnOk P w0 K mg base CX0 1 f fd ["draw"] spMixed := by
  refine F.ok sc__law_mixed (fun vs H Q E h => ?_) (fun cdv A outer s H vs Q E hr h => ?_)
  · obtain ⟨d, w, c, n, rfl, _⟩ := h
    rfl
  · obtain ⟨d, w, c, n, rfl, hD, hn, k⟩ := h
    have hu := hu_of hr
    refine ⟨_, pss_cons (ps_par (i := 1) (j := 2) rfl sc__law_mixed.nd rfl rfl (by decide) rfl rfl (pa_cons (pe_op op_add (pe_dget hu (pv 0) pe_str (fun _ _ => rfl)) pe_int) (pa_cons pe_int pa_nil)) rfl)
      (pss_cons (ps_dput hu (pv 0) pe_str (pv 1) rfl)
      (pss_cons (ps_for PassesOwn.never rfl (pi_list (pe_lst (pa_cons pe_int (pa_cons pe_int (pa_cons pe_int (pa_cons pe_int pa_nil)))))) (pg_name (i := 3) sc__law_mixed.nd rfl (.inl rfl))
        (pss_cons (ps_set (i := 4) sc__law_mixed.nd rfl (.inl rfl) (pe_op op_add (pe_op op_mul pe_int (pv 1)) (pe_op op_fdiv (pv 3) pe_int)))
        (pss_cons (ps_for PassesOwn.never rfl (pi_list (pe_dget hu (pv 0) pe_str (fun _ _ => rfl))) (pg_name (i := 5) sc__law_mixed.nd rfl (.inl rfl))
          (pss_one (ps_set (i := 4) sc__law_mixed.nd rfl (.inl rfl) (pe_op op_mod (pe_callTy call_int1 (by rfl) gi PySem.Pv.boot_int (pa_cons (pe_op op_add (pe_op op_add (pe_op op_mul (pv 4) pe_int) (pv 5)) (pv 1)) pa_nil)) (pv 3)))))
        (pss_one (ps_set (i := 2) sc__law_mixed.nd rfl (.inl rfl) (pe_op op_add (pe_op op_mul (pv 2) pe_int) (pe_op op_mod (pe_callTy call_int1 (by rfl) gi PySem.Pv.boot_int (pa_cons (pe_op op_pow (pv 4) pe_int) pa_nil)) (pv 3))))))))
      (pss_one (ps_ret (pv 2))))), ?_⟩
    obtain ⟨⟨r, t, ht0, htn, hd⟩, ⟨ws, hw⟩, ⟨cs, hc⟩, ne⟩ := id hD
    refine ⟨_, rfl, d, _, rfl, get_t hd, _, _, rfl, rfl, _, _, rfl, ?_⟩
    refine ⟨_, rfl, _, rfl, d, _, rfl, DPut.k (k := kT) hd (by show 4 < sizeLine; decide), ?_⟩
    rw [dkv_putT]
    have hD1 : DrawAt (upd H d (.dK (dkv w c r (t + 1)))) d w c (n + 1) := ⟨⟨r, t + 1, by omega, by omega, upd_same⟩, ⟨ws, by rw [upd_ne hD.dw.symm]; exact hw⟩, ⟨cs, by rw [upd_ne hD.dc.symm]; exact hc⟩, ne⟩
    have b1 : But2 d w H (upd H d (.dK (dkv w c r (t + 1)))) := (But2.refl d w H).d
    refine ⟨by show 4 ≤ sizeLine; decide, fun p hp => ?_⟩
    have hD2 := hD1.new (o := HO.lst (primes.map V.int)) hp
    have b2 := b1.new (o := HO.lst (primes.map V.int)) hp
    have hd2 : (upd (upd H d (.dK (dkv w c r (t + 1)))) p (.lst (primes.map V.int))) d = some (.dK (dkv w c r (t + 1))) := by
      rw [upd_ne (ne_of_none (upd_same (o := HO.dK (dkv w c r (t + 1)))) hp), upd_same]
    have hc2 : (upd (upd H d (.dK (dkv w c r (t + 1)))) p (.lst (primes.map V.int))) c = some (.lst (cs.map V.int)) := by
      have hc1 : (upd H d (.dK (dkv w c r (t + 1)))) c = some (.lst (cs.map V.int)) := by rw [upd_ne hD.dc.symm]; exact hc
      rw [upd_ne (ne_of_none hc1 hp)]
      exact hc1
    have hp2 : (upd (upd H d (.dK (dkv w c r (t + 1)))) p (.lst (primes.map V.int))) p = some (.lst (primes.map V.int)) := upd_same
    refine ⟨p, rfl, ⟨_, SqL.of hp2⟩, for_list (K := K) (a := p) (xs := primes.map V.int) (fun i σ H' => H' = upd (upd H d (.dK (dkv w c r (t + 1)))) p (.lst (primes.map V.int)) ∧ ∃ (f : Int) (x y z : Option V), σ = [some (.ref d), some (.int (t + 1)), some (.int f), x, y, z])
      ⟨rfl, 0, none, none, none, rfl⟩ (fun i σ H' _ ⟨e, _⟩ => e ▸ SqL.of hp2) ?_ ?_⟩
    · rintro i x σ H' hx ⟨rfl, f, y3, y4, y5, rfl⟩
      obtain ⟨q, rfl, q1, q2⟩ := prime_bd hx
      refine ⟨_, rfl, _, _, rfl, rfl, .inl ⟨by decide, by decide⟩, _, rfl, _, _, rfl, rfl, ⟨by decide, by decide⟩, _, _, rfl, rfl, ?_⟩
      -- the inner loop: blend is never far
      refine ⟨_, rfl, d, _, rfl, get_c hd2, c, rfl, ⟨_, SqL.of hc2⟩, for_list (K := K) (a := c) (xs := cs.map V.int) (fun i σ H' => H' = upd (upd H d (.dK (dkv w c r (t + 1)))) p (.lst (primes.map V.int)) ∧ ∃ (b : Int) (z : Option V), 0 ≤ b ∧ b < 2 ^ 62 ∧ σ = [some (.ref d), some (.int (t + 1)), some (.int f), some (.int q), some (.int b), z])
        ⟨rfl, _, y5, ?_, ?_, rfl⟩ (fun i σ H' _ ⟨e, _⟩ => e ▸ SqL.of hc2) ?_ ?_⟩
      · omega
      · omega
      · rintro i x σ H' hx ⟨rfl, b, z, hb0, hb, rfl⟩
        obtain ⟨v, hv⟩ : ∃ v : Int, x = .int v := by
          have hm : x ∈ cs.map V.int := List.mem_of_getElem? hx
          obtain ⟨v, _, e⟩ := List.mem_map.mp hm
          exact ⟨v, e.symm⟩
        subst hv
        refine ⟨_, rfl, _, _, rfl, rfl, .inr ⟨by decide, by decide⟩, _, rfl, _, _, rfl, rfl, _, rfl, _, _, rfl, rfl, .inl ⟨_, rfl, _, rfl, _, _, rfl, rfl, (show (0 : Int) < q by omega), ?_⟩⟩
        exact ⟨rfl, _, _, Int.emod_nonneg _ (by omega), Int.lt_of_lt_of_le (Int.emod_lt_of_pos _ (by omega)) (by omega), rfl⟩
      · rintro σ H' ⟨rfl, b, z, hb0, hb, rfl⟩
        refine ⟨_, rfl, _, _, rfl, rfl, .inr ⟨by decide, by decide⟩, _, rfl, _, _, rfl, rfl, ⟨by decide, by decide, by omega⟩, .inl ⟨_, rfl, _, rfl, _, _, rfl, rfl, (show (0 : Int) < q by omega), _, _, rfl, rfl, ?_⟩⟩
        exact ⟨rfl, _, _, _, _, rfl⟩
    · rintro σ H' ⟨rfl, f, x, y, z, rfl⟩
      exact ⟨_, rfl, k _ _ hD2 b2⟩
/-- one of a list's items -/
def spPick (K : PySem.W.Frag) : Sp := fun vs H Q _ => ∃ (d w c a : Addr) (n : Nat) (xs : List V), vs = [.ref d, .ref a] ∧ DrawAt H d w c n ∧ n < 2 ^ 40 ∧ a ≠ d ∧ a ≠ w ∧ SqL K H a xs ∧ xs ≠ [] ∧ xs.length < 2 ^ 29 ∧
  ∀ (x : V) (H' : Hp), x ∈ xs → DrawAt H' d w c (n + 1) → But2 d w H H' → Q x H'
theorem But2.seq {d w a : Addr} {H H' : Hp} {xs : List V} (b : But2 d w H H') (h1 : a ≠ d) (h2 : a ≠ w) (h : SqL K H a xs) : SqL K H' a xs := by
  rcases h with (h | ⟨o, h⟩) | h
  · exact .inl (.inl (b _ _ h h1 h2))
  · exact .inl (.inr ⟨o, b _ _ h h1 h2⟩)
  · exact .inr h
theorem ok_pick {f fT : Addr} {fd fdT : FuncData} (F : Fun K "_law_pick" "_law_pick" s__law_pick f fd) (FT : Fun K "_law_take" "_law_take" s__law_take fT fdT) (bT : Binds K fdT ["draw", "many"] []) (gT : mg "_law_take" = some (.ref fT)) (gl : mg "len" = none)
    (GT : FnOk P w0 K mg base CX0 2 fT fdT ["draw", "many"] spTake) : FnOk P w0 K mg base CX0 3 f fd ["draw", "some"] (spPick K) := by
  refine F.ok sc__law_pick (fun vs H Q E h => ?_) (fun cdv A outer s H vs Q E hr h => ?_)
  · obtain ⟨d, w, c, a, n, xs, rfl, _⟩ := h
    rfl
  · obtain ⟨d, w, c, a, n, xs, rfl, hD, hn, ad, aw, hS, hx, hl, k⟩ := h
    refine ⟨_, pss_one (ps_ret (pe_ix ix_list (pv 1) (pe_call GT hr (by rfl) gT FT.kp bT .nil pass0 (pa_cons (pv 0) (pa_cons (pe_callB call_len_seq (by rfl) gl PySem.boot_len (pa_cons (pv 1) pa_nil)) pa_nil))) (fun _ _ => rfl))), ?_⟩
    have h0 : 0 < xs.length := List.length_pos_iff.mpr hx
    refine ⟨_, rfl, _, rfl, _, rfl, a, xs, rfl, .inl hS, d, w, c, n, xs.length, rfl, hD, hn, by omega, by omega, fun i H1 i0 i1 hD1 b1 => ?_⟩
    have hi : i.toNat < xs.length := by omega
    refine ⟨a, xs, i, xs[i.toNat], rfl, rfl, b1.seq ad aw hS, ?_, k _ _ (List.getElem_mem hi) hD1 b1⟩
    obtain ⟨j, rfl⟩ := Int.eq_ofNat_of_zero_le i0
    exact atI_nat (List.getElem?_eq_getElem (by omega))
/-- the state of all draws -/
def spBegun (K : PySem.W.Frag) : Sp := fun vs H Q _ => ∃ (a : Addr) (ns : List Int), vs = [.ref a] ∧ SqL K H a (ns.map V.int) ∧ ns.length ≤ 63 ∧ ∀ (d w c : Addr) (H' : Hp), H d = none → H w = none → H c = none → DrawAt H' d w c 0 → Same H H' → Q (.ref d) H'
theorem ok_begun {f : Addr} {fd : FuncData} (F : Fun K "_law_begun" "_law_begun" s__law_begun f fd) (gi : mg "int" = none) (ga : mg "abs" = none) : FnOk P w0 K mg base CX0 1 f fd ["script"] (spBegun K) := by
  refine F.ok sc__law_begun (fun vs H Q E h => ?_) (fun cdv A outer s H vs Q E hr h => ?_)
  · obtain ⟨a, ns, rfl, _⟩ := h
    rfl
  · obtain ⟨a, ns, rfl, hS, hl, k⟩ := h
    have hu := hu_of hr
    refine ⟨_, pss_cons (ps_setLc (i := 1) (own := [("cell", 2)]) (g := gName 2) (tt := _) (by rfl) sc__law_begun.nd rfl rfl (sw_true rfl rfl rfl (by decide +kernel)) (pi_list (pv 0)) (blkOk_by (N := n__law_begun) (sc := defScope s__law_begun) (by decide +kernel))
        (fun _ _ _ _ _ => pg_name (i := 2) sc__law_begun.nd rfl (Or.inl rfl))
        (fun _ _ _ _ _ => pts_one (pt_cmpR op_ge (pe_callB call_abs (by rfl) ga (by decide +kernel) (pa_cons (pv 2) pa_nil)) (pe_op op_pow pe_int pe_int) (nomark _)))
        (fun _ _ _ _ _ => pe_op op_sub (pe_callB call_abs (by rfl) ga (by decide +kernel) (pa_cons (pv 2) pa_nil)) (pe_op op_pow pe_int pe_int)))
      (pss_one (ps_ret (pe_disp (pps_cons pe_str (pv 1) (pps_cons pe_str (pe_lc (own := [("cell", 2)]) (g := gName 2) (tt := tYes) (by rfl) sc__law_begun.nd (pi_list (pv 0)) (blkOk_by (N := n__law_begun) (sc := defScope s__law_begun) (by decide +kernel))
          (fun _ _ _ _ _ => pg_name (i := 2) sc__law_begun.nd rfl (Or.inl rfl)) (fun _ _ _ _ _ => pts_nil)
          (fun _ _ _ _ _ => pe_op op_mod (pe_callTy call_int1 (by rfl) gi PySem.Pv.boot_int (pa_cons (pe_callB call_abs (by rfl) ga (by decide +kernel) (pa_cons (pv 2) pa_nil)) pa_nil)) pe_int))
        (pps_cons pe_str pe_int (pps_cons pe_str pe_int pps_nil)))) (by rfl) (by rfl) (fun z => by cases z) (by decide)))), ?_⟩
    have h18 : CPow 10 18 := ⟨by decide, by decide, by decide⟩
    have hint : ∀ (i : Nat) (x : V), (ns.map V.int)[i]? = some x → ∃ v : Int, x = .int v := fun i x hx => by
      obtain ⟨v, _, e⟩ := List.mem_map.mp (List.mem_of_getElem? hx)
      exact ⟨v, e.symm⟩
    refine ⟨_, rfl, a, rfl, ⟨_, hS⟩, fun w hw => lc_list (K := K) (a := a) (xs := ns.map V.int) (fun i H' => Same H H' ∧ ∃ ws : List Int, H' w = some (.lst (ws.map V.int)) ∧ ws.length ≤ i)
      ⟨Same.new hw, [], upd_same, Nat.le_refl _⟩ (fun i H' _ ⟨e, _⟩ => e.seq hS) ?_ ?_⟩
    · rintro i x H' hx ⟨s1, ws, hw1, hwl⟩
      obtain ⟨v, rfl⟩ := hint i x hx
      have hi : i < ns.length := by
        have := (List.getElem?_eq_some_iff.mp hx).1
        rw [List.length_map] at this
        exact this
      refine ⟨rfl, _, rfl, _, rfl, _, _, rfl, rfl, h18, _, _, rfl, rfl, _, rfl, ite2 (fun _ => ?_) (fun _ => ?_)⟩
      · refine ⟨_, rfl, _, rfl, _, _, rfl, rfl, h18, _, _, rfl, rfl, _, hw1, small1000 (by rw [List.length_map]; omega), fun b o e => ?_, ws ++ [(if v < 0 then -v else v) - 10 ^ 18], ?_, ?_⟩
        · rw [upd_ne (ne_of_none e hw)]
          exact s1 b o e
        · rw [upd_same, List.map_append]
          rfl
        · rw [List.length_append, List.length_singleton]
          omega
      · exact ⟨s1, ws, hw1, by omega⟩
    · rintro H1 ⟨s1, ws, hw1, hwl⟩
      intro d hd
      have nd : d ≠ w := fun z => by rw [z, hw1] at hd; cases hd
      have s2 : Same H (upd H1 d (.dK [])) := s1.trans (Same.new hd)
      have hw2 : (upd H1 d (.dK [])) w = some (.lst (ws.map V.int)) := by rw [upd_ne nd.symm]; exact hw1
      refine ⟨_, rfl, _, rfl, a, rfl, ⟨_, s2.seq hS⟩, fun c hc => lc_list (K := K) (a := a) (xs := ns.map V.int) (fun i H' => Same (upd H1 d (.dK [])) H' ∧ ∃ cs : List Int, H' c = some (.lst (cs.map V.int)) ∧ cs.length ≤ i)
        ⟨Same.new hc, [], upd_same, Nat.le_refl _⟩ (fun i H' _ ⟨e, _⟩ => e.seq (s2.seq hS)) ?_ ?_⟩
      · rintro i x H' hx ⟨s3, cs, hc1, hcl⟩
        obtain ⟨v, rfl⟩ := hint i x hx
        have hi : i < ns.length := by
          have := (List.getElem?_eq_some_iff.mp hx).1
          rw [List.length_map] at this
          exact this
        refine ⟨rfl, yes ?_⟩
        refine ⟨_, rfl, _, rfl, .inl ⟨_, rfl, _, _, rfl, rfl, (by show (0 : Int) < 2147483629; decide), _, hc1, small1000 (by rw [List.length_map]; omega), fun b o e => ?_, cs ++ [(if v < 0 then -v else v) % 2147483629], ?_, ?_⟩⟩
        · rw [upd_ne (ne_of_none e hc)]
          exact s3 b o e
        · rw [upd_same, List.map_append]
          rfl
        · rw [List.length_append, List.length_singleton]
          omega
      · rintro H3 ⟨s3, cs, hc3, hcl⟩
        have hd3 : H3 d = some (.dK []) := s3 _ _ upd_same
        have hw3 : H3 w = some (.lst (ws.map V.int)) := s3 _ _ hw2
        have ndc : c ≠ d := fun z => by rw [z, upd_same] at hc; cases hc
        have nwc : w ≠ c := fun z => by rw [← z, hw2] at hc; cases hc
        refine ⟨hd3, [(kW, .ref w), (kC, .ref c), (kR, .int 0), (kT, .int 0)], rfl, (by show 4 ≤ 15; decide), ?_⟩
        rw [merge4]
        refine k d w c _ (s1.free hd) hw ?_ ⟨⟨0, 0, by decide, by decide, upd_same⟩, ⟨ws, ?_⟩, ⟨cs, ?_⟩, nwc⟩ fun b o e => ?_
        · exact s2.free hc
        · rw [upd_ne nd.symm]
          exact hw3
        · rw [upd_ne ndc]
          exact hc3
        · rw [upd_ne (ne_of_none e (s1.free hd))]
          exact s3 _ _ (s2 _ _ e)
end
end SA

set_option Elab.async false
set_option linter.all false
set_option maxRecDepth 100000
set_option maxHeartbeats 4000000
namespace SA
open PySem PySem.Spec PyProof.Rows L2
/-! ### repr of any data -/
def rReprA (K : PySem.W.Frag) : List V → Hp → VK → Prop := fun xs H Q => ∃ (x : V) (d : PyData), xs = [x] ∧ Dx K H x d ∧ d.showable = true ∧ d.shown.length ≤ sizeLine ∧ d.depth ≤ 60 ∧ Q (.str d.shown) H
theorem call_reprA {X : Cx} (S : SysK X.K) (hg : X.A.guards = some []) (hu : X.A.units + 64 < cLine) : CallR X (.builtin "repr") (rReprA X.K) := by
  intro pins s σ H xs us Q I r h
  obtain ⟨x, d, rfl, hd, hs, hz, hp, q⟩ := h
  obtain ⟨u, rfl, ru⟩ := vals1 r
  cases hd with
  | non =>
    obtain rfl : u = Value.none := ru
    exact PySem.P.repr_of_none ⟨.str "None", H, I.tok _, ⟨_, rfl⟩, q⟩
  | bl b =>
    obtain rfl : u = Value.bool b := ru
    exact PySem.P.repr_of_bool ⟨.str (if b then "True" else "False"), H, I.tok _, ⟨_, rfl⟩, q⟩
  | int i =>
    obtain ⟨t, rfl⟩ := ru
    have hs : i.natAbs.log2 < 1920 := by simpa [PyData.showable] using hs
    refine PySem.P.repr_of_int hs ⟨.str (toString i), H, I.tok _, ⟨_, rfl⟩, q⟩
  | str z =>
    obtain ⟨t, rfl⟩ := ru
    refine PySem.P.repr_of_str ⟨.str (reprText z), H, I.tok _, ⟨_, rfl⟩, q⟩ ?_
    simpa only [PyData.shown] using hz
  | lst h1 h2 => exact call_repr S hg hu pins s σ H _ _ Q I r ⟨_, _, rfl, .lst h1 h2, hs, hz, hp, q⟩
  | tup h1 h2 => exact call_repr S hg hu pins s σ H _ _ Q I r ⟨_, _, rfl, .tup h1 h2, hs, hz, hp, q⟩
  | dct h1 h2 h3 => exact call_repr S hg hu pins s σ H _ _ Q I r ⟨_, _, rfl, .dct h1 h2 h3, hs, hz, hp, q⟩
/-- data that repr shows -/
def Gd (d : PyData) : Prop := d.showable = true ∧ d.shown.length ≤ sizeLine ∧ d.depth ≤ 60
theorem gd_of {d : PyData} (h1 : d.showable = true) (h2 : d.leavesShort 40 = true) (h3 : d.weight ≤ 10000) (h4 : d.depth ≤ 60) : Gd d := by
  refine ⟨h1, ?_, h4⟩
  have := PyData.shown_le 40 (by decide) d h2
  have := sizeLine_eq
  omega
theorem gd_none : Gd .none := gd_of rfl rfl (by decide) (by decide)
theorem gd_str {z : Str} (hl : z.length ≤ 1000) (hc : ∀ c ∈ z.cps.toList, c < 128) : Gd (.str z) := by
  refine gd_of rfl ?_ ?_ (by show 0 ≤ 60; decide)
  · show (z.cps.toList.all fun c => decide (c < 16 ^ 8)) = true
    rw [List.all_eq_true]
    intro c h
    have h1 := hc c h
    have : (128 : Nat) ≤ 16 ^ 8 := by decide
    exact decide_eq_true (by omega)
  · show z.cps.size ≤ 10000
    have hl : z.cps.size ≤ 1000 := hl
    omega
theorem int_leaf {i : Int} (h : i.natAbs < 2 ^ 120) : PyData.leavesShort 40 (.int i) = true ∧ PyData.weight (.int i) ≤ 200 ∧ i.natAbs.log2 < 1920 := by
  have hl : i.natAbs.log2 < 120 := by
    by_cases h0 : i.natAbs = 0
    · rw [h0]
      decide
    · exact (Nat.log2_lt h0).mpr h
  refine ⟨?_, ?_, by omega⟩
  · have e := int_text_length_le10 (a := i) (k := 39) (by decide) (Nat.lt_of_lt_of_le h (by decide))
    show decide ((Str.ofString (toString i)).length ≤ 40) = true
    rw [PySem.ofString_length]
    exact decide_eq_true e
  · show (if i == 0 then 0 else i.natAbs.log2 + 1) ≤ 200
    split <;> omega
theorem gd_int {i : Int} (h : i.natAbs < 2 ^ 120) : Gd (.int i) := by
  obtain ⟨h1, h2, h3⟩ := int_leaf h
  refine gd_of ?_ h1 (by omega) (by show 0 ≤ 60; decide)
  simpa [PyData.showable] using h3
theorem gd_pair {a b : Int} (ha : a.natAbs < 2 ^ 120) (hb : b.natAbs < 2 ^ 120) : Gd (.tuple [.int a, .int b]) := by
  obtain ⟨a1, a2, a3⟩ := int_leaf ha
  obtain ⟨b1, b2, b3⟩ := int_leaf hb
  refine gd_of ?_ ?_ ?_ (by simp [PyData.depth, PyData.depthAll])
  · simp [PyData.showable, PyData.showableAll, a3, b3]
  · simp only [PyData.leavesShort, PyData.leavesShortAll] at a1 b1 ⊢
    simp [a1, b1]
  · simp only [PyData.weight, PyData.weightAll] at a2 b2 ⊢
    omega
/-- a value with its data, so far as repr goes -/
structure Sh (K : PySem.W.Frag) (H : Hp) (x : V) (d : PyData) : Prop where
  dx : Dx K H x d
  gd : Gd d
theorem Sh.rd {K : PySem.W.Frag} {H : Hp} {x : V} {d : PyData} {Q : VK} (h : Sh K H x d) (q : Q (.str d.shown) H) : rReprA K [x] H Q := ⟨x, d, rfl, h.dx, h.gd.1, h.gd.2.1, h.gd.2.2, q⟩
end SA

set_option linter.all false
namespace K82
abbrev L := List Nat
/-- a list of binary digits, as codes -/
def IsB (l : L) : Prop := ∀ c ∈ l, c = 48 ∨ c = 49
def dv (c : Nat) : Nat := c - 48
def bval (l : L) : Nat := l.foldl (fun a c => 2 * a + dv c) 0
/-- binary digits of a number below 2^k, k of them -/
def bdig : Nat → Nat → L
  | 0, _ => []
  | k + 1, n => bdig k (n / 2) ++ [48 + n % 2]
theorem bdig_len : ∀ k n, (bdig k n).length = k
  | 0, _ => rfl
  | k + 1, n => by simp [bdig, bdig_len k]
theorem bdig_isB : ∀ k n, IsB (bdig k n)
  | 0, _ => by intro c h; simp [bdig] at h
  | k + 1, n => by
    intro c h
    simp only [bdig, List.mem_append, List.mem_singleton] at h
    rcases h with h | h
    · exact bdig_isB k _ c h
    · omega
theorem bval_snoc (l : L) (c : Nat) : bval (l ++ [c]) = 2 * bval l + dv c := by
  unfold bval; rw [List.foldl_append]; rfl
theorem bval_bdig : ∀ k n, n < 2 ^ k → bval (bdig k n) = n
  | 0, n, h => by
    simp at h; subst h; rfl
  | k + 1, n, h => by
    rw [bdig, bval_snoc, bval_bdig k (n / 2) (by rw [Nat.pow_succ] at h; omega)]
    unfold dv
    omega
/-- the first digit -/
theorem bdig_head : ∀ k n, 2 ^ k ≤ n → n < 2 ^ (k + 1) → ∃ r, bdig (k + 1) n = 49 :: r
  | 0, n, h1, h2 => by
    have : n = 1 := by simp at h1 h2; omega
    subst this
    exact ⟨[], rfl⟩
  | k + 1, n, h1, h2 => by
    obtain ⟨r, e⟩ := bdig_head k (n / 2) (by rw [Nat.pow_succ] at h1; omega) (by rw [Nat.pow_succ] at h2; omega)
    exact ⟨r ++ [48 + n % 2], by rw [bdig, e]; rfl⟩
/-- the bits of a count -/
def enc (n : Nat) : L := List.replicate (Nat.log2 (n + 1)) 48 ++ bdig (Nat.log2 (n + 1) + 1) (n + 1)
theorem log_le (n : Nat) : 2 ^ Nat.log2 (n + 1) ≤ n + 1 := Nat.log2_self_le (by omega)
theorem log_lt (n : Nat) : n + 1 < 2 ^ (Nat.log2 (n + 1) + 1) := Nat.lt_log2_self
theorem enc_len (n : Nat) : (enc n).length = 2 * Nat.log2 (n + 1) + 1 := by
  simp [enc, bdig_len]; omega
theorem enc_isB (n : Nat) : IsB (enc n) := by
  intro c h
  simp only [enc, List.mem_append] at h
  rcases h with h | h
  · exact .inl (List.eq_of_mem_replicate h)
  · exact bdig_isB _ _ c h
/-- how many 0 stand ahead -/
def zs (l : L) : Nat := (l.takeWhile (· == 48)).length
/-- what is read at the list's beginning: the count and how many signs it has -/
def dec (l : L) : Option (Nat × Nat) := if 2 * zs l + 1 ≤ l.length then some (bval ((l.drop (zs l)).take (zs l + 1)) - 1, 2 * zs l + 1) else none
theorem zs_rep (k : Nat) (r : L) : zs (List.replicate k 48 ++ 49 :: r) = k := by
  unfold zs
  induction k with
  | zero => simp
  | succ k ih => simp [List.replicate_succ]
theorem zs_all (k : Nat) : zs (List.replicate k 48) = k := by
  unfold zs
  induction k with
  | zero => simp
  | succ k ih => simp [List.replicate_succ]
theorem zs_le (l : L) : zs l ≤ l.length := by
  unfold zs
  induction l with
  | nil => simp
  | cons c l ih => rw [List.takeWhile_cons]; split <;> simp <;> omega
theorem dec_enc (n : Nat) (back : L) : dec (enc n ++ back) = some (n, (enc n).length) := by
  obtain ⟨r, e⟩ := bdig_head (Nat.log2 (n + 1)) (n + 1) (log_le n) (log_lt n)
  have h1 : enc n ++ back = List.replicate (Nat.log2 (n + 1)) 48 ++ 49 :: (r ++ back) := by
    unfold enc; rw [e]; simp
  have hz : zs (enc n ++ back) = Nat.log2 (n + 1) := by rw [h1, zs_rep]
  have hr : r.length = Nat.log2 (n + 1) := by
    have := congrArg List.length e
    rw [bdig_len] at this; simp at this; omega
  unfold dec
  rw [hz, if_pos (by rw [List.length_append, enc_len]; omega), enc_len]
  congr 2
  rw [h1, List.drop_left' (by simp)]
  have : (49 :: (r ++ back)).take (Nat.log2 (n + 1) + 1) = 49 :: r := by
    rw [List.take_succ_cons, List.take_left' hr]
  rw [this, ← e, bval_bdig _ _ (log_lt n)]
  rfl
theorem dec_cut (n c : Nat) (h : c < (enc n).length) : dec ((enc n).take c) = none := by
  have hl := enc_len n
  obtain ⟨r, e⟩ := bdig_head (Nat.log2 (n + 1)) (n + 1) (log_le n) (log_lt n)
  unfold dec
  rw [if_neg]
  have hlen : ((enc n).take c).length = c := by rw [List.length_take]; omega
  rw [hlen]
  by_cases hc : c ≤ Nat.log2 (n + 1)
  · have : (enc n).take c = List.replicate c 48 := by
      unfold enc
      rw [List.take_append_of_le_length (by simp; exact hc), List.take_replicate, Nat.min_eq_left hc]
    rw [this, zs_all]; omega
  · have : (enc n).take c = List.replicate (Nat.log2 (n + 1)) 48 ++ 49 :: r.take (c - Nat.log2 (n + 1) - 1) := by
      unfold enc
      rw [e, List.take_append, List.length_replicate, List.take_of_length_le (by simp; omega)]
      congr 1
      obtain ⟨j, hj⟩ : ∃ j, c - Nat.log2 (n + 1) = j + 1 := ⟨c - Nat.log2 (n + 1) - 1, by omega⟩
      rw [hj, List.take_succ_cons]; rfl
    rw [this, zs_rep]; omega
/-- any number's bits -/
def zig (i : Int) : Nat := if 0 ≤ i then (2 * i).toNat else (-2 * i - 1).toNat
def zag (n : Nat) : Int := if n % 2 = 0 then (n / 2 : Nat) else -(((n + 1) / 2 : Nat) : Int)
theorem zag_zig (i : Int) : zag (zig i) = i := by
  unfold zag zig
  split <;> split <;> omega
/-- Python's binary digits -/
theorem toDig : ∀ (k n : Nat), 2 ^ k ≤ n → n < 2 ^ (k + 1) → (Nat.toDigits 2 n).map Char.toNat = bdig (k + 1) n
  | 0, n, h1, h2 => by
    have : n = 1 := by simp at h1 h2; omega
    subst this
    decide
  | k + 1, n, h1, h2 => by
    have hn : 2 ≤ n := by rw [Nat.pow_succ] at h1; have := Nat.one_le_two_pow (n := k); omega
    rw [Nat.toDigits_of_base_le (by decide) hn, List.map_append, toDig k (n / 2) (by rw [Nat.pow_succ] at h1; omega) (by rw [Nat.pow_succ] at h2; omega)]
    rw [bdig]
    congr 1
    rcases (show n % 2 = 0 ∨ n % 2 = 1 by omega) with h | h <;> rw [h] <;> decide
theorem toDig0 : (Nat.toDigits 2 0).map Char.toNat = [48] := by decide
end K82

set_option Elab.async false
set_option linter.all false
set_option maxHeartbeats 4000000
namespace K82
open PySem PySem.Builtin PySem.Builtin.Str
/-! ### one sign's places in a text -/
abbrev one (c : Nat) : Str := ⟨#[c]⟩
abbrev tl (z : Str) : L := z.cps.toList
theorem hit {x : Str} {c i : Nat} : (i + (one c).length ≤ x.length ∧ subAt x (one c) i = true) ↔ (tl x)[i]? = some c := StrLaws.subAt_one x c i
/-- the loop over all places: what is found -/
theorem occ_list (x : Str) (c : Nat) (lim : Nat) : ∀ (n a : Nat) (st : Array Nat × Nat), st.2 ≤ a →
    (forIn (List.range' a n) st (StrLaws.occBody x (one c) x.length lim)).run.fst.toList = st.1.toList ++ (((List.range' a n).filter fun i => decide ((tl x)[i]? = some c)).take (lim - st.1.size))
  | 0, a, st, h => by simp
  | n + 1, a, st, h => by
    rw [List.range'_succ, List.forIn_cons]
    unfold StrLaws.occBody
    by_cases hc : (tl x)[a]? = some c
    · have hh := hit.mpr hc
      by_cases hs : st.fst.size < lim
      · rw [if_pos ⟨⟨⟨hs, h⟩, hh.1⟩, hh.2⟩]
        show (forIn (List.range' (a + 1) n) (st.fst.push a, a + (one c).length) (StrLaws.occBody x (one c) x.length lim)).run.fst.toList = _
        rw [occ_list x c lim n (a + 1) (st.fst.push a, a + (one c).length) (Nat.le_refl _)]
        obtain ⟨k, hk⟩ : ∃ k, lim - st.fst.size = k + 1 := ⟨lim - st.fst.size - 1, by omega⟩
        rw [List.filter_cons_of_pos (by simpa using hc), hk, List.take_succ_cons]
        simp only [Array.toList_push, Array.size_push, List.append_assoc, List.singleton_append]
        congr 3
        omega
      · rw [if_neg (fun z => hs z.1.1.1)]
        show (forIn (List.range' (a + 1) n) (st.fst, st.snd) (StrLaws.occBody x (one c) x.length lim)).run.fst.toList = _
        rw [occ_list x c lim n (a + 1) (st.fst, st.snd) (by show st.snd ≤ a + 1; omega)]
        have : lim - st.fst.size = 0 := by omega
        rw [this]
        simp
    · rw [if_neg (fun z => hc (hit.mp ⟨z.1.2, z.2⟩))]
      show (forIn (List.range' (a + 1) n) (st.fst, st.snd) (StrLaws.occBody x (one c) x.length lim)).run.fst.toList = _
      rw [occ_list x c lim n (a + 1) (st.fst, st.snd) (by show st.snd ≤ a + 1; omega), List.filter_cons_of_neg (by simpa using hc)]
theorem occ_one (x : Str) (c lo lim : Nat) : occurrences x (one c) lo x.length lim = ((List.range' lo (x.length + 1 - lo)).filter fun i => decide ((tl x)[i]? = some c)).take lim := by
  rw [StrLaws.occ_eq, occ_list x c lim (x.length + 1 - lo) lo (#[], lo) (Nat.le_refl _)]
  simp
/-- the places of a sign in a list, from a on -/
theorem filt (l : L) (c : Nat) : ∀ (n a : Nat), (((List.range' a n).filter fun i => decide (l[i]? = some c)).map fun i => i) = (((List.range' a n).filter fun i => decide (l[i]? = some c))) := by intros; simp
theorem cnt_list (c : Nat) : ∀ (l pre : L), ((List.range' pre.length (l.length + 1)).filter fun i => decide ((pre ++ l)[i]? = some c)).length = l.count c
  | [], pre => by simp [List.range'_succ]
  | d :: l, pre => by
    rw [List.length_cons, List.range'_succ]
    have ih := cnt_list c l (pre ++ [d])
    rw [List.length_append, List.length_singleton, List.append_assoc, List.singleton_append] at ih
    by_cases h : d = c
    · subst h
      rw [List.filter_cons_of_pos (by simp), List.length_cons, ih, List.count_cons_self]
    · rw [List.filter_cons_of_neg (by simp [h]), ih, List.count_cons_of_ne h]
theorem count_one (x : Str) (c : Nat) : Txt.count x (one c) = (((tl x).count c : Nat) : Int) := by
  unfold Txt.count
  rw [occ_one, List.take_of_length_le]
  · have := cnt_list c (tl x) []
    simp only [List.length_nil, List.nil_append] at this
    rw [← this]
    rfl
  · refine Nat.le_trans (List.length_filter_le _ _) ?_
    rw [List.length_range']
    omega
theorem first_list (c : Nat) : ∀ (l pre : L), ((List.range' pre.length (l.length + 1)).filter fun i => decide ((pre ++ l)[i]? = some c)).take 1 = if c ∈ l then [pre.length + (l.takeWhile (· != c)).length] else []
  | [], pre => by simp [List.range'_succ]
  | d :: l, pre => by
    rw [List.length_cons, List.range'_succ]
    have ih := first_list c l (pre ++ [d])
    rw [List.length_append, List.length_singleton, List.append_assoc, List.singleton_append] at ih
    by_cases h : d = c
    · subst h
      rw [List.filter_cons_of_pos (by simp)]
      simp
    · rw [List.filter_cons_of_neg (by simp [h]), ih]
      have h2 : ¬ c = d := fun e => h e.symm
      by_cases hm : c ∈ l
      · rw [if_pos hm, if_pos (List.mem_cons_of_mem _ hm), List.takeWhile_cons, if_pos (by simp [h])]
        simp only [List.length_cons]
        congr 1
        omega
      · rw [if_neg hm, if_neg (by simp [h2, hm])]
theorem find_one (x : Str) (c n : Nat) (hn : n ≤ x.length) : Txt.find3 x (one c) (n : Int) = if c ∈ (tl x).drop n then ((n + (((tl x).drop n).takeWhile (· != c)).length : Nat) : Int) else -1 := by
  have h1 : fromIndex x.length (n : Int) = n := by
    unfold fromIndex
    rw [if_neg (by omega)]
    omega
  unfold Txt.find3
  rw [h1, occ_one]
  have hl : ((tl x).take n).length = n := by rw [List.length_take]; exact Nat.min_eq_left hn
  have := first_list c ((tl x).drop n) ((tl x).take n)
  rw [List.take_append_drop, hl, List.length_drop] at this
  have e : (tl x).length - n + 1 = x.length + 1 - n := by show x.length - n + 1 = _; omega
  rw [e] at this
  rw [this]
  by_cases h : c ∈ (tl x).drop n
  · rw [if_pos h, if_pos h]
  · rw [if_neg h, if_neg h]
end K82

set_option linter.all false
namespace K1
abbrev L := List Nat
def inn (c : Nat) : Bool := decide (97 ≤ c ∧ c ≤ 122) || decide (65 ≤ c ∧ c ≤ 90) || decide (48 ≤ c ∧ c ≤ 57) || decide (c = 95)
def digit (c : Nat) : Bool := decide (48 ≤ c ∧ c ≤ 57)
def okc (c : Nat) : Bool := decide (c = 10) || (decide (32 ≤ c ∧ c ≤ 126) && decide (c ≠ 37))
def blank (c : Nat) : Bool := decide (c = 32) || decide (c = 10)
/-- how long the first word is -/
def wl : L → Nat
  | [] => 1
  | c :: r => if inn c then 1 + (r.takeWhile inn).length else match r with
    | [] => 1
    | d :: q => if c = 45 ∧ digit d = true then 2 + (q.takeWhile inn).length else if d = 61 ∧ (c = 60 ∨ c = 61) then 2 else 1
theorem wl_inn {c : Nat} {r : L} (h : inn c = true) : wl (c :: r) = 1 + (r.takeWhile inn).length := by
  show (if inn c = true then _ else _) = _
  rw [if_pos h]
theorem wl_one {c : Nat} (h : ¬ inn c = true) : wl [c] = 1 := by
  show (if inn c = true then _ else 1) = _
  rw [if_neg h]
theorem wl_two {c d : Nat} {q : L} (h : ¬ inn c = true) : wl (c :: d :: q) = if c = 45 ∧ digit d = true then 2 + (q.takeWhile inn).length else if d = 61 ∧ (c = 60 ∨ c = 61) then 2 else 1 := by
  show (if inn c = true then _ else _) = _
  rw [if_neg h]
theorem wl_pos : ∀ t : L, 1 ≤ wl t
  | [] => Nat.le_refl 1
  | c :: r => by
    by_cases h : inn c = true
    · rw [wl_inn h]
      omega
    · cases r with
      | nil => rw [wl_one h]; omega
      | cons d q =>
        rw [wl_two h]
        split
        · omega
        · split <;> omega
theorem tw_le (p : Nat → Bool) : ∀ l : L, (l.takeWhile p).length ≤ l.length
  | [] => Nat.le_refl 0
  | c :: r => by
    rw [List.takeWhile_cons]
    split
    · have := tw_le p r
      simp only [List.length_cons]
      omega
    · simp
theorem wl_le : ∀ (c : Nat) (r : L), wl (c :: r) ≤ r.length + 1 := by
  intro c r
  by_cases h : inn c = true
  · rw [wl_inn h]
    have := tw_le inn r
    omega
  · cases r with
    | nil =>
      rw [wl_one h]
      simp
    | cons d q =>
      rw [wl_two h]
      have := tw_le inn q
      simp only [List.length_cons]
      split
      · omega
      · split <;> omega
/-- the words of a text with lines and columns -/
def cut : L → Int → Int → List (L × Int × Int)
  | [], _, _ => []
  | c :: r, l, k => if c = 10 then cut r (l + 1) 1 else if c = 32 then cut r l (k + 1) else ((c :: r).take (wl (c :: r)), l, k) :: cut ((c :: r).drop (wl (c :: r))) l (k + wl (c :: r))
termination_by t => t.length
decreasing_by
  · simp
  · simp
  · have h := wl_pos (c :: r)
    simp only [List.length_drop, List.length_cons]
    omega
theorem cut_nl {r : L} {l k : Int} : cut (10 :: r) l k = cut r (l + 1) 1 := by
  rw [cut]
  simp
theorem cut_sp {r : L} {l k : Int} : cut (32 :: r) l k = cut r l (k + 1) := by
  rw [cut]
  simp
theorem cut_w {c : Nat} {r : L} {l k : Int} (h : blank c = false) : cut (c :: r) l k = ((c :: r).take (wl (c :: r)), l, k) :: cut ((c :: r).drop (wl (c :: r))) l (k + wl (c :: r)) := by
  unfold blank at h
  simp only [Bool.or_eq_false_iff, decide_eq_false_iff_not] at h
  rw [cut, if_neg h.2, if_neg h.1]
theorem cut_nil {l k : Int} : cut [] l k = [] := by rw [cut]
/-- a word is no longer than the text -/
theorem cut_len : ∀ (t : L) (l k : Int), ∀ x ∈ cut t l k, x.1.length ≤ t.length := by
  intro t l k
  fun_induction cut t l k with
  | case1 l k => simp
  | case2 r l k ih =>
    intro x hx
    have := ih x hx
    simp only [List.length_cons]
    omega
  | case3 r l k h ih =>
    intro x hx
    have := ih x hx
    simp only [List.length_cons]
    omega
  | case4 c r l k h1 h2 ih =>
    intro x hx
    rcases List.mem_cons.mp hx with rfl | hx
    · simp only [List.length_take]
      omega
    · have := ih x hx
      simp only [List.length_drop] at this
      omega
/-- the whole text is one word -/
theorem cut_one (t : L) (w : L) : cut t 1 1 = [(t, 1, 1)] ↔ ∃ c r, t = c :: r ∧ blank c = false ∧ wl (c :: r) = (c :: r).length := by
  cases t with
  | nil =>
    rw [cut_nil]
    simp
  | cons c r =>
    by_cases hb : blank c = true
    · have h0 : ∀ l k, cut r l k = [(c :: r, 1, 1)] → False := fun l k e => by
        have := cut_len r l k (c :: r, 1, 1) (by rw [e]; simp)
        simp at this
        omega
      unfold blank at hb
      simp only [Bool.or_eq_true, decide_eq_true_eq] at hb
      constructor
      · intro e
        rcases hb with rfl | rfl
        · rw [cut_sp] at e
          exact (h0 _ _ e).elim
        · rw [cut_nl] at e
          exact (h0 _ _ e).elim
      · rintro ⟨c', r', e, h1, _⟩
        cases e
        rcases hb with rfl | rfl
        · exact absurd h1 (by decide)
        · exact absurd h1 (by decide)
    · have hb : blank c = false := by simpa using hb
      rw [cut_w hb]
      have h1 := wl_le c r
      constructor
      · intro e
        refine ⟨c, r, rfl, hb, ?_⟩
        have e1 := (List.cons.inj e).1
        have e2 : (c :: r).take (wl (c :: r)) = c :: r := (Prod.mk.inj e1).1
        have := congrArg List.length e2
        rw [List.length_take] at this
        simp only [List.length_cons] at this ⊢
        omega
      · rintro ⟨c', r', e, _, h2⟩
        cases e
        rw [h2, List.take_of_length_le (Nat.le_refl _), List.drop_of_length_le (Nat.le_refl _), cut_nil]
/-- wl of a word is its length -/
theorem tw_all {p : Nat → Bool} : ∀ {l : L}, (∀ c ∈ l, p c = true) → l.takeWhile p = l
  | [], _ => rfl
  | c :: r, h => by
    rw [List.takeWhile_cons, if_pos (h c (by simp)), tw_all fun d hd => h d (by simp [hd])]
theorem tw_mem {p : Nat → Bool} : ∀ {l : L}, ∀ c ∈ l.takeWhile p, p c = true
  | [], c, h => by simp at h
  | d :: r, c, h => by
    rw [List.takeWhile_cons] at h
    split at h
    · rename_i hd
      rcases List.mem_cons.mp h with rfl | h
      · exact hd
      · exact tw_mem c h
    · simp at h
theorem tw_take {p : Nat → Bool} : ∀ (l : L), l.take (l.takeWhile p).length = l.takeWhile p
  | [] => rfl
  | c :: r => by
    rw [List.takeWhile_cons]
    split
    · simp only [List.length_cons, List.take_succ_cons, tw_take r]
    · rfl
theorem wl_word (c : Nat) (r : L) : wl ((c :: r).take (wl (c :: r))) = ((c :: r).take (wl (c :: r))).length := by
  by_cases h1 : inn c = true
  · have e : wl (c :: r) = (r.takeWhile inn).length + 1 := by
      rw [wl_inn h1]
      omega
    rw [e, List.take_succ_cons, tw_take, wl_inn h1, tw_all tw_mem, List.length_cons]
    omega
  · cases r with
    | nil =>
      rw [wl_one h1]
      exact wl_one h1
    | cons d q =>
      by_cases h2 : c = 45 ∧ digit d = true
      · have e : wl (c :: d :: q) = (q.takeWhile inn).length + 1 + 1 := by
          rw [wl_two h1, if_pos h2]
          omega
        rw [e, List.take_succ_cons, List.take_succ_cons, tw_take, wl_two h1, if_pos h2, tw_all tw_mem, List.length_cons, List.length_cons]
        omega
      · by_cases h3 : d = 61 ∧ (c = 60 ∨ c = 61)
        · have e : ∀ q, wl (c :: d :: q) = 2 := fun q => by rw [wl_two h1, if_neg h2, if_pos h3]
          rw [e]
          exact e []
        · have e : wl (c :: d :: q) = 1 := by rw [wl_two h1, if_neg h2, if_neg h3]
          rw [e]
          exact wl_one h1
/-- each word of a text: not empty, its signs are the text's, no blank ahead, one word -/
theorem cut_word : ∀ (t : L) (l k : Int), ∀ x ∈ cut t l k, (∀ c ∈ x.1, c ∈ t) ∧ ∃ c r, x.1 = c :: r ∧ blank c = false ∧ wl (c :: r) = (c :: r).length := by
  intro t l k
  fun_induction cut t l k with
  | case1 l k => simp
  | case2 r l k ih =>
    intro x hx
    exact ⟨fun c hc => List.mem_cons_of_mem _ ((ih x hx).1 c hc), (ih x hx).2⟩
  | case3 r l k h ih =>
    intro x hx
    exact ⟨fun c hc => List.mem_cons_of_mem _ ((ih x hx).1 c hc), (ih x hx).2⟩
  | case4 c r l k h1 h2 ih =>
    intro x hx
    rcases List.mem_cons.mp hx with rfl | hx
    · have h3 := wl_pos (c :: r)
      refine ⟨fun d hd => List.mem_of_mem_take hd, c, r.take (wl (c :: r) - 1), ?_, by unfold blank; simp [h1, h2], ?_⟩
      · obtain ⟨n, e⟩ : ∃ n, wl (c :: r) = n + 1 := ⟨wl (c :: r) - 1, by omega⟩
        show (c :: r).take (wl (c :: r)) = _
        rw [e, List.take_succ_cons]
        rfl
      · have e : c :: r.take (wl (c :: r) - 1) = (c :: r).take (wl (c :: r)) := by
          obtain ⟨n, e⟩ : ∃ n, wl (c :: r) = n + 1 := ⟨wl (c :: r) - 1, by omega⟩
          rw [e, List.take_succ_cons]
          rfl
        rw [e]
        exact wl_word c r
    · exact ⟨fun d hd => List.mem_of_mem_drop ((ih x hx).1 d hd), (ih x hx).2⟩
end K1

set_option Elab.async false
set_option linter.all false
set_option maxRecDepth 100000
set_option maxHeartbeats 4000000
namespace K1
open PySem L2
abbrev tl (z : Str) : L := z.cps.toList
def mk (l : L) : Str := ⟨l.toArray⟩
theorem tl_mk (l : L) : tl (mk l) = l := by simp [mk]
theorem mk_tl (z : Str) : mk (tl z) = z := by simp [mk]
theorem tl_inj {a b : Str} (h : tl a = tl b) : a = b := by rw [← mk_tl a, ← mk_tl b, h]
theorem len_tl (z : Str) : z.length = (tl z).length := rfl
theorem len_mk (l : L) : (mk l).length = l.length := by simp [mk, Str.length]
theorem cut_nn (z : Str) (a b : Nat) : cutS z (some (a : Int)) (some (b : Int)) = mk (((tl z).drop a).take (b - a)) := by
  unfold cutS mk tl
  rw [HT.sIx_nat, HT.sIx_nat, show z.length = z.cps.toList.length from rfl]
  generalize z.cps.toList = l
  congr 1
  by_cases h : a ≤ l.length
  · rw [Nat.min_eq_left h]
    by_cases hb : b ≤ l.length
    · rw [Nat.min_eq_left hb]
    · rw [Nat.min_eq_right (by omega), List.take_of_length_le (by rw [List.length_drop]; omega), List.take_of_length_le (by rw [List.length_drop]; omega)]
  · have e : l.drop (min a l.length) = [] := List.drop_of_length_le (by omega)
    have e2 : l.drop a = [] := List.drop_of_length_le (by omega)
    rw [e, e2]
    simp
theorem cut_n (z : Str) (a : Nat) : cutS z (some (a : Int)) none = mk ((tl z).drop a) := by
  unfold cutS mk tl
  rw [HT.sIx_nat, HT.sIx_none, show z.length = z.cps.toList.length from rfl]
  generalize z.cps.toList = l
  congr 1
  by_cases h : a ≤ l.length
  · rw [Nat.min_eq_left h, List.take_of_length_le (by rw [List.length_drop]; omega)]
  · rw [Nat.min_eq_right (by omega), List.drop_of_length_le (Nat.le_refl _), List.drop_of_length_le (by omega)]
    simp
theorem cut_0n (z : Str) (b : Nat) : cutS z none (some (b : Int)) = mk ((tl z).take b) := by
  unfold cutS mk tl
  rw [HT.sIx_nat, HT.sIx_none, show z.length = z.cps.toList.length from rfl]
  generalize z.cps.toList = l
  congr 1
  rw [List.drop_zero, Nat.sub_zero]
  by_cases h : b ≤ l.length
  · rw [Nat.min_eq_left h]
  · rw [Nat.min_eq_right (by omega), List.take_of_length_le (Nat.le_refl _), List.take_of_length_le (by omega)]
theorem lt1 (a b : Nat) : decide ([a] < [b]) = decide (a < b) := by
  rw [decide_eq_decide]
  constructor
  · intro h
    cases h with
    | rel h => exact h
    | cons h => cases h
  · intro h
    exact List.Lex.rel h
theorem lt_nil (a : L) : decide (a < ([] : L)) = false := by
  rw [decide_eq_false_iff_not]
  intro h
  cases h
theorem nil_lt (a : Nat) : decide (([] : L) < [a]) = true := by
  rw [decide_eq_true_eq]
  exact List.Lex.nil
theorem dig : ∀ c < 128, Unicode.isDigit c = digit c := by decide +kernel
theorem isdigit_mk (l : L) (h : ∀ c ∈ l, c < 128) : Txt.isdigit (mk l) = (!l.isEmpty && l.all digit) := by
  unfold Txt.isdigit
  rw [len_mk]
  have e : (mk l).cps.all Unicode.isDigit = l.all digit := by
    show l.toArray.all Unicode.isDigit = _
    rw [List.all_toArray]
    rw [Bool.eq_iff_iff, List.all_eq_true, List.all_eq_true]
    exact ⟨fun z c hc => by rw [← dig c (h c hc)]; exact z c hc, fun z c hc => by rw [dig c (h c hc)]; exact z c hc⟩
  rw [e]
  cases l <;> simp
theorem inV_str (w : Str) : ∀ l : List Str, inV (.str w) (l.map V.str) = decide (w ∈ l)
  | [] => rfl
  | a :: l => by
    have ih := inV_str w l
    have e : inV (.str w) ((a :: l).map V.str) = ((a == w) || inV (.str w) (l.map V.str)) := rfl
    rw [e, ih, Bool.eq_iff_iff, Bool.or_eq_true, beq_iff_eq, decide_eq_true_eq, decide_eq_true_eq, List.mem_cons]
    exact or_congr ⟨Eq.symm, Eq.symm⟩ Iff.rfl
theorem flat_strs : ∀ l : List Str, (l.map V.str).all flatV = true
  | [] => rfl
  | a :: l => by
    rw [List.map_cons, List.all_cons, flat_strs l]
    rfl
/-! ### the sorts -/
def keptS : List Str := ["and", "at", "choice", "else", "fail", "false", "function", "if", "let", "long", "make", "match", "new", "not", "number", "of", "or", "over", "put", "rest", "return", "row", "set", "show", "true", "truth", "try", "unit", "uses", "while"]
def signsS : List Str := ["(", ")", "{", "}", ",", ":", "=", "|", "+", "-", "*", "<", "<=", "=="]
def small (c : Nat) : Bool := decide (97 ≤ c ∧ c ≤ 122)
def isName (w : Str) : Bool := decide (1 ≤ w.length) && (decide (w.length ≤ 8) && (!decide (w ∈ keptS) && (tl w).all small))
def figs (w : Str) : L := if (tl w).head? = some 45 then (tl w).drop 1 else tl w
def isFig (w : Str) : Bool := decide (w = "0") || (!(figs w).isEmpty && ((figs w).all digit && !decide ((figs w).head? = some 48)))
def sortW (w : Str) : Str := if w ∈ keptS ∨ w ∈ signsS then w else if isName w = true then "name" else if isFig w = true then "figures" else "strange"
end K1

set_option Elab.async false
set_option linter.all false
set_option maxRecDepth 100000
set_option maxHeartbeats 4000000
namespace K83
open PySem PySem.Spec
open K82 (L IsB bval bdig enc dec zig zag one tl)
abbrev mk (l : L) : Str := ⟨l.toArray⟩
theorem tl_mk (l : L) : tl (mk l) = l := by simp [mk, tl]
theorem mk_tl (z : Str) : mk (tl z) = z := by simp [mk, tl]
theorem tl_inj {a b : Str} (h : tl a = tl b) : a = b := by rw [← mk_tl a, ← mk_tl b, h]
abbrev D := PyData
/-- the sorts of parts -/
inductive Lt where
  | p | n | c | x | k | P | l
deriving DecidableEq
def tab : List (Str × List Lt) := [("const", [.p, .n]), ("copy", [.c, .c]), ("plus", [.p, .p, .p]), ("minus", [.p, .p, .p]), ("times", [.p, .p, .p]), ("over", [.p, .p, .p]), ("rest", [.p, .p, .p]), ("less", [.p, .p, .p]), ("atmost", [.p, .p, .p]), ("same", [.p, .p, .p]),
  ("not", [.p, .p]), ("make", [.x, .p, .P]), ("tag", [.p, .p]), ("part", [.x, .k, .p, .p]), ("long", [.x, .p, .p]), ("new", [.x, .p, .p, .p]), ("at", [.x, .p, .p, .p]), ("put", [.x, .p, .p, .p]), ("show", [.p]), ("call", [.l]), ("jump", [.l]), ("branch", [.p, .l]), ("unless", [.p, .l]), ("try", [.l, .l]), ("return", []), ("fail", [.p])]
def digit (c : Nat) : Bool := decide (48 ≤ c ∧ c ≤ 57)
def figsB (l : L) : Bool := !l.isEmpty && (l.all digit && (decide (l.head? ≠ some 48) || decide (l.length = 1)))
def dnum (l : L) : Nat := l.foldl (fun a c => 10 * a + dv10 c) 0
where dv10 (c : Nat) : Nat := c - 48
def regL (r : Nat) : L → Bool
  | [114, c] => digit c && decide (c - 48 < r)
  | _ => false
def slotL : L → Bool
  | 115 :: f => figsB f && decide (f.length ≤ 3)
  | _ => false
def isReg (r : Nat) : D → Bool
  | .str z => regL r (tl z)
  | _ => false
def isSlot : D → Bool
  | .str z => slotL (tl z)
  | _ => false
def isInt : D → Bool
  | .int _ => true
  | _ => false
def isBetw (lo hi : Int) : D → Bool
  | .int i => decide (lo ≤ i ∧ i ≤ hi)
  | _ => false
def isNm : D → Bool
  | .str z => K1.isName z
  | _ => false
def isRegs (r : Nat) : D → Bool
  | .tuple ds => decide (ds.length ≤ 3) && ds.all (isReg r)
  | _ => false
def halfOf (w : Str) : Int := if w = "short" then 128 else 2147483648
def isLeap : D → Bool
  | .tuple [.str w, .int i] => (decide (w = "short") || decide (w = "long")) && decide (-halfOf w ≤ i ∧ i ≤ halfOf w - 1)
  | _ => false
def isPart (r : Nat) : Lt → D → Bool
  | .p, d => isReg r d
  | .n, d => isInt d
  | .c, d => isSlot d || isReg r d
  | .x, d => isNm d
  | .k, d => isBetw 0 2 d
  | .P, d => isRegs r d
  | .l, d => isLeap d
def arePs (r : Nat) : List Lt → List D → Bool
  | [], [] => true
  | c :: cs, d :: ds => isPart r c d && arePs r cs ds
  | _, _ => false
def judged (r : Nat) : D → Bool
  | .tuple (.str w :: ps) => match tab.lookup w with
    | none => false
    | some ls => arePs r ls ps && !(decide (w = "copy") && ps.all isSlot)
  | _ => false
/-! ### written out -/
def encReg : D → L
  | .str z => bdig 4 (dnum ((tl z).drop 1))
  | _ => []
def leapN (m : Nat) (i : Int) : Nat := (if 0 ≤ i then i else i + 2 ^ m).toNat
def encPart : Lt → D → L
  | .p, d => encReg d
  | .n, .int i => enc (zig i)
  | .c, .str z => if (tl z).head? = some 115 then 49 :: enc (dnum ((tl z).drop 1)) else 48 :: encReg (.str z)
  | .x, .str z => (tl z).flatMap (fun c => bdig 5 (c - 96)) ++ [48, 48, 48, 48, 48]
  | .k, .int i => bdig 2 i.toNat
  | .P, .tuple ds => bdig 2 ds.length ++ ds.flatMap encReg
  | .l, .tuple [.str w, .int i] => if w = "short" then 48 :: bdig 8 (leapN 8 i) else 49 :: bdig 32 (leapN 32 i)
  | _, _ => []
def encPs : List Lt → List D → L
  | c :: cs, d :: ds => encPart c d ++ encPs cs ds
  | _, _ => []
def wix (w : Str) : Nat := tab.findIdx fun q => q.1 == w
def encI : D → L
  | .tuple (.str w :: ps) => bdig 5 (wix w) ++ encPs ((tab.lookup w).getD []) ps
  | _ => []
/-! ### read -/
def digAt (l : L) (n m : Nat) : Option (Nat × Nat) := if n + m ≤ l.length then some (bval ((l.drop n).take m), n + m) else none
def natS (v : Nat) : Str := Str.ofString (toString v)
def pl (c v : Nat) : Str := one c ++ natS v
def regAt (l : L) (n : Nat) : Option (D × Nat) := (digAt l n 4).map fun q => (.str (pl 114 q.1), q.2)
def decAt (l : L) (n : Nat) : Option (Nat × Nat) := (dec (l.drop n)).map fun p => (p.1, n + p.2)
def copAt (l : L) (n : Nat) : Option (D × Nat) := if (l.drop n).head? = some 49 then (decAt l (n + 1)).map (fun q => (.str (pl 115 q.1), q.2)) else regAt l (n + 1)
def numAt (l : L) (n : Nat) : Option (D × Nat) := (decAt l n).map fun q => (.int (zag q.1), q.2)
def namAt (l : L) : Nat → Nat → L → Option (D × Nat)
  | 0, _, _ => none
  | f + 1, n, acc => match digAt l n 5 with
    | none => none
    | some (v, b) => if v = 0 then some (.str (mk acc), b) else if v > 26 then none else namAt l f b (acc ++ [96 + v])
def knAt (l : L) (n : Nat) : Option (D × Nat) := (digAt l n 2).map fun q => (.int (q.1 : Nat), q.2)
def regsN (l : L) : Nat → Nat → Option (List D × Nat)
  | 0, b => some ([], b)
  | m + 1, b => (regAt l b).bind fun q => (regsN l m q.2).map fun t => (q.1 :: t.1, t.2)
def rgsAt (l : L) (n : Nat) : Option (D × Nat) := (digAt l n 2).bind fun q => (regsN l q.1 q.2).map fun t => (.tuple t.1, t.2)
def isLong (l : L) (n : Nat) : Bool := decide ((l.drop n).head? = some 49)
def leapV (m : Nat) (v : Nat) : Int := if v < 2 ^ (m - 1) then v else (v : Int) - 2 ^ m
def leapAt (l : L) (n : Nat) : Option (D × Nat) :=
  if isLong l n = true then (digAt l (n + 1) 32).map (fun q => (.tuple [.str "long", .int (leapV 32 q.1)], q.2)) else (digAt l (n + 1) 8).map (fun q => (.tuple [.str "short", .int (leapV 8 q.1)], q.2))
def rdPart (l : L) : Lt → Nat → Option (D × Nat)
  | .p, n => regAt l n
  | .n, n => numAt l n
  | .c, n => copAt l n
  | .x, n => namAt l (l.length + 1) n []
  | .k, n => knAt l n
  | .P, n => rgsAt l n
  | .l, n => leapAt l n
def rdPs (l : L) : List Lt → Nat → Option (List D × Nat)
  | [], n => some ([], n)
  | c :: cs, n => (rdPart l c n).bind fun q => (rdPs l cs q.2).map fun t => (q.1 :: t.1, t.2)
def rdI (r : Nat) (l : L) (n : Nat) : Option (D × Nat) := (digAt l n 5).bind fun q => match tab[q.1]? with
  | none => none
  | some (w, ls) => (rdPs l ls q.2).bind fun t => if judged r (.tuple (.str w :: t.1)) = true then some (.tuple (.str w :: t.1), t.2) else none
/-! ### what was written is read -/
def At (l : L) (n : Nat) (e : L) : Prop := n ≤ l.length ∧ ∃ s, l.drop n = e ++ s
theorem At.len {l : L} {n : Nat} {e : L} (h : At l n e) : n + e.length ≤ l.length := by
  obtain ⟨h1, s, h2⟩ := h
  have := congrArg List.length h2
  rw [List.length_drop, List.length_append] at this
  omega
theorem At.app {l : L} {n : Nat} {a b : L} (h : At l n (a ++ b)) : At l n a ∧ At l (n + a.length) b := by
  have hl := h.len
  rw [List.length_append] at hl
  obtain ⟨h1, s, h2⟩ := h
  refine ⟨⟨h1, b ++ s, by rw [h2, List.append_assoc]⟩, by omega, s, ?_⟩
  rw [← List.drop_drop, h2, List.append_assoc, List.drop_left]
theorem At.cons {l : L} {n c : Nat} {b : L} (h : At l n (c :: b)) : (l.drop n).head? = some c ∧ At l (n + 1) b := by
  have h2 := At.app (a := [c]) h
  obtain ⟨_, s, e⟩ := h
  exact ⟨by rw [e]; rfl, h2.2⟩
theorem digAt_bdig {l : L} {n k v : Nat} (h : At l n (bdig k v)) (hv : v < 2 ^ k) : digAt l n k = some (v, n + k) := by
  have hl := h.len
  rw [K82.bdig_len] at hl
  obtain ⟨_, s, e⟩ := h
  unfold digAt
  rw [if_pos hl, e, List.take_left' (K82.bdig_len k v), K82.bval_bdig k v hv]
theorem decAt_enc {l : L} {n v : Nat} (h : At l n (enc v)) : decAt l n = some (v, n + (enc v).length) := by
  obtain ⟨_, s, e⟩ := h
  unfold decAt
  rw [e, K82.dec_enc]
  rfl
theorem natS1 : ∀ a < 10, tl (natS a) = [48 + a] := by decide +kernel
theorem natS2 : ∀ a < 10, ∀ b < 10, a ≠ 0 → tl (natS (10 * a + b)) = [48 + a, 48 + b] := by decide +kernel
theorem natS3 : ∀ a < 10, ∀ b < 10, ∀ c < 10, a ≠ 0 → tl (natS (10 * (10 * a + b) + c)) = [48 + a, 48 + b, 48 + c] := by decide +kernel
theorem dig_ex {c : Nat} (h : digit c = true) : ∃ a, a < 10 ∧ c = 48 + a := ⟨c - 48, by unfold digit at h; have := of_decide_eq_true h; omega, by unfold digit at h; have := of_decide_eq_true h; omega⟩
theorem natS_fig {f : L} (h : figsB f = true) (h3 : f.length ≤ 3) : tl (natS (dnum f)) = f := by
  unfold figsB at h
  rw [Bool.and_eq_true, Bool.and_eq_true, Bool.or_eq_true, decide_eq_true_eq, decide_eq_true_eq, List.all_eq_true] at h
  obtain ⟨h0, h1, h2⟩ := h
  match f, h0, h1, h2, h3 with
  | [], h0, _, _, _ => cases h0
  | [a], _, h1, _, _ =>
    obtain ⟨a, ha, rfl⟩ := dig_ex (h1 a (by simp))
    rw [show dnum [48 + a] = a by simp [dnum, dnum.dv10], natS1 a ha]
  | [a, b], _, h1, h2, _ =>
    obtain ⟨a, ha, rfl⟩ := dig_ex (h1 a (by simp))
    obtain ⟨b, hb, rfl⟩ := dig_ex (h1 b (by simp))
    have h0 : a ≠ 0 := by
      rcases h2 with h2 | h2
      · simp at h2
        omega
      · simp at h2
    rw [show dnum [48 + a, 48 + b] = 10 * a + b by simp [dnum, dnum.dv10], natS2 a ha b hb h0]
  | [a, b, c], _, h1, h2, _ =>
    obtain ⟨a, ha, rfl⟩ := dig_ex (h1 a (by simp))
    obtain ⟨b, hb, rfl⟩ := dig_ex (h1 b (by simp))
    obtain ⟨c, hc, rfl⟩ := dig_ex (h1 c (by simp))
    have h0 : a ≠ 0 := by
      rcases h2 with h2 | h2
      · simp at h2
        omega
      · simp at h2
    rw [show dnum [48 + a, 48 + b, 48 + c] = 10 * (10 * a + b) + c by simp [dnum, dnum.dv10], natS3 a ha b hb c hc h0]
  | _ :: _ :: _ :: _ :: _, _, _, _, h3 => simp at h3
theorem tl_pl (c v : Nat) : tl (pl c v) = c :: tl (natS v) := by
  unfold pl
  show (Str.append _ _).cps.toList = _
  simp [Str.append, tl, one]
theorem pl_of {z : Str} {c : Nat} {f : L} (e : tl z = c :: f) (h : figsB f = true) (h3 : f.length ≤ 3) : pl c (dnum f) = z := tl_inj (by rw [tl_pl, natS_fig h h3, e])
theorem isReg_ex {r : Nat} {d : D} (h : isReg r d = true) : ∃ z a, d = .str z ∧ a < 10 ∧ a < r ∧ tl z = [114, 48 + a] := by
  match d, h with
  | .str z, h =>
    have h : regL r (tl z) = true := h
    unfold regL at h
    split at h
    · rename_i c e
      rw [Bool.and_eq_true, decide_eq_true_eq] at h
      obtain ⟨a, ha, rfl⟩ := dig_ex h.1
      exact ⟨z, a, rfl, ha, by omega, e⟩
    · cases h
theorem figs1 {a : Nat} (h : a < 10) : figsB [48 + a] = true := by
  have e : digit (48 + a) = true := decide_eq_true (by omega)
  simp [figsB, e]
theorem regAt_enc {r : Nat} {l : L} {n : Nat} {d : D} (hd : isReg r d = true) (h : At l n (encReg d)) : regAt l n = some (d, n + 4) ∧ (encReg d).length = 4 := by
  obtain ⟨z, a, rfl, ha, hr, e⟩ := isReg_ex hd
  have e2 : encReg (.str z) = bdig 4 a := by
    show bdig 4 (dnum ((tl z).drop 1)) = _
    rw [e]
    simp [dnum, dnum.dv10]
  rw [e2] at h ⊢
  refine ⟨?_, K82.bdig_len _ _⟩
  unfold regAt
  rw [digAt_bdig h (by omega)]
  show some (PyData.str (pl 114 a), n + 4) = _
  have e3 := pl_of e (figs1 ha) (by simp)
  rw [show dnum [48 + a] = a by simp [dnum, dnum.dv10]] at e3
  rw [e3]
theorem regsN_enc {r : Nat} {l : L} : ∀ (ds : List D) (n : Nat), ds.all (isReg r) = true → At l n (ds.flatMap encReg) → regsN l ds.length n = some (ds, n + (ds.flatMap encReg).length)
  | [], n, _, _ => rfl
  | d :: ds, n, hd, h => by
    rw [List.all_cons, Bool.and_eq_true] at hd
    rw [List.flatMap_cons] at h ⊢
    obtain ⟨h1, h2⟩ := h.app
    obtain ⟨e1, e2⟩ := regAt_enc hd.1 h1
    have ih := regsN_enc ds (n + 4) hd.2 (e2 ▸ h2)
    show (regAt l n).bind _ = _
    rw [e1]
    show (regsN l ds.length (n + 4)).map _ = _
    rw [ih, List.length_append, e2, Nat.add_assoc]
    rfl
theorem namAt_enc {l : L} : ∀ (z : L) (f n : Nat) (acc : L), z.length < f → z.all K1.small = true → At l n (z.flatMap (fun c => bdig 5 (c - 96)) ++ [48, 48, 48, 48, 48]) → namAt l f n acc = some (.str (mk (acc ++ z)), n + (z.flatMap (fun c => bdig 5 (c - 96)) ++ [48, 48, 48, 48, 48]).length)
  | [], f + 1, n, acc, _, _, h => by
    have e := digAt_bdig (k := 5) (v := 0) h (by decide)
    unfold namAt
    rw [e]
    simp
  | c :: z, f + 1, n, acc, hf, hz, h => by
    rw [List.all_cons, Bool.and_eq_true] at hz
    have hc : 97 ≤ c ∧ c ≤ 122 := of_decide_eq_true hz.1
    rw [List.flatMap_cons, List.append_assoc] at h
    obtain ⟨h1, h2⟩ := h.app
    rw [K82.bdig_len] at h2
    have e := digAt_bdig h1 (show c - 96 < 2 ^ 5 by omega)
    have ih := namAt_enc z f (n + 5) (acc ++ [96 + (c - 96)]) (by simp at hf; omega) hz.2 h2
    unfold namAt
    rw [e]
    show (if c - 96 = 0 then _ else if c - 96 > 26 then none else namAt l f (n + 5) (acc ++ [96 + (c - 96)])) = _
    rw [if_neg (by omega), if_neg (by omega), ih, show 96 + (c - 96) = c by omega, List.append_assoc]
    simp [K82.bdig_len, Nat.add_assoc]
theorem isLeap_ex {d : D} (h : isLeap d = true) : ∃ w i, d = .tuple [.str w, .int i] ∧ ((w = "short" ∧ -128 ≤ i ∧ i ≤ 127) ∨ (w = "long" ∧ -2147483648 ≤ i ∧ i ≤ 2147483647)) := by
  unfold isLeap at h
  split at h
  · rename_i w i
    rw [Bool.and_eq_true, Bool.or_eq_true, decide_eq_true_eq, decide_eq_true_eq, decide_eq_true_eq] at h
    obtain ⟨h1, h2⟩ := h
    refine ⟨w, i, rfl, ?_⟩
    rcases h1 with rfl | rfl
    · rw [show halfOf "short" = 128 from by decide +kernel] at h2
      exact .inl ⟨rfl, by omega, by omega⟩
    · rw [show halfOf "long" = 2147483648 from by decide +kernel] at h2
      exact .inr ⟨rfl, by omega, by omega⟩
  · cases h
theorem leap_back8 {i : Int} (h1 : -128 ≤ i) (h2 : i ≤ 127) : leapN 8 i < 2 ^ 8 ∧ leapV 8 (leapN 8 i) = i := by
  unfold leapN leapV
  rw [show (2 : Nat) ^ (8 - 1) = 128 from rfl, show (2 : Int) ^ 8 = 256 from rfl, show (2 : Nat) ^ 8 = 256 from rfl]
  by_cases h : 0 ≤ i
  · rw [if_pos h]
    refine ⟨by omega, ?_⟩
    rw [if_pos (by omega)]
    omega
  · rw [if_neg h]
    refine ⟨by omega, ?_⟩
    rw [if_neg (by omega)]
    omega
theorem leap_back32 {i : Int} (h1 : -2147483648 ≤ i) (h2 : i ≤ 2147483647) : leapN 32 i < 2 ^ 32 ∧ leapV 32 (leapN 32 i) = i := by
  unfold leapN leapV
  rw [show (2 : Nat) ^ (32 - 1) = 2147483648 from rfl, show (2 : Int) ^ 32 = 4294967296 from rfl, show (2 : Nat) ^ 32 = 4294967296 from rfl]
  by_cases h : 0 ≤ i
  · rw [if_pos h]
    refine ⟨by omega, ?_⟩
    rw [if_pos (by omega)]
    omega
  · rw [if_neg h]
    refine ⟨by omega, ?_⟩
    rw [if_neg (by omega)]
    omega
theorem isSlot_ex {d : D} (h : isSlot d = true) : ∃ z f, d = .str z ∧ tl z = 115 :: f ∧ figsB f = true ∧ f.length ≤ 3 := by
  match d, h with
  | .str z, h =>
    have h : slotL (tl z) = true := h
    unfold slotL at h
    split at h
    · rename_i f e
      rw [Bool.and_eq_true, decide_eq_true_eq] at h
      exact ⟨z, f, rfl, e, h⟩
    · cases h
theorem rdPart_enc {r : Nat} {l : L} {n : Nat} {c : Lt} {d : D} (hd : isPart r c d = true) (h : At l n (encPart c d)) : rdPart l c n = some (d, n + (encPart c d).length) := by
  cases c with
  | p =>
    obtain ⟨e1, e2⟩ := regAt_enc (r := r) hd h
    show regAt l n = some (d, n + (encReg d).length)
    rw [e1, e2]
  | n =>
    match d, hd with
    | .int i, _ =>
      show numAt l n = some (.int i, n + (enc (zig i)).length)
      unfold numAt
      rw [decAt_enc h]
      show some (PyData.int (zag (zig i)), _) = _
      rw [K82.zag_zig]
  | c =>
    by_cases hs : isSlot d = true
    · obtain ⟨z, f, rfl, e, hf, h3⟩ := isSlot_ex hs
      have e2 : encPart .c (.str z) = 49 :: enc (dnum f) := by
        show (if (tl z).head? = some 115 then 49 :: enc (dnum ((tl z).drop 1)) else 48 :: encReg (.str z)) = _
        rw [e]
        rfl
      rw [e2] at h ⊢
      obtain ⟨h1, h2⟩ := h.cons
      show copAt l n = _
      unfold copAt
      rw [if_pos h1, decAt_enc h2]
      show some (PyData.str (pl 115 (dnum f)), _) = _
      rw [pl_of e hf h3, List.length_cons]
      congr 2
      omega
    · have hr : isReg r d = true := by
        have hd : (isSlot d || isReg r d) = true := hd
        rw [Bool.or_eq_true] at hd
        exact hd.resolve_left hs
      obtain ⟨z, a, rfl, _, _, e⟩ := isReg_ex hr
      have e2 : encPart .c (.str z) = 48 :: encReg (.str z) := by
        show (if (tl z).head? = some 115 then 49 :: enc (dnum ((tl z).drop 1)) else 48 :: encReg (.str z)) = _
        rw [e]
        rfl
      rw [e2] at h ⊢
      obtain ⟨h1, h2⟩ := h.cons
      obtain ⟨e3, e4⟩ := regAt_enc hr h2
      show copAt l n = _
      unfold copAt
      rw [if_neg (by rw [h1]; decide), e3, List.length_cons, e4]
  | x =>
    match d, hd with
    | .str z, hd =>
      have hn : K1.isName z = true := hd
      have hs : (tl z).all K1.small = true := by
        unfold K1.isName at hn
        rw [Bool.and_eq_true, Bool.and_eq_true, Bool.and_eq_true] at hn
        exact hn.2.2.2
      have hl : (tl z).length < l.length + 1 := by
        have := h.len
        rw [show encPart .x (.str z) = (tl z).flatMap (fun c => bdig 5 (c - 96)) ++ [48, 48, 48, 48, 48] from rfl, List.length_append, List.length_flatMap, List.map_congr_left (fun c _ => K82.bdig_len 5 (c - 96)), List.map_const', List.sum_replicate_nat] at this
        rw [show (tl z).length = z.cps.size from rfl]
        simp at this
        omega
      show namAt l (l.length + 1) n [] = _
      rw [namAt_enc (tl z) _ n [] hl hs h, List.nil_append, mk_tl]
      rfl
  | k =>
    match d, hd with
    | .int i, hd =>
      have hi : 0 ≤ i ∧ i ≤ 2 := of_decide_eq_true hd
      show knAt l n = some (_, n + (bdig 2 i.toNat).length)
      unfold knAt
      rw [digAt_bdig h (by show i.toNat < 4; omega), K82.bdig_len]
      show some (PyData.int ((i.toNat : Nat) : Int), _) = _
      rw [Int.toNat_of_nonneg hi.1]
  | P =>
    match d, hd with
    | .tuple ds, hd =>
      have hd : (decide (ds.length ≤ 3) && ds.all (isReg r)) = true := hd
      rw [Bool.and_eq_true, decide_eq_true_eq] at hd
      obtain ⟨h1, h2⟩ := At.app (a := bdig 2 ds.length) h
      rw [K82.bdig_len] at h2
      show rgsAt l n = some (_, n + (bdig 2 ds.length ++ ds.flatMap encReg).length)
      unfold rgsAt
      rw [digAt_bdig h1 (by show ds.length < 4; omega)]
      show (regsN l ds.length (n + 2)).map _ = _
      rw [regsN_enc ds (n + 2) hd.2 h2, List.length_append, K82.bdig_len, Nat.add_assoc]
      rfl
  | l =>
    obtain ⟨w, i, rfl, ⟨rfl, h1, h2⟩ | ⟨rfl, h1, h2⟩⟩ := isLeap_ex hd
    · have e2 : encPart .l (.tuple [.str "short", .int i]) = 48 :: bdig 8 (leapN 8 i) := by
        show (if ("short" : Str) = "short" then 48 :: bdig 8 (leapN 8 i) else 49 :: bdig 32 (leapN 32 i)) = _
        rw [if_pos rfl]
      rw [e2] at h ⊢
      obtain ⟨g1, g2⟩ := h.cons
      obtain ⟨b1, b2⟩ := leap_back8 h1 h2
      show leapAt l n = _
      unfold leapAt isLong
      rw [if_neg (by rw [g1]; decide), digAt_bdig g2 b1]
      show some (PyData.tuple [.str "short", .int (leapV 8 (leapN 8 i))], _) = _
      rw [b2, List.length_cons, K82.bdig_len]
    · have e2 : encPart .l (.tuple [.str "long", .int i]) = 49 :: bdig 32 (leapN 32 i) := by
        show (if ("long" : Str) = "short" then 48 :: bdig 8 (leapN 8 i) else 49 :: bdig 32 (leapN 32 i)) = _
        rw [if_neg (by decide +kernel)]
      rw [e2] at h ⊢
      obtain ⟨g1, g2⟩ := h.cons
      obtain ⟨b1, b2⟩ := leap_back32 h1 h2
      show leapAt l n = _
      unfold leapAt isLong
      rw [if_pos (by rw [g1]; decide), digAt_bdig g2 b1]
      show some (PyData.tuple [.str "long", .int (leapV 32 (leapN 32 i))], _) = _
      rw [b2, List.length_cons, K82.bdig_len]
theorem rdPs_enc {r : Nat} {l : L} : ∀ (cs : List Lt) (ds : List D) (n : Nat), arePs r cs ds = true → At l n (encPs cs ds) → rdPs l cs n = some (ds, n + (encPs cs ds).length)
  | [], [], n, _, _ => rfl
  | c :: cs, d :: ds, n, hd, h => by
    have hd : (isPart r c d && arePs r cs ds) = true := hd
    rw [Bool.and_eq_true] at hd
    obtain ⟨h1, h2⟩ := At.app (a := encPart c d) h
    show (rdPart l c n).bind _ = _
    rw [rdPart_enc hd.1 h1]
    show (rdPs l cs (n + (encPart c d).length)).map _ = _
    rw [rdPs_enc cs ds _ hd.2 h2]
    show some (d :: ds, _) = some (d :: ds, n + (encPart c d ++ encPs cs ds).length)
    rw [List.length_append, Nat.add_assoc]
  | [], _ :: _, _, hd, _ => by cases hd
  | _ :: _, [], _, hd, _ => by cases hd
theorem tab_ix : ∀ q ∈ tab, tab[wix q.1]? = some q ∧ wix q.1 < 2 ^ 5 ∧ tab.lookup q.1 = some q.2 := by decide +kernel
theorem lookup_mem {w : Str} {ls : List Lt} : ∀ {t : List (Str × List Lt)}, t.lookup w = some ls → (w, ls) ∈ t
  | [], h => by cases h
  | (b, u) :: r, h => by
    rw [List.lookup_cons] at h
    split at h
    · rename_i e
      rw [eq_of_beq e]
      cases h
      exact List.mem_cons_self
    · exact List.mem_cons_of_mem _ (lookup_mem h)
theorem judged_ex {r : Nat} {d : D} (h : judged r d = true) : ∃ w ps ls, d = .tuple (.str w :: ps) ∧ (w, ls) ∈ tab ∧ tab.lookup w = some ls ∧ arePs r ls ps = true := by
  unfold judged at h
  split at h
  · rename_i w ps
    split at h
    · cases h
    · rename_i ls e
      rw [Bool.and_eq_true] at h
      exact ⟨w, ps, ls, rfl, lookup_mem e, e, h.1⟩
  · cases h
theorem rdI_enc {r : Nat} {l : L} {n : Nat} {d : D} (hd : judged r d = true) (h : At l n (encI d)) : rdI r l n = some (d, n + (encI d).length) := by
  obtain ⟨w, ps, ls, rfl, hm, e, ha⟩ := judged_ex hd
  obtain ⟨t1, t2, t3⟩ := tab_ix _ hm
  have e2 : encI (.tuple (.str w :: ps)) = bdig 5 (wix w) ++ encPs ls ps := by
    show bdig 5 (wix w) ++ encPs ((tab.lookup w).getD []) ps = _
    rw [e]
    rfl
  rw [e2] at h ⊢
  obtain ⟨h1, h2⟩ := h.app
  rw [K82.bdig_len] at h2
  unfold rdI
  rw [digAt_bdig h1 t2]
  show (match tab[wix w]? with | none => none | some (w, ls) => (rdPs l ls (n + 5)).bind _) = _
  rw [t1]
  show (rdPs l ls (n + 5)).bind _ = _
  rw [rdPs_enc ls ps _ ha h2]
  show (if judged r (.tuple (.str w :: ps)) = true then some (PyData.tuple (.str w :: ps), n + 5 + (encPs ls ps).length) else none) = _
  rw [if_pos hd, List.length_append, K82.bdig_len, Nat.add_assoc]
end K83

set_option Elab.async false
set_option linter.all false
set_option maxRecDepth 100000
set_option maxHeartbeats 4000000
namespace SA
open PySem PySem.Spec PyProof.Rows L2
/-! ### data whose objects stay -/
mutual
inductive Dn (n : Addr → Prop) (H : Hp) : V → PyData → Prop
  | non : Dn n H .non .none
  | bl (b : Bool) : Dn n H (.bl b) (.bool b)
  | int (i : Int) : Dn n H (.int i) (.int i)
  | str (x : Str) : Dn n H (.str x) (.str x)
  | lst {a : Addr} {xs : List V} {ds : List PyData} : n a → H a = some (.lst xs) → DnAll n H xs ds → Dn n H (.ref a) (.list ds)
  | tup {a : Addr} {xs : List V} {ds : List PyData} : n a → H a = some (.tup xs) → DnAll n H xs ds → Dn n H (.ref a) (.tuple ds)
  | dct {a : Addr} : n a → H a = some (.dK []) → Dn n H (.ref a) (.dict [])
inductive DnAll (n : Addr → Prop) (H : Hp) : List V → List PyData → Prop
  | nil : DnAll n H [] []
  | cons {v : V} {vs : List V} {d : PyData} {ds : List PyData} : Dn n H v d → DnAll n H vs ds → DnAll n H (v :: vs) (d :: ds)
end
mutual
theorem Dn.dx {K : PySem.W.Frag} {n : Addr → Prop} {H : Hp} : ∀ {v : V} {d : PyData}, Dn n H v d → Dx K H v d
  | _, _, .non => .non
  | _, _, .bl b => .bl b
  | _, _, .int i => .int i
  | _, _, .str x => .str x
  | _, _, .lst _ h2 h3 => .lst (.of h2) h3.dx
  | _, _, .tup _ h2 h3 => .tup (.of h2) h3.dx
  | _, _, .dct _ h2 => .dct h2 rfl .nil
theorem DnAll.dx {K : PySem.W.Frag} {n : Addr → Prop} {H : Hp} : ∀ {vs : List V} {ds : List PyData}, DnAll n H vs ds → DxAll K H vs ds
  | _, _, .nil => .nil
  | _, _, .cons h1 h2 => .cons h1.dx h2.dx
end
mutual
theorem Dn.keep {n m : Addr → Prop} {H H' : Hp} (k : ∀ b o, n b → H b = some o → H' b = some o) (nm : ∀ b, n b → m b) : ∀ {v : V} {d : PyData}, Dn n H v d → Dn m H' v d
  | _, _, .non => .non
  | _, _, .bl b => .bl b
  | _, _, .int i => .int i
  | _, _, .str x => .str x
  | _, _, .lst h1 h2 h3 => .lst (nm _ h1) (k _ _ h1 h2) (DnAll.keep k nm h3)
  | _, _, .tup h1 h2 h3 => .tup (nm _ h1) (k _ _ h1 h2) (DnAll.keep k nm h3)
  | _, _, .dct h1 h2 => .dct (nm _ h1) (k _ _ h1 h2)
theorem DnAll.keep {n m : Addr → Prop} {H H' : Hp} (k : ∀ b o, n b → H b = some o → H' b = some o) (nm : ∀ b, n b → m b) : ∀ {vs : List V} {ds : List PyData}, DnAll n H vs ds → DnAll m H' vs ds
  | _, _, .nil => .nil
  | _, _, .cons h1 h2 => .cons (Dn.keep k nm h1) (DnAll.keep k nm h2)
end
abbrev anyA : Addr → Prop := fun _ => True
abbrev notA (d w : Addr) : Addr → Prop := fun b => b ≠ d ∧ b ≠ w
theorem Dn.same {n : Addr → Prop} {H H' : Hp} {v : V} {d : PyData} (h : Dn n H v d) (s : Same H H') : Dn n H' v d := h.keep (fun b o _ e => s b o e) fun _ h => h
theorem DnAll.same {n : Addr → Prop} {H H' : Hp} {v : List V} {d : List PyData} (h : DnAll n H v d) (s : Same H H') : DnAll n H' v d := h.keep (fun b o _ e => s b o e) fun _ h => h
theorem Dn.any {n : Addr → Prop} {H : Hp} {v : V} {d : PyData} (h : Dn n H v d) : Dn anyA H v d := h.keep (fun _ _ _ e => e) fun _ _ => trivial
theorem DnAll.any {n : Addr → Prop} {H : Hp} {v : List V} {d : List PyData} (h : DnAll n H v d) : DnAll anyA H v d := h.keep (fun _ _ _ e => e) fun _ _ => trivial
theorem DnAll.len {n : Addr → Prop} {H : Hp} : ∀ {vs : List V} {ds : List PyData}, DnAll n H vs ds → vs.length = ds.length
  | _, _, .nil => rfl
  | _, _, .cons _ h => by rw [List.length_cons, List.length_cons, h.len]
theorem DnAll.at {n : Addr → Prop} {H : Hp} : ∀ {vs : List V} {ds : List PyData} {i : Nat} {v : V}, DnAll n H vs ds → vs[i]? = some v → ∃ d, ds[i]? = some d ∧ Dn n H v d
  | _, _, i, _, .nil, e => by simp at e
  | _, _, 0, _, .cons h _, e => by
    obtain rfl := Option.some.inj e
    exact ⟨_, rfl, h⟩
  | _, _, i + 1, _, .cons _ h, e => h.at (i := i) e
theorem DnAll.at' {n : Addr → Prop} {H : Hp} : ∀ {vs : List V} {ds : List PyData} {i : Nat} {d : PyData}, DnAll n H vs ds → ds[i]? = some d → ∃ v, vs[i]? = some v ∧ Dn n H v d
  | _, _, i, _, .nil, e => by simp at e
  | _, _, 0, _, .cons h _, e => by
    obtain rfl := Option.some.inj e
    exact ⟨_, rfl, h⟩
  | _, _, i + 1, _, .cons _ h, e => h.at' (i := i) e
theorem DnAll.app {n : Addr → Prop} {H : Hp} : ∀ {vs vs' : List V} {ds ds' : List PyData}, DnAll n H vs ds → DnAll n H vs' ds' → DnAll n H (vs ++ vs') (ds ++ ds')
  | _, _, _, _, .nil, h => h
  | _, _, _, _, .cons h1 h2, h => .cons h1 (h2.app h)
theorem DnAll.drop {n : Addr → Prop} {H : Hp} : ∀ {vs : List V} {ds : List PyData} (i : Nat), DnAll n H vs ds → DnAll n H (vs.drop i) (ds.drop i)
  | _, _, 0, h => h
  | _, _, _ + 1, .nil => .nil
  | _, _, i + 1, .cons _ h => h.drop i
theorem DnAll.take {n : Addr → Prop} {H : Hp} : ∀ {vs : List V} {ds : List PyData} (i : Nat), DnAll n H vs ds → DnAll n H (vs.take i) (ds.take i)
  | _, _, 0, _ => .nil
  | _, _, _ + 1, .nil => .nil
  | _, _, i + 1, .cons h1 h => .cons h1 (h.take i)
def kindD : PyData → String
  | .none => "NoneType"
  | .bool _ => "bool"
  | .int _ => "int"
  | .str _ => "str"
  | .list _ => "list"
  | .tuple _ => "tuple"
  | .dict _ => "dict"
theorem Dn.kd {K : PySem.W.Frag} {n : Addr → Prop} {H : Hp} {v : V} {d : PyData} (h : Dn n H v d) : Kd K H v (kindD d) := by
  cases h with
  | non => exact .non
  | bl b => exact .bl b
  | int i => exact .int i
  | str x => exact .str x
  | lst _ h _ => exact .lst (.base (.lst h))
  | tup _ h _ => exact .tup (.base (.tup h))
  | dct _ h => exact .dct (.base (.dK h))
theorem Dn.str_of {n : Addr → Prop} {H : Hp} {v : V} {d : PyData} (h : Dn n H v d) (e : kindD d = "str") : ∃ z, v = .str z ∧ d = .str z := by
  cases h <;> first | exact ⟨_, rfl, rfl⟩ | (exfalso; simp [kindD] at e)
theorem Dn.int_of {n : Addr → Prop} {H : Hp} {v : V} {d : PyData} (h : Dn n H v d) (e : kindD d = "int") : ∃ z, v = .int z ∧ d = .int z := by
  cases h <;> first | exact ⟨_, rfl, rfl⟩ | (exfalso; simp [kindD] at e)
theorem Dn.tup_of {n : Addr → Prop} {H : Hp} {v : V} {d : PyData} (h : Dn n H v d) (e : kindD d = "tuple") : ∃ a xs ds, v = .ref a ∧ d = .tuple ds ∧ n a ∧ H a = some (.tup xs) ∧ DnAll n H xs ds := by
  cases h with
  | tup h1 h2 h3 => exact ⟨_, _, _, rfl, rfl, h1, h2, h3⟩
  | _ => simp [kindD] at e
/-- which of the strings the lower levels read -/
def asc (z : Str) : Prop := ∀ c ∈ z.cps.toList, c < 128
end SA

set_option Elab.async false
set_option linter.all false
set_option maxRecDepth 100000
set_option maxHeartbeats 4000000
namespace SA
open PySem PySem.Spec PyProof.Rows L2
/-! ### zip of a list, a tuple or a text with another -/
inductive Sd where
  | lst (a : Addr)
  | tup (a : Addr)
  | txt (x : Str)
def signs (x : Str) : List V := x.cps.toList.map fun c => .str ⟨#[c]⟩
theorem signs_len (x : Str) : (signs x).length = x.cps.size := by simp [signs]
def Sd.v : Sd → V
  | .lst a => .ref a
  | .tup a => .ref a
  | .txt x => .str x
def Sd.has (K : PySem.W.Frag) (H : Hp) : Sd → List V → Prop
  | .lst a, xs => SqL K H a xs
  | .tup a, xs => SqT K H a xs
  | .txt x, xs => xs = signs x
def Sd.src : Sd → Option Addr
  | .lst a => some a
  | .tup a => some a
  | .txt _ => none
def Sd.st (it : Addr) (i : Nat) (h : Heap) : Sd → Prop
  | .lst a => h.IsListIter it a i
  | .tup a => h.IsTupleIter it a i
  | .txt x => ∃ t, h.IsStrIter it (strIterType x) x t i
theorem Sd.st_at {S : Sd} {it : Addr} {i : Nat} {h h' : Heap} (st : S.st it i h) (k : ∀ o, h.get? it = some o → h'.get? it = some o) : S.st it i h' := by
  cases S with
  | lst a => exact Heap.IsListIter.at st k
  | tup a => exact Heap.IsTupleIter.at st k
  | txt x =>
    obtain ⟨t, o, e, r⟩ := st
    exact ⟨t, o, k o e, r⟩
theorem Sd.st_obj {S : Sd} {it : Addr} {i : Nat} {h : Heap} (st : S.st it i h) : ∃ o, h.get? it = some o ∧ ∀ v, o.data ≠ .cell v := by
  cases S with
  | lst a =>
    obtain ⟨o, e, _, d⟩ := st
    exact ⟨o, e, fun v q => by rw [d] at q; cases q⟩
  | tup a =>
    obtain ⟨o, e, _, d⟩ := st
    exact ⟨o, e, fun v q => by rw [d] at q; cases q⟩
  | txt x =>
    obtain ⟨t, o, e, _, d⟩ := st
    exact ⟨o, e, fun v q => by rw [d] at q; cases q⟩
theorem Sd.has_inj {X : Cx} {pins : List (Addr × Obj)} {σ : L2.St} {H : Hp} {s : Shared} (I : Inv X pins σ H s) {S : Sd} {xs ys : List V} (h1 : S.has X.K H xs) (h2 : S.has X.K H ys) : xs = ys := by
  cases S with
  | lst a => exact I.list_inj h1 h2
  | tup a => exact I.tuple_inj h1 h2
  | txt x => exact Eq.trans h1 (Eq.symm h2)
/-- one side of the zip, drawn from -/
theorem Sd.draws {X : Cx} {pins : List (Addr × Obj)} {σ : L2.St} {H : Hp} {s : Shared} (I : Inv X pins σ H s) (hh : X.A.handled = none) {S : Sd} {xs : List V} {it : Addr} {i : Nat} (h : S.has X.K H xs) (st : S.st it i s.heap) (hne : S.src ≠ some it) :
    ∃ (fp : List Addr) (Pt : Nat → Value → Prop) (St : Nat → Heap → Prop), Draws X.prog X.w X.A.in1 it fp xs.length Pt St ∧ St i s.heap ∧ (∀ j u v, Pt j u → xs[j]? = some v → RelV v u) ∧ (∀ j h, St j h → S.st it j h) ∧ it ∈ fp ∧ ∀ c, c ∈ fp → c = it ∨ S.src = some c := by
  cases S with
  | lst a =>
    obtain ⟨its, rv, p, _⟩ := I.list h
    have hn : a ≠ it := fun z => hne (by rw [← z]; rfl)
    have hl := rv.length
    refine ⟨[it, a], fun i v => its.toArray[i]? = some v, fun i h => h.IsListIter it a i ∧ h.IsList a its.toArray, ?_, ⟨st, p.isList⟩, fun j u v hu hv => ?_, fun j h hs => hs.1, by simp, fun c hc => ?_⟩
    · have D := Draws.list (prog := X.prog) (w := X.w) (A := X.A.in1) hh it a hn its.toArray
      rw [List.size_toArray, ← hl] at D
      exact D
    · obtain ⟨u2, hu2, ru⟩ := rv.get hv
      have hu : its.toArray[j]? = some u := hu
      have e : its[j]? = some u := by simpa using hu
      rw [e] at hu2
      rw [Option.some.inj hu2]
      exact ru
    · have hc' : c = it ∨ c = a := by simpa using hc
      exact hc'.imp id fun z => by rw [z]; rfl
  | tup a =>
    obtain ⟨its, rv, p, _⟩ := I.tuple h
    have hn : a ≠ it := fun z => hne (by rw [← z]; rfl)
    have hl := rv.length
    refine ⟨[it, a], fun i v => its.toArray[i]? = some v, fun i h => h.IsTupleIter it a i ∧ h.IsTuple a its.toArray, ?_, ⟨st, p⟩, fun j u v hu hv => ?_, fun j h hs => hs.1, by simp, fun c hc => ?_⟩
    · have D := Draws.tuple (prog := X.prog) (w := X.w) (A := X.A.in1) hh it a hn its.toArray
      rw [List.size_toArray, ← hl] at D
      exact D
    · obtain ⟨u2, hu2, ru⟩ := rv.get hv
      have hu : its.toArray[j]? = some u := hu
      have e : its[j]? = some u := by simpa using hu
      rw [e] at hu2
      rw [Option.some.inj hu2]
      exact ru
    · have hc' : c = it ∨ c = a := by simpa using hc
      exact hc'.imp id fun z => by rw [z]; rfl
  | txt x =>
    obtain ⟨t, st⟩ := st
    obtain rfl : xs = signs x := h
    refine ⟨[it], fun i v => ∃ c u, x.cps[i]? = some c ∧ v = .str ⟨#[c]⟩ u, fun i h => h.IsStrIter it (strIterType x) x t i, ?_, st, fun j u v hu hv => ?_, fun j h hs => ⟨t, hs⟩, by simp, fun c hc => .inl (by simpa using hc)⟩
    · have D := Draws.text (prog := X.prog) (w := X.w) (A := X.A.in1) hh it x t
      rw [← signs_len x] at D
      exact D
    · obtain ⟨c, k, hc, rfl⟩ : ∃ c k, x.cps[j]? = some c ∧ u = .str ⟨#[c]⟩ k := hu
      have e : (signs x)[j]? = some (.str ⟨#[c]⟩) := by
        unfold signs
        rw [List.getElem?_map, Array.getElem?_toList, hc]
        rfl
      rw [e] at hv
      rw [← Option.some.inj hv]
      exact ⟨k, rfl⟩
/-- apart -/
structure Apx (z TI TO i1 i2 : Addr) (S1 S2 : Sd) : Prop where
  TIz : TI ≠ z
  TOz : TO ≠ z
  i1z : i1 ≠ z
  i2z : i2 ≠ z
  TITO : TI ≠ TO
  TIi1 : TI ≠ i1
  TIi2 : TI ≠ i2
  TOi1 : TO ≠ i1
  TOi2 : TO ≠ i2
  i12 : i1 ≠ i2
  s1 : ∀ a, S1.src = some a → a ≠ z ∧ a ≠ TO ∧ a ≠ i1 ∧ a ≠ i2
  s2 : ∀ a, S2.src = some a → a ≠ z ∧ a ≠ TO ∧ a ≠ i1 ∧ a ≠ i2
theorem Apx.sep {z TI TO i1 i2 : Addr} {S1 S2 : Sd} (D : Apx z TI TO i1 i2 S1 S2) {fp1 fp2 : List Addr} (m1 : i1 ∈ fp1) (m2 : i2 ∈ fp2) (k1 : ∀ c, c ∈ fp1 → c = i1 ∨ S1.src = some c) (k2 : ∀ c, c ∈ fp2 → c = i2 ∨ S2.src = some c) : ZipSep2 z TI TO i1 i2 fp1 fp2 where
  TIz := D.TIz
  TOz := D.TOz
  TITO := D.TITO
  TIi1 := D.TIi1
  mem1 := m1
  zf1 := fun h => (k1 _ h).elim (fun e => D.i1z e.symm) fun e => (D.s1 _ e).1 rfl
  Tf1 := fun h => (k1 _ h).elim (fun e => D.TOi1 e) fun e => (D.s1 _ e).2.1 rfl
  TIi2 := D.TIi2
  mem2 := m2
  zf2 := fun h => (k2 _ h).elim (fun e => D.i2z e.symm) fun e => (D.s2 _ e).1 rfl
  Tf2 := fun h => (k2 _ h).elim (fun e => D.TOi2 e) fun e => (D.s2 _ e).2.1 rfl
  sep1_2 := fun h => (k2 _ h).elim (fun e => D.i12 e) fun e => (D.s2 _ e).2.2.1 rfl
  sep2_1 := fun h => (k1 _ h).elim (fun e => D.i12 e.symm) fun e => (D.s1 _ e).2.2.2 rfl
def Itx (K : PySem.W.Frag) (S1 S2 : Sd) : It :=
  ⟨fun i H => ∃ (xs ys : List V) (x y : V), S1.has K H xs ∧ S2.has K H ys ∧ xs[i]? = some x ∧ ys[i]? = some y,
    fun i H v H' => ∃ T x y, v = .ref T ∧ H T = none ∧ H' = upd H T (.tup [x, y]) ∧ (∀ xs, S1.has K H xs → xs[i]? = some x) ∧ ∀ ys, S2.has K H ys → ys[i]? = some y,
    fun i H => ∃ xs ys : List V, S1.has K H xs ∧ S2.has K H ys ∧ i ≤ xs.length ∧ i ≤ ys.length ∧ (i = xs.length ∨ i = ys.length)⟩
theorem turn_zipX {P : Program} {w : World} {K : PySem.W.Frag} {elts : List Expr} {kk : Nat} {tpos : Pos} {S1 S2 : Sd} {z TI TO i1 i2 : Addr} (D : Apx z TI TO i1 i2 S1 S2) :
    Turn P w K (.Tuple elts kk tpos) (Itx K S1 S2) [z, TI, TO, i1, i2] z (fun i h => IsZip h z TI TO .none ∧ IsPair h TI (.ref i1) (.ref i2) ∧ (∃ x y, IsPair h TO x y) ∧ S1.st i1 i h ∧ S2.st i2 i h) where
  mem := by simp
  obj := fun i h st c hc => by
    obtain ⟨hz, hTI, ⟨x, y, hTO⟩, h1, h2⟩ := st
    have e' : c = z ∨ c = TI ∨ c = TO ∨ c = i1 ∨ c = i2 := by simpa using hc
    rcases e' with q | q | q | q | q
    · rw [q]; exact ⟨_, hz, fun v q => nomatch q⟩
    · rw [q]; exact ⟨_, hTI, fun v q => nomatch q⟩
    · rw [q]; exact ⟨_, hTO, fun v q => nomatch q⟩
    · rw [q]; exact Sd.st_obj h1
    · rw [q]; exact Sd.st_obj h2
  keep := fun i h h' st k => by
    obtain ⟨hz, hTI, ⟨x, y, hTO⟩, h1, h2⟩ := st
    exact ⟨k z (by simp) _ hz, k TI (by simp) _ hTI, ⟨x, y, k TO (by simp) _ hTO⟩, Sd.st_at h1 fun o q => k i1 (by simp) o q, Sd.st_at h2 fun o q => k i2 (by simp) o q⟩
  item := by
    intro X hP hw hK hc i pins s σ H E I hf st hg
    subst hP hw hK
    obtain ⟨hz, hTI, ⟨x0, y0, hTO⟩, h1, h2⟩ := st
    obtain ⟨xs, ys, x, y, hqx, hqy, hx, hy⟩ := hg
    obtain ⟨fp1, P1, St1, D1, t1, r1, b1, m1, k1⟩ := Sd.draws I (I.ok.hd hc) hqx h1 fun e => (D.s1 _ e).2.2.1 rfl
    obtain ⟨fp2, P2, St2, D2, t2, r2, b2, m2, k2⟩ := Sd.draws I (I.ok.hd hc) hqy h2 fun e => (D.s2 _ e).2.2.2 rfl
    have hzl : z < s.heap.objs.size := Heap.lt_size hz
    have lx : i < xs.length := (List.getElem?_eq_some_iff.mp hx).1
    have ly : i < ys.length := (List.getElem?_eq_some_iff.mp hy).1
    refine wpAny_pyNext_zipD2_item (D.sep m1 m2 k1 k2) D1 D2 hz hTI hTO t1 t2 lx ly fun u u2 h' tk p1 p2 z' TO' h1' h2' hT hsz hk => ?_
    have ru := r1 _ _ _ p1 hx
    have ru2 := r2 _ _ _ p2 hy
    have h1' := b1 _ _ h1'
    have h2' := b2 _ _ h2'
    refine ⟨_, rfl, wpAny_letOwnedTupleGo_zip (s := { s with heap := h', toks := tk }) z' fun h'' z'' sb => ?_⟩
    have hT2 : h''.get? s.heap.objs.size = some { cls := .type "tuple", data := .seq #[u, u2] } := (sb.2 _ (Nat.ne_of_gt hzl)).trans hT
    have new : ObjOk X.prog X.w (upd H s.heap.objs.size (.tup [x, y])) h'' s.heap.objs.size (.tup [x, y]) :=
      ⟨by show 2 ≤ sizeLine; decide, [u, u2], .cons ru (.cons ru2 .nil), ⟨_, hT2, rfl, _, rfl⟩⟩
    have I1 : Inv X pins σ (upd H s.heap.objs.size (.tup [x, y])) { s with heap := h'', toks := tk } :=
      I.turnedNew (t' := tk) (ch := [z, TI, TO, i1, i2]) (fun c o hb q => (sb.2 c (fun q' => hb (by simp [q']))).trans (hk c o (fun q' => hb (by simp [q'])) (fun q' => hb (by simp [q'])) (fun q' => hb (by simp [q'])) (fun q' => hb (by simp [q'])) q)) hf (Nat.le_refl _) new
    have l1 : i1 < s.heap.objs.size := by
      obtain ⟨o, e, _⟩ := Sd.st_obj h1
      exact Heap.lt_size e
    have l2 : i2 < s.heap.objs.size := by
      obtain ⟨o, e, _⟩ := Sd.st_obj h2
      exact Heap.lt_size e
    refine ⟨.ref s.heap.objs.size, _, I1, rfl, ⟨_, x, y, rfl, I.hok.fresh (Nat.le_refl _), rfl, fun l hl => by rw [Sd.has_inj I hl hqx]; exact hx, fun l hl => by rw [Sd.has_inj I hl hqy]; exact hy⟩, ⟨z'', ?_, ⟨u, u2, ?_⟩, ?_, ?_⟩, fun c hcm => ?_⟩
    · exact (sb.2 _ D.TIz).trans (hk _ _ D.TIz D.TITO D.TIi1 D.TIi2 hTI)
    · exact (sb.2 _ D.TOz).trans TO'
    · exact Sd.st_at h1' fun o q => (sb.2 _ D.i1z).trans q
    · exact Sd.st_at h2' fun o q => (sb.2 _ D.i2z).trans q
    · have hlt : c < s.heap.objs.size := by
        have e' : c = z ∨ c = TI ∨ c = TO ∨ c = i1 ∨ c = i2 := by simpa using hcm
        rcases e' with q | q | q | q | q
        · rw [q]; exact hzl
        · rw [q]; exact Heap.lt_size hTI
        · rw [q]; exact Heap.lt_size hTO
        · rw [q]; exact l1
        · rw [q]; exact l2
      rw [upd_ne (Nat.ne_of_lt hlt)]
      exact (hf c hcm).1
  done := by
    intro X hP hw hK hc i pins s σ H E I hf st hg
    subst hP hw hK
    obtain ⟨hz, hTI, ⟨x0, y0, hTO⟩, h1, h2⟩ := st
    obtain ⟨xs, ys, hqx, hqy, hl1, hl2, hend⟩ := hg
    obtain ⟨fp1, P1, St1, D1, t1, r1, b1, m1, k1⟩ := Sd.draws I (I.ok.hd hc) hqx h1 fun e => (D.s1 _ e).2.2.1 rfl
    obtain ⟨fp2, P2, St2, D2, t2, r2, b2, m2, k2⟩ := Sd.draws I (I.ok.hd hc) hqy h2 fun e => (D.s2 _ e).2.2.2 rfl
    exact wpAny_pyNext_zipD2_end (D.sep m1 m2 k1 k2) D1 D2 hz hTI hTO t1 t2 hl1 hl2 hend fun h' tk hk => ⟨rfl, I.turnedL (t' := tk) (ch := [z, TI, TO, i1, i2]) (fun c o hb q =>
      hk c o (fun q' => hb (by simp [q'])) (fun q' => hb (by simp [q'])) (fun q' => hb (by simp [q'])) (fun q' => hb (by simp [q'])) q) hf⟩
  self := fun A i s Q E st h => wpAny_pyIter_zip st.1 h
/-- a side's iterator begins -/
theorem Sd.begins {X : Cx} {pins : List (Addr × Obj)} {σ : L2.St} {H : Hp} {s : Shared} (I : Inv X pins σ H s) {S : Sd} {xs : List V} {u : Value} (h : S.has X.K H xs) (r : RelV S.v u) :
    ∃ (o : Obj) (B : Heap → Prop), Begins u o B ∧ B s.heap ∧ (∀ it h, h.get? it = some o → S.st it 0 h) ∧ ∀ a, S.src = some a → a < s.heap.objs.size := by
  cases S with
  | lst a =>
    obtain rfl : u = .ref a := r
    obtain ⟨its, rv, p, _⟩ := I.list h
    refine ⟨_, _, begins_list a its.toArray, p.isList, fun it h e => ⟨_, e, rfl, rfl⟩, fun b e => ?_⟩
    rw [← Option.some.inj e]
    exact p.lt
  | tup a =>
    obtain rfl : u = .ref a := r
    obtain ⟨its, rv, p, _⟩ := I.tuple h
    refine ⟨_, _, begins_tuple a its.toArray, p, fun it h e => ⟨_, e, rfl, rfl⟩, fun b e => ?_⟩
    rw [← Option.some.inj e]
    obtain ⟨_, e2, _⟩ := p
    exact Heap.lt_size e2
  | txt x =>
    obtain ⟨t, rfl⟩ := r
    exact ⟨_, _, begins_text x t, trivial, fun it h e => ⟨t, _, e, rfl, rfl⟩, fun b e => by cases e⟩
def iZipX (K : PySem.W.Frag) (ta : TA) : TI := fun σ H R => ta σ H fun vs H1 => ∃ (S1 S2 : Sd) (xs ys : List V), vs = [S1.v, S2.v] ∧ S1.has K H1 xs ∧ S2.has K H1 ys ∧ R (Itx K S1 S2) H1
theorem pi_zipX {X : Cx} {e e2 : Expr} {ta : TA} {p pos tpos : Pos} {elts : List Expr} {kk : Nat} (hg : Gl X "zip") (hm : X.mg "zip" = none) (ha : PA X [e, e2] ta)
    (hs : starEach [e, e2] X.env = (false, eval e X.env) :: starEach [e2] X.env := by rfl) (hpl : (backTo pos (starEach [e2] X.env)).any (·.1) = false := by rfl) :
    PI X (.Tuple elts kk tpos) (.Call (.Name "zip" p) [e, e2] [] pos) (iZipX X.K ta) := by
  refine ⟨fun pins s σ H R I h => ?_⟩
  refine Call_ (ld_blt I hg hm PyProof.Rows.boot_zip (PyProof.Rows.callWith_type1 (thn (ha.run pos pins s σ H _ I h) fun us s1 ⟨vs, H1, I1, r1, q1⟩ => ?_) hs hpl))
  obtain ⟨S1, S2, xs, ys, ex, hqx, hqy, q⟩ := q1
  subst ex
  cases r1 with
  | cons r rr =>
    cases rr with
    | cons r' rr =>
      cases rr
      obtain ⟨o1, B1, b1, c1, d1, s1l⟩ := Sd.begins I1 hqx r
      obtain ⟨o2, B2, b2, c2, d2, s2l⟩ := Sd.begins I1 hqy r'
      refine zip_begins2 b1 b2 c1 c2 fun h' hz hTI hTO h1 h2 hsz hk => wpAny_pyIter_zip hz ?_
      have I2 : Inv X pins σ H1 { s1 with heap := h' } := I1.kept (t' := s1.toks) hk
      refine ⟨s1.heap.objs.size + 4, [s1.heap.objs.size + 4, s1.heap.objs.size + 2, s1.heap.objs.size + 3, s1.heap.objs.size, s1.heap.objs.size + 1], _, _, H1, rfl, I2, turn_zipX ?_, ⟨hz, hTI, ⟨_, _, hTO⟩, d1 _ _ h1, d2 _ _ h2⟩, fun c hcm => ?_, q⟩
      · have n : ∀ {a b : Nat}, a ≠ b → (s1.heap.objs.size + a : Addr) ≠ s1.heap.objs.size + b := fun h e => h (Nat.add_left_cancel e)
        have n0 : ∀ {b : Nat}, 0 ≠ b → (s1.heap.objs.size : Addr) ≠ s1.heap.objs.size + b := fun h e => by
          have : s1.heap.objs.size = s1.heap.objs.size + _ := e
          omega
        exact ⟨n (by decide), n (by decide), n0 (by decide), n (by decide), n (by decide), (n0 (by decide)).symm, n (by decide), (n0 (by decide)).symm, n (by decide), n0 (by decide),
          fun a e => ⟨Nat.ne_of_lt (Nat.lt_of_lt_of_le (s1l a e) (Nat.le_add_right _ _)), Nat.ne_of_lt (Nat.lt_of_lt_of_le (s1l a e) (Nat.le_add_right _ _)), Nat.ne_of_lt (s1l a e), Nat.ne_of_lt (Nat.lt_of_lt_of_le (s1l a e) (Nat.le_add_right _ _))⟩,
          fun a e => ⟨Nat.ne_of_lt (Nat.lt_of_lt_of_le (s2l a e) (Nat.le_add_right _ _)), Nat.ne_of_lt (Nat.lt_of_lt_of_le (s2l a e) (Nat.le_add_right _ _)), Nat.ne_of_lt (s2l a e), Nat.ne_of_lt (Nat.lt_of_lt_of_le (s2l a e) (Nat.le_add_right _ _))⟩⟩
      · have e' : c = s1.heap.objs.size + 4 ∨ c = s1.heap.objs.size + 2 ∨ c = s1.heap.objs.size + 3 ∨ c = s1.heap.objs.size ∨ c = s1.heap.objs.size + 1 := by simpa using hcm
        have hle : s1.heap.objs.size ≤ c := by
          rcases e' with z | z | z | z | z
          · rw [z]; exact Nat.le_add_right _ _
          · rw [z]; exact Nat.le_add_right _ _
          · rw [z]; exact Nat.le_add_right _ _
          · rw [z]; exact Nat.le_refl _
          · rw [z]; exact Nat.le_add_right _ _
        exact I1.fpOk hle (I1.hok.fresh hle)
theorem walk_zipX {K : PySem.W.Frag} {S1 S2 : Sd} {xs ys : List V} {n : Nat} (hn : n = min xs.length ys.length) : Walk (Itx K S1 S2) n (fun H => S1.has K H xs ∧ S2.has K H ys) (YPair (fun i => xs[i]?) (fun i => ys[i]?)) := by
  subst hn
  refine ⟨fun i _ hi q => ?_, fun _ q => ⟨xs, ys, q.1, q.2, by omega, by omega, by omega⟩, fun i H v H' _ q y => ?_⟩
  · have h1 : i < xs.length := by omega
    have h2 : i < ys.length := by omega
    exact ⟨xs, ys, xs[i], ys[i], q.1, q.2, by simp [h1], by simp [h2]⟩
  · obtain ⟨T, x, z, h1, h2, h3, h4, h5⟩ := y
    exact ⟨T, x, z, h1, h2, h3, h4 xs q.1, h5 ys q.2⟩
end SA

set_option Elab.async false
set_option linter.all false
set_option maxRecDepth 100000
set_option maxHeartbeats 4000000
namespace SA
open PySem PySem.Spec PyProof.Rows L2
/-! ### a dict of the top, as data -/
structure GDt (K : PySem.W.Frag) (w : World) (d : Addr) (kvs : List (Str × V)) : Prop where
  D : ∃ es n, KDict K w d es n
  no : ∀ z, kvs.lookup z = none → PySem.W.nsIn K d z = some none
  yes : ∀ z v, kvs.lookup z = some v → ∃ u, PySem.W.nsIn K d z = some (some u) ∧ RelV v u
theorem GDt.kd {K : PySem.W.Frag} {w : World} {d : Addr} {kvs : List (Str × V)} (G : GDt K w d kvs) {z : Str} {v : V} (h : kvs.lookup z = some v) : KDct K w d z v := by
  obtain ⟨es, n, D⟩ := G.D
  obtain ⟨u, e, r⟩ := G.yes z v h
  exact ⟨es, n, u, D.at_, D.lit, e, r⟩
theorem GDt.is {K : PySem.W.Frag} {w : World} {d : Addr} {kvs : List (Str × V)} (G : GDt K w d kvs) (z : Str) : ∃ r, PySem.W.nsIn K d z = some r ∧ r.isSome = (kvs.lookup z).isSome := by
  match h : kvs.lookup z with
  | none => exact ⟨none, G.no z h, rfl⟩
  | some v =>
    obtain ⟨u, e, _⟩ := G.yes z v h
    exact ⟨_, e, rfl⟩
theorem keyOf_none {P : Params} {z : Str} : ∀ {l : List DictEntry} {ks : List Str}, l.map He.keyOf = He.keysIn P ks → z ∉ ks → l.find? (·.key.isStr z) = none ∧ l.any (·.refKey) = false
  | [], _, _, _ => ⟨rfl, rfl⟩
  | e :: r, [], h, _ => by cases h
  | e :: r, k :: ks, h, hz => by
    have h1 : He.keyOf e :: r.map He.keyOf = some (k, PyData.keyHash P k) :: He.keysIn P ks := h
    injection h1 with h2 h3
    obtain ⟨i1, i2⟩ := keyOf_none (z := z) h3 fun m => hz (List.mem_cons_of_mem _ m)
    have hk : ∃ t, e.key = .str k t := by
      unfold He.keyOf at h2
      split at h2
      · rename_i x t q
        have h4 := Option.some.inj h2
        obtain ⟨h5, _⟩ := Prod.mk.inj h4
        exact ⟨t, by rw [q, h5]⟩
      · cases h2
    obtain ⟨t, hk⟩ := hk
    have n1 : e.key.isStr z = false := by
      rw [hk]
      show (k == z) = false
      rw [beq_eq_false_iff_ne]
      intro q
      exact hz (by rw [← q]; exact List.mem_cons_self)
    have n2 : e.refKey = false := by
      show e.key.isRef = false
      rw [hk]
      rfl
    rw [List.find?_cons, n1, List.any_cons, n2, i1, i2]
    exact ⟨rfl, rfl⟩
theorem gdt_of {K : PySem.W.Frag} {w : World} {d : Addr} {kvs : List (Str × He.Dv)} (h1 : He.dicW K d = some (He.keysIn w.params (kvs.map Prod.fst))) (h2 : He.valsB K d kvs = true) : GDt K w d (kvs.map fun q => (q.1, q.2.v K)) where
  D := He.dicW_ok h1
  no := fun z hz => by
    obtain ⟨es, n, D⟩ := He.dicW_ok h1
    have hz2 : z ∉ kvs.map Prod.fst := by
      intro m
      clear h1 h2 D
      induction kvs with
      | nil => cases m
      | cons q r ih =>
        rw [List.map_cons, List.lookup_cons] at hz
        rw [List.map_cons, List.mem_cons] at m
        split at hz
        · cases hz
        · rename_i e
          rcases m with rfl | m
          · simp at e
          · exact ih hz m
    unfold He.dicW at h1
    rw [D.at_] at h1
    have e : es.toList.map He.keyOf = He.keysIn w.params (kvs.map Prod.fst) := by
      have h3 : (match decide (("dict" : String) = "dict") && ((#[] : Array (Option Value)).isEmpty && !(d == sysModules)) with
        | true => some (es.toList.map He.keyOf)
        | false => none) = some (He.keysIn w.params (kvs.map Prod.fst)) := h1
      rw [D.low] at h3
      exact Option.some.inj h3
    obtain ⟨a, b⟩ := keyOf_none e hz2
    unfold PySem.W.nsIn
    rw [D.at_]
    show (match es.toList.find? (·.key.isStr z) with | some e => some (some e.val) | none => if es.toList.any (·.refKey) then none else some none) = some none
    rw [a, b]
    rfl
  yes := fun z v hz => by
    have hm : ∃ q ∈ kvs, q.1 = z ∧ q.2.v K = v := by
      clear h1 h2
      induction kvs with
      | nil => cases hz
      | cons q r ih =>
        rw [List.map_cons, List.lookup_cons] at hz
        split at hz
        · rename_i e
          exact ⟨q, List.mem_cons_self, (eq_of_beq e).symm, Option.some.inj hz⟩
        · obtain ⟨q2, m, e⟩ := ih hz
          exact ⟨q2, List.mem_cons_of_mem _ m, e⟩
    obtain ⟨q, m, rfl, rfl⟩ := hm
    exact He.valsB_ok h2 m
end SA

set_option Elab.async false
set_option linter.all false
set_option maxRecDepth 100000
set_option maxHeartbeats 4000000
/-! ### dict(zip(t, u)), t and u tuples -/
namespace SA
open PySem PySem.Spec PyProof.Rows L2
section
variable {prog : Program} {w : World} {A : Around} {E : Value → Shared → Prop} {s : Shared} {z TI TO i1 i2 : Addr} {fp1 fp2 : List Addr} {n1 n2 k : Nat} {P1 P2 : Nat → Value → Prop} {St1 St2 : Nat → Heap → Prop}
theorem zh_item {T : Addr} {f : Bool} {oT : Obj} {Q : Value → Shared → Prop} (S : ZipSep2 z TI TO i1 i2 fp1 fp2) (D1 : Draws prog w A i1 fp1 n1 P1 St1) (D2 : Draws prog w A i2 fp2 n2 P2 St2)
    (ez : IsZipHeld s.heap z TI TO T f) (eT : s.heap.get? T = some oT) (eI : IsTupOf2 s.heap TI (.ref i1) (.ref i2)) (t1 : St1 k s.heap) (t2 : St2 k s.heap) (l1 : k < n1) (l2 : k < n2)
    (q : ∀ x y h' tk, P1 k x → P2 k y → IsZipHeld h' z TI TO T true → St1 (k + 1) h' → St2 (k + 1) h' → IsTupOf2 h' s.heap.objs.size x y →
      (∀ c o, c ≠ z → c ≠ i1 → c ≠ i2 → s.heap.get? c = some o → h'.get? c = some o) → Q (.ref s.heap.objs.size) { s with heap := h', toks := tk }) :
    wpAny (model prog w) A (Builtin.«zip.__next__» ⟨[.ref z], []⟩) (fun fin s' => ∃ v, fin = .done (.ret v) ∧ Q v s') E s := by
  obtain ⟨hp, g, d, tk0, os⟩ := s
  show wpAny _ _ (field (.ref z) 2 >>= _) _ _ _
  refine wpAny_bind (wpAny_field ez rfl (x := .bool false) rfl ?_)
  show wpAny _ _ (field (.ref z) 3 >>= _) _ _ _
  refine wpAny_bind (wpAny_field ez rfl (x := .ref TI) rfl (wpAny_bind (wpAny_seqItems eI rfl ?_)))
  show wpAny _ _ (Builtin.SmallTypes.ownedTupleIsFree (.ref z) >>= _) _ _ _
  refine wpAny_bind (wpAny_tupleHeld_zip ez eT fun g1 ez1 b1 => ?_)
  simp only [Bool.false_eq_true, if_false]
  refine wpAny_bind ?_
  rw [← Array.forIn_toList]
  simp only [List.forIn_cons, List.forIn_nil]
  have f1 : ∀ b ∈ fp1, b ≠ z := fun b hb e => S.zf1 (by rw [← e]; exact hb)
  have f2 : ∀ b ∈ fp2, b ≠ z := fun b hb e => S.zf2 (by rw [← e]; exact hb)
  have u1 : St1 k g1 := D1.frame _ _ _ t1 fun b hb o e => (b1.2 b (f1 b hb)).trans e
  have u2 : St2 k g1 := D2.frame _ _ _ t2 fun b hb o e => (b1.2 b (f2 b hb)).trans e
  refine wpAny_bind (wpAny_bind (wpAny_holding ?_))
  show wpAny _ _ (Builtin.SmallTypes.nextOf (.ref i1) >>= _) _ _ _
  refine wpAny_bind (D1.item k ⟨g1, g, d, tk0, os⟩ _ _ l1 u1 fun x g2 tk2 px v1 b2 => wpAny_pure (wpAny_pure ?_))
  have u3 : St2 k g2 := D2.frame _ _ _ u2 fun b hb o e => (b2.2 b (fun e' => S.sep1_2 (by rw [← e']; exact hb))).trans e
  refine wpAny_bind (wpAny_bind (wpAny_holding ?_))
  show wpAny _ _ (Builtin.SmallTypes.nextOf (.ref i2) >>= _) _ _ _
  refine wpAny_bind (D2.item k ⟨g2, g, d, tk2, os⟩ _ _ l2 u3 fun y g3 tk3 py v2 b3 => wpAny_pure (wpAny_pure (wpAny_pure ?_)))
  show wpAny _ _ (newTuple [x, y] >>= _) _ _ _
  refine wpAny_bind (wpAny_newTuple ?_)
  have v3 : St1 (k + 1) g3 := D1.frame _ _ _ v1 fun b hb o e => (b3.2 b (fun e' => S.sep2_1 (by rw [← e']; exact hb))).trans e
  have sz : g3.objs.size = hp.objs.size := by rw [b3.1, b2.1, b1.1]
  have kk : ∀ c o, c ≠ z → c ≠ i1 → c ≠ i2 → hp.get? c = some o → g3.get? c = some o := fun c o c1 c2 c3 e => (b3.2 c c3).trans ((b2.2 c c2).trans ((b1.2 c c1).trans e))
  have ez3 : IsZipHeld g3 z TI TO T true := (b3.2 z S.zi2).trans ((b2.2 z S.zi1).trans ez1)
  refine wpAny_pure ⟨_, rfl, ?_⟩
  show Q (.ref g3.objs.size) _
  have np : IsTupOf2 (g3.push { cls := .type "tuple", data := .seq #[x, y] }) g3.objs.size x y := Heap.get?_push_size _ rfl
  rw [sz] at np ⊢
  exact q x y _ _ px py (Heap.get?_push_of_some _ ez3) (D1.frame _ _ _ v3 fun b _ o e => Heap.get?_push_of_some _ e) (D2.frame _ _ _ v2 fun b _ o e => Heap.get?_push_of_some _ e) np fun c o c1 c2 c3 e => Heap.get?_push_of_some _ (kk c o c1 c2 c3 e)
theorem zh_end {T : Addr} {f : Bool} {oT : Obj} {Q : PySem.Fin → Shared → Prop} (S : ZipSep2 z TI TO i1 i2 fp1 fp2) (D1 : Draws prog w A i1 fp1 n1 P1 St1)
    (ez : IsZipHeld s.heap z TI TO T f) (eT : s.heap.get? T = some oT) (eI : IsTupOf2 s.heap TI (.ref i1) (.ref i2)) (t1 : St1 n1 s.heap)
    (q : ∀ h' e, (∀ c o, c ≠ z → c ≠ i1 → c ≠ i2 → s.heap.get? c = some o → h'.get? c = some o) → (∃ o, h'.get? e = some o ∧ o.cls = .type "StopIteration") → E (.ref e) { s with heap := h' }) :
    wpAny (model prog w) A (Builtin.«zip.__next__» ⟨[.ref z], []⟩) Q E s := by
  obtain ⟨hp, g, d, tk0, os⟩ := s
  show wpAny _ _ (field (.ref z) 2 >>= _) _ _ _
  refine wpAny_bind (wpAny_field ez rfl (x := .bool false) rfl ?_)
  show wpAny _ _ (field (.ref z) 3 >>= _) _ _ _
  refine wpAny_bind (wpAny_field ez rfl (x := .ref TI) rfl (wpAny_bind (wpAny_seqItems eI rfl ?_)))
  show wpAny _ _ (Builtin.SmallTypes.ownedTupleIsFree (.ref z) >>= _) _ _ _
  refine wpAny_bind (wpAny_tupleHeld_zip ez eT fun g1 ez1 b1 => ?_)
  simp only [Bool.false_eq_true, if_false]
  refine wpAny_bind ?_
  rw [← Array.forIn_toList]
  simp only [List.forIn_cons, List.forIn_nil]
  have f1 : ∀ b ∈ fp1, b ≠ z := fun b hb e => S.zf1 (by rw [← e]; exact hb)
  have u1 : St1 n1 g1 := D1.frame _ _ _ t1 fun b hb o e => (b1.2 b (f1 b hb)).trans e
  refine wpAny_bind (wpAny_bind (wpAny_holding ?_))
  show wpAny _ _ (Builtin.SmallTypes.nextOf (.ref i1) >>= _) _ _ _
  refine wpAny_bind (D1.done ⟨g1, g, d, tk0, os⟩ _ _ u1 fun h' e hk he => ?_)
  exact q h' e (fun c o c1 c2 _ x => hk _ _ c2 ((b1.2 c c1).trans x)) he
end
/-- zip(t, u) as what dict() takes, both of the same length -/
theorem pairArg_tt {prog : Program} {w : World} {z TI TO i1 i2 t1 t2 : Addr} {us vs : Array Value} (S : ZipSep2 z TI TO i1 i2 [i1, t1] [i2, t2]) (hn1 : t1 ≠ i1) (hn2 : t2 ≠ i2) (hTI : TI ≠ t1 ∧ TI ≠ t2) (hl : us.size = vs.size) :
    PairArg prog w "zip" z [z, TI, TO, i1, i2, t1, t2] [z, TO, i1, i2] us.size (fun i k v => us[i]? = some k ∧ vs[i]? = some v)
      (fun h => IsZip h z TI TO .none ∧ IsTupOf2 h TI (.ref i1) (.ref i2) ∧ (∃ a b, IsTupOf2 h TO a b) ∧ (h.IsTupleIter i1 t1 0 ∧ h.IsTuple t1 us) ∧ h.IsTupleIter i2 t2 0 ∧ h.IsTuple t2 vs) where
  type := fun s ok => ⟨_, ok.1, rfl⟩
  notDict := by decide
  keep := fun h h' ok kp => ⟨kp _ _ ok.1, kp _ _ ok.2.1, ok.2.2.1.elim fun a r => r.elim fun b r => ⟨a, b, kp _ _ r⟩, ⟨ok.2.2.2.1.1.at fun o e => kp _ o e, ok.2.2.2.1.2.at fun o e => kp _ o e⟩, ok.2.2.2.2.1.at fun o e => kp _ o e, ok.2.2.2.2.2.at fun o e => kp _ o e⟩
  there := fun h ok b hb => by
    obtain ⟨k1, k2, ⟨a, c, k3⟩, ⟨⟨o1, k4, _⟩, ⟨o2, k5, _⟩⟩, ⟨o3, k6, _⟩, ⟨o4, k7, _⟩⟩ := ok
    simp only [List.mem_cons, List.not_mem_nil, or_false] at hb
    rcases hb with rfl | rfl | rfl | rfl | rfl | rfl | rfl
    · exact ⟨_, k1⟩
    · exact ⟨_, k2⟩
    · exact ⟨_, k3⟩
    · exact ⟨_, k4⟩
    · exact ⟨_, k6⟩
    · exact ⟨_, k5⟩
    · exact ⟨_, k7⟩
  sub := fun b hb => by
    simp only [List.mem_cons, List.not_mem_nil, or_false] at hb ⊢
    rcases hb with rfl | rfl | rfl | rfl <;> simp
  noKeys := fun A s Q E hA ok q => getAttrOr_miss_zip ok.1 rfl rfl rfl zip_no_keys (by decide +kernel) hA q
  iter := fun A s d Q E hA ok hd hdf q => by
    obtain ⟨k1, k2, ⟨a, c, k3⟩, k4, k5⟩ := ok
    simp only [List.mem_cons, List.not_mem_nil, or_false, not_or] at hdf
    obtain ⟨dz, dI, dO, d1, d2, d3, d4⟩ := hdf
    have D1 : ∀ A : Around, A.handled = none → Draws prog w A i1 [i1, t1] us.size (fun i v => us[i]? = some v) fun i h => h.IsTupleIter i1 t1 i ∧ h.IsTuple t1 us := fun A hh => Draws.tuple hh i1 t1 hn1 us
    have D2 : ∀ A : Around, A.handled = none → Draws prog w A i2 [i2, t2] vs.size (fun i v => vs[i]? = some v) fun i h => h.IsTupleIter i2 t2 i ∧ h.IsTuple t2 vs := fun A hh => Draws.tuple hh i2 t2 hn2 vs
    refine wpAny_pyIter_zip k1 (q z [z, TO, i1, i2] (fun i h => IsTupOf2 h TI (.ref i1) (.ref i2) ∧ (h.IsTupleIter i1 t1 i ∧ h.IsTuple t1 us) ∧ (h.IsTupleIter i2 t2 i ∧ h.IsTuple t2 vs) ∧
      ((IsZip h z TI TO .none ∧ ∃ a b, IsTupOf2 h TO a b) ∨ ∃ T f oT, IsZipHeld h z TI TO T f ∧ h.get? T = some oT ∧ T ≠ z ∧ T ≠ i1 ∧ T ≠ i2 ∧ T ≠ d)) s.heap s.toks ?_ ⟨k2, k4, k5, .inl ⟨k1, a, c, k3⟩⟩ (fun _ _ e => e) fun b hb => .inl hb)
    refine ⟨fun hm => ?_, fun i g1 g2 st kp => ?_, fun i s1 Q1 E1 hi st hds q1 => ?_, fun s1 Q1 E1 st q1 => ?_⟩
    · simp only [List.mem_cons, List.not_mem_nil, or_false] at hm
      rcases hm with e | e | e | e
      · exact dz e
      · exact dO e
      · exact d1 e
      · exact d2 e
    · obtain ⟨k2, k4, k5, kz⟩ := st
      refine ⟨kp _ _ (Ne.symm dI) k2, ⟨k4.1.at fun o e => kp _ o (Ne.symm d1) e, k4.2.at fun o e => kp _ o (Ne.symm d3) e⟩, ⟨k5.1.at fun o e => kp _ o (Ne.symm d2) e, k5.2.at fun o e => kp _ o (Ne.symm d4) e⟩, ?_⟩
      rcases kz with ⟨kz, a, b, kO⟩ | ⟨T, f, oT, kz, kT, r1, r2, r3, r4⟩
      · exact .inl ⟨kp _ _ (Ne.symm dz) kz, a, b, kp _ _ (Ne.symm dO) kO⟩
      · exact .inr ⟨T, f, oT, kp _ _ (Ne.symm dz) kz, kp _ _ r4 kT, r1, r2, r3, r4⟩
    · obtain ⟨k2, k4, k5, kz⟩ := st
      have hi2 : i < vs.size := by omega
      have old : ∀ {c o}, s1.heap.get? c = some o → s1.heap.objs.size ≠ c := fun e => Nat.ne_of_gt (Heap.lt_size e)
      have m1 : s1.heap.objs.size ≠ i1 := let ⟨_, e, _⟩ := k4.1; old e
      have m2 : s1.heap.objs.size ≠ i2 := let ⟨_, e, _⟩ := k5.1; old e
      rcases kz with ⟨kz, a, b, kO⟩ | ⟨T, f, oT, kz, kT, r1, r2, r3, r4⟩
      · refine wpAny_pyNext_zipD2_item S (D1 _ hA) (D2 _ hA) kz k2 kO k4 k5 hi hi2 fun x y h' tk px py b1 b2 b3 b4 b5 b6 hk => ?_
        exact q1 s1.heap.objs.size _ _ h' tk ⟨px, py⟩ (.inl ⟨_, b5, rfl, _, rfl⟩) ⟨hk _ _ S.TIz S.TITO S.TIi1 S.TIi2 k2, b3, b4, .inr ⟨s1.heap.objs.size, false, _, b1, b5, old kz, m1, m2, Nat.ne_of_gt hds⟩⟩
          fun c o hc e => hk c o (fun x => hc (by simp [x])) (fun x => hc (by simp [x])) (fun x => hc (by simp [x])) (fun x => hc (by simp [x])) e
      · unfold pyNext
        have ty : s1.TypeIs (.ref z) "zip" := ⟨_, kz, rfl⟩
        refine wpAny_bind (wpAny_attempt (wpAny_callSpecial?_slot (name := Str.ofString "__next__") ty F.slot_zip_next (wpAny_call_entry F.slot_zip_next ty F.entry_zip_next
          (zh_item (Q := fun v s' => wpAny _ _ _ _ _ s') S (D1 _ hA) (D2 _ hA) kz kT k2 k4 k5 hi hi2 fun x y h' tk px py b1 b3 b4 b5 hk => ?_) (F.args_zip_next_1 _))))
        exact wpAny_pure (q1 s1.heap.objs.size _ _ h' tk ⟨px, py⟩ (.inl ⟨_, b5, rfl, _, rfl⟩) ⟨hk _ _ S.TIz S.TIi1 S.TIi2 k2, b3, b4, .inr ⟨T, true, oT, b1, hk _ _ r1 r2 r3 kT, r1, r2, r3, r4⟩⟩
          fun c o hc e => hk c o (fun x => hc (by simp [x])) (fun x => hc (by simp [x])) (fun x => hc (by simp [x])) e)
    · obtain ⟨k2, k4, k5, kz⟩ := st
      rcases kz with ⟨kz, a, b, kO⟩ | ⟨T, f, oT, kz, kT, r1, r2, r3, r4⟩
      · exact wpAny_pyNext_zipD2_end S (D1 _ hA) (D2 _ hA) kz k2 kO k4 k5 (Nat.le_refl _) (Nat.le_of_eq hl) (.inl rfl) fun h' tk hk => q1 h' tk fun c o hc e => hk c o (fun x => hc (by simp [x])) (fun x => hc (by simp [x])) (fun x => hc (by simp [x])) (fun x => hc (by simp [x])) e
      · unfold pyNext
        have ty : s1.TypeIs (.ref z) "zip" := ⟨_, kz, rfl⟩
        refine wpAny_bind (wpAny_attempt (wpAny_callSpecial?_slot (name := Str.ofString "__next__") ty F.slot_zip_next (wpAny_call_entry F.slot_zip_next ty F.entry_zip_next
          (zh_end S (D1 _ hA) kz kT k2 k4 fun h' e hk he => ?_) (F.args_zip_next_1 _))))
        obtain ⟨o, ho, hc⟩ := he
        exact wpAny_bind (wpAny_isInstance (T := "StopIteration") (b := true) ⟨o, ho, hc⟩ isSubtype_stop (wpAny_pure (q1 h' s1.toks fun c o hc e => hk c o (fun x => hc (by simp [x])) (fun x => hc (by simp [x])) (fun x => hc (by simp [x])) e)))
end SA

set_option Elab.async false
set_option linter.all false
set_option maxRecDepth 100000
set_option maxHeartbeats 4000000
namespace SA
open PySem PySem.Spec PyProof.Rows L2
def tDictZip (K : PySem.W.Frag) (ta : TA) : TE := fun σ H Q => ta σ H fun vs H1 => ∃ (a b : Addr) (ks : List Key) (xs : List V), vs = [.ref a, .ref b] ∧ SqT K H1 a (ks.map kV) ∧ SqT K H1 b xs ∧ ks.length = xs.length ∧ ∀ p, H1 p = none → Q (.ref p) (upd H1 p (.dK (mergeK [] (ks.zip xs))))
theorem vals_at' {i : Nat} : ∀ {xs : List V} {us : List Value} {u : Value}, Vals xs us → us[i]? = some u → ∃ x, xs[i]? = some x ∧ RelV x u := by
  induction i with
  | zero =>
    intro xs us u h e
    cases h with
    | nil => cases e
    | cons a t =>
      simp at e
      subst e
      exact ⟨_, rfl, a⟩
  | succ i ih =>
    intro xs us u h e
    cases h with
    | nil => cases e
    | cons a t =>
      simp at e
      obtain ⟨x, h1, h2⟩ := ih t e
      exact ⟨x, by simpa using h1, h2⟩
theorem kv_zip : ∀ {ks : List Key} {xs : List V} {us : List Value}, ks.length = xs.length → Vals xs us → KV (ks.zip xs) (ks.zip us)
  | [], _, _, _, _ => .nil
  | k :: ks, [], _, h, _ => by cases h
  | k :: ks, x :: xs, _, h, .cons r t => .cons ⟨rfl, r⟩ (kv_zip (by simpa using h) t)
theorem pe_dictZip {X : Cx} {e1 e2 : Expr} {ta : TA} {p p2 pos pos2 : Pos} (hg : Gl X "dict") (hm : X.mg "dict" = none) (hg2 : Gl X "zip") (hm2 : X.mg "zip" = none) (ha : PA X [e1, e2] ta) (hcalm : X.calm = true := by rfl)
    (hs : starEach [e1, e2] X.env = (false, eval e1 X.env) :: starEach [e2] X.env := by rfl) (hpl : (backTo pos2 (starEach [e2] X.env)).any (·.1) = false := by rfl) :
    PE X (.Call (.Name "dict" p) [.Call (.Name "zip" p2) [e1, e2] [] pos2] [] pos) (tDictZip X.K ta) := by
  refine ⟨fun pins s σ H Q I h => ?_⟩
  refine wpAny_Call_Name_kw (ld_blt I hg hm boot_dict ?_ (by decide) (by decide))
  refine PyProof.Rows.callWith_type1 ?_ rfl rfl
  show wpAny _ _ (spliced ((false, eval (.Call (.Name "zip" p2) [e1, e2] [] pos2) X.env) :: [])) _ _ s
  refine Calls.spliced_cons ?_
  refine Call_ (ld_blt I hg2 hm2 PyProof.Rows.boot_zip (PyProof.Rows.callWith_type1 (thn (ha.run pos2 pins s σ H _ I h) fun us s1 ⟨vs, H1, I1, r1, q1⟩ => ?_) hs hpl))
  obtain ⟨a, b, ks, xs, rfl, hka, hxb, hl, q⟩ := q1
  obtain ⟨u1, u2, rfl, ra, rb⟩ := vals2 r1
  obtain rfl : u1 = Value.ref a := ra
  obtain rfl : u2 = Value.ref b := rb
  obtain ⟨ia, va, ta1, za⟩ := I1.tuple hka
  obtain ⟨ib, vb, tb1, zb⟩ := I1.tuple hxb
  have lia := va.length
  have lib := vb.length
  rw [List.length_map] at lia
  refine zip_begins2 (begins_tuple a ia.toArray) (begins_tuple b ib.toArray) ta1 tb1 fun h' hz hTI hTO h1 h2 hsz hk => Calls.spliced_nil ?_
  have I2 : Inv X pins σ H1 { s1 with heap := h' } := I1.kept (t' := s1.toks) hk
  have n : ∀ {x y : Nat}, x ≠ y → (s1.heap.objs.size + x : Addr) ≠ s1.heap.objs.size + y := fun h e => h (Nat.add_left_cancel e)
  have n0 : ∀ {y : Nat}, 0 ≠ y → (s1.heap.objs.size : Addr) ≠ s1.heap.objs.size + y := fun h e => n h e
  have la : a < s1.heap.objs.size := let ⟨_, e, _⟩ := ta1; Heap.lt_size e
  have lb : b < s1.heap.objs.size := let ⟨_, e, _⟩ := tb1; Heap.lt_size e
  have na : ∀ y : Nat, a ≠ s1.heap.objs.size + y := fun y => Nat.ne_of_lt (Nat.lt_of_lt_of_le la (Nat.le_add_right _ _))
  have nb : ∀ y : Nat, b ≠ s1.heap.objs.size + y := fun y => Nat.ne_of_lt (Nat.lt_of_lt_of_le lb (Nat.le_add_right _ _))
  have mem2 : ∀ {c x y : Addr}, c ≠ x → c ≠ y → c ∉ [x, y] := fun h1 h2 hm => by
    simp only [List.mem_cons, List.not_mem_nil, or_false] at hm
    exact hm.elim h1 h2
  have S : ZipSep2 (s1.heap.objs.size + 4) (s1.heap.objs.size + 2) (s1.heap.objs.size + 3) s1.heap.objs.size (s1.heap.objs.size + 1) [s1.heap.objs.size, a] [s1.heap.objs.size + 1, b] :=
    ⟨n (by decide), n (by decide), n (by decide), (n0 (by decide)).symm, by simp, mem2 (n0 (by decide)).symm (na 4).symm, mem2 (n0 (by decide)).symm (na 3).symm, n (by decide), by simp, mem2 (n (by decide)) (nb 4).symm, mem2 (n (by decide)) (nb 3).symm,
      mem2 (n0 (by decide)) (nb 0).symm, mem2 (n0 (by decide)).symm (na 1).symm⟩
  have P := pairArg_tt (prog := X.prog) (w := X.w) (us := ia.toArray) (vs := ib.toArray) S (na 0) (nb 1) ⟨(na 2).symm, (nb 2).symm⟩ (by simp only [List.size_toArray]; omega)
  have kk : ∀ b o, s1.heap.get? b = some o → h'.get? b = some o := hk
  have rel : KV (ks.zip xs) (ks.zip ib) := kv_zip hl vb
  refine PySem.call_dict_pairs (knd := mixKind X.prog X.w) (kvs := ks.zip ib) P (I2.ok.hd hcalm) ⟨hz, hTI, ⟨_, _, hTO⟩, ⟨⟨_, h1, rfl, rfl⟩, ta1.imp fun o e => ⟨kk _ _ e.1, e.2⟩⟩, ⟨_, h2, rfl, rfl⟩, tb1.imp fun o e => ⟨kk _ _ e.1, e.2⟩⟩ ⟨?_, ?_⟩ ?_ fun g tk hd hold => ?_
  · simp only [List.length_zip, List.size_toArray]
    omega
  · rintro i key v ⟨e1, e2⟩
    have e1 : ia[i]? = some key := by simpa using e1
    have e2 : ib[i]? = some v := by simpa using e2
    obtain ⟨x, hx, rx⟩ := vals_at' va e1
    rw [List.getElem?_map] at hx
    obtain ⟨k, hk0, rfl⟩ := Option.map_eq_some_iff.mp hx
    exact ⟨k, by rw [List.getElem?_zip_eq_some]; exact ⟨hk0, e2⟩, kV_is rx⟩
  · simp only [List.size_toArray]
    rw [List.length_map] at za
    omega
  · have hz0 : (mergeK [] (ks.zip xs)).length ≤ sizeLine := by
      have h1 := length_mergeK (ks.zip xs) []
      have h2 : (ks.zip xs).length ≤ ks.length := by rw [List.length_zip]; omega
      rw [List.length_map] at za
      rw [List.length_nil] at h1
      omega
    have hnew : H1 h'.objs.size = none := I2.hok.fresh (Nat.le_refl _)
    refine ⟨.ref h'.objs.size, upd H1 h'.objs.size (.dK (mergeK [] (ks.zip xs))), ?_, rfl, q _ hnew⟩
    refine I2.turnedNew (t' := tk) (ch := [s1.heap.objs.size + 4, s1.heap.objs.size + 3, s1.heap.objs.size, s1.heap.objs.size + 1]) (fun b o hb e => hold b o hb e) (fun c hc => ?_) (Nat.le_refl _) (dk_new hz0 (beq_eq_false_iff_ne.mpr (Nat.ne_of_gt I2.big)) (rel.merge .nil) hd)
    have hle : s1.heap.objs.size ≤ c := by
      simp only [List.mem_cons, List.not_mem_nil, or_false] at hc
      rcases hc with z | z | z | z
      · rw [z]; exact Nat.le_add_right _ _
      · rw [z]; exact Nat.le_add_right _ _
      · rw [z]; exact Nat.le_refl _
      · rw [z]; exact Nat.le_add_right _ _
    exact I1.fpOk hle (I1.hok.fresh hle)
end SA

set_option Elab.async false
set_option linter.all false
set_option maxRecDepth 100000
set_option maxHeartbeats 4000000
/-! ### {t: v}, t a tuple of ints and texts -/
namespace SA
open PySem PySem.Spec PyProof.Rows L2
def tDispT (trs : List (TE × TE)) : TE := fun σ H Q => ∀ p, H p = none → tPairs trs σ (upd H p (.dT [])) fun ps H2 => H2 p = some (.dT []) ∧ ∃ (k : List Key) (b : Addr) (v : V), ps = [(.ref b, v)] ∧ H2 b = some (.tup (k.map kV)) ∧ Q (.ref p) (upd H2 p (.dT [(k, v)]))
theorem pe_dispT {X : Cx} {pos : Pos} {ke ve : Expr} {trs : List (TE × TE)} (h : PPs X pos [some ke] [ve] trs) (hu : X.A.units + 1 < cLine) : PE X (.Dict [some ke] [ve] pos) (tDispT trs) := by
  refine ⟨fun pins s σ H Q I q => ?_⟩
  have hn := I.hok.fresh (Nat.le_refl s.heap.objs.size)
  have I1 := I.laid (a := s.heap.objs.size) (o := .dT []) (h' := s.heap.push { cls := .type "dict", data := .dict #[] }) (t' := s.toks) (fun _ _ q => Heap.get?_push_of_some _ q) (Nat.le_refl _) (dt_empty s.heap I.big)
  have shape := zip_pairTrees [some ke] [ve] X.env pos (by rfl) (by rfl)
  have hlen := pairTrees_length [some ke] [ve] X.env pos (by rfl) (by rfl)
  have h0 : pairTrees [some ke] [ve] X.env pos ≠ [] := fun e => by rw [e] at hlen; cases hlen
  rw [arm_eval_Dict, shape, dictDisplay_pairs _ h0 (by rw [hlen]; show 1 < 17; decide)]
  refine wpAny_bind (wpAny_standAt (wpAny_bind ?_))
  refine wpAny_subDictH (knd := tupleKind (mixKind X.prog X.w)) (show X.A.units < cLine by omega) (by rw [hlen]; show 1 ≤ 15; decide) (thn (h.run pins _ σ _ _ I1 (q _ hn)) fun ws s2 ⟨ps, H2, I2, rel, e, k, b, v, ep, eb, q2⟩ => ?_)
  subst ep
  obtain ⟨u1, u2, rfl, rk, rv⟩ : ∃ u1 u2, ws = [(u1, u2)] ∧ RelV (.ref b) u1 ∧ RelV v u2 := by
    cases rel with
    | cons a t =>
      cases t
      exact ⟨_, _, rfl, a.1, a.2⟩
  obtain rfl : u1 = Value.ref b := rk
  obtain ⟨z, hd, xs, r0, dd⟩ := dt_of I2.hok e
  cases r0
  refine ⟨[(k, b, u2)], ⟨rfl, rfl, key_of I2.hok eb, trivial⟩, dd, fun h' tk dd' hs => wpAny_pure ⟨.ref s.heap.objs.size, _, ?_, rfl, q2⟩⟩
  obtain ⟨o, es, ep, ho, h2, h3, h4, _, h5⟩ := dd'
  refine d_write I2 (by rw [e]; exact True.intro) hs ⟨o, ho⟩ ⟨by show 1 ≤ sizeLine; decide, hd, [(k, b, u2)], .cons ⟨rfl, ?_, rv⟩ .nil, o, es, ep, ho, h2, h3, h4, h5⟩
  rw [upd_ne (ne_of eb e (fun z => nomatch z))]
  exact eb
end SA

set_option Elab.async false
set_option linter.all false
set_option maxRecDepth 100000
set_option maxHeartbeats 4000000
/-! ### sorted(xs, key=lambda x: x[1]) of a list or a tuple -/
namespace SA
open PySem PySem.Spec PySem.W PyProof.Rows L2
section
variable {prog : Program} {w : World} {A : Around} {E : Value → Shared → Prop} {s : Shared}
theorem collect_seq {T : String} (hT : T = "list" ∨ T = "tuple") {l : Addr} {vs : List Value} {o : Obj} {n : Nat} {Q : List Value → Shared → Prop} (ho : s.heap.get? l = some o) (hc : o.cls = .type T) (hd : o.data = .seq vs.toArray n)
    (h : Q vs { s with heap := (s.heap.push (seqObj "list" #[] 0)).update s.heap.objs.size (Obj.mapSeq (· ++ vs.toArray)) }) (hsz : vs.length ≤ sizeLine) :
    wpAny (model prog w) A (collect (.ref l)) Q E s := by
  unfold collect
  refine wpAny_bind (wpAny_runValue (codeAny_builtin entry_proto_collect' ?_))
  show wpAny _ _ (do again (.builtin "list.__iadd__" ⟨[← newList [], .ref l], []⟩)) _ _ s
  refine wpAny_bind (wpAny_newList (wpAny_pure ⟨Code.quiet_builtin _ (by decide +kernel), codeAny_builtin entry_list_iadd' ?_⟩))
  show wpAny _ _ (Builtin.List.listExtendWith (.ref s.heap.objs.size) (.ref l) (.ref s.heap.objs.size)) _ _ { s with heap := s.heap.push (seqObj "list" #[] 0) }
  unfold Builtin.List.listExtendWith
  have ho' : (s.heap.push (seqObj "list" #[] 0)).get? l = some o := Heap.get?_push_of_some _ ho
  refine wpAny_bind (wpAny_typeOf (T := T) ⟨o, ho', hc⟩ ?_)
  have ht : (Value.type T == Value.type "list" || Value.type T == Value.type "tuple") = true := by
    rcases hT with rfl | rfl <;> rfl
  rw [if_pos (by rw [Bool.or_assoc, ht, Bool.or_true])]
  refine wpAny_bind (listItems_at ho' hd ?_)
  refine wpAny_bind (listItems_at (xs := #[]) (n := 0) (Heap.get?_push_size _ rfl) rfl ?_)
  rw [if_neg (by simp)]
  refine wpAny_bind (listUpdate_at (xs := #[]) (n := 0) (Heap.get?_push_size _ rfl) rfl ?_ (Nat.zero_le _) (by show (#[] ++ vs.toArray).size ≤ sizeLine + 1; simp only [Array.size_append, List.size_toArray, List.length_nil]; omega))
  refine wpAny_pure ?_
  show wpAny (model prog w) A (do
      let o ← load s.heap.objs.size
      match o.data with
      | .seq xs _ => pure xs.toList
      | _ => unsupported "internal:collect") Q E { s with heap := (s.heap.push (seqObj "list" #[] 0)).update s.heap.objs.size (Obj.mapSeq (· ++ vs.toArray)) }
  refine wpAny_bind (wpAny_load (get?_update_seq (Heap.get?_push_size _ rfl) _) ?_)
  show wpAny _ _ (pure ((#[] : Array Value) ++ vs.toArray).toList) Q E _
  rw [show ((#[] : Array Value) ++ vs.toArray).toList = vs by simp]
  exact wpAny_pure h
theorem sorted_of_seq {T : String} (hT : T = "list" ∨ T = "tuple") {l : Addr} {vs : List Value} {o : Obj} {n : Nat} {kw : List (Str × Value)} {Q : Value → Shared → Prop} (ho : s.heap.get? l = some o) (hc : o.cls = .type T) (hd : o.data = .seq vs.toArray n) (hL : vs.length ≤ sizeLine)
    (ha1 : argsOk "sorted" ⟨[.ref l], kw⟩) (ha2 : ∀ x, argsOk "list.sort" ⟨[.ref x], kw⟩)
    (body : ∀ E' : Value → Shared → Prop, wpAny (model prog w) A.in1.in1 (Builtin.«list.sort» ⟨[.ref (s.heap.objs.size + 1)], kw⟩) (fun f s' => f = .done (.ret .none) ∧ Q (.ref (s.heap.objs.size + 1)) s') E' { s with heap := copyHeap s.heap vs }) :
    wpAny (model prog w) A (call (.builtin "sorted") [.ref l] kw) Q E s := by
  refine call_function_entry_kw kind_sorted plain_sorted entry_sorted ha1 ?_
  unfold Builtin.«sorted»
  refine wpAny_bind (m := checkCount "sorted" 1 1 _) (wpAny_pure ?_)
  refine wpAny_bind (collect_seq hT ho hc hd ?_ hL)
  refine wpAny_bind (wpAny_newList ?_ hL)
  have hsz : ((s.heap.push (seqObj "list" #[] 0)).update s.heap.objs.size (Obj.mapSeq (· ++ vs.toArray))).objs.size = s.heap.objs.size + 1 := by
    rw [Heap.size_update, size_push']
  show wpAny _ _ _ _ _ { s with heap := copyHeap s.heap vs }
  rw [hsz]
  refine wpAny_bind (wpAny_holding (wpAny_call_entry_kw slot_list_sort ⟨_, copyHeap_at s.heap vs, rfl⟩ entry_list_sort ?body (ha2 _)))
  case body =>
    show wpAny (model prog w) A.in1.in1 (Builtin.«list.sort» ⟨[.ref (s.heap.objs.size + 1)], kw⟩) _ _ _
    refine wpAny_mono (body _) (fun f s' hf => ?_) fun _ _ e => e
    obtain ⟨rfl, hq⟩ := hf
    exact ⟨_, rfl, wpAny_pure ⟨_, rfl, hq⟩⟩
theorem sorted_key_seq {β : Type} {vs : List Value} {bs : List β} {R : Value → β → Prop} {T : String} (hT : T = "list" ∨ T = "tuple") {l : Addr} {o : Obj} {n : Nat} {f : Value} {kw : List (Str × Value)} {b : Bool} {Q : Value → Shared → Prop} (k : β → PyData) (ho : s.heap.get? l = some o) (hc : o.cls = .type T) (hd : o.data = .seq vs.toArray n) (e : EachIs R vs bs)
    (hal : AllAlike (bs.map k)) (hk : Sortable (bs.map k)) (hL : bs.length ≤ sizeLine)
    (hu : ∀ x, x ∈ bs → A.units + 2 + (k x).depth < cLine) (ha1 : argsOk "sorted" ⟨[.ref l], kw⟩) (ha2 : ∀ x, argsOk "list.sort" ⟨[.ref x], kw⟩) (ht : ∀ x, Builtin.«list.sort» ⟨[.ref x], kw⟩ = ksk_tree x f b)
    (turn : ∀ (v : Value) (x : β), R v x → x ∈ bs → ∀ (h : Heap) (tk : Nat), (∀ b o, s.heap.get? b = some o → h.get? b = some o) →
      wpAny (model prog w) A.in1.in1 (call f [v]) (KeyPure (k x) { s with heap := h, toks := tk }) (fun _ _ => False) { s with heap := h, toks := tk })
    (h : ∀ out c h' tk, (∀ b o, s.heap.get? b = some o → h'.get? b = some o) → s.heap.get? (s.heap.objs.size + 1) = none → h'.get? (s.heap.objs.size + 1) = some (seqObj "list" (List.toArray out) c) → out.length = bs.length → EachIs R out (bs.mergeSort (dataLe b k)) →
      Q (.ref (s.heap.objs.size + 1)) { s with heap := h', toks := tk }) :
    wpAny (model prog w) A (call (.builtin "sorted") [.ref l] kw) Q E s := by
  have fresh : s.heap.get? (s.heap.objs.size + 1) = none := Heap.get?_none_of_le (Nat.le_succ _)
  have up : ∀ {g : Heap}, KeepsBut (s.heap.objs.size + 1) (copyHeap s.heap vs) g → ∀ b o, s.heap.get? b = some o → g.get? b = some o := fun {g} kp b o q =>
    kp b o (Nat.ne_of_lt (Nat.lt_succ_of_lt (Heap.lt_size q))) (copyHeap_old q)
  refine sorted_of_seq hT ho hc hd (by rw [e.length]; exact hL) ha1 ha2 fun E' => ?_
  rw [ht]
  refine keyH_tree (kz := bs.map k) (s := { s with heap := copyHeap s.heap vs }) (copyHeap_at s.heap vs) (by rw [List.length_map]; exact e.length.symm) (by rw [e.length]; exact hL) hal hk (bound_map (A := A.in1.in1) hu)
    (keyH_turns (s := { s with heap := copyHeap s.heap vs }) e fun v x hR hx h tk kp => turn v x hR hx h tk (up kp)) fun h' tk out c kp hD ko => ⟨rfl, ?_⟩
  exact h out c h' tk (up kp) fresh hD ((ko.length (by rw [List.length_map]; exact e.length.symm)).trans e.length) (keyedOut_each k ko e)
end
/-- the order of texts -/
def leS (a b : Str) : Bool := decide (a.cps.toList ≤ b.cps.toList)
def tSortKey (K : PySem.W.Frag) (T : List (Addr × Str)) (t : TA) : TE := fun σ H Q => t σ H fun vs H1 => LamX.Tabs T H1 ∧ ∃ (β : Type) (a : Addr) (bs : List β) (ad : β → Addr) (nm : β → Str), vs = [.ref a] ∧
  (SqL K H1 a (bs.map fun b => V.ref (ad b)) ∨ SqT K H1 a (bs.map fun b => V.ref (ad b))) ∧ (∀ b ∈ bs, ∃ x r, H1 (ad b) = some (.tup (x :: .str (nm b) :: r))) ∧
  ∀ H2 p, LamX.ExtN H1 H2 → LamX.Tabs T H2 → H2 p = none → Q (.ref p) (upd H2 p (.lst ((bs.mergeSort fun a b => leS (nm a) (nm b)).map fun b => V.ref (ad b))))
theorem each_refs {β : Type} {ad : β → Addr} : ∀ {bs : List β} {us : List Value}, Vals (bs.map fun b => V.ref (ad b)) us → EachIs (fun v x => v = Value.ref (ad x)) us bs
  | [], _, h => by
    cases h
    exact .nil
  | b :: bs, _, h => by
    rw [List.map_cons] at h
    cases h with
    | cons h t => exact .cons h (each_refs t)
theorem refs_each {β : Type} {ad : β → Addr} : ∀ {bs : List β} {us : List Value}, EachIs (fun v x => v = Value.ref (ad x)) us bs → Vals (bs.map fun b => V.ref (ad b)) us
  | _, _, .nil => .nil
  | _, _, .cons h t => .cons h (refs_each t)
section
variable {X : Cx}
theorem pe_sortKey {T : List (Addr × Str)} {c P : Addr} {k j1 : Nat} {params : Arguments} {kn : Str} {p p1 p2 p3 lpos kpos pos : Pos} {scope : Scope} {e : Expr} {t : TA} (hg : Gl X "sorted") (hm : X.mg "sorted" = none) (ha : PA X [e] t)
    (TB : LamX.TabB X.base X.mg c P) (hcode : X.env.code = .ref c) (hmT : (P, X.env.qual ++ "<lambda>") ∈ T) (hu : ∀ p ∈ T, p.1 = P → p.2 = X.env.qual ++ "<lambda>") (hr : Room (k + 2) X.A) (hsc : scope.kind = .function) (hco : scope.isCoroutine = false) (hgen : scope.isGenerator = false) (hns : scope.names = [(kn, .local)])
    (hdef : defaultsOf params X.env = ([], [])) (hbind : ∀ (q : Str) (body : Expr) (cl : List (Str × Addr)) (pm cv ctv u : Value), bindArgs (PySem.W.kla_fn "<lambda>" q params body scope cl pm cv ctv) ⟨[u], []⟩ = pure [(kn, u)])
    (hkn : (kn == ("__debug__" : Str)) = false := by decide)
    (he : backTo pos (starEach [e] X.env) = (false, eval e X.env) :: backTo pos (starEach [] X.env) := by rfl) (hpl : (backTo pos (starEach [e] X.env)).any (·.1) = false := by rfl) :
    PE X (.Call (.Name "sorted" p) [e] [⟨some "key", .Lambda params (.Subscript (.Name kn p1) (.Constant (.int 1) j1 p2) p3) scope lpos, kpos⟩] pos) (tSortKey X.K T t) := by
  refine ⟨fun pins s σ H Q I h => ?_⟩
  refine wpAny_Call_Name_kw (ld_blt I hg hm PyProof.Rows.Boot.«sorted» ?_)
  refine PyProof.Rows.callWith_kw (thn (ha.run pos pins s σ H _ I h) fun us s1 ⟨vs, H1, I1, r1, hT, β, a, bs, ad, nm, ev, hq, hb, q⟩ => ?_) he hpl (by rfl) (by rfl)
  subst ev
  obtain ⟨u, rfl, ru⟩ := vals1 r1
  obtain rfl : u = Value.ref a := ru
  show wpAny _ _ (evalAll ((do let v ← eval (.Lambda params (.Subscript (.Name kn p1) (.Constant (.int 1) j1 p2) p3) scope lpos) X.env; standAt pos; pure v) :: [])) _ _ s1
  refine wpAny_evalAll_cons (wpAny_bind (LamX.lam_make2 I1 TB hcode hmT hu hT hdef (fun y hy e => by rw [hns] at hy; simp at hy; rw [hy] at e; cases e) fun f c' pm ctv H2 s2 I2 eN T2 hf hfn hfr hco2 => wpAny_bind (wpAny_standAt (wpAny_pure (wpAny_evalAll_nil ?_)))))
  show wpAny _ _ (call (.builtin "sorted") [.ref a] [(Str.ofString "key", .ref f)]) _ _ s2
  have tupS : ∀ b ∈ bs, ∃ (its : List Value) (tk : Nat), IsTup s2.heap (ad b) its.toArray ∧ its[1]? = some (.str (nm b) tk) ∧ its.length ≤ sizeLine := fun b hbm => by
    obtain ⟨x, r, hx⟩ := hb b hbm
    obtain ⟨hz, its, rv, pl⟩ := (show ObjOk X.prog X.w H2 s2.heap (ad b) (.tup _) from I2.hok _ _ (eN _ _ hx fun ps z => nomatch z))
    cases rv with
    | cons h1 t => cases t with
      | cons h2 t =>
        obtain ⟨tk, rfl⟩ := h2
        refine ⟨_, tk, pl, rfl, ?_⟩
        have := Paired.length t
        simp only [List.length_cons] at hz ⊢
        omega
  obtain ⟨Ty, its, o, n, hTy, hv, ho, hc, hd, hz⟩ : ∃ (Ty : String) (its : List Value) (o : Obj) (n : Nat), (Ty = "list" ∨ Ty = "tuple") ∧ Vals (bs.map fun b => V.ref (ad b)) its ∧ s2.heap.get? a = some o ∧ o.cls = .type Ty ∧ o.data = .seq its.toArray n ∧ bs.length ≤ sizeLine := by
    have kT : ∀ {a xs}, SqT X.K H1 a xs → SqT X.K H2 a xs := fun {a xs} h => by
      rcases h with (h | ⟨o, h⟩) | h
      · exact .inl (.inl (eN _ _ h fun ps z => nomatch z))
      · exact .inl (.inr ⟨o, eN _ _ h fun ps z => nomatch z⟩)
      · exact .inr h
    have kL : ∀ {a xs}, SqL X.K H1 a xs → SqL X.K H2 a xs := fun {a xs} h => by
      rcases h with (h | ⟨o, h⟩) | h
      · exact .inl (.inl (eN _ _ h fun ps z => nomatch z))
      · exact .inl (.inr ⟨o, eN _ _ h fun ps z => nomatch z⟩)
      · exact .inr h
    rcases hq with hq | hq
    · obtain ⟨its, rv, ⟨o, n, h1, h2, h3, h4⟩, hz⟩ := I2.list (kL hq)
      exact ⟨"list", its, o, n, .inl rfl, rv, h1, h2, h4, by simpa using hz⟩
    · obtain ⟨its, rv, ⟨o, h1, h2, n, h4⟩, hz⟩ := I2.tuple (kT hq)
      exact ⟨"tuple", its, o, n, .inr rfl, rv, h1, h2, h4, by simpa using hz⟩
  refine sorted_key_seq (b := false) (bs := bs) (R := fun v x => v = Value.ref (ad x)) (f := .ref f) hTy (fun x => .str (nm x)) ho hc hd (each_refs hv) (AllAlike.of fun _ _ => by simp [alike]) (Sortable.others fun _ => ⟨by simp, fun xs z => by simp at z⟩) hz (fun x _ => ?_) (ksk_s1 _ _) (fun _ => ksk_l1 _ _) (fun _ => ksk_t1 _ _)
    (fun v x hR hx h tk kp => ?_) fun out c h' tk kp _ hD hlen eo => ?_
  · have := hr.units
    simp only [PyData.depth]
    have h2 : X.A.units + 64 < cLine := by
      have := hr.units
      omega
    omega
  · subst hR
    obtain ⟨its2, tk2, pl, h1, hz2⟩ := tupS x hx
    obtain ⟨⟨oc, vs2, t2, hoc, hdc, hvc⟩, _, _⟩ := I2.hok c' _ hco2
    refine wpAny_call (codeAny_mono (R := fun r s' => ∃ u, r = .ok (.ret u) ∧ KeyPure (.str (nm x)) { s2 with heap := h, toks := tk } u s') ?_ fun r s' hq => ?_)
    · refine PySem.W.kla_callFunE hr.depth (kp _ _ hf) rfl hco hgen rfl ⟨c', oc, vs2, t2, rfl, kp _ _ hoc, hdc, hvc⟩ ?_
      rw [hbind]
      refine wpAny_pure (wpAny_newFunctionEnv (fun y hy => by show y.2 ≠ .cell; rw [show (PySem.W.kla_fn _ _ _ _ scope _ _ _ _).scope.names = [(kn, .local)] from hns] at hy; simp at hy; rw [hy]; simp) (fun y hy => ?_) (fun h₁ hn1 hsb => ⟨(I2.nolimit.keeps kp).fresh _ hsb, ?_⟩) hsc)
      · simp at hy
        rw [hy]
        show scope.names.lookup kn = some .local
        rw [hns]
        simp
      · have kp1 : ∀ b o, h.get? b = some o → h₁.get? b = some o := fun b o e => hsb.extBut b o (Nat.ne_of_lt (Heap.lt_size e)) (Heap.get?_push_of_some _ e)
        refine PySem.W.kla_codeExpr (Subscript_ (wpAny_Name (wpAny_loadName_local hsc ?_ hn1 (by show List.lookup kn [(kn, Value.ref (ad x))] = some (Value.ref (ad x)); simp [List.lookup]) ?_) hkn))
        · show scope.names.lookup kn = some .local
          rw [hns]
          simp
        · refine wpAny_Constant_int ?_
          obtain ⟨o2, e2, c2, n2, d2⟩ := pl
          refine subscriptTail_builtinR (x := .str (nm x) tk2) (IsTup.typeIs ⟨o2, kp1 _ _ (kp _ _ e2), c2, n2, d2⟩) slot_tuple_getitem.lookup (getItem_tuple (j := 1) (Q := fun r s' => r = .str (nm x) tk2 ∧ ∃ u, (Except.ok (Flow.ret r) : Result) = .ok (.ret u) ∧ KeyPure (.str (nm x)) { s2 with heap := h, toks := tk } u s') ⟨o2, kp1 _ _ (kp _ _ e2), c2, n2, d2⟩ (by decide) (by decide) ?_ (by simpa using h1) ⟨rfl, _, rfl, h₁, _, rfl, kp1, .str _ _⟩)
          have : 1 < its2.length := (List.getElem?_eq_some_iff.mp h1).1
          rw [List.size_toArray]
          unfold seqIndex?
          simp
          omega
    · obtain ⟨u, rfl, hq⟩ := hq
      exact hq
  · rw [dataLe_str] at eo
    have hsz : s2.heap.objs.size ≤ s2.heap.objs.size + 1 := Nat.le_succ _
    have nn : H2 (s2.heap.objs.size + 1) = none := I2.hok.fresh hsz
    refine ⟨.ref _, upd H2 (s2.heap.objs.size + 1) (.lst ((bs.mergeSort fun a b => leS (nm a) (nm b)).map fun b => V.ref (ad b))), I2.laid (t' := tk) kp hsz ⟨?_, out, c, refs_each eo, hD⟩, rfl, q _ _ eN T2 nn⟩
    rw [List.length_map, List.length_mergeSort]
    exact hz
end
end SA

set_option Elab.async false
set_option linter.all false
set_option maxRecDepth 100000
set_option maxHeartbeats 4000000
/-! ### sorted(xs, key=f), f a def of the module that gives a pair of whole numbers -/
namespace SA
open PySem PySem.Spec PySem.W PyProof.Rows L2
def hid1 (h : Heap) (c : Addr) : Heap := h.update c fun o => { o with data := .freed }
theorem hid1_at {h : Heap} {c : Addr} {o : Obj} (e : h.get? c = some o) : (hid1 h c).get? c = none := by
  unfold hid1 Heap.get?
  have hl := Heap.lt_size e
  unfold Heap.update
  obtain ⟨objs, life⟩ := h
  simp only [Array.getElem?_modify]
  have hl : c < objs.size := hl
  simp [hl]
theorem hid1_ne {h : Heap} {b c : Addr} (hb : b ≠ c) : (hid1 h c).get? b = h.get? b := Heap.get?_update_ne _ _ _ _ hb
def leP (x y : β → Int) : β → β → Bool := fun p q => decide (x p < x q ∨ (x p = x q ∧ y p ≤ y q))
def rSortF (K : PySem.W.Frag) (sp : Sp) (f : Addr) : List V → List V → Hp → VK → Prop := fun vs zs H Q => ∃ (β : Type) (a : Addr) (bs : List β) (vl : β → V) (x y : β → Int), vs = [.ref a] ∧ zs = [.ref f] ∧ (SqL K H a (bs.map vl) ∨ SqT K H a (bs.map vl)) ∧
  (∀ b ∈ bs, ∀ (H1 : Hp) (Q1 : VK), Same H H1 → (∀ p H2, Same H1 H2 → H2 p = some (.tup [.int (x b), .int (y b)]) → Q1 (.ref p) H2) → sp [vl b] H1 Q1 (fun _ _ _ => False)) ∧
  ∀ H' p, Same H H' → H p = none → H' p = some (.lst ((bs.mergeSort (leP x y)).map vl)) → Q (.ref p) H'
theorem each_vl {β : Type} {vl : β → V} : ∀ {bs : List β} {us : List Value}, Vals (bs.map vl) us → EachIs (fun v x => RelV (vl x) v) us bs
  | [], _, h => by
    cases h
    exact .nil
  | b :: bs, _, h => by
    rw [List.map_cons] at h
    cases h with
    | cons h t => exact .cons h (each_vl t)
theorem vl_each {β : Type} {vl : β → V} : ∀ {bs : List β} {us : List Value}, EachIs (fun v x => RelV (vl x) v) us bs → Vals (bs.map vl) us
  | _, _, .nil => .nil
  | _, _, .cons h t => .cons h (vl_each t)
theorem vals_snoc : ∀ {xs : List V} {us : List Value} {x : V} {u : Value}, Vals xs us → RelV x u → Vals (xs ++ [x]) (us ++ [u])
  | _, _, _, _, .nil, h => .cons h .nil
  | _, _, _, _, .cons a t, h => .cons a (vals_snoc t h)
theorem vals_at {i : Nat} : ∀ {xs : List V} {us : List Value} {u : Value}, Vals xs us → us[i]? = some u → ∃ x, xs[i]? = some x ∧ RelV x u := by
  induction i with
  | zero =>
    intro xs us u h e
    cases h with
    | nil => cases e
    | cons a t =>
      simp at e
      subst e
      exact ⟨_, rfl, a⟩
  | succ i ih =>
    intro xs us u h e
    cases h with
    | nil => cases e
    | cons a t =>
      simp at e
      obtain ⟨x, h1, h2⟩ := ih t e
      exact ⟨x, by simpa using h1, h2⟩
/-- pairs of ints, told by addresses -/
theorem keys_each {K : PySem.W.Frag} {H : Hp} {X : Cx} {pins : List (Addr × Obj)} {σ : L2.St} {s : Shared} (hX : X.K = K) (I : Inv X pins σ H s) {β : Type} {x y : β → Int} : ∀ {bs : List β} {ps : List Addr} {us : List Value}, Vals (ps.map V.ref) us → ps.length = bs.length →
    (∀ (j : Nat) p b, ps[j]? = some p → bs[j]? = some b → H p = some (.tup [.int (x b), .int (y b)])) → EachIs (fun v d => ∃ as, Reads s.heap v d as) us (bs.map fun b => PyData.tuple [.int (x b), .int (y b)])
  | [], [], _, h, _, _ => by
    cases h
    exact .nil
  | b :: bs, p :: ps, _, h, hl, e => by
    rw [List.map_cons] at h
    cases h with
    | cons h t =>
      refine .cons ?_ (keys_each hX I t (by simpa using hl) fun (j : Nat) p b h1 h2 => e (j + 1) p b (by simpa using h1) (by simpa using h2))
      have q := e 0 p b rfl rfl
      exact Dp.reads I _ (.ref p) _ (.tup (SqT.of q) (.cons (.int _) (.cons (.int _) .nil))) h
theorem alike_ii {a b c d : Int} : alike (PyData.tuple [.int a, .int b]) (.tuple [.int c, .int d]) = true := by
  simp [alike, alikeAll]
section
variable {X : Cx}
theorem cr_sortF {k : Nat} {f : Addr} {fd : FuncData} {ps : List Str} {sp : Sp} (F : FnOk X.prog X.w X.K X.mg X.base CX0 k f fd ps sp) (hr : Room (k + 2) X.A) (hb : L2.Binds X.K fd ps []) : CallRK X (.builtin "sorted") [Str.ofString "key"] (rSortF X.K sp f) := by
  intro pins s σ H vs zs us ws Q I r rz h
  obtain ⟨β, a, bs, vl, x, y, rfl, rfl, hq, hsp, q⟩ := h
  obtain rfl := Vals.ref1 r
  obtain rfl := Vals.ref1 rz
  show wpAny _ _ (call (.builtin "sorted") [.ref a] [(Str.ofString "key", .ref f)]) _ _ s
  obtain ⟨Ty, its, o, n, hTy, hv, ho, hc, hd, hz⟩ : ∃ (Ty : String) (its : List Value) (o : Obj) (n : Nat), (Ty = "list" ∨ Ty = "tuple") ∧ Vals (bs.map vl) its ∧ s.heap.get? a = some o ∧ o.cls = .type Ty ∧ o.data = .seq its.toArray n ∧ bs.length ≤ sizeLine := by
    rcases hq with hq | hq
    · obtain ⟨its, rv, ⟨o, n, h1, h2, h3, h4⟩, hz⟩ := I.list hq
      exact ⟨"list", its, o, n, .inl rfl, rv, h1, h2, h4, by simpa using hz⟩
    · obtain ⟨its, rv, ⟨o, h1, h2, n, h4⟩, hz⟩ := I.tuple hq
      exact ⟨"tuple", its, o, n, .inr rfl, rv, h1, h2, h4, by simpa using hz⟩
  have hlen : its.length = bs.length := by
    have := hv.length
    rw [List.length_map] at this
    exact this.symm
  refine sorted_of_seq hTy ho hc hd (by rw [hlen]; exact hz) (ksk_s1 _ _) (fun _ => ksk_l1 _ _) fun E' => ?_
  rw [ksk_t1]
  generalize hA : s.heap.objs.size + 1 = A0
  have hcp : ({ s with heap := copyHeap s.heap its } : Shared).heap.get? A0 = some (seqObj "list" its.toArray 0) := by
    rw [← hA]
    exact copyHeap_at s.heap its
  have hA0 : s.heap.objs.size ≤ A0 := by omega
  have oldc : ∀ b u, s.heap.get? b = some u → (copyHeap s.heap its).get? b = some u := fun b u e => copyHeap_old e
  generalize copyHeap s.heap its = h1 at hcp oldc ⊢
  have hcp : h1.get? A0 = some (seqObj "list" its.toArray 0) := hcp
  have hz' : its.length ≤ sizeLine := by rw [hlen]; exact hz
  have ha1 : A0 < h1.objs.size := Heap.lt_size hcp
  have hne0 : ∀ b u, s.heap.get? b = some u → b ≠ A0 := fun b u e => Nat.ne_of_lt (Nat.lt_of_lt_of_le (Heap.lt_size e) hA0)
  unfold ksk_tree
  refine wpAny_bind (listItems_at hcp rfl ?_)
  refine wpAny_bind (listUpdate_at hcp rfl ?_ (by rw [List.size_toArray]; exact hz') (Nat.zero_le _))
  have old2 : ∀ b u, s.heap.get? b = some u → (h1.update A0 (Obj.mapSeq fun _ => (#[] : Array Value))).get? b = some u := fun b u e => (Heap.get?_update_ne _ _ _ _ (hne0 b u e)).trans (oldc b u e)
  obtain ⟨e1, ho1⟩ : ∃ e1, (h1.update A0 (Obj.mapSeq fun _ => (#[] : Array Value))).get? A0 = some (seqObj "list" #[] e1) := ⟨_, get?_update_seq hcp fun _ => #[]⟩
  generalize h1.update A0 (Obj.mapSeq fun _ => (#[] : Array Value)) = h2 at old2 ho1 ⊢
  refine wpAny_bind (seqEpoch_at ho1 rfl ?_)
  refine wpAny_bind (wpAny_newTuple ?_ (by show its.length ≤ _; exact hz'))
  have old3 : ∀ b u, s.heap.get? b = some u → (h2.push (seqObj "tuple" its.toArray 0)).get? b = some u := fun b u e => Heap.get?_push_of_some _ (old2 b u e)
  have ho3 : (h2.push (seqObj "tuple" its.toArray 0)).get? A0 = some (seqObj "list" #[] e1) := Heap.get?_push_of_some _ ho1
  generalize h2.push (seqObj "tuple" its.toArray 0) = h3 at old3 ho3 ⊢
  refine wpAny_bind (wpAny_newList ?_ (Nat.zero_le _))
  refine wpAny_holding ?_
  show wpAny _ _ (ksk_rest A0 (.ref f) false its.toArray e1 (.ref h3.objs.size)) _ _ { s with heap := h3.push (seqObj "list" #[] 0) }
  -- what is tracked from here on
  have I1 : Inv X pins σ (upd H A0 (.ext fun h => h.get? A0 = some (seqObj "list" #[] e1))) { s with heap := h3, toks := s.toks } := I.laid old3 hA0 ⟨ho3, ⟨_, ho3⟩, fun g1 g2 h1 h2 => h2 _ h1⟩
  generalize hkS : h3.objs.size = kS at *
  have hk0 : h3.objs.size ≤ kS := by omega
  have hka : kS ≠ A0 := Nat.ne_of_gt (Nat.lt_of_lt_of_le (Heap.lt_size ho3) hk0)
  have hok : (h3.push (seqObj "list" #[] 0)).get? kS = some (seqObj "list" #[] 0) := by
    rw [← hkS]
    exact Heap.get?_push_size _ rfl
  have I2 : Inv X pins σ (upd (upd H A0 (.ext fun h => h.get? A0 = some (seqObj "list" #[] e1))) kS (.lst [])) { s with heap := h3.push (seqObj "list" #[] 0), toks := s.toks } := by
    refine I1.laid (fun b u e => Heap.get?_push_of_some _ e) hk0 ⟨Nat.zero_le _, [], 0, .nil, hok⟩
  have hHa : H A0 = none := I.hok.fresh hA0
  have hsk : s.heap.objs.size ≤ kS := Nat.le_trans hA0 (Nat.le_trans (Nat.le_of_lt (Heap.lt_size ho3)) hk0)
  have hHk : H kS = none := I.hok.fresh hsk
  have I2 : Inv X pins σ (upd (upd H A0 (.ext fun h => h.get? A0 = some (seqObj "list" #[] e1))) kS (.lst [])) { s with heap := h3.push (seqObj "list" #[] 0) } := I2
  have sm0 : Same H (upd (upd H A0 (.ext fun h => h.get? A0 = some (seqObj "list" #[] e1))) kS (.lst [])) := fun b o e => by
    rw [upd_ne (ne_of_none e hHk), upd_ne (ne_of_none e hHa)]
    exact e
  have ea0 : (upd (upd H A0 (.ext fun h => h.get? A0 = some (seqObj "list" #[] e1))) kS (.lst [])) A0 = some (.ext fun h => h.get? A0 = some (seqObj "list" #[] e1)) := by
    rw [upd_ne hka.symm, upd_same]
  have ek0 : (upd (upd H A0 (.ext fun h => h.get? A0 = some (seqObj "list" #[] e1))) kS (.lst [])) kS = some (.lst []) := upd_same
  generalize upd (upd H A0 (.ext fun h => h.get? A0 = some (seqObj "list" #[] e1))) kS (.lst []) = H2 at I2 sm0 ea0 ek0
  generalize h3.push (seqObj "list" #[] 0) = h4 at I2 hok ⊢
  unfold ksk_rest
  refine wpAny_bind (wpAny_rule ?_)
  first
    | rw [List.forIn_toArray]
    | (rw [← Array.forIn_toList]; simp only [List.toList_toArray])
    | rw [← Array.forIn_toList]
  refine wpAny_bind (ksk_fold (fun i s' => ∃ (Hi : Hp) (ps : List Addr), Inv X pins σ Hi s' ∧ Same H Hi ∧ Hi A0 = some (.ext fun h => h.get? A0 = some (seqObj "list" #[] e1)) ∧ Hi kS = some (.lst (ps.map V.ref)) ∧ ps.length = i ∧
      ∀ (j : Nat) p b, ps[j]? = some p → bs[j]? = some b → Hi p = some (.tup [.int (x b), .int (y b)])) its 0 { s with heap := h4 } ⟨H2, [], I2, sm0, ea0, ek0, rfl, fun j p b e => by simp at e⟩ ?step ?done)
  case step =>
    rintro j u s' hu ⟨Hi, as, Ii, si, ea, ek, el, et⟩
    rw [Nat.zero_add] at el ⊢
    obtain ⟨v0, hv0, ru⟩ := vals_at hv hu
    rw [List.getElem?_map] at hv0
    obtain ⟨b, hb0, rfl⟩ := Option.map_eq_some_iff.mp hv0
    have hbm : b ∈ bs := List.mem_of_getElem? hb0
    have hjl : j < bs.length := (List.getElem?_eq_some_iff.mp hb0).1
    have spb := hsp b hbm Hi (fun v H' => ∃ p, v = .ref p ∧ Same Hi H' ∧ H' p = some (.tup [.int (x b), .int (y b)])) si fun p H2 s2 e2 => ⟨p, rfl, s2, e2⟩
    have hl1 : ([u] ++ [] : List Value).length = ps.length := by
      have := F.len _ _ _ _ spb
      simpa using this
    have bt := hb s' [u] Ii.kIn hl1
    refine wpAny_bind (wpAny_attempt (wpAny_call (codeAny_mono (F.run X.A.in1.in1 X.stack s' Hi ⟨[u], []⟩ ([u] ++ []) [vl b] _ _ hr.in1.in1 Ii.env0.in1.in1 bt (show Vals [vl b] [u] from .cons ru .nil) spb) fun r s'' hq => ?_)))
    match r, hq with
    | .error e, hq => exact hq.elim
    | .ok .next, hq => exact hq.elim
    | .ok .brk, hq => exact hq.elim
    | .ok .cont, hq => exact hq.elim
    | .ok (.ret w), hq =>
      obtain ⟨v1, H3, I3, r3, p, rfl, s3, e3⟩ := Ii.after hq
      obtain rfl : w = Value.ref p := r3
      have ek3 := s3 _ _ ek
      obtain ⟨its3, n3, rv3, ho3, hz3⟩ := I3.lst ek3
      have hl3 : its3.length = j := by
        have := rv3.length
        rw [List.length_map] at this
        omega
      refine wpAny_bind (listUpdate_at ho3 rfl ?_ (by rw [List.size_toArray]; omega) (by simp; omega))
      obtain ⟨c2, hc2⟩ : ∃ c2, (s''.heap.update kS (Obj.mapSeq (·.push (Value.ref p)))).get? kS = some (seqObj "list" (its3.toArray.push (.ref p)) c2) := ⟨_, get?_update_seq ho3 (·.push (Value.ref p))⟩
      refine wpAny_pure ⟨rfl, upd H3 kS (.lst ((as ++ [p]).map V.ref)), as ++ [p], ?_, ?_, ?_, upd_same, by simp [el], ?_⟩
      · refine I3.write (x := kS) (e := kS) (t' := s''.toks) (by rw [ek3]; trivial) (.inl rfl) (fun b u hb hu => (Heap.get?_update_ne _ _ _ _ hb).trans hu) ⟨_, hc2⟩ ⟨by simp; omega, its3 ++ [.ref p], c2, ?_, ?_⟩
        · rw [List.map_append]
          exact vals_snoc rv3 rfl
        · rw [hc2]
          simp [seqObj]
      · intro b o e
        rw [upd_ne (ne_of_none e hHk)]
        exact s3 _ _ (si _ _ e)
      · rw [upd_ne hka.symm]
        exact s3 _ _ ea
      · intro i q b' h1 h2
        have h3 : H3 q = some (.tup [.int (x b'), .int (y b')]) := by
          by_cases hi : i < as.length
          · rw [List.getElem?_append_left hi] at h1
            exact s3 _ _ (et i q b' h1 h2)
          · have hi2 : i = as.length := by
              have := (List.getElem?_eq_some_iff.mp h1).1
              simp at this
              omega
            subst hi2
            simp at h1
            subst h1
            rw [el, hb0] at h2
            cases h2
            exact e3
        rw [upd_ne (ne_of h3 ek3 (by intro z; cases z))]
        exact h3
  case done =>
    rintro s' ⟨Hi, as, Ii, si, ea, ek, el, et⟩
    have el : as.length = bs.length := by omega
    obtain ⟨its3, n3, rv3, ho3, hz3⟩ := Ii.lst ek
    have hl3 : its3.length = bs.length := by
      have := rv3.length
      rw [List.length_map] at this
      omega
    refine wpAny_bind (listItems_at ho3 rfl ?_)
    have hka3 := keys_each rfl Ii (x := x) (y := y) rv3 el et
    obtain ⟨hoa, _⟩ := Ii.hok _ _ ea
    have hoa : s'.heap.get? A0 = some (seqObj "list" #[] e1) := hoa
    have hal : AllAlike (bs.map fun b => PyData.tuple [.int (x b), .int (y b)]) := AllAlike.of fun p q => by simp [alike, alikeAll]
    have hrt : Sortable (bs.map fun b => PyData.tuple [.int (x b), .int (y b)]) := Sortable.tuples fun b => ⟨_, _, rfl⟩
    refine keyH_end (h₁ := hid1 s'.heap kS) (κ := dataKind s'.heap (bs.map fun b => PyData.tuple [.int (x b), .int (y b)])) (keys := its3.toArray) (fun b o hb e => ?_) (hid1_at ho3) ho3 hoa hka
      (SortsAt.data (s := s') (by simpa using hka3) hal hrt (fun d hd => ?_)) (by rw [List.size_toArray]; omega) hz' fun g tk c kp hD => ⟨rfl, ?_⟩
    · by_cases hbk : b = kS
      · rw [hbk, hid1_at ho3] at e
        cases e
      · rw [hid1_ne hbk] at e
        exact e
    · obtain ⟨b, hb, rfl⟩ := List.mem_map.mp hd
      have := hr.un
      show X.A.in1.in1.units + _ < cLine
      have h2 : (PyData.tuple [.int (x b), .int (y b)]).depth ≤ 4 := by simp [PyData.depth, PyData.depthAll]
      have h3 : X.A.in1.in1.units = X.A.units + 2 := rfl
      omega
    have eo := keyedOut_each (rev := false) (fun b : β => PyData.tuple [.int (x b), .int (y b)]) ⟨s'.heap, its3, hal, rfl, hka3⟩ (each_vl hv)
    rw [dataLe_ii] at eo
    have hD : g.get? A0 = some (seqObj "list" (sortVals (dataKind s'.heap (bs.map fun b => PyData.tuple [.int (x b), .int (y b)])) false its3 its).toArray c) := by simpa using hD
    have eo' : Vals ((bs.mergeSort (leP x y)).map vl) _ := vl_each eo
    generalize sortVals (dataKind s'.heap (bs.map fun b => PyData.tuple [.int (x b), .int (y b)])) false its3 its = out at hD eo eo'
    have kp' : ∀ b o, b ≠ kS → b ≠ A0 → s'.heap.get? b = some o → g.get? b = some o := fun b o h1 h2 e => kp b o h2 (by rw [hid1_ne h1]; exact e)
    have hkn : ∀ b xs, Hi b = some (.tup xs) → b ≠ kS := fun b xs e => ne_of e ek (by intro z; cases z)
    have han : ∀ b u, Hi b = some u → (∀ φ, u ≠ .ext φ) → b ≠ A0 := fun b u e hu z => by
      subst z
      rw [ea] at e
      cases e
      exact hu _ rfl
    have hok' : HOk X.prog X.w (fun b => if b = kS then none else upd Hi A0 (.lst ((bs.mergeSort (leP x y)).map vl)) b) g := by
      intro b u e
      have hbk : b ≠ kS := fun z => by
        simp [z] at e
      have e : upd Hi A0 (.lst ((bs.mergeSort (leP x y)).map vl)) b = some u := by simpa [hbk] using e
      by_cases hba : b = A0
      · subst hba
        rw [upd_same] at e
        cases e
        exact ⟨by rw [List.length_map, List.length_mergeSort]; exact hz, out, c, eo', hD⟩
      · rw [upd_ne hba] at e
        refine (Ii.hok b u e).stay (fun c v hc q => ?_) (fun c q => ?_) fun c xs q => ?_
        · rcases hc with z | z
          · rw [z] at q ⊢
            exact kp' _ _ hbk hba q
          · exact kp' c v (ne_of z ek (by intro z; cases z)) (han c _ z fun φ z => by cases z) q
        · have h1 := ne_of q ek (by intro z; cases z)
          have h2 := han c _ q fun φ z => by cases z
          simp only [h1, if_false]
          rw [upd_ne h2]
          exact q
        · have h1 := hkn c xs q
          have h2 := han c _ q fun φ z => by cases z
          simp only [h1, if_false]
          rw [upd_ne h2]
          exact q
    have chk : ∀ b ∈ [kS, A0], b ≠ X.env.locals ∧ (X.s_0.heap.objs.size ≤ b) ∧ (∃ u, Hi b = some u) ∧ s.heap.objs.size ≤ b := by
      intro b hb
      simp only [List.mem_cons, List.not_mem_nil, or_false] at hb
      rcases hb with rfl | rfl
      · exact ⟨Nat.ne_of_gt (Nat.lt_of_lt_of_le I.lt hsk), Nat.le_trans I.sz hsk, ⟨_, ek⟩, hsk⟩
      · exact ⟨Nat.ne_of_gt (Nat.lt_of_lt_of_le I.lt hA0), Nat.le_trans I.sz hA0, ⟨_, ea⟩, hA0⟩
    have out2 : ∀ b, b ∉ [kS, A0] → b ≠ kS ∧ b ≠ A0 := fun b hb => ⟨fun z => hb (by simp [z]), fun z => hb (by simp [z])⟩
    have hH' : ∀ b, b ≠ kS → b ≠ A0 → (fun b => if b = kS then none else upd Hi A0 (.lst ((bs.mergeSort (leP x y)).map vl)) b) b = Hi b := fun b h1 h2 => by
      simp only [h1, if_false]
      exact upd_ne h2
    have In : Inv X pins σ (fun b => if b = kS then none else upd Hi A0 (.lst ((bs.mergeSort (leP x y)).map vl)) b) { s' with heap := g, gens := s'.gens, drawn := s'.drawn, toks := tk } := by
      refine Ii.step (ch := [kS, A0]) (fun b hb => ?_) (fun b o _ _ hc e _ => kp' b o (out2 b hc).1 (out2 b hc).2 e) (fun b o _ _ hc e _ => ⟨o.slots, kp' b o (out2 b hc).1 (out2 b hc).2 e⟩)
        (fun b o hc _ n => (hH' b (out2 b hc).1 (out2 b hc).2).trans n) (fun b o hc e => ⟨o, kp' b o (out2 b hc).1 (out2 b hc).2 e⟩) (fun b xs e => ?_) (fun b o u e => ?_) (fun b qs e => ⟨#[], ?_⟩) (fun m hm => ?_) hok' Ii.bare
      · obtain ⟨c1, c2, ⟨u, c3⟩, c4⟩ := chk b hb
        refine ⟨.inr c2, c1, fun y c e z => ?_, fun p hp z => ?_⟩
        · have := Ii.freeC y c e
          rw [z, c3] at this
          cases this
        · have := (Ii.pin p hp).2.1
          rw [z, c3] at this
          cases this
      · exact (hH' b (hkn b xs e) (han b _ e fun φ z => by cases z)).trans e
      · exact (hH' b (ne_of e ek (by intro z; cases z)) (han b _ e fun φ z => by cases z)).trans e
      · have := (hH' b (ne_of e ek (by intro z; cases z)) (han b _ e fun φ z => by cases z)).trans e
        simpa using this
      · obtain ⟨o, es, ep, ho, r⟩ := hm
        exact ⟨o, es, ep, kp' _ o (fun z => (chk kS (by simp)).1 z.symm) (fun z => (chk A0 (by simp)).1 z.symm) ho, r⟩
    refine ⟨.ref A0, _, In, rfl, q _ _ (fun b o e => ?_) hHa ?_⟩
    · have h1 := ne_of_none e hHk
      have h2 := ne_of_none e hHa
      exact (hH' b h1 h2).trans (si _ _ e)
    · simp only [hka.symm, if_false]
      exact upd_same
end
end SA

set_option Elab.async false
set_option linter.all false
set_option maxRecDepth 100000
set_option maxHeartbeats 4000000
namespace SA
open PySem PySem.Spec PyProof.Rows L2
theorem Same.upd' {H H' : Hp} {p : Addr} {o : HO} (s : Same H H') (h : H p = none) : Same H (upd H' p o) := fun b u e => by
  rw [upd_ne (ne_of_none e h)]
  exact s b u e
theorem DrawAt.knowD {H : Hp} {d w c p : Addr} {n : Nat} (h : DrawAt H d w c n) (hp : H p = none) : p ≠ d ∧ p ≠ w ∧ p ≠ c := by
  obtain ⟨⟨r, t, _, _, e1⟩, ⟨ws, e2⟩, ⟨cs, e3⟩, _⟩ := h
  exact ⟨(ne_of_none e1 hp).symm, (ne_of_none e2 hp).symm, (ne_of_none e3 hp).symm⟩
/-- something of one's own is changed -/
theorem DrawAt.upd {H : Hp} {d w c p : Addr} {n : Nat} {o : HO} (h : DrawAt H d w c n) (h1 : p ≠ d) (h2 : p ≠ w) (h3 : p ≠ c) : DrawAt (upd H p o) d w c n := by
  obtain ⟨⟨r, t, a1, a2, e⟩, ⟨ws, e2⟩, ⟨cs, e3⟩, ne⟩ := h
  exact ⟨⟨r, t, a1, a2, by rw [upd_ne h1.symm]; exact e⟩, ⟨ws, by rw [upd_ne h2.symm]; exact e2⟩, ⟨cs, by rw [upd_ne h3.symm]; exact e3⟩, ne⟩
theorem But2.mut {d w p : Addr} {H H' : Hp} {o : HO} (b : But2 d w H H') (h : H p = none) : But2 d w H (L2.upd H' p o) := fun x u e h1 h2 => by
  rw [upd_ne (ne_of_none e h)]
  exact b x u e h1 h2
theorem But2.free {d w p : Addr} {H H' : Hp} (b : But2 d w H H') (h : H' p = none) (h1 : p ≠ d) (h2 : p ≠ w) : H p = none := by
  match e : H p with
  | none => rfl
  | some o =>
    have := b p o e h1 h2
    rw [h] at this
    cases this
theorem Same.but2 {d w : Addr} {H H' : Hp} (s : Same H H') : But2 d w H H' := fun b o e _ _ => s b o e
theorem DrawAt.same {H H' : Hp} {d w c : Addr} {n : Nat} (h : DrawAt H d w c n) (s : Same H H') : DrawAt H' d w c n := by
  obtain ⟨⟨r, t, a1, a2, e⟩, ⟨ws, e2⟩, ⟨cs, e3⟩, ne⟩ := h
  exact ⟨⟨r, t, a1, a2, s _ _ e⟩, ⟨ws, s _ _ e2⟩, ⟨cs, s _ _ e3⟩, ne⟩
end SA

set_option Elab.async false
set_option linter.all false
set_option maxRecDepth 100000
set_option maxHeartbeats 4000000
namespace T02
open PySem PySem.Spec
/-! ### trees, told by the program -/
def keptS : List Str := ["and", "at", "choice", "else", "fail", "false", "function", "if", "let", "long", "make", "match", "new", "not", "number", "of", "or", "over", "put", "rest", "return", "row", "set", "show", "true", "truth", "try", "unit", "uses", "while"]
def tl (w : Str) : List Nat := w.cps.toList
def small (c : Nat) : Bool := decide (97 ≤ c ∧ c ≤ 122)
def nameS (w : Str) : Bool := decide (1 ≤ w.length) && decide (w.length ≤ 8) && !decide (w ∈ keptS) && (tl w).all small
def isName : PyData → Bool
  | .str w => nameS w
  | _ => false
def isKind : PyData → Bool
  | .str w => decide (w ∈ (["number", "truth"] : List Str)) || nameS w
  | _ => false
def isNum : PyData → Bool
  | .int _ => true
  | _ => false
def isBool : PyData → Bool
  | .bool _ => true
  | _ => false
def headIs (z : Str) : PyData → Bool
  | .tuple (.str h :: _) => decide (h = z)
  | _ => false
def exprTab : List (Str × Str) := [("number", "n"), ("truth", "t"), ("name", "x"), ("plus", "ee"), ("minus", "ee"), ("times", "ee"), ("over", "ee"), ("rest", "ee"), ("less", "ee"), ("atmost", "ee"), ("same", "ee"), ("and", "ee"), ("or", "ee"), ("not", "e"), ("call", "xE"), ("make", "xE"), ("new", "xee"), ("at", "xee"), ("long", "xe")]
def stmtTab : List (Str × Str) := [("let", "xe"), ("set", "xe"), ("put", "xeee"), ("show", "e"), ("if", "ebb"), ("while", "eb"), ("match", "eB"), ("try", "xcxe"), ("return", "e"), ("fail", "e")]
def betw (lo hi : Nat) : PyData → Bool
  | .tuple ds => decide (lo ≤ ds.length ∧ ds.length ≤ hi)
  | _ => false
def items : PyData → List PyData
  | .tuple ds => ds
  | _ => []
def areNames (m : Nat) (d : PyData) : Bool := betw 0 m d && (items d).all isName
mutual
def isE : PyData → Bool
  | .tuple (.str h :: ds) => match exprTab.lookup h with
    | some f => parts (tl f) ds
    | none => false
  | _ => false
termination_by d => (sizeOf d, 0)
def isSt : PyData → Bool
  | .tuple (.str h :: ds) => match stmtTab.lookup h with
    | some f => parts (tl f) ds
    | none => false
  | _ => false
termination_by d => (sizeOf d, 0)
def parts : List Nat → List PyData → Bool
  | [], [] => true
  | c :: cs, d :: ds => part c d && parts cs ds
  | _, _ => false
termination_by _ ds => (sizeOf ds, 0)
def part : Nat → PyData → Bool
  | c, d => if c = 110 then isNum d else if c = 116 then isBool d else if c = 120 then isName d else if c = 101 then isE d else if c = 69 then areE d else if c = 99 then isE d && headIs "call" d else if c = 98 then isB d else areBr d
termination_by _ d => (sizeOf d, 1)
def areE : PyData → Bool
  | .tuple ds => decide (ds.length ≤ 3) && allE ds
  | _ => false
termination_by d => (sizeOf d, 0)
def allE : List PyData → Bool
  | [] => true
  | d :: ds => isE d && allE ds
termination_by ds => (sizeOf ds, 0)
def isB : PyData → Bool
  | .tuple ds => allS ds
  | _ => false
termination_by d => (sizeOf d, 0)
def allS : List PyData → Bool
  | [] => true
  | d :: ds => isSt d && allS ds
termination_by ds => (sizeOf ds, 0)
def areBr : PyData → Bool
  | .tuple ds => decide (1 ≤ ds.length ∧ ds.length ≤ 4) && allBr ds
  | _ => false
termination_by d => (sizeOf d, 0)
def allBr : List PyData → Bool
  | [] => true
  | d :: ds => isBr d && allBr ds
termination_by ds => (sizeOf ds, 0)
def isBr : PyData → Bool
  | .tuple [x, y, z] => isName x && areNames 3 y && isB z
  | _ => false
termination_by d => (sizeOf d, 0)
end
def isFun : PyData → Bool
  | .tuple [.str h, x, y, z] => decide (h = "function") && isName x && areNames 3 y && isB z
  | _ => false
def isVar : PyData → Bool
  | .tuple [x, y] => isName x && betw 0 3 y && (items y).all isKind
  | _ => false
def isDecl : PyData → Bool
  | .tuple [.str h, x, y] => isName x && (if h = "row" then isKind y else decide (h = "choice") && betw 1 4 y && (items y).all isVar)
  | _ => false
def isUnit : PyData → Bool
  | .tuple [.str h, x, y, z, w] => decide (h = "unit") && isName x && areNames 5 y && betw 0 8 z && betw 0 8 w && (items z).all isDecl && (items w).all isFun
  | _ => false
/-- so deep the data is that the law judges -/
abbrev DD : Nat := 50
/-! ### data that is not too great -/
mutual
def fineW (m : Nat) : PyData → Bool
  | .str w => decide (w.length ≤ 100) && (tl w).all fun c => decide (c < 128)
  | .int i => decide (i.natAbs < 2 ^ 100)
  | .list ds => decide (ds.length ≤ m) && fineWAll m ds
  | .tuple ds => decide (ds.length ≤ m) && fineWAll m ds
  | .dict kvs => kvs.isEmpty
  | _ => true
def fineWAll (m : Nat) : List PyData → Bool
  | [] => true
  | d :: ds => fineW m d && fineWAll m ds
end
abbrev fine (d : PyData) : Bool := fineW 100 d
abbrev fineAll (ds : List PyData) : Bool := fineWAll 100 ds
theorem fineAll_mem {m : Nat} : ∀ {ds : List PyData} {d : PyData}, fineWAll m ds = true → d ∈ ds → fineW m d = true
  | d :: ds, x, h, hx => by
    simp only [fineWAll, Bool.and_eq_true] at h
    rcases List.mem_cons.mp hx with rfl | hx
    · exact h.1
    · exact fineAll_mem h.2 hx
theorem depthAll_mem : ∀ {ds : List PyData} {d : PyData}, d ∈ ds → d.depth ≤ PyData.depthAll ds
  | d :: ds, x, hx => by
    simp only [PyData.depthAll]
    rcases List.mem_cons.mp hx with rfl | hx
    · omega
    · have := depthAll_mem hx
      omega
/-- so deep, and not too great -/
def Ok (n : Nat) (d : PyData) : Prop := fine d = true ∧ d.depth < n
theorem Ok.mono {n m : Nat} {d : PyData} (h : Ok n d) (hm : n ≤ m) : Ok m d := ⟨h.1, Nat.lt_of_lt_of_le h.2 hm⟩
theorem Ok.tup {n : Nat} {ds : List PyData} (h : Ok (n + 1) (.tuple ds)) : ds.length ≤ 100 ∧ ∀ d ∈ ds, Ok n d := by
  obtain ⟨h1, h2⟩ := h
  simp only [fine, fineW, Bool.and_eq_true, decide_eq_true_eq] at h1
  simp only [PyData.depth] at h2
  exact ⟨h1.1, fun d hd => ⟨fineAll_mem h1.2 hd, by have := depthAll_mem hd; omega⟩⟩
theorem Ok.tup0 {n : Nat} {ds : List PyData} (h : Ok n (.tuple ds)) : ds.length ≤ 100 ∧ ∀ d ∈ ds, Ok n d := by
  obtain ⟨h1, h2⟩ := (h.mono (Nat.le_succ n)).tup
  exact ⟨h1, h2⟩
theorem parts_zip : ∀ (cs : List Nat) (ds : List PyData), cs.length = ds.length → parts cs ds = (cs.zip ds).all fun q => part q.1 q.2
  | [], [], _ => by simp [parts]
  | c :: cs, d :: ds, h => by
    rw [parts, parts_zip cs ds (by simpa using h)]
    rfl
  | [], _ :: _, h => by simp at h
  | _ :: _, [], h => by simp at h
theorem parts_len : ∀ (cs : List Nat) (ds : List PyData), cs.length ≠ ds.length → parts cs ds = false
  | [], [], h => absurd rfl h
  | c :: cs, d :: ds, h => by
    rw [parts, parts_len cs ds (by simpa using h), Bool.and_false]
  | [], _ :: _, _ => by simp [parts]
  | _ :: _, [], _ => by simp [parts]
theorem allE_all : ∀ ds : List PyData, allE ds = ds.all isE
  | [] => by simp [allE]
  | d :: ds => by rw [allE, allE_all ds]; rfl
theorem allS_all : ∀ ds : List PyData, allS ds = ds.all isSt
  | [] => by simp [allS]
  | d :: ds => by rw [allS, allS_all ds]; rfl
theorem allBr_all : ∀ ds : List PyData, allBr ds = ds.all isBr
  | [] => by simp [allBr]
  | d :: ds => by rw [allBr, allBr_all ds]; rfl
/-- what stands behind the head is of the form -/
def hasForm (f : Option Str) (d : PyData) : Bool := match f with
  | none => false
  | some f => parts (tl f) ((items d).drop 1)
theorem isE_eq (h : Str) (ds : List PyData) : isE (.tuple (.str h :: ds)) = hasForm (exprTab.lookup h) (.tuple (.str h :: ds)) := by
  rw [isE]
  unfold hasForm
  cases exprTab.lookup h <;> rfl
theorem isSt_eq (h : Str) (ds : List PyData) : isSt (.tuple (.str h :: ds)) = hasForm (stmtTab.lookup h) (.tuple (.str h :: ds)) := by
  rw [isSt]
  unfold hasForm
  cases stmtTab.lookup h <;> rfl
def headed : PyData → Bool
  | .tuple (.str _ :: _) => true
  | _ => false
theorem isE_no {d : PyData} (h : headed d = false) : isE d = false := by
  unfold isE
  split
  · cases h
  · rfl
theorem isSt_no {d : PyData} (h : headed d = false) : isSt d = false := by
  unfold isSt
  split
  · cases h
  · rfl
end T02

set_option Elab.async false
set_option linter.all false
set_option maxRecDepth 100000
set_option maxHeartbeats 4000000
/-! ### a text beside any data -/
namespace PySem.SeqAt
open AutoSeq1 (wpAny_loadPart')
open MeetsSeq MeetsSeq2 MeetsSeq3 SeqRoads2
section
variable {A : Around} {s : Shared}
theorem dict_eq_no {prog : Program} {w : World} {E : Value → Shared → Prop} {l : Addr} {t : Tok} {b : Str} (hl : s.TypeIs (.ref l) "dict") (Q' : Value → Shared → Prop) (hq : Q' .notImplemented s) : wpAny (model prog w) A (call (.builtin "dict.__eq__") [.ref l, .str b t]) Q' E s := by
  refine wpAny_call_entry F.slot_dict_eq hl F.entry_dict_eq ?_ (F.args_dict_eq_2 _ _)
  show wpAny _ _ (Builtin.Dict.dictSlotArgs "__eq__" ⟨[.ref l, .str b t], []⟩ >>= _) _ _ s
  refine wpAny_bind ?_
  unfold Builtin.Dict.dictSlotArgs
  refine wpAny_bind (wpAny_notOrdered_dict hl ?_)
  show wpAny _ _ (pure (Value.ref l, Value.str b t)) _ _ s
  refine wpAny_pure ?_
  refine wpAny_bind ?_
  refine wpAny_isInstance (typeIs_str s b t) F.sub_str_dict ?_
  refine wpAny_bind (wpAny_rule ?_)
  exact wpAny_pure ⟨_, rfl, hq⟩
theorem dict_ne_no {prog : Program} {w : World} {E : Value → Shared → Prop} {l : Addr} {t : Tok} {b : Str} (hl : s.TypeIs (.ref l) "dict") (Q' : Value → Shared → Prop) (hq : Q' .notImplemented s) : wpAny (model prog w) A (call (.builtin "dict.__ne__") [.ref l, .str b t]) Q' E s := by
  refine wpAny_call_entry F.slot_dict_ne hl F.entry_dict_ne ?_ (F.args_dict_ne_2 _ _)
  show wpAny _ _ (Builtin.Dict.dictSlotArgs "__ne__" ⟨[.ref l, .str b t], []⟩ >>= _) _ _ s
  refine wpAny_bind ?_
  unfold Builtin.Dict.dictSlotArgs
  refine wpAny_bind (wpAny_notOrdered_dict hl ?_)
  show wpAny _ _ (pure (Value.ref l, Value.str b t)) _ _ s
  refine wpAny_pure ?_
  refine wpAny_bind ?_
  refine wpAny_isInstance (typeIs_str s b t) F.sub_str_dict ?_
  refine wpAny_bind (wpAny_rule ?_)
  exact wpAny_pure ⟨_, rfl, hq⟩
theorem str_eq_no {l : Addr} {t : Tok} {b : Str} {o : Obj} (ho : ∀ x, o.data ≠ .prim x) : Meets (Builtin.«str.__eq__» ⟨[.str b t, .ref l], []⟩) (fun _ R s => s.heap.get? l = some o ∧ R (.ok (.ret .notImplemented)) s) :=
  .of_wp fun prog w A R s h => by
    obtain ⟨hp, g, d, tk, os⟩ := s
    obtain ⟨hl, h⟩ := h
    wp_walk using wpAny_load hl
    split
    · exact absurd ‹_› (ho _)
    · exact wpAny_pure (wpAny_bind (wpAny_rule (wpAny_pure ⟨_, rfl, h⟩)))
theorem str_ne_no {l : Addr} {t : Tok} {b : Str} {o : Obj} (ho : ∀ x, o.data ≠ .prim x) : Meets (Builtin.«str.__ne__» ⟨[.str b t, .ref l], []⟩) (fun _ R s => s.heap.get? l = some o ∧ R (.ok (.ret .notImplemented)) s) :=
  .of_wp fun prog w A R s h => by
    obtain ⟨hp, g, d, tk, os⟩ := s
    obtain ⟨hl, h⟩ := h
    wp_walk using wpAny_load hl
    split
    · exact absurd ‹_› (ho _)
    · exact wpAny_pure (wpAny_bind (wpAny_rule (wpAny_pure ⟨_, rfl, h⟩)))
theorem RcAt.dict_str {l : Addr} (b : Str) (u : Tok) (hl : ∃ o, s.heap.get? l = some o ∧ o.cls = .type "dict" ∧ ∀ x, o.data ≠ .prim x) (hu : A.units < cLine) : RcAt A s (.ref l) (.str b u) false := fun prog w E Q h => by
  obtain ⟨o, ho, hc, hp⟩ := hl
  have hl : s.TypeIs (.ref l) "dict" := ⟨o, ho, hc⟩
  exact rc_eq_decline_or (k := false) hl (typeIs_str s b u) (by decide) F.sub_str_dict F.slot_dict_eq F.slot_str_eq_refl
    (fun _ hq => dict_eq_no hl _ hq)
    (fun _ hq => call_meets F.slot_str_eq_refl (typeIs_str s b u) F.entry_str_eq (F.args_str_eq_2 _ _) (str_eq_no hp) ⟨ho, hq⟩)
    (fun _ hq => wpAny_of_eq (rfl : isSame (.ref l) (.str b u) = pure false) hq) (.inr hu) h
theorem RcAt.str_dict {l : Addr} (b : Str) (u : Tok) (hl : ∃ o, s.heap.get? l = some o ∧ o.cls = .type "dict" ∧ ∀ x, o.data ≠ .prim x) (hu : A.units < cLine) : RcAt A s (.str b u) (.ref l) false := fun prog w E Q h => by
  obtain ⟨o, ho, hc, hp⟩ := hl
  have hl : s.TypeIs (.ref l) "dict" := ⟨o, ho, hc⟩
  exact rc_eq_decline_or (k := false) (typeIs_str s b u) hl (by decide) F.sub_dict_str F.slot_str_eq F.slot_dict_eq_refl
    (fun _ hq => call_meets F.slot_str_eq (typeIs_str s b u) F.entry_str_eq (F.args_str_eq_2 _ _) (str_eq_no hp) ⟨ho, hq⟩)
    (fun _ hq => dict_eq_no hl _ hq)
    (fun _ hq => wpAny_of_eq (rfl : isSame (.str b u) (.ref l) = pure false) hq) (.inr hu) h
theorem EqAt.str_dict {l : Addr} (b : Str) (u : Tok) (hl : ∃ o, s.heap.get? l = some o ∧ o.cls = .type "dict" ∧ ∀ x, o.data ≠ .prim x) (hu : A.units < cLine) : EqAt A s (.str b u) (.ref l) false := fun prog w E Q h => by
  unfold eqBool
  refine wpAny_holding ?_
  refine wpAny_ite_split (fun hab => absurd (eq_of_beq hab) nofun) (fun _ => ?_)
  exact wpAny_bind (RcAt.str_dict b u hl hu prog w E _ (wpAny_truthy_bool h))
theorem RcNeAt.dict_str {l : Addr} (b : Str) (u : Tok) (hl : ∃ o, s.heap.get? l = some o ∧ o.cls = .type "dict" ∧ ∀ x, o.data ≠ .prim x) (hu : A.units < cLine) : RcNeAt A s (.ref l) (.str b u) true := fun prog w E Q h => by
  obtain ⟨o, ho, hc, hp⟩ := hl
  have hl : s.TypeIs (.ref l) "dict" := ⟨o, ho, hc⟩
  exact rc_ne_decline_or (k := false) hl (typeIs_str s b u) (by decide) F.sub_str_dict F.slot_dict_ne F.slot_str_ne_refl
    (fun _ hq => dict_ne_no hl _ hq)
    (fun _ hq => call_meets F.slot_str_ne_refl (typeIs_str s b u) F.entry_str_ne (F.args_str_ne_2 _ _) (str_ne_no hp) ⟨ho, hq⟩)
    (fun _ hq => wpAny_of_eq (rfl : isSame (.ref l) (.str b u) = pure false) hq) (.inr hu) h
end
end PySem.SeqAt
namespace SA
open PySem PySem.Spec PyProof.Rows L2
/-- a datum is this text -/
def isS (z : Str) : PyData → Bool
  | .str y => decide (y = z)
  | _ => false
section
variable {X : Cx}
theorem beq_dec (a b : Str) : (a == b) = decide (a = b) := by
  rw [Bool.eq_iff_iff]
  simp
theorem inv_dict {pins : List (Addr × Obj)} {σ : L2.St} {H : Hp} {s : Shared} {a : Addr} {kvs : List (Key × V)} (I : L2.Inv X pins σ H s) (e : H a = some (.dK kvs)) : ∃ o, s.heap.get? a = some o ∧ o.cls = .type "dict" ∧ ∀ x, o.data ≠ .prim x := by
  obtain ⟨_, _, vs, _, d⟩ := dk_of I.hok e
  have ht := d.typeIs
  obtain ⟨o, es, ep, ho, ex, hd, _⟩ := d
  obtain ⟨o', ho', hc⟩ := ht
  cases ho.symm.trans ho'
  exact ⟨o, ho, hc, fun x z => by rw [hd] at z; cases z⟩
/-- x == 'text' -/
theorem op_eqS (hu : X.A.units + 64 < cLine) : OpR X (compareOp .Eq) (fun x y H Q => ∃ d z, Dn anyA H x d ∧ y = .str z ∧ Q (.bl (isS z d)) H) := by
  intro pins s σ H x y v u Q I rx ry h
  obtain ⟨d, z, hd, rfl, q⟩ := h
  have hu : X.A.units < cLine := by omega
  obtain ⟨t, rfl⟩ := ry
  have go : ∀ {b : Bool}, SeqAt.RcAt X.A s v (.str z t) b → Q (.bl b) H → wpAny (model X.prog X.w) X.A (compareOp .Eq v (.str z t)) (fun v s => ∃ x H, L2.Inv X pins σ H s ∧ RelV x v ∧ Q x H) X.xe s := fun {b} r qb => r X.prog X.w _ _ ⟨.bl b, H, I, rfl, qb⟩
  cases hd with
  | non =>
    obtain rfl : v = .none := rx
    exact go (SeqAt.RcAt.none_str z t) q
  | bl b =>
    obtain rfl : v = .bool b := rx
    exact go (SeqAt.RcAt.bool_str b z t) q
  | int i =>
    obtain ⟨t2, rfl⟩ := rx
    exact go (SeqAt.RcAt.int_str i t2 z t) q
  | str y =>
    obtain ⟨t2, rfl⟩ := rx
    refine go (SeqAt.RcAt.str_str y t2 z t) ?_
    rw [beq_dec]
    exact q
  | lst _ e _ =>
    obtain rfl : v = .ref _ := rx
    obtain ⟨its, r1, p1, _⟩ := I.list (SqL.of e)
    exact go (SeqAt.RcAt.list_str z t p1.isList hu) q
  | tup _ e _ =>
    obtain rfl : v = .ref _ := rx
    obtain ⟨its, r1, p1, _⟩ := I.tuple (SqT.of e)
    exact go (SeqAt.RcAt.tuple_str z t p1 hu) q
  | dct _ e =>
    obtain rfl : v = .ref _ := rx
    exact go (SeqAt.RcAt.dict_str z t (inv_dict I e) hu) q
/-- x != 'text' -/
theorem op_neS (hu : X.A.units + 64 < cLine) : OpR X (compareOp .NotEq) (fun x y H Q => ∃ d z, Dn anyA H x d ∧ y = .str z ∧ Q (.bl (!isS z d)) H) := by
  intro pins s σ H x y v u Q I rx ry h
  obtain ⟨d, z, hd, rfl, q⟩ := h
  have hu : X.A.units < cLine := by omega
  obtain ⟨t, rfl⟩ := ry
  have go : ∀ {b : Bool}, SeqAt.RcNeAt X.A s v (.str z t) b → Q (.bl b) H → wpAny (model X.prog X.w) X.A (compareOp .NotEq v (.str z t)) (fun v s => ∃ x H, L2.Inv X pins σ H s ∧ RelV x v ∧ Q x H) X.xe s := fun {b} r qb => r X.prog X.w _ _ ⟨.bl b, H, I, rfl, qb⟩
  cases hd with
  | non =>
    obtain rfl : v = .none := rx
    exact go (SeqAt.RcNeAt.none_str z t) q
  | bl b =>
    obtain rfl : v = .bool b := rx
    exact go (SeqAt.RcNeAt.bool_str b z t) q
  | int i =>
    obtain ⟨t2, rfl⟩ := rx
    exact go (SeqAt.RcNeAt.int_str i t2 z t) q
  | str y =>
    obtain ⟨t2, rfl⟩ := rx
    refine go (SeqAt.RcNeAt.str_str y t2 z t) ?_
    rw [beq_dec]
    exact q
  | lst _ e _ =>
    obtain rfl : v = .ref _ := rx
    obtain ⟨its, r1, p1, _⟩ := I.list (SqL.of e)
    exact go (SeqAt.RcNeAt.list_str z t p1.isList hu) q
  | tup _ e _ =>
    obtain rfl : v = .ref _ := rx
    obtain ⟨its, r1, p1, _⟩ := I.tuple (SqT.of e)
    exact go (SeqAt.RcNeAt.tuple_str z t p1 hu) q
  | dct _ e =>
    obtain rfl : v = .ref _ := rx
    exact go (SeqAt.RcNeAt.dict_str z t (inv_dict I e) hu) q
/-- a text beside any value -/
theorem str_eqAt {A : Around} {pins : List (Addr × Obj)} {σ : L2.St} {H : Hp} {s : Shared} {x : V} {v : Value} {d : PyData} (I : L2.Inv X pins σ H s) (hu : A.units < cLine) (hd : Dn anyA H x d) (rx : RelV x v) (z : Str) (t : Tok) : SeqAt.EqAt A s (.str z t) v (isS z d) := by
  cases hd with
  | non =>
    obtain rfl : v = .none := rx
    exact SeqAt.EqAt.str_none z t
  | bl b =>
    obtain rfl : v = .bool b := rx
    exact SeqAt.EqAt.str_bool z t b
  | int i =>
    obtain ⟨t2, rfl⟩ := rx
    exact SeqAt.EqAt.str_int z t i t2
  | str y =>
    obtain ⟨t2, rfl⟩ := rx
    have : isS z (.str y) = (z == y) := by
      rw [beq_dec]
      show decide (y = z) = decide (z = y)
      rw [decide_eq_decide]
      exact eq_comm
    rw [this]
    exact SeqAt.EqAt.str_str z t y t2
  | lst _ e _ =>
    obtain rfl : v = .ref _ := rx
    obtain ⟨its, r1, p1, _⟩ := I.list (SqL.of e)
    exact SeqAt.EqAt.str_list z t p1.isList hu
  | tup _ e _ =>
    obtain rfl : v = .ref _ := rx
    obtain ⟨its, r1, p1, _⟩ := I.tuple (SqT.of e)
    exact SeqAt.EqAt.str_tuple z t p1 hu
  | dct _ e =>
    obtain rfl : v = .ref _ := rx
    exact SeqAt.EqAt.str_dict z t (inv_dict I e) hu
theorem vals_strs : ∀ {zs : List Str} {us : List Value} {u : Value}, Vals (zs.map V.str) us → u ∈ us → ∃ z t, z ∈ zs ∧ u = .str z t
  | [], _, _, .nil, h => by cases h
  | z :: zs, _, _, .cons h t, hu => by
    rcases List.mem_cons.mp hu with rfl | hu
    · obtain ⟨tk, rfl⟩ := h
      exact ⟨z, tk, List.mem_cons_self, rfl⟩
    · obtain ⟨z', t', h1, h2⟩ := vals_strs t hu
      exact ⟨z', t', List.mem_cons_of_mem _ h1, h2⟩
def isIn (zs : List Str) (d : PyData) : Bool := zs.any fun z => isS z d
theorem any_strs (d : PyData) : ∀ {zs : List Str} {us : List Value}, Vals (zs.map V.str) us → (us.any fun u => match u with | .str z _ => isS z d | _ => false) = isIn zs d
  | [], _, .nil => rfl
  | z :: zs, _, .cons h t => by
    obtain ⟨tk, rfl⟩ := h
    rw [List.any_cons, any_strs d t]
    rfl
/-- x in ('a', 'b') -/
theorem op_inST (hu : X.A.units + 64 < cLine) : OpR X (compareOp .In) (fun x y H Q => ∃ d a zs, Dn anyA H x d ∧ y = .ref a ∧ SqT X.K H a (zs.map V.str) ∧ Q (.bl (isIn zs d)) H) := by
  intro pins s σ H x y v u Q I rx ry h
  obtain ⟨d, a, zs, hd, rfl, hz, q⟩ := h
  obtain rfl : u = .ref a := ry
  obtain ⟨its, r1, p1, _⟩ := I.tuple hz
  refine SeqAt.in_tupleAt (fun u => match u with | .str z _ => isS z d | _ => false) p1 (fun y hy => ?_) ⟨.bl (isIn zs d), H, I, ?_, q⟩
  · obtain ⟨z, t, _, rfl⟩ := vals_strs r1 (by simpa using hy)
    exact str_eqAt I (show X.A.units + 1 < cLine by omega) hd rx z t
  · show Value.bool _ = .bool _
    rw [← any_strs d r1]
    simp
end
end SA

set_option Elab.async false
set_option linter.all false
set_option maxRecDepth 100000
set_option maxHeartbeats 4000000
namespace SA
open PySem PySem.Spec PyProof.Rows L2
/-! ### .get of a dict of the top -/
def tKGet (kvs : List (Str × V)) (d : Addr) (td ty : TE) : TE := fun σ H Q => td σ H fun x H1 => x = .ref d ∧ ty σ H1 fun y H2 => ∃ z, y = .str z ∧ Q ((kvs.lookup z).getD .non) H2
theorem pe_kget {X : Cx} {o e : Expr} {apos cpos : Pos} {td ty : TE} {kvs : List (Str × V)} {d : Addr} (G : GDt X.K X.w d kvs) (ho : PE X o td) (he : PE X e ty) (m : M1 X o "get" apos e cpos) : PE X (.Call (.Attribute o "get" apos) [e] [] cpos) (tKGet kvs d td ty) := by
  refine ⟨fun pins s σ H Q I h => ?_⟩
  obtain ⟨es, n, D⟩ := G.D
  refine wpAny_Call_method m.base m.few m.line PySem.F.plainAttrs_dict PySem.F.slot_dict_get PySem.F.type_dict_get (thn (ho.run pins s σ H _ I h) fun u s1 ⟨x, H1, I1, rx, ex, q1⟩ => ?_)
  subst ex
  obtain rfl : u = Value.ref d := rx
  have mo := PySem.W.mapOf_K (prog := X.prog) (w := X.w) I1.kIn D.at_ D.lit
  refine ⟨mo.typeIs, fun b q => ?_, ?_⟩
  · cases q
    exact ⟨_, I1.kIn _ _ D.at_, rfl⟩
  rw [m.trees]
  refine Calls.callWith_builtin rfl (Calls.evalArgs_plain (Calls.spliced_cons (thn (he.run pins s1 σ H1 _ I1 q1) fun iv s2 ⟨y, H2, I2, ry, z, ey, q2⟩ => Calls.spliced_nil ?_)))
  subst ey
  obtain ⟨t, rfl⟩ := ry
  have mo2 := PySem.W.mapOf_K (prog := X.prog) (w := X.w) I2.kIn D.at_ D.lit
  cases hz : kvs.lookup z with
  | none =>
    have e := G.no z hz
    rw [hz] at q2
    refine call_meetsIn PySem.F.slot_dict_get mo2.typeIs PySem.F.entry_dict_get (PySem.F.args_dict_get_2 _ _) (meets_dict_get (strKind X.prog X.w) d (PySem.strKind_is X.prog X.w z t) D.low) ⟨_, mo2, ?_⟩
    rw [PySem.W.find_K D.at_ e]
    exact ⟨.non, H2, I2.tok _, rfl, q2⟩
  | some v =>
    obtain ⟨u, e, r⟩ := G.yes z v hz
    rw [hz] at q2
    refine call_meetsIn PySem.F.slot_dict_get mo2.typeIs PySem.F.entry_dict_get (PySem.F.args_dict_get_2 _ _) (meets_dict_get (strKind X.prog X.w) d (PySem.strKind_is X.prog X.w z t) D.low) ⟨_, mo2, ?_⟩
    rw [PySem.W.find_K D.at_ e]
    exact ⟨v, H2, I2.tok _, r, q2⟩
/-- t != () -/
theorem op_ne_nilT {X : Cx} (hu : X.A.units + 64 < cLine) : OpR X (compareOp .NotEq) (fun x y H Q => ∃ (a b : Addr) (xs : List V), x = .ref a ∧ y = .ref b ∧ SqT X.K H a xs ∧ SqT X.K H b [] ∧ Q (.bl (!xs.isEmpty)) H) := by
  intro pins s σ H x y v u Q I rx ry h
  obtain ⟨a, b, xs, rfl, rfl, ha, hb, q⟩ := h
  obtain rfl : v = .ref a := rx
  obtain rfl : u = .ref b := ry
  obtain ⟨its, r1, p1, _⟩ := I.tuple ha
  obtain ⟨its2, r2, p2, _⟩ := I.tuple hb
  have e2 : its2 = [] := by
    cases r2
    rfl
  subst e2
  have hl := r1.length
  refine SeqAt.RcNeAt.tuples (e := fun _ => true) p1 p2 (by omega) (fun j _ h2 => absurd h2 (Nat.not_lt_zero _)) _ _ _ _ ⟨.bl (!xs.isEmpty), H, I, ?_, q⟩
  have e : ((List.range (min its.toArray.size ([] : List Value).toArray.size)).all (fun _ => true) && its.toArray.size == ([] : List Value).toArray.size) = xs.isEmpty := by
    rw [List.size_toArray, ← hl]
    cases xs <;> simp
  show Value.bool (!(_ && _)) = Value.bool _
  exact congrArg (fun b => Value.bool (!b)) e
theorem plainL_list {h : Heap} {a : Addr} {its : Array Value} (p : PySem.PlainL h a its) : h.IsList a its := by
  obtain ⟨o, n, h1, h2, _, h4⟩ := p
  exact ⟨o, h1, h2, n, h4⟩
theorem op_eq_nilL {X : Cx} (hu : X.A.units + 64 < cLine) : OpR X (compareOp .Eq) (fun x y H Q => ∃ (a b : Addr) (xs : List V), x = .ref a ∧ y = .ref b ∧ SqL X.K H a xs ∧ SqL X.K H b [] ∧ Q (.bl xs.isEmpty) H) := by
  intro pins s σ H x y v u Q I rx ry h
  obtain ⟨a, b, xs, rfl, rfl, ha, hb, q⟩ := h
  obtain rfl : v = .ref a := rx
  obtain rfl : u = .ref b := ry
  obtain ⟨its, r1, p1, _⟩ := I.list ha
  obtain ⟨its2, r2, p2, _⟩ := I.list hb
  have e2 : its2 = [] := by
    cases r2
    rfl
  subst e2
  have hl := r1.length
  match xs, its, r1, p1, q with
  | [], [], _, p1, q => exact SeqAt.eq_listAt (items := #[]) (items2 := #[]) (e := fun _ => true) (plainL_list p1) (plainL_list p2) rfl (by omega) (fun j h1 _ => absurd h1 (Nat.not_lt_zero j)) ⟨.bl true, H, I, rfl, q⟩
  | _ :: _, i :: is, _, p1, q => exact SeqAt.eq_list_lengthsAt (items := (i :: is).toArray) (items2 := #[]) (plainL_list p1) (plainL_list p2) (by simp) (by omega) ⟨.bl false, H, I, rfl, q⟩
theorem op_ne_nilL {X : Cx} (hu : X.A.units + 64 < cLine) : OpR X (compareOp .NotEq) (fun x y H Q => ∃ (a b : Addr) (xs : List V), x = .ref a ∧ y = .ref b ∧ SqL X.K H a xs ∧ SqL X.K H b [] ∧ Q (.bl (!xs.isEmpty)) H) := by
  intro pins s σ H x y v u Q I rx ry h
  obtain ⟨a, b, xs, rfl, rfl, ha, hb, q⟩ := h
  obtain rfl : v = .ref a := rx
  obtain rfl : u = .ref b := ry
  obtain ⟨its, r1, p1, _⟩ := I.list ha
  obtain ⟨its2, r2, p2, _⟩ := I.list hb
  have e2 : its2 = [] := by
    cases r2
    rfl
  subst e2
  match xs, its, r1, p1, q with
  | [], [], _, p1, q => exact SeqAt.RcNeAt.lists (items := #[]) (items2 := #[]) (e := fun _ => false) (plainL_list p1) (plainL_list p2) rfl (by omega) (fun j h1 _ => absurd h1 (Nat.not_lt_zero j)) _ _ _ _ ⟨.bl false, H, I, rfl, q⟩
  | _ :: _, i :: is, _, p1, q => exact SeqAt.RcNeAt.lists_lengths (items := (i :: is).toArray) (items2 := #[]) (plainL_list p1) (plainL_list p2) (by simp) (by omega) _ _ _ _ ⟨.bl true, H, I, rfl, q⟩
/-! ### a display of pairs of texts -/
def tPrs : List (Str × Str) → TA
  | [] => tNil
  | (a, b) :: r => tCons (tTup (tCons (tC (.str a)) (tCons (tC (.str b)) tNil))) (tPrs r)
end SA

set_option Elab.async false
set_option linter.all false
set_option maxRecDepth 100000
set_option maxHeartbeats 4000000
namespace PySem
open AutoSeq1 (wpAny_loadPart')
theorem meets_enumerate_newT (l : Addr) (items : Array Value) (n : Nat) (dct : Option Addr) (sl : Array (Option Value)) :
    Meets (Builtin.«enumerate.__new__» ⟨[.type "enumerate", .ref l], []⟩) (fun _ R s => s.heap.get? l = some { cls := .type "tuple", dict := dct, data := .seq items n, slots := sl } ∧
      R (.ok (.ret (.ref (s.heap.push { cls := .type "tuple_iterator", data := .fields #[.ref l, .int 0 0] }).objs.size)))
        { s with heap := (s.heap.push { cls := .type "tuple_iterator", data := .fields #[.ref l, .int 0 0] }).push { cls := .type "enumerate", data := .fields #[.none, .bool false, .ref s.heap.objs.size, rawInt 0, .none, .none] } }) :=
  .of_wp fun prog w A R s h => by
    obtain ⟨hp, g, d, tk, os⟩ := s; obtain ⟨hl, h⟩ := h
    have hsub := sub_enumerate
    have hL : Heap.IsTuple (Shared.heap ⟨hp, g, d, tk, os⟩) l items := ⟨_, hl, rfl, n, rfl⟩
    wp_walk using wpAny_loadPart' hl
    refine wpAny_stack_any fun st => wpAny_pure ?_
    split
    · rename_i c _ _ _ _ _
      cases (c == Value.type "enumerate")
      · wp_walk using wpAny_loadPart' hl, wpAny_pyIter_tuple hL
        exact ⟨_, rfl, h⟩
      · wp_walk using wpAny_loadPart' hl, wpAny_pyIter_tuple hL
        exact ⟨_, rfl, h⟩
    · wp_walk using wpAny_loadPart' hl, wpAny_pyIter_tuple hL
      exact ⟨_, rfl, h⟩
section
variable {prog : Program} {w : World} {A : Around} {E : Value → Shared → Prop} {s : Shared}
theorem call_enumerate_tuple {l : Addr} {items : Array Value} {Q : Value → Shared → Prop} (hL : s.heap.IsTuple l items)
    (h : ∀ h', IsEnum h' (s.heap.objs.size + 1) s.heap.objs.size 0 .none → h'.IsTupleIter s.heap.objs.size l 0 → h'.objs.size = s.heap.objs.size + 2 →
      (∀ b o, s.heap.get? b = some o → h'.get? b = some o) → Q (.ref (s.heap.objs.size + 1)) { s with heap := h' }) :
    wpAny (model prog w) A (call (.type "enumerate") [.ref l]) Q E s := by
  obtain ⟨⟨c, dct, dt, sl⟩, hl, hc, n, hd⟩ := hL
  replace hc : c = .type "tuple" := hc
  replace hd : dt = .seq items n := hd
  subst hc hd
  refine callType_new F.called_enumerate (by decide) (F.typeCall_enumerate_1 _) (F.newCall_enumerate_1 _) (fun obj => F.args_object_init_2 obj _) F.entry_enumerate_new
    (meets_enumerate_newT l items n dct sl) ⟨hl, ?_⟩
  have hz : (s.heap.push { cls := .type "tuple_iterator", data := .fields #[.ref l, .int 0 0] }).objs.size = s.heap.objs.size + 1 := Heap.size_push ..
  show _ ∧ _
  rw [hz]
  have he : IsEnum ((s.heap.push { cls := .type "tuple_iterator", data := .fields #[.ref l, .int 0 0] }).push
      { cls := .type "enumerate", data := .fields #[.none, .bool false, .ref s.heap.objs.size, rawInt 0, .none, .none] }) (s.heap.objs.size + 1) s.heap.objs.size 0 .none := by
    have := Heap.get?_push_size (s.heap.push { cls := .type "tuple_iterator", data := .fields #[.ref l, .int 0 0] })
      (o := { cls := .type "enumerate", data := .fields #[.none, .bool false, .ref s.heap.objs.size, rawInt 0, .none, .none] }) rfl
    rw [hz] at this; exact this
  refine ⟨⟨_, he, rfl⟩, h _ he ⟨_, Heap.get?_push_of_some _ (Heap.get?_push_size _ rfl), rfl, rfl⟩ (by rw [Heap.size_push, hz]) fun b o x => Heap.get?_push_of_some _ (Heap.get?_push_of_some _ x)⟩
end
end PySem

set_option Elab.async false
set_option linter.all false
set_option maxRecDepth 100000
set_option maxHeartbeats 4000000
namespace SA
open PySem PySem.Spec PyProof.Rows L2
/-! ### enumerate(tuple) -/
def IteT (K : PySem.W.Frag) (a : Addr) : It :=
  ⟨fun i H => ∃ (xs : List V) (x : V), SqT K H a xs ∧ xs[i]? = some x, fun i H v H' => ∃ T x, v = .ref T ∧ H T = none ∧ H' = upd H T (.tup [.int (i : Nat), x]) ∧ ∀ xs, SqT K H a xs → xs[i]? = some x, fun i H => ∃ xs : List V, SqT K H a xs ∧ xs.length = i⟩
theorem turn_enumT {P : Program} {w : World} {K : PySem.W.Frag} {elts : List Expr} {kk : Nat} {tpos : Pos} (a e it : Addr) (hae : a ≠ e) (hai : a ≠ it) :
    Turn P w K (.Tuple elts kk tpos) (IteT K a) [e, it] e (fun i h => (∃ old, IsEnum h e it ((i : Nat) : Int) old) ∧ h.IsTupleIter it a i ∧ e ≠ it) where
  mem := by simp
  obj := fun i h st b hb => by
    obtain ⟨⟨old, he⟩, ⟨o, ho, hc, hd⟩, _⟩ := st
    have e' : b = e ∨ b = it := by simpa using hb
    rcases e' with z | z
    · rw [z]; exact ⟨_, he, fun v q => nomatch q⟩
    · rw [z]; exact ⟨o, ho, fun v q => by rw [hd] at q; cases q⟩
  keep := fun i h h' st k => let ⟨⟨old, he⟩, hi, hne⟩ := st; ⟨⟨old, k e (by simp) _ he⟩, hi.at fun o q => k it (by simp) o q, hne⟩
  item := by
    intro X hP hw hK hc i pins s σ H E I hf st hg
    subst hP hw hK
    obtain ⟨⟨old, he⟩, hit, hne⟩ := st
    obtain ⟨xs, x, hq, hx⟩ := hg
    obtain ⟨its, rv, p, hz⟩ := I.tuple hq
    obtain ⟨u0, hu0, ru0⟩ := rv.get hx
    have hel : e < s.heap.objs.size := Heap.lt_size he
    have hil : it < s.heap.objs.size := by obtain ⟨_, q, _⟩ := hit; exact Heap.lt_size q
    have hlt : i < its.toArray.size := by rw [List.size_toArray, ← rv.length]; exact (List.getElem?_eq_some_iff.mp hx).1
    refine wpAny_pyNext_enum_itemD (Draws.tuple (prog := X.prog) (w := X.w) (A := X.A.in1) (I.ok.hd hc) it a hai its.toArray) he ⟨hit, p⟩ hlt hne (by simp [hne, hae.symm]) fun u h' tk hpu ho hst hT hsz hk => ?_
    have hu : its.toArray[i]? = some u := hpu
    have hui : its[i]? = some u := by simpa using hu
    rw [hui] at hu0
    have ru : RelV x u := by rw [Option.some.inj hu0]; exact ru0
    have hit' := hst.1
    refine ⟨_, rfl, wpAny_letOwnedTupleGo_enum (s := { s with heap := h', toks := tk + 1 }) ho fun h'' he' sb => ?_⟩
    have hT2 : h''.get? s.heap.objs.size = some { cls := .type "tuple", data := .seq #[.int i tk, u] } := (sb.2 _ (Nat.ne_of_gt hel)).trans hT
    have new : ObjOk X.prog X.w (upd H s.heap.objs.size (.tup [.int (i : Nat), x])) h'' s.heap.objs.size (.tup [.int (i : Nat), x]) :=
      ⟨by show 2 ≤ sizeLine; decide, [.int i tk, u], .cons ⟨_, rfl⟩ (.cons ru .nil), ⟨_, hT2, rfl, _, rfl⟩⟩
    have I1 : Inv X pins σ (upd H s.heap.objs.size (.tup [.int (i : Nat), x])) { s with heap := h'', toks := tk + 1 } :=
      I.turnedNew (t' := tk + 1) (ch := [e, it]) (fun b ob hb q => (sb.2 b (fun z => hb (by simp [z]))).trans (hk b ob (fun z => hb (by simp [z])) (fun z => hb (by simp [z])) q)) hf (Nat.le_refl _) new
    refine ⟨.ref s.heap.objs.size, _, I1, rfl, ⟨_, x, rfl, I.hok.fresh (Nat.le_refl _), rfl, fun ys hy => by rw [I.tuple_inj hy hq]; exact hx⟩, ⟨⟨u, ?_⟩, hit'.at fun o q => (sb.2 it (Ne.symm hne)).trans q, hne⟩, fun b hb => ?_⟩
    · have e1 : ((i + 1 : Nat) : Int) = (i : Int) + 1 := by omega
      rw [e1]; exact he'
    · have hb' : b < s.heap.objs.size := by
        have e' : b = e ∨ b = it := by simpa using hb
        rcases e' with z | z
        · rw [z]; exact hel
        · rw [z]; exact hil
      rw [upd_ne (Nat.ne_of_lt hb')]
      exact (hf b hb).1
  done := by
    intro X hP hw hK hc i pins s σ H E I hf st hg
    subst hP hw hK
    obtain ⟨⟨old, he⟩, hit, hne⟩ := st
    obtain ⟨xs, hq, rfl⟩ := hg
    obtain ⟨its, rv, p, hz⟩ := I.tuple hq
    obtain ⟨f0, f1, f2, f3, f4, f5⟩ := hf it (by simp)
    have hl : its.toArray.size = xs.length := by rw [List.size_toArray, ← rv.length]
    exact wpAny_pyNext_enum_endD (Draws.tuple (prog := X.prog) (w := X.w) (A := X.A.in1) (I.ok.hd hc) it a hai its.toArray) he (by rw [hl]; exact ⟨hit, p⟩) fun h' eb => ⟨rfl, I.turned (t' := s.toks) (fun b o hb q => eb b o hb q) f0 f1 f3 f4 f5⟩
  self := fun A i s Q E st h => let ⟨⟨_, he⟩, _⟩ := st; wpAny_pyIter_enum he h
def iEnumT (K : PySem.W.Frag) (ta : TA) : TI := fun σ H R => ta σ H fun vs H1 => ∃ a xs, vs = [.ref a] ∧ SqT K H1 a xs ∧ R (IteT K a) H1
theorem pi_enumT {X : Cx} {e : Expr} {ta : TA} {p pos tpos : Pos} {elts : List Expr} {kk : Nat} (hg : Gl X "enumerate") (hm : X.mg "enumerate" = none) (ha : PA X [e] ta) (hs : starEach [e] X.env = [(false, eval e X.env)] := by rfl) :
    PI X (.Tuple elts kk tpos) (.Call (.Name "enumerate" p) [e] [] pos) (iEnumT X.K ta) := by
  refine ⟨fun pins s σ H R I h => ?_⟩
  refine Call_ (ld_blt I hg hm PyProof.Rows.boot_enumerate (PyProof.Rows.callWith_type1 (thn (ha.run pos pins s σ H _ I h) fun us s1 ⟨vs, H1, I1, r1, q1⟩ => ?_) hs rfl))
  obtain ⟨a, xs, ex, hq, q⟩ := q1
  subst ex
  cases r1 with
  | cons r rr =>
    cases rr
    cases r
    obtain ⟨its, rv, p', hz⟩ := I1.tuple hq
    have hal : a < s1.heap.objs.size := by obtain ⟨_, e2, _⟩ := id p'; exact Heap.lt_size e2
    refine call_enumerate_tuple p' fun h' he hit hsz hk => wpAny_pyIter_enum he ?_
    have I2 : Inv X pins σ H1 { s1 with heap := h' } := I1.kept (t' := s1.toks) hk
    refine ⟨s1.heap.objs.size + 1, [s1.heap.objs.size + 1, s1.heap.objs.size], _, _, H1, rfl, I2, turn_enumT a (s1.heap.objs.size + 1) s1.heap.objs.size (Nat.ne_of_lt (Nat.lt_succ_of_lt hal)) (Nat.ne_of_lt hal), ⟨⟨.none, he⟩, hit, Nat.succ_ne_self _⟩, fun b hb => ?_, q⟩
    have e' : b = s1.heap.objs.size + 1 ∨ b = s1.heap.objs.size := by simpa using hb
    have hle : s1.heap.objs.size ≤ b := by
      rcases e' with z | z
      · rw [z]; exact Nat.le_add_right _ _
      · rw [z]; exact Nat.le_refl _
    exact I1.fpOk hle (I1.hok.fresh hle)
theorem walk_enumT {K : PySem.W.Frag} {a : Addr} {xs : List V} : Walk (IteT K a) xs.length (fun H => SqT K H a xs) (YPair (fun i => some (.int (i : Nat))) (fun i => xs[i]?)) := by
  refine ⟨fun i _ hi q => ⟨xs, xs[i], q, by simp [hi]⟩, fun _ q => ⟨xs, q, rfl⟩, fun i H v H' _ q y => ?_⟩
  obtain ⟨T, x, h1, h2, h3, h4⟩ := y
  exact ⟨T, .int (i : Nat), x, h1, h2, h3, rfl, h4 xs q⟩
end SA

set_option Elab.async false
set_option linter.all false
set_option maxRecDepth 100000
set_option maxHeartbeats 4000000
namespace SA
open PySem PySem.Spec PyProof.Rows L2 T02
/-- the built-in names that the text uses -/
structure Bn2t (mg : Str → Option Value) : Prop where
  isinstance : mg "isinstance" = none
  int : mg "int" = none
  bool : mg "bool" = none
  str : mg "str" = none
  len : mg "len" = none
  range : mg "range" = none
  tuple : mg "tuple" = none
  list : mg "list" = none
  all : mg "all" = none
  zip : mg "zip" = none
  enumerate : mg "enumerate" = none
  max : mg "max" = none
  min : mg "min" = none
  repr : mg "repr" = none
  dict : mg "dict" = none
def lettersS : Str := "abcdefghijklmnopqrstuvwxyz"
def strsV (t : List (Str × Str)) : List (Str × V) := t.map fun q => (q.1, V.str q.2)
/-- what the top's constants are -/
structure Top2 (K : PySem.W.Frag) (w : World) (mg : Str → Option Value) (kA eA sA : Addr) : Prop where
  kept : mg "KEPT" = some (.ref kA)
  keptT : ∀ H, SqT K H kA (keptS.map V.str)
  letters : ∃ t, mg "LETTERS" = some (.str lettersS t)
  exG : mg "EXPRESSION_FORMS" = some (.ref eA)
  ex : GDt K w eA (strsV exprTab)
  stG : mg "STATEMENT_FORMS" = some (.ref sA)
  st : GDt K w sA (strsV stmtTab)
theorem iteTd {b : Bool} {p q : Prop} (h : b = true) (x : p) : if b = true then p else q := (if_pos h).mpr x
theorem iteFd {b : Bool} {p q : Prop} (h : b = false) (x : q) : if b = true then p else q := (if_neg (by rw [h]; decide)).mpr x
theorem small_letters (c : Nat) : decide (c ∈ tl lettersS) = small c := by
  unfold small
  rw [decide_eq_decide]
  have e : tl lettersS = [97, 98, 99, 100, 101, 102, 103, 104, 105, 106, 107, 108, 109, 110, 111, 112, 113, 114, 115, 116, 117, 118, 119, 120, 121, 122] := by decide +kernel
  rw [e]
  simp only [List.mem_cons, List.not_mem_nil, or_false]
  omega
theorem at_tl {w : Str} {i c : Nat} (h : w.cps[i]? = some c) : (tl w)[i]? = some c := by
  unfold tl
  simpa using h
theorem all_map {α : Type} (p : α → Bool) : ∀ l : List α, (l.map p).all id = l.all p
  | [] => rfl
  | c :: l => by rw [List.map_cons, List.all_cons, List.all_cons, all_map p l]; rfl
/-- the kind of a datum, as a class beside another -/
def subK (t c : String) : Bool := decide (t = c) || (decide (t = "bool") && decide (c = "int"))
theorem kit_kd {K : PySem.W.Frag} (d : PyData) {c : String} (hc : c = "tuple" ∨ c = "str" ∨ c = "bool" ∨ c = "int" ∨ c = "list") : PySem.W.kitOne K (.type (kindD d)) (.type c) = some (subK (kindD d) c) := by
  rcases hc with rfl | rfl | rfl | rfl | rfl <;> cases d <;> exact kit_ty (by simp only [kindD]; decide +kernel)
def isTup : PyData → Bool
  | .tuple _ => true
  | _ => false
def isStr : PyData → Bool
  | .str _ => true
  | _ => false
theorem subK_tup (d : PyData) : subK (kindD d) "tuple" = isTup d := by cases d <;> rfl
theorem subK_str (d : PyData) : subK (kindD d) "str" = isStr d := by cases d <;> rfl
theorem subK_bool (d : PyData) : subK (kindD d) "bool" = isBool d := by cases d <;> rfl
/-- what is asked of a datum, and answered -/
def spJ (ok : PyData → Prop) (f : PyData → Bool) : Sp := fun vs H Q _ => ∃ x d, vs = [x] ∧ Dn anyA H x d ∧ ok d ∧ ∀ H', Same H H' → Q (.bl (f d)) H'
theorem DnAll.get {n : Addr → Prop} {H : Hp} {xs : List V} {ds : List PyData} (h : DnAll n H xs ds) {i : Nat} {d : PyData} (e : ds[i]? = some d) : ∃ v, xs[i]? = some v ∧ Dn n H v d := h.at' e
section
variable {P : Program} {w0 : World} {K : PySem.W.Frag} {mg : Str → Option Value} {base : Heap} {kA eA sA : Addr}
theorem ok_is_name {f : Addr} {fd : FuncData} (F : Fun K "is_name" "is_name" s_is_name f fd) (T : Top2 K w0 mg kA eA sA) (B : Bn2t mg) : FnOk P w0 K mg base CX0 1 f fd ["thing"] (spJ (fun d => fine d = true) isName) := by
  obtain ⟨tl1, mL⟩ := T.letters
  refine F.ok sc_is_name (fun vs H Q E h => ?_) (fun cdv A outer s H vs Q E hr h => ?_)
  · obtain ⟨x, d, rfl, _⟩ := h
    rfl
  · obtain ⟨x, d, rfl, hx, hl, k⟩ := h
    refine ⟨_, (pss_cons (ps_if (PW.pt (pw_or (pt_not (pt_val (pe_callB call_isi (by rfl) B.isinstance (by decide +kernel) (pa_cons (pv 0) (pa_cons (pe_bltn (v := .ty "str") (by rfl) B.str (by decide +kernel) rfl) pa_nil))))) (pw_or (pt_not (pt_chain op_le op_le pe_int (pe_callB call_len_str (by rfl) B.len PySem.boot_len (pa_cons (pv 0) pa_nil)) pe_int)) (pw_or1 (pt_cmpR op_in_seq (pv 0) (pe_glob (v := .ref kA) (by rfl) T.kept rfl) (by rfl)))))) (pss_one (ps_ret pe_bl)) pss_nil)
      (pss_one (ps_ret (pe_callB (cr_all rfl) (by rfl) B.all (by decide +kernel) (pa_cons (pe_lc (own := [("letter", 1)]) (g := (gName 1)) (tt := tYes) (by rfl) sc_is_name.nd (pi_str (pv 0)) (blkOk_by (N := n_is_name) (sc := defScope s_is_name) (by decide +kernel)) (fun _ _ _ _ _ => (pg_name (i := 1) sc_is_name.nd rfl (Or.inl rfl))) (fun _ _ _ _ _ => pts_nil) (fun _ _ _ _ _ => (pe_cmpR op_in_sign (pv 1) (pe_glob (v := .str lettersS) (by rfl) mL ⟨_, rfl⟩) (by rfl)))) pa_nil))))), ?_⟩
    have hs63 := sizeLine_eq
    refine ⟨_, rfl, x, .ty "str", .type (kindD d), .type "str", subK (kindD d) "str", rfl, .ty _, Kd.ty hx.kd, kit_kd d (.inr (.inl rfl)), _, rfl, ?_⟩
    cases hx with
    | str w =>
      have hw : w.length ≤ 100 := by
        have hl := hl
        simp only [fine, fineW, Bool.and_eq_true, decide_eq_true_eq] at hl
        exact hl.1
      have hz : w.length ≤ sizeLine := Nat.le_trans hw (by decide)
      have k : ∀ H', Same H H' → Q (.bl (nameS w)) H' := k
      refine iteFd rfl ?_
      have k0 : nameS w = false → Q (.bl false) H := fun e => e ▸ k H (Same.refl H)
      refine ⟨_, rfl, w, rfl, hz, _, _, rfl, rfl, _, rfl, ite2 (fun h1 => ?_) (fun h1 => ?_)⟩
      · have h1 : (1 : Int) ≤ w.length := of_decide_eq_true h1
        refine ⟨_, _, rfl, rfl, _, rfl, ?_⟩
        by_cases h2 : (w.length : Int) ≤ 8
        · rw [decide_eq_true h2]
          refine iteFd rfl ?_
          refine ⟨_, rfl, kA, _, rfl, .inr (T.keptT H), rfl, K1.flat_strs _, _, rfl, ?_⟩
          rw [K1.inV_str]
          by_cases h3 : w ∈ keptS
          · rw [decide_eq_true h3]
            refine iteTd rfl (k0 ?_)
            simp [nameS, h3]
          · rw [decide_eq_false h3]
            refine iteFd rfl ?_
            refine ⟨_, rfl, w, rfl, fun p hp => lc_it walk_str (fun i H' => Same H H' ∧ H' p = some (.lst (((tl w).take i).map fun c => V.bl (small c)))) ⟨Same.new hp, upd_same⟩ (fun _ _ _ _ => trivial) ?_ ?_⟩
            · rintro i x H1 H' hi ⟨s1, e1⟩ ⟨rfl, c, hc, rfl⟩
              refine ⟨rfl, yes ?_⟩
              refine ⟨_, rfl, c, lettersS, rfl, rfl, _, e1, ?_, Same.upd' s1 hp, ?_⟩
              · have := List.length_take_le' i (tl w)
                have h5 : (tl w).length = w.length := rfl
                rw [List.length_map]
                omega
              · rw [upd_same]
                show some (HO.lst (_ ++ [V.bl (decide (c ∈ tl lettersS))])) = _
                rw [small_letters, List.take_add_one, at_tl hc, List.map_append]
                rfl
            · rintro H1 ⟨s1, e1⟩
              rw [List.take_of_length_le (Nat.le_of_eq (by simp [tl]))] at e1
              have e2 : (tl w).map (fun c => V.bl (small c)) = ((tl w).map small).map V.bl := by rw [List.map_map]; rfl
              rw [e2] at e1
              refine ⟨p, _, rfl, SqL.of e1, ?_⟩
              have := k H1 s1
              rw [all_map]
              have e3 : nameS w = (tl w).all small := by simp [nameS, h3, show 1 ≤ w.length by omega, show w.length ≤ 8 by omega]
              rw [← e3]
              exact this
        · rw [decide_eq_false h2]
          refine iteTd rfl (k0 ?_)
          simp [nameS, show ¬ w.length ≤ 8 by omega]
      · have h1 : ¬ (1 : Int) ≤ w.length := fun z => h1 (decide_eq_true z)
        refine ⟨_, rfl, ?_⟩
        refine iteTd rfl (k0 ?_)
        simp [nameS, show ¬ 1 ≤ w.length by omega]
    | _ => exact k H (Same.refl H)
end
end SA

set_option Elab.async false
set_option linter.all false
set_option maxRecDepth 100000
set_option maxHeartbeats 4000000
namespace SA
open PySem PySem.Spec PyProof.Rows L2
/-! ### defs that are called where no repr is under way -/
structure FnG (P : Program) (w : World) (K : PySem.W.Frag) (mg : Str → Option Value) (base : Heap) (k : Nat) (f : Addr) (fd : FuncData) (ps : List Str) (sp : Sp) : Prop where
  many : ∀ vs H Q E, sp vs H Q E → vs.length = ps.length
  goes : ∀ (A : Around) (outer : List Env) (s : Shared) (H : Hp) (args : Args) (us : List Value) (vs : List V) (Q : VK) (E : XK), A.guards = some [] → Room k A → Env0 P w K mg base A outer s H → BindsTo s fd args (ps.zip us) → Vals vs us → sp vs H Q E →
    codeAny (model P w) A (.call (.ref f) args) (CR CX0 outer P w H s Q E) s
section
variable {P : Program} {w : World} {K : PySem.W.Frag} {mg : Str → Option Value} {base : Heap}
theorem Fun.okG {x qual : Str} {st : Stmt} {f : Addr} {fd : FuncData} {N ps : List Str} {k : Nat} {sp : Sp} (F : Fun K x qual st f fd) (S : FnScope N ps (defScope st)) (hl : ∀ vs H Q E, sp vs H Q E → vs.length = ps.length)
    (body : ∀ (cdv : Value) (A : Around) (outer : List Env) (s : Shared) (H : Hp) (vs : List V) (Q : VK) (E : XK), (A.deeper (envOfC qual (defScope st) s.heap.objs.size f cdv)).guards = some [] → Room k (A.deeper (envOfC qual (defScope st) s.heap.objs.size f cdv)) → sp vs H Q E →
      ∃ t, PSs (cxOf CX0 P w K mg base N qual (defScope st) f cdv A outer s H E).nox (defBody st) t ∧ t { nx := fun _ H' => Q .non H', rt := Q } (L2.start N vs) H) : FnG P w K mg base (k + 1) f fd ps sp := by
  obtain ⟨oc, od, kV, doc, pm, an, cdv, ct, osl, rfl, lk, hcd⟩ := F.ex
  refine ⟨hl, fun A outer s H args us vs Q E hg rm env hb r hs => ?_⟩
  refine LamX.run_ofS (k := k) (N := N) (ps := ps) (us := us) (vs := vs) (Q := Q) (E := E) lk hcd S rm env hb r (hl _ _ _ _ hs) fun rm' => ?_
  obtain ⟨t, h1, h2⟩ := body cdv A outer s H vs Q E hg rm' hs
  exact ⟨t, h1.nox, h2⟩
/-- a def of the module that is called so -/
structure Gq (P : Program) (w : World) (K : PySem.W.Frag) (mg : Str → Option Value) (base : Heap) (k : Nat) (x : Str) (ps : List Str) (sp : Sp) : Prop where
  ex : ∃ (f : Addr) (fd : FuncData), FnG P w K mg base k f fd ps sp ∧ mg x = some (.ref f) ∧ PySem.W.keepIn K (.ref f) = true ∧ L2.Binds K fd ps []
end
section
variable {X : Cx} {k j : Nat} {x : Str} {p pos : Pos} {e : Expr} {es : List Expr} {t : TA} {sp : Sp} {ps : List Str}
theorem run_g {pins : List (Addr × Obj)} {σ : L2.St} {H : Hp} {s : Shared} {Q : VK} {us : List Value} {vs : List V} {f : Addr} {fd : FuncData} (G : FnG X.prog X.w X.K X.mg X.base k f fd ps sp) (hg : X.A.guards = some []) (rm : Room k X.A) (hb : L2.Binds X.K fd ps [])
    (I : Inv X pins σ H s) (r : Vals vs us) (h : sp vs H Q fun _ _ _ => False) : wpAny (model X.prog X.w) X.A (call (.ref f) us) (EP X pins σ Q) X.xe s := by
  have hl : (us ++ []).length = ps.length := by
    rw [List.append_nil, ← r.length]
    exact G.many _ _ _ _ h
  have bt := hb s us I.kIn hl
  rw [List.append_nil] at bt
  refine wpAny_call (codeAny_mono (G.goes X.A X.stack s H ⟨us, []⟩ us vs Q _ hg rm I.env0 bt r h) fun o s' q => ?_)
  match o, q with
  | .error e, q => exact q.elim
  | .ok (.ret u), q => exact I.after q
  | .ok .next, q => exact q.elim
  | .ok .brk, q => exact q.elim
  | .ok .cont, q => exact q.elim
theorem pe_g (c : Gq X.prog X.w X.K X.mg X.base k x ps sp) (hg : X.A.guards = some []) (hr : Room j X.A) (hk : k ≤ j) (hgl : Gl X x) (ha : PA X (e :: es) t)
    (hdb : (x == ("__debug__" : Str)) = false := by decide) (he : starEach (e :: es) X.env = (false, eval e X.env) :: starEach es X.env := by rfl) (hpl : (backTo pos (starEach es X.env)).any (·.1) = false := by rfl) :
    PE X (.Call (.Name x p) (e :: es) [] pos) (fun σ H Q => t σ H fun vs H1 => sp vs H1 Q fun _ _ _ => False) := by
  obtain ⟨f, fd, G, hm, kp, b⟩ := c.ex
  refine ⟨fun pins s σ H Q I h => ?_⟩
  refine wpAny_Call_Name_kw (ld_glob I hgl hm ?_ hdb)
  refine PySem.W.callWith_K (h₀ := X.base) I.ok.mod.kin kp (thn (ha.run pos pins s σ H _ I h) fun us s1 ⟨vs, H1, I1, r, q⟩ => ⟨I1.kIn, ?_⟩) he hpl
  exact run_g G hg (hr.mono hk) b I1 r q
end
/-- what the law's def promises -/
def spLawT (K : PySem.W.Frag) : Sp := fun vs H Q _ => ∃ (a : Addr) (ns : List Int), vs = [.ref a] ∧ SqL K H a (ns.map V.int) ∧ ns.length ≤ 63 ∧ ∀ H', Q (.bl true) H'
theorem lawRun_of {P : Program} {w : World} {K : PySem.W.Frag} {mg : Str → Option Value} {base : Heap} {fa : Addr} {fd : FuncData} {x : Str} {k : Nat} (G : FnG P w K mg base k fa fd [x] (spLawT K)) (hr : Room k callerA) (hb : ∀ (s : Shared) (u : Value), BindsTo s fd ⟨[u], []⟩ [(x, u)]) :
    LawRun P w K mg base fa 63 := by
  intro s H a ns env hS hn
  exact G.goes callerA [] s H ⟨[.ref a], []⟩ [.ref a] [.ref a] _ _ rfl hr env (hb s (.ref a)) (.cons rfl .nil) ⟨a, ns, rfl, hS, hn, fun _ => rfl⟩
end SA

set_option Elab.async false
set_option linter.all false
set_option maxRecDepth 100000
set_option maxHeartbeats 0
namespace SA
open PySem PySem.Spec PyProof.Rows L2
abbrev cat1 {α : Type} : List α → List α → List α := fun us ws => us ++ ws
/-! ### what the top has left -/
abbrev fIs (K : PySem.W.Frag) (C : Addr) (x : Str) (v : Option Value) : Bool := decide (PySem.W.findIn K (.ref C) x = some v)
def excB (K : PySem.W.Frag) (C : Addr) : Bool :=
  fIs K C "__getattribute__" (some (.builtin "BaseException.__getattribute__")) && (fIs K C "__getattr__" none && (decide (PySem.W.subIn K (.ref C) (.type "BaseException") = some true) && (PySem.W.hasDictIn K C && (fIs K C "__class__" (some (.builtin "object.__class__")) &&
    (decide (PySem.W.specialIn K (.builtin "object.__class__") "__get__" = some (some (.builtin "getset_descriptor.__get__"))) && (decide (PySem.W.takesIn K (.builtin "object.__class__") = some true) && decide (PySem.W.mroIn K C (.type "object") = some true)))))))
theorem excB_ok {K : PySem.W.Frag} {C : Addr} (h : excB K C = true) : ExcC K C ∧ XfC K C := by
  unfold excB at h
  simp only [Bool.and_eq_true, decide_eq_true_eq] at h
  obtain ⟨h1, h2, h3, h4, h5, h6, h7, h8⟩ := h
  exact ⟨⟨h1, h2, h3, h4, h5, h6, h7, h8⟩, ⟨h1, h2, h3, h4⟩⟩
/-- an exception class whose objects have a dict and its own or a base's __init__ -/
def oexB (K : PySem.W.Frag) (C : Addr) : Bool := match K.lookup C with
  | some ⟨.type t, _, .cls cd, sl⟩ => (match cd.mro, sl.toList with
    | .ref C' :: bm, [_, _, _, _, some (.builtin n), _] => decide (t = "type") && (decide (C' = C) && (decide (n = "ValueError.__new__") && (!cd.hasDel && (cd.hasDict && PySem.HandSPX.refsVE bm))))
    | _, _ => false)
  | _ => false
def oexB2 (K : PySem.W.Frag) (C : Addr) : Bool := oexB K C && (fIs K C "__setattr__" (some (.builtin "object.__setattr__")) && (decide (PySem.W.subIn K (.ref C) (.type "BaseException") = some true) && (decide (PySem.W.typeIn K (.ref C) = some (.type "type")) && PySem.W.keepIn K (.ref C))))
theorem oexB_ok {K : PySem.W.Frag} {C : Addr} (h : oexB2 K C = true) : OexC K C := by
  unfold oexB2 at h
  simp only [Bool.and_eq_true, decide_eq_true_eq] at h
  obtain ⟨h0, h1, h2, h3, h4⟩ := h
  refine ⟨?_, h1, h2, h3, h4⟩
  unfold oexB at h0
  split at h0
  · rename_i t dd cd sl e
    split at h0
    · rename_i C' bm k0 k1 k2 k3 n k5 hm hs
      simp only [Bool.and_eq_true, decide_eq_true_eq, Bool.not_eq_true'] at h0
      obtain ⟨rfl, rfl, rfl, hd, hh, hr⟩ := h0
      obtain ⟨nm, bs, mro, ns, qn, hdct, sn, sub, ab, col, del⟩ := cd
      dsimp only at hm hd hh
      subst hm hd hh
      obtain ⟨l⟩ := sl
      dsimp only at hs
      subst hs
      exact ⟨nm, qn, ns, bs, bm, sn, sub, ab, col, dd, k0, k1, k2, k3, k5, e, hr⟩
    · cases h0
  · cases h0
def ownB (K : PySem.W.Frag) (C : Addr) (fs : List Str) : Bool := oexB2 K C && (fIs K C "__init__" (some (.ref (He.ma K C "__init__"))) && (decide (PySem.W.typeIn K (.ref (He.ma K C "__init__")) = some (.type "function")) && fs.all fun x => fIs K C x none))
theorem ownB_ok {K : PySem.W.Frag} {C : Addr} {fs : List Str} (h : ownB K C fs = true) : Own24 K C (He.ma K C "__init__") fs := by
  unfold ownB at h
  simp only [Bool.and_eq_true, decide_eq_true_eq, List.all_eq_true] at h
  obtain ⟨h1, h2, h3, h4⟩ := h
  exact ⟨oexB_ok h1, h2, h3, h4⟩
def sysB (K : PySem.W.Frag) : Bool := match K.lookup sysModules with
  | some o => decide (o.cls = .type "dict")
  | none => false
theorem sysB_ok {K : PySem.W.Frag} (h : sysB K = true) : SysK K := by
  unfold sysB at h
  split at h
  · rename_i o e
    exact ⟨o, e, of_decide_eq_true h⟩
  · cases h
theorem FunD_fun {K : PySem.W.Frag} {x qual : Str} {st : Stmt} {f : Addr} (h : ∃ fd, FunD K x qual (defArgs st) (defBody st) (defScope st) [] [] f fd) : ∃ fd, Fun K x qual st f fd := by
  obtain ⟨fd, F⟩ := h
  exact ⟨fd, SA.FunD.toFun F⟩
theorem kb1 {K : PySem.W.Frag} {x qual p : Str} {st : Stmt} {f : Addr} {fd : FuncData} (F : Fun K x qual st f fd)
    (h1 : ∀ (kV doc pm : Value) (an : Option Addr) (cdv ct u : Value), bindArgs (PySem.W.fnOf x qual (defArgs st) (defBody st) (defScope st) .none kV doc pm an cdv ct) ⟨[u], []⟩ = pure [(p, u)])
    (h2 : ∀ (kV doc pm : Value) (an : Option Addr) (cdv ct u : Value), bindArgs (PySem.W.fnOf x qual (defArgs st) (defBody st) (defScope st) .none kV doc pm an cdv ct) ⟨[], [(p, u)]⟩ = pure [(p, u)]) : KBinds K fd [p] [p] cat1 cat1 := by
  obtain ⟨oc, od, kV, doc, pm, an, cdv, ct, osl, rfl, _, _⟩ := F.ex
  refine ⟨fun s us ws _ hl => ?_, fun r rz => r.append rz⟩
  match us, ws, hl with
  | [u], [], _ => exact .of_eq (h1 kV doc pm an cdv ct u)
  | [], [u], _ => exact .of_eq (h2 kV doc pm an cdv ct u)
  | [], [], hl => cases hl
  | [], _ :: _ :: _, hl => simp at hl
  | _ :: _ :: _, _, hl => simp at hl
  | [_], _ :: _, hl => simp at hl
end SA

set_option Elab.async false
set_option linter.all false
set_option maxRecDepth 100000
set_option maxHeartbeats 4000000
/-! ### the law's def, one of whose callees has a table of code objects -/
namespace SA
open PySem PySem.Spec PyProof.Rows L2
/-- what the law's def does when the claim's caller calls it, the table at Pt being empty -/
def LawRunT (P : Program) (w : World) (K : PySem.W.Frag) (mg : Str → Option Value) (base : Heap) (fa : Addr) (n : Nat) (Pt : Addr) : Prop :=
  ∀ (s : Shared) (H : Hp) (a : Addr) (ns : List Int), Env0 P w K mg base callerA [] s H → H Pt = some (.tbl #[]) → SqL K H a (ns.map V.int) → ns.length ≤ n →
    codeAny (model P w) callerA (.call (.ref fa) ⟨[.ref a], []⟩) (CR CX0 [] P w H s (fun v _ => v = .bl true) E0) s
abbrev noTab : Obj := { cls := .none, data := .fields #[] }
section
variable {P : Program} {w : World} {K : PySem.W.Frag} {mg mb : Str → Option Value} {fa a cc Pt : Addr} {s : Shared} {vs : List Value} {ns : List Int} {n : Nat}
theorem lawT_from (KX : K.In s.heap) (hns : s.heap.Ns mainGlobals mg) (hb : s.heap.Ns builtinsNs mb) (hbb : ∀ x : Str, x ≠ "__name__" → mb x = bootBuiltins x) (hlim : s.heap.NoLimit) (hg : s.gens = #[])
    (hT : s.heap.get? Pt = some noTab) (nT : K.lookup Pt = none) (C : PySem.W.CodeHd s.heap cc Pt)
    (hbm : ∃ (bm : Addr) (ob : Obj), mg "__builtins__" = some (.ref bm) ∧ bm ≠ builtinsNs ∧ s.heap.get? bm = some ob ∧ ob.cls = .type "module" ∧ ob.dict = some builtinsNs ∧ ob.data = .plain)
    (ha : s.heap.get? a = some { cls := .type "list", data := .seq vs.toArray }) (hn : ns.length ≤ n) (F : ∀ base : Heap, K.In base → base.Ns mainGlobals mg → LamX.TabB base mg cc Pt → LawRunT P w K mg base fa n Pt)
    (H : Hp) (hP : H Pt = some (.tbl #[])) (hO : ∀ b, H b = none ∨ b = Pt ∨ ∃ ob xs, H b = some (.frz ob (.lst xs))) (hS : SqL K H a (ns.map V.int)) (hok : HOk P w H s.heap) (hA : ∀ b, H b ≠ none → b = a ∨ b = Pt) (hK : H a ≠ none → K.lookup a = none) :
    codeAny (model P w) callerA (.call (.ref fa) ⟨[.ref a], []⟩) (Done s) s := by
  -- what is neither the script nor the table is not tracked
  have un : ∀ {b : Addr} {o : Obj}, s.heap.get? b = some o → (∀ v k, o.data ≠ .seq v k) → o.data ≠ .fields #[] → H b = none := fun {b o} e h1 h2 => by
    cases q : H b with
    | none => rfl
    | some u =>
      rcases hA b (by rw [q]; simp) with z | z
      · cases e.symm.trans (z ▸ ha)
        exact (h1 _ _ rfl).elim
      · cases e.symm.trans (z ▸ hT)
        exact (h2 rfl).elim
  have stay : ∀ {b : Addr} {o : Obj}, s.heap.get? b = some o → H b = none → (hidT s.heap H).get? b = some o := fun e q => hidT_get e q
  have nsd : ∀ {b : Addr} {m : Str → Option Value}, s.heap.Ns b m → (hidT s.heap H).Ns b m := fun {b m} ⟨o, es, ep, e, d, r⟩ =>
    ⟨o, es, ep, stay e (un e (fun v k z => by rw [d] at z; cases z) fun z => by rw [d] at z; cases z), d, r⟩
  have kin : K.In (hidT s.heap H) := fun b o e => stay (KX b o e) (by
    cases q : H b with
    | none => rfl
    | some u =>
      rcases hA b (by rw [q]; simp) with z | z
      · cases (hK (by rw [← z, q]; simp)).symm.trans (z ▸ e)
      · cases nT.symm.trans (z ▸ e))
  have tb : LamX.TabB (hidT s.heap H) mg cc Pt := by
    refine ⟨?_, ?_, fun z => ?_⟩
    · obtain ⟨o, us, f, tf, fl, tg, iF, tx, tt, e1, r1, r2, r3, r4⟩ := C
      refine ⟨o, us, f, tf, fl, tg, iF, tx, tt, stay e1 (un e1 (fun v k z => by rw [r2] at z; cases z) fun z => ?_), r1, r2, r3, r4⟩
      rw [r2] at z
      cases z
      simp at r3
    · obtain ⟨bm, ob, b1, b2, b3, b4, b5, b6⟩ := hbm
      refine ⟨bm, ob, b1, b2, fun z => ?_, fun z => ?_, stay b3 (un b3 (fun v k z => by rw [b6] at z; cases z) fun z => by rw [b6] at z; cases z), b4, b5, b6⟩
      · obtain ⟨o, es, ep, e, d, _⟩ := hns
        cases e.symm.trans (z ▸ b3)
        rw [b6] at d
        cases d
      · cases hT.symm.trans (z ▸ b3)
        cases b6
    · obtain ⟨o, es, ep, e, d, _⟩ := hns
      cases hT.symm.trans (z ▸ e)
      cases d
  have env : Env0 P w K mg (hidT s.heap H) callerA [] s H :=
    ⟨rfl, ⟨kin, nsd hns, ⟨mb, nsd hb, hbb⟩, let ⟨mc, h1, h2⟩ := hlim; ⟨mc, nsd h1, h2⟩⟩, fun b o e => of_hidT e, Nat.le_of_eq (hidT_size _ _), trivial, fun b z => absurd (show b ∈ ([] : List Addr) from z) (by simp), hok, .of_eq hg⟩
  refine codeAny_mono (F _ kin (nsd hns) tb s H a ns env hP hS hn) fun r t h => ?_
  match r, h with
  | .error _, h => exact h.elim
  | .ok .next, h => exact h.elim
  | .ok .brk, h => exact h.elim
  | .ok .cont, h => exact h.elim
  | .ok (.ret u), ⟨v, H', os, bare, ux, hok', rv, q⟩ =>
    cases (show v = .bl true from q)
    obtain rfl : u = Value.bool true := rv
    have other : ∀ b o, b ≠ Pt → s.heap.get? b = some o → t.heap.get? b = some o := fun b o nb e => by
      rcases hO b with z | z | ⟨ob, xs, z⟩
      · exact ux.keep b o e z (fun y => absurd (show b ∈ ([] : List Addr) from y) (by simp)) (by simp)
      · exact absurd z nb
      · obtain ⟨q1, _⟩ := hok b _ z
        obtain ⟨q2, _⟩ := hok' b _ (ux.frzs b ob _ z)
        rw [Option.some.inj (e.symm.trans q1)]
        exact q2
    obtain ⟨more, z⟩ := ux.tbls Pt #[] hP
    have grown : t.heap.get? Pt = some { cls := .none, data := .fields (#[] ++ more) } := hok' Pt _ z
    refine ⟨rfl, ⟨fun b o e => ?_, fun b o e => ?_⟩, os, bare⟩
    · by_cases nb : b = Pt
      · subst nb
        cases hT.symm.trans e
        exact .inr (.inl ⟨(C.tab hT).isCodeTable, rfl, #[], more, rfl, grown⟩)
      · exact .inl (other b o nb e)
    · by_cases nb : b = Pt
      · subst nb
        exact ⟨_, grown⟩
      · exact ⟨o, other b o nb e⟩
theorem lawT_call (KX : K.In s.heap) (hns : s.heap.Ns mainGlobals mg) (hb : s.heap.Ns builtinsNs mb) (hbb : ∀ x : Str, x ≠ "__name__" → mb x = bootBuiltins x) (hlim : s.heap.NoLimit) (hg : s.gens = #[])
    (hT : s.heap.get? Pt = some noTab) (nT : K.lookup Pt = none) (C : PySem.W.CodeHd s.heap cc Pt)
    (hbm : ∃ (bm : Addr) (ob : Obj), mg "__builtins__" = some (.ref bm) ∧ bm ≠ builtinsNs ∧ s.heap.get? bm = some ob ∧ ob.cls = .type "module" ∧ ob.dict = some builtinsNs ∧ ob.data = .plain)
    (ha : s.heap.get? a = some { cls := .type "list", data := .seq vs.toArray }) (hi : IntsAre vs ns) (hl : ns.length ≤ sizeLine) (hn : ns.length ≤ n) (F : ∀ base : Heap, K.In base → base.Ns mainGlobals mg → LamX.TabB base mg cc Pt → LawRunT P w K mg base fa n Pt) :
    codeAny (model P w) callerA (.call (.ref fa) ⟨[.ref a], []⟩) (Done s) s := by
  have rv := vals_ints hi
  have aP : a ≠ Pt := fun z => by
    cases hT.symm.trans (z ▸ ha)
  by_cases hk : K.lookup a = none
  · let H : Hp := fun b => if b = Pt then some (.tbl #[]) else if b = a then some (.frz { cls := .type "list", data := .seq vs.toArray } (.lst (ns.map V.int))) else none
    have eP : H Pt = some (.tbl #[]) := if_pos rfl
    have ea : H a = some (.frz { cls := .type "list", data := .seq vs.toArray } (.lst (ns.map V.int))) := (if_neg aP).trans (if_pos rfl)
    have en : ∀ b, b ≠ Pt → b ≠ a → H b = none := fun b h1 h2 => (if_neg h1).trans (if_neg h2)
    refine lawT_from KX hns hb hbb hlim hg hT nT C hbm ha hn F H eP (fun b => ?_) (.inl (.inr ⟨_, ea⟩)) (fun b u z => ?_) (fun b z => ?_) fun _ => hk
    · by_cases h1 : b = Pt
      · exact .inr (.inl h1)
      · by_cases h2 : b = a
        · exact .inr (.inr ⟨_, _, h2 ▸ ea⟩)
        · exact .inl (en b h1 h2)
    · by_cases h1 : b = Pt
      · subst h1
        cases eP.symm.trans z
        exact hT
      · by_cases h2 : b = a
        · subst h2
          cases ea.symm.trans z
          exact ⟨ha, by rw [List.length_map]; exact hl, vs, _, rv, ha⟩
        · cases (en b h1 h2).symm.trans z
    · by_cases h1 : b = Pt
      · exact .inr h1
      · by_cases h2 : b = a
        · exact .inl h2
        · exact absurd (en b h1 h2) z
  · obtain ⟨o, ho⟩ := Option.ne_none_iff_exists'.mp hk
    have e := KX a o ho
    rw [ha] at e
    cases e
    let H : Hp := fun b => if b = Pt then some (.tbl #[]) else none
    have eP : H Pt = some (.tbl #[]) := if_pos rfl
    have en : ∀ b, b ≠ Pt → H b = none := fun b h1 => if_neg h1
    refine lawT_from KX hns hb hbb hlim hg hT nT C hbm ha hn F H eP (fun b => ?_) (.inr ⟨_, vs.toArray, _, ho, rfl, rfl, rfl, by rw [List.size_toArray, hi.length]; exact hl, by simpa using rv⟩) (fun b u z => ?_) (fun b z => ?_) fun z => absurd (en a aP) z
    · by_cases h1 : b = Pt
      · exact .inr (.inl h1)
      · exact .inl (en b h1)
    · by_cases h1 : b = Pt
      · subst h1
        cases eP.symm.trans z
        exact hT
      · cases (en b h1).symm.trans z
    · by_cases h1 : b = Pt
      · exact .inr h1
      · exact absurd (en b h1) z
end
/-- the goal that the head leaves, from what the law's def does -/
theorem walk_T {l : PySem.W.OpenLaw} {n : Nat} {q : Program} {loose : List Str} {XP : (Str → Option Value) → Heap → Prop} {YP : World → Heap → Prop} {d : DefRec} (hn : l.most = some n) (hn2 : n ≤ sizeLine) (hdf : d.params.defaults = [])
    (F : ∀ (w : World) (mg : Str → Option Value) (fa : Addr) (h : Heap), YP w h → h.Ns mainGlobals mg → mg d.name = some (.ref fa) →
      ∃ (K : PySem.W.Frag) (cc Pt : Addr), K.In h ∧ h.get? Pt = some noTab ∧ K.lookup Pt = none ∧ PySem.W.CodeHd h cc Pt ∧ ∀ base : Heap, K.In base → base.Ns mainGlobals mg → LamX.TabB base mg cc Pt → LawRunT l.prog w K mg base fa n Pt) :
    PySem.W.WalkO q loose XP YP l.row.toRowW d [] (fun f vs => PySem.call f vs) := by
  refine Att.attach_call hn hdf fun w s₀ s₁ mg mb fa o pm cd doc a vs ns G Y ho hd hcd hmg hobj hints hlen hg => ?_
  obtain ⟨K, cc, Pt, KX, hT, nT, C, hF⟩ := F w mg fa _ Y G.T.g hmg
  exact lawT_call KX G.T.g G.T.b G.T.builtins G.T.nolimit hg hT nT C G.T.bmain hobj hints (Nat.le_trans hlen hn2) hlen hF
/-- LawRunT from the body of the law's def -/
theorem lawT_run {P : Program} {w : World} {K : PySem.W.Frag} {mg : Str → Option Value} {base : Heap} {fa Pt : Addr} {fd : FuncData} {st : Stmt} {N : List Str} {x : Str} {n k : Nat} (F : Fun K "law" "law" st fa fd) (S : FnScope N [x] (defScope st))
    (hb : ∀ (s : Shared) (u : Value), BindsTo s fd ⟨[u], []⟩ [(x, u)]) (hr : Room (k + 1) callerA)
    (body : ∀ (cdv : Value) (s : Shared) (H : Hp) (a : Addr) (ns : List Int), Room k (callerA.deeper (envOfC "law" (defScope st) s.heap.objs.size fa cdv)) → H Pt = some (.tbl #[]) → SqL K H a (ns.map V.int) → ns.length ≤ n →
      ∃ t, PSs (cxOf CX0 P w K mg base N "law" (defScope st) fa cdv callerA [] s H E0).nox (defBody st) t ∧ t { nx := fun _ _ => V.non = V.bl true, rt := fun v _ => v = .bl true } (start N [.ref a]) H) :
    LawRunT P w K mg base fa n Pt := by
  intro s H a ns env hP hS hn
  obtain ⟨oc, od, kV, doc, pm, an, cdv, ct, osl, rfl, lk, hcd⟩ := F.ex
  refine LamX.run_ofS (k := k) (N := N) (ps := [x]) (us := [.ref a]) (vs := [.ref a]) (Q := fun v _ => v = .bl true) (E := E0) lk hcd S hr env (hb s (.ref a)) (.cons rfl .nil) rfl fun hr' => ?_
  obtain ⟨t, h1, h2⟩ := body cdv s H a ns hr' hP hS hn
  exact ⟨t, h1.nox, h2⟩
end SA

set_option Elab.async false
set_option linter.all false
set_option maxRecDepth 100000
set_option maxHeartbeats 4000000
/-! ### the law's def, with two tables of code objects -/
namespace SA
open PySem PySem.Spec PyProof.Rows L2
/-- what the law's def does when the claim's caller calls it, the tables at P1 and P2 being empty -/
def LawRunT2 (P : Program) (w : World) (K : PySem.W.Frag) (mg : Str → Option Value) (base : Heap) (fa : Addr) (n : Nat) (P1 P2 : Addr) : Prop :=
  ∀ (s : Shared) (H : Hp) (a : Addr) (ns : List Int), Env0 P w K mg base callerA [] s H → H P1 = some (.tbl #[]) → H P2 = some (.tbl #[]) → SqL K H a (ns.map V.int) → ns.length ≤ n →
    codeAny (model P w) callerA (.call (.ref fa) ⟨[.ref a], []⟩) (CR CX0 [] P w H s (fun v _ => v = .bl true) E0) s
section
variable {P : Program} {w : World} {K : PySem.W.Frag} {mg mb : Str → Option Value} {fa a c1 P1 c2 P2 : Addr} {s : Shared} {vs : List Value} {ns : List Int} {n : Nat}
theorem lawT2_from (KX : K.In s.heap) (hns : s.heap.Ns mainGlobals mg) (hb : s.heap.Ns builtinsNs mb) (hbb : ∀ x : Str, x ≠ "__name__" → mb x = bootBuiltins x) (hlim : s.heap.NoLimit) (hg : s.gens = #[])
    (hT1 : s.heap.get? P1 = some noTab) (nT1 : K.lookup P1 = none) (C1 : PySem.W.CodeHd s.heap c1 P1) (hT2 : s.heap.get? P2 = some noTab) (nT2 : K.lookup P2 = none) (C2 : PySem.W.CodeHd s.heap c2 P2)
    (hbm : ∃ (bm : Addr) (ob : Obj), mg "__builtins__" = some (.ref bm) ∧ bm ≠ builtinsNs ∧ s.heap.get? bm = some ob ∧ ob.cls = .type "module" ∧ ob.dict = some builtinsNs ∧ ob.data = .plain)
    (ha : s.heap.get? a = some { cls := .type "list", data := .seq vs.toArray }) (hn : ns.length ≤ n) (F : ∀ base : Heap, K.In base → base.Ns mainGlobals mg → LamX.TabB base mg c1 P1 → LamX.TabB base mg c2 P2 → LawRunT2 P w K mg base fa n P1 P2)
    (H : Hp) (hP1 : H P1 = some (.tbl #[])) (hP2 : H P2 = some (.tbl #[])) (hO : ∀ b, H b = none ∨ b = P1 ∨ b = P2 ∨ ∃ ob xs, H b = some (.frz ob (.lst xs))) (hS : SqL K H a (ns.map V.int)) (hok : HOk P w H s.heap) (hA : ∀ b, H b ≠ none → b = a ∨ b = P1 ∨ b = P2) (hK : H a ≠ none → K.lookup a = none) :
    codeAny (model P w) callerA (.call (.ref fa) ⟨[.ref a], []⟩) (Done s) s := by
  have un : ∀ {b : Addr} {o : Obj}, s.heap.get? b = some o → (∀ v k, o.data ≠ .seq v k) → o.data ≠ .fields #[] → H b = none := fun {b o} e h1 h2 => by
    cases q : H b with
    | none => rfl
    | some u =>
      rcases hA b (by rw [q]; simp) with z | z | z
      · cases e.symm.trans (z ▸ ha)
        exact (h1 _ _ rfl).elim
      · cases e.symm.trans (z ▸ hT1)
        exact (h2 rfl).elim
      · cases e.symm.trans (z ▸ hT2)
        exact (h2 rfl).elim
  have stay : ∀ {b : Addr} {o : Obj}, s.heap.get? b = some o → H b = none → (hidT s.heap H).get? b = some o := fun e q => hidT_get e q
  have nsd : ∀ {b : Addr} {m : Str → Option Value}, s.heap.Ns b m → (hidT s.heap H).Ns b m := fun {b m} ⟨o, es, ep, e, d, r⟩ =>
    ⟨o, es, ep, stay e (un e (fun v k z => by rw [d] at z; cases z) fun z => by rw [d] at z; cases z), d, r⟩
  have kin : K.In (hidT s.heap H) := fun b o e => stay (KX b o e) (by
    cases q : H b with
    | none => rfl
    | some u =>
      rcases hA b (by rw [q]; simp) with z | z | z
      · cases (hK (by rw [← z, q]; simp)).symm.trans (z ▸ e)
      · cases nT1.symm.trans (z ▸ e)
      · cases nT2.symm.trans (z ▸ e))
  have tb : ∀ {cc Pt : Addr}, s.heap.get? Pt = some noTab → PySem.W.CodeHd s.heap cc Pt → LamX.TabB (hidT s.heap H) mg cc Pt := fun {cc Pt} hT C => by
    refine ⟨?_, ?_, fun z => ?_⟩
    · obtain ⟨o, us, f, tf, fl, tg, iF, tx, tt, e1, r1, r2, r3, r4⟩ := C
      refine ⟨o, us, f, tf, fl, tg, iF, tx, tt, stay e1 (un e1 (fun v k z => by rw [r2] at z; cases z) fun z => ?_), r1, r2, r3, r4⟩
      rw [r2] at z
      cases z
      simp at r3
    · obtain ⟨bm, ob, b1, b2, b3, b4, b5, b6⟩ := hbm
      refine ⟨bm, ob, b1, b2, fun z => ?_, fun z => ?_, stay b3 (un b3 (fun v k z => by rw [b6] at z; cases z) fun z => by rw [b6] at z; cases z), b4, b5, b6⟩
      · obtain ⟨o, es, ep, e, d, _⟩ := hns
        cases e.symm.trans (z ▸ b3)
        rw [b6] at d
        cases d
      · cases hT.symm.trans (z ▸ b3)
        cases b6
    · obtain ⟨o, es, ep, e, d, _⟩ := hns
      cases hT.symm.trans (z ▸ e)
      cases d
  have env : Env0 P w K mg (hidT s.heap H) callerA [] s H :=
    ⟨rfl, ⟨kin, nsd hns, ⟨mb, nsd hb, hbb⟩, let ⟨mc, h1, h2⟩ := hlim; ⟨mc, nsd h1, h2⟩⟩, fun b o e => of_hidT e, Nat.le_of_eq (hidT_size _ _), trivial, fun b z => absurd (show b ∈ ([] : List Addr) from z) (by simp), hok, .of_eq hg⟩
  refine codeAny_mono (F _ kin (nsd hns) (tb hT1 C1) (tb hT2 C2) s H a ns env hP1 hP2 hS hn) fun r t h => ?_
  match r, h with
  | .error _, h => exact h.elim
  | .ok .next, h => exact h.elim
  | .ok .brk, h => exact h.elim
  | .ok .cont, h => exact h.elim
  | .ok (.ret u), ⟨v, H', os, bare, ux, hok', rv, q⟩ =>
    cases (show v = .bl true from q)
    obtain rfl : u = Value.bool true := rv
    have other : ∀ b o, b ≠ P1 → b ≠ P2 → s.heap.get? b = some o → t.heap.get? b = some o := fun b o nb nb2 e => by
      rcases hO b with z | z | z | ⟨ob, xs, z⟩
      · exact ux.keep b o e z (fun y => absurd (show b ∈ ([] : List Addr) from y) (by simp)) (by simp)
      · exact absurd z nb
      · exact absurd z nb2
      · obtain ⟨q1, _⟩ := hok b _ z
        obtain ⟨q2, _⟩ := hok' b _ (ux.frzs b ob _ z)
        rw [Option.some.inj (e.symm.trans q1)]
        exact q2
    have grown : ∀ {Pt : Addr}, H Pt = some (.tbl #[]) → ∃ more, t.heap.get? Pt = some { cls := .none, data := .fields (#[] ++ more) } := fun {Pt} hP => by
      obtain ⟨more, z⟩ := ux.tbls Pt #[] hP
      exact ⟨more, hok' Pt _ z⟩
    obtain ⟨m1, g1⟩ := grown hP1
    obtain ⟨m2, g2⟩ := grown hP2
    refine ⟨rfl, ⟨fun b o e => ?_, fun b o e => ?_⟩, os, bare⟩
    · by_cases nb : b = P1
      · subst nb
        cases hT1.symm.trans e
        exact .inr (.inl ⟨(C1.tab hT1).isCodeTable, rfl, #[], m1, rfl, g1⟩)
      · by_cases nb2 : b = P2
        · subst nb2
          cases hT2.symm.trans e
          exact .inr (.inl ⟨(C2.tab hT2).isCodeTable, rfl, #[], m2, rfl, g2⟩)
        · exact .inl (other b o nb nb2 e)
    · by_cases nb : b = P1
      · subst nb
        exact ⟨_, g1⟩
      · by_cases nb2 : b = P2
        · subst nb2
          exact ⟨_, g2⟩
        · exact ⟨o, other b o nb nb2 e⟩
theorem lawT2_call (KX : K.In s.heap) (hns : s.heap.Ns mainGlobals mg) (hb : s.heap.Ns builtinsNs mb) (hbb : ∀ x : Str, x ≠ "__name__" → mb x = bootBuiltins x) (hlim : s.heap.NoLimit) (hg : s.gens = #[])
    (hT1 : s.heap.get? P1 = some noTab) (nT1 : K.lookup P1 = none) (C1 : PySem.W.CodeHd s.heap c1 P1) (hT2 : s.heap.get? P2 = some noTab) (nT2 : K.lookup P2 = none) (C2 : PySem.W.CodeHd s.heap c2 P2)
    (hbm : ∃ (bm : Addr) (ob : Obj), mg "__builtins__" = some (.ref bm) ∧ bm ≠ builtinsNs ∧ s.heap.get? bm = some ob ∧ ob.cls = .type "module" ∧ ob.dict = some builtinsNs ∧ ob.data = .plain)
    (ha : s.heap.get? a = some { cls := .type "list", data := .seq vs.toArray }) (hi : IntsAre vs ns) (hl : ns.length ≤ sizeLine) (hn : ns.length ≤ n) (F : ∀ base : Heap, K.In base → base.Ns mainGlobals mg → LamX.TabB base mg c1 P1 → LamX.TabB base mg c2 P2 → LawRunT2 P w K mg base fa n P1 P2) :
    codeAny (model P w) callerA (.call (.ref fa) ⟨[.ref a], []⟩) (Done s) s := by
  have rv := vals_ints hi
  have aP1 : a ≠ P1 := fun z => by
    cases hT1.symm.trans (z ▸ ha)
  have aP2 : a ≠ P2 := fun z => by
    cases hT2.symm.trans (z ▸ ha)
  by_cases hk : K.lookup a = none
  · let H : Hp := fun b => if b = P1 then some (.tbl #[]) else if b = P2 then some (.tbl #[]) else if b = a then some (.frz { cls := .type "list", data := .seq vs.toArray } (.lst (ns.map V.int))) else none
    have eP1 : H P1 = some (.tbl #[]) := if_pos rfl
    have eP2 : H P2 = some (.tbl #[]) := by
      show (if P2 = P1 then _ else if P2 = P2 then _ else _) = _
      split
      · rfl
      · exact if_pos rfl
    have ea : H a = some (.frz { cls := .type "list", data := .seq vs.toArray } (.lst (ns.map V.int))) := (if_neg aP1).trans ((if_neg aP2).trans (if_pos rfl))
    have en : ∀ b, b ≠ P1 → b ≠ P2 → b ≠ a → H b = none := fun b h1 h2 h3 => (if_neg h1).trans ((if_neg h2).trans (if_neg h3))
    have tri : ∀ b, b = P1 ∨ b = P2 ∨ b = a ∨ H b = none := fun b => by
      by_cases h1 : b = P1
      · exact .inl h1
      · by_cases h2 : b = P2
        · exact .inr (.inl h2)
        · by_cases h3 : b = a
          · exact .inr (.inr (.inl h3))
          · exact .inr (.inr (.inr (en b h1 h2 h3)))
    refine lawT2_from KX hns hb hbb hlim hg hT1 nT1 C1 hT2 nT2 C2 hbm ha hn F H eP1 eP2 (fun b => ?_) (.inl (.inr ⟨_, ea⟩)) (fun b u z => ?_) (fun b z => ?_) fun _ => hk
    · rcases tri b with h | h | h | h
      · exact .inr (.inl h)
      · exact .inr (.inr (.inl h))
      · exact .inr (.inr (.inr ⟨_, _, h ▸ ea⟩))
      · exact .inl h
    · rcases tri b with h | h | h | h
      · subst h
        cases eP1.symm.trans z
        exact hT1
      · subst h
        cases eP2.symm.trans z
        exact hT2
      · subst h
        cases ea.symm.trans z
        exact ⟨ha, by rw [List.length_map]; exact hl, vs, _, rv, ha⟩
      · cases h.symm.trans z
    · rcases tri b with h | h | h | h
      · exact .inr (.inl h)
      · exact .inr (.inr h)
      · exact .inl h
      · exact absurd h z
  · obtain ⟨o, ho⟩ := Option.ne_none_iff_exists'.mp hk
    have e := KX a o ho
    rw [ha] at e
    cases e
    let H : Hp := fun b => if b = P1 then some (.tbl #[]) else if b = P2 then some (.tbl #[]) else none
    have eP1 : H P1 = some (.tbl #[]) := if_pos rfl
    have eP2 : H P2 = some (.tbl #[]) := by
      show (if P2 = P1 then _ else if P2 = P2 then _ else _) = _
      split
      · rfl
      · exact if_pos rfl
    have en : ∀ b, b ≠ P1 → b ≠ P2 → H b = none := fun b h1 h2 => (if_neg h1).trans (if_neg h2)
    have tri : ∀ b, b = P1 ∨ b = P2 ∨ H b = none := fun b => by
      by_cases h1 : b = P1
      · exact .inl h1
      · by_cases h2 : b = P2
        · exact .inr (.inl h2)
        · exact .inr (.inr (en b h1 h2))
    refine lawT2_from KX hns hb hbb hlim hg hT1 nT1 C1 hT2 nT2 C2 hbm ha hn F H eP1 eP2 (fun b => ?_) (.inr ⟨_, vs.toArray, _, ho, rfl, rfl, rfl, by rw [List.size_toArray, hi.length]; exact hl, by simpa using rv⟩) (fun b u z => ?_) (fun b z => ?_) fun z => absurd (en a aP1 aP2) z
    · rcases tri b with h | h | h
      · exact .inr (.inl h)
      · exact .inr (.inr (.inl h))
      · exact .inl h
    · rcases tri b with h | h | h
      · subst h
        cases eP1.symm.trans z
        exact hT1
      · subst h
        cases eP2.symm.trans z
        exact hT2
      · cases h.symm.trans z
    · rcases tri b with h | h | h
      · exact .inr (.inl h)
      · exact .inr (.inr h)
      · exact absurd h z
end
/-- the goal that the head leaves, from what the law's def does -/
theorem walk_T2 {l : PySem.W.OpenLaw} {n : Nat} {q : Program} {loose : List Str} {XP : (Str → Option Value) → Heap → Prop} {YP : World → Heap → Prop} {d : DefRec} (hn : l.most = some n) (hn2 : n ≤ sizeLine) (hdf : d.params.defaults = [])
    (F : ∀ (w : World) (mg : Str → Option Value) (fa : Addr) (h : Heap), YP w h → h.Ns mainGlobals mg → mg d.name = some (.ref fa) →
      ∃ (K : PySem.W.Frag) (c1 P1 c2 P2 : Addr), K.In h ∧ h.get? P1 = some noTab ∧ K.lookup P1 = none ∧ PySem.W.CodeHd h c1 P1 ∧ h.get? P2 = some noTab ∧ K.lookup P2 = none ∧ PySem.W.CodeHd h c2 P2 ∧ ∀ base : Heap, K.In base → base.Ns mainGlobals mg → LamX.TabB base mg c1 P1 → LamX.TabB base mg c2 P2 → LawRunT2 l.prog w K mg base fa n P1 P2) :
    PySem.W.WalkO q loose XP YP l.row.toRowW d [] (fun f vs => PySem.call f vs) := by
  refine Att.attach_call hn hdf fun w s₀ s₁ mg mb fa o pm cd doc a vs ns G Y ho hd hcd hmg hobj hints hlen hg => ?_
  obtain ⟨K, c1, P1, c2, P2, KX, hT1, nT1, C1, hT2, nT2, C2, hF⟩ := F w mg fa _ Y G.T.g hmg
  exact lawT2_call KX G.T.g G.T.b G.T.builtins G.T.nolimit hg hT1 nT1 C1 hT2 nT2 C2 G.T.bmain hobj hints (Nat.le_trans hlen hn2) hlen hF
end SA

set_option Elab.async false
set_option linter.all false
set_option maxRecDepth 100000
set_option maxHeartbeats 0
namespace SA
open PySem PySem.Spec PyProof.Rows L2 T02
def d_BadUnits___init__ : He.DefD := ⟨("BadUnits", some "__init__"), "__init__", "BadUnits.__init__", defArgs s_BadUnits___init__, defBody s_BadUnits___init__, defScope s_BadUnits___init__, [], []⟩
def d_NoUnit___init__ : He.DefD := ⟨("NoUnit", some "__init__"), "__init__", "NoUnit.__init__", defArgs s_NoUnit___init__, defBody s_NoUnit___init__, defScope s_NoUnit___init__, [], []⟩
def d_UsesRing___init__ : He.DefD := ⟨("UsesRing", some "__init__"), "__init__", "UsesRing.__init__", defArgs s_UsesRing___init__, defBody s_UsesRing___init__, defScope s_UsesRing___init__, [], []⟩
def d_is_number : He.DefD := ⟨("is_number", none), "is_number", "is_number", defArgs s_is_number, defBody s_is_number, defScope s_is_number, [], []⟩
def d_is_tuple_of : He.DefD := ⟨("is_tuple_of", none), "is_tuple_of", "is_tuple_of", defArgs s_is_tuple_of, defBody s_is_tuple_of, defScope s_is_tuple_of, [], []⟩
def d_is_list : He.DefD := ⟨("is_list", none), "is_list", "is_list", defArgs s_is_list, defBody s_is_list, defScope s_is_list, [], []⟩
def d_is_name : He.DefD := ⟨("is_name", none), "is_name", "is_name", defArgs s_is_name, defBody s_is_name, defScope s_is_name, [], []⟩
def d_is_kind : He.DefD := ⟨("is_kind", none), "is_kind", "is_kind", defArgs s_is_kind, defBody s_is_kind, defScope s_is_kind, [], []⟩
def d_is_expression : He.DefD := ⟨("is_expression", none), "is_expression", "is_expression", defArgs s_is_expression, defBody s_is_expression, defScope s_is_expression, [], []⟩
def d_is_block : He.DefD := ⟨("is_block", none), "is_block", "is_block", defArgs s_is_block, defBody s_is_block, defScope s_is_block, [], []⟩
def d_is_function : He.DefD := ⟨("is_function", none), "is_function", "is_function", defArgs s_is_function, defBody s_is_function, defScope s_is_function, [], []⟩
def d_is_declaration : He.DefD := ⟨("is_declaration", none), "is_declaration", "is_declaration", defArgs s_is_declaration, defBody s_is_declaration, defScope s_is_declaration, [], []⟩
def d_is_unit : He.DefD := ⟨("is_unit", none), "is_unit", "is_unit", defArgs s_is_unit, defBody s_is_unit, defScope s_is_unit, [], []⟩
def d__is_headed : He.DefD := ⟨("_is_headed", none), "_is_headed", "_is_headed", defArgs s__is_headed, defBody s__is_headed, defScope s__is_headed, [], []⟩
def d__has_form : He.DefD := ⟨("_has_form", none), "_has_form", "_has_form", defArgs s__has_form, defBody s__has_form, defScope s__has_form, [], []⟩
def d__is_part : He.DefD := ⟨("_is_part", none), "_is_part", "_is_part", defArgs s__is_part, defBody s__is_part, defScope s__is_part, [], []⟩
def d__is_tuple_between : He.DefD := ⟨("_is_tuple_between", none), "_is_tuple_between", "_is_tuple_between", defArgs s__is_tuple_between, defBody s__is_tuple_between, defScope s__is_tuple_between, [], []⟩
def d__are_names : He.DefD := ⟨("_are_names", none), "_are_names", "_are_names", defArgs s__are_names, defBody s__are_names, defScope s__are_names, [], []⟩
def d__are_expressions : He.DefD := ⟨("_are_expressions", none), "_are_expressions", "_are_expressions", defArgs s__are_expressions, defBody s__are_expressions, defScope s__are_expressions, [], []⟩
def d__are_branches : He.DefD := ⟨("_are_branches", none), "_are_branches", "_are_branches", defArgs s__are_branches, defBody s__are_branches, defScope s__are_branches, [], []⟩
def d__is_variant : He.DefD := ⟨("_is_variant", none), "_is_variant", "_is_variant", defArgs s__is_variant, defBody s__is_variant, defScope s__is_variant, [], []⟩
def d_order_by_uses : He.DefD := ⟨("order_by_uses", none), "order_by_uses", "order_by_uses", defArgs s_order_by_uses, defBody s_order_by_uses, defScope s_order_by_uses, [], []⟩
def d_shortest_ring : He.DefD := ⟨("shortest_ring", none), "shortest_ring", "shortest_ring", defArgs s_shortest_ring, defBody s_shortest_ring, defScope s_shortest_ring, [], []⟩
def d_shortest_ring_from : He.DefD := ⟨("shortest_ring_from", none), "shortest_ring_from", "shortest_ring_from", defArgs s_shortest_ring_from, defBody s_shortest_ring_from, defScope s_shortest_ring_from, [], []⟩
def d_users_by_uses : He.DefD := ⟨("users_by_uses", none), "users_by_uses", "users_by_uses", defArgs s_users_by_uses, defBody s_users_by_uses, defScope s_users_by_uses, [], []⟩
def d_order_of : He.DefD := ⟨("order_of", none), "order_of", "order_of", defArgs s_order_of, defBody s_order_of, defScope s_order_of, [], []⟩
def d_users_of : He.DefD := ⟨("users_of", none), "users_of", "users_of", defArgs s_users_of, defBody s_users_of, defScope s_users_of, [], []⟩
def d__checked_uses : He.DefD := ⟨("_checked_uses", none), "_checked_uses", "_checked_uses", defArgs s__checked_uses, defBody s__checked_uses, defScope s__checked_uses, [], []⟩
def d__law_begun : He.DefD := ⟨("_law_begun", none), "_law_begun", "_law_begun", defArgs s__law_begun, defBody s__law_begun, defScope s__law_begun, [], []⟩
def d__law_mixed : He.DefD := ⟨("_law_mixed", none), "_law_mixed", "_law_mixed", defArgs s__law_mixed, defBody s__law_mixed, defScope s__law_mixed, [], []⟩
def d__law_take : He.DefD := ⟨("_law_take", none), "_law_take", "_law_take", defArgs s__law_take, defBody s__law_take, defScope s__law_take, [], []⟩
def d__law_pick : He.DefD := ⟨("_law_pick", none), "_law_pick", "_law_pick", defArgs s__law_pick, defBody s__law_pick, defScope s__law_pick, [], []⟩
def d__law_caught : He.DefD := ⟨("_law_caught", none), "_law_caught", "_law_caught", defArgs s__law_caught, defBody s__law_caught, defScope s__law_caught, [], []⟩
def d__law_shuffled : He.DefD := ⟨("_law_shuffled", none), "_law_shuffled", "_law_shuffled", defArgs s__law_shuffled, defBody s__law_shuffled, defScope s__law_shuffled, [], []⟩
def d__law_units : He.DefD := ⟨("_law_units", none), "_law_units", "_law_units", defArgs s__law_units, defBody s__law_units, defScope s__law_units, [], []⟩
def d__law_trees : He.DefD := ⟨("_law_trees", none), "_law_trees", "_law_trees", defArgs s__law_trees, defBody s__law_trees, defScope s__law_trees, [], []⟩
def d__law_rings : He.DefD := ⟨("_law_rings", none), "_law_rings", "_law_rings", defArgs s__law_rings, defBody s__law_rings, defScope s__law_rings, [], []⟩
def d__law_order : He.DefD := ⟨("_law_order", none), "_law_order", "_law_order", defArgs s__law_order, defBody s__law_order, defScope s__law_order, [], []⟩
def d__law_come : He.DefD := ⟨("_law_come", none), "_law_come", "_law_come", defArgs s__law_come, defBody s__law_come, defScope s__law_come, [], []⟩
def d__law_refused_right : He.DefD := ⟨("_law_refused_right", none), "_law_refused_right", "_law_refused_right", defArgs s__law_refused_right, defBody s__law_refused_right, defScope s__law_refused_right, [], []⟩
def d_law : He.DefD := ⟨("law", none), "law", "law", defArgs s_law, defBody s_law, defScope s_law, [], []⟩
def fn11 : List He.DefD := [d_BadUnits___init__, d_NoUnit___init__, d_UsesRing___init__, d_is_number, d_is_tuple_of, d_is_list, d_is_name, d_is_kind, d_is_expression, d_is_block, d_is_function, d_is_declaration, d_is_unit, d__is_headed, d__has_form, d__is_part, d__is_tuple_between, d__are_names, d__are_expressions, d__are_branches, d__is_variant, d_order_by_uses, d_shortest_ring, d_shortest_ring_from, d_users_by_uses, d_order_of, d_users_of, d__checked_uses, d__law_begun, d__law_mixed, d__law_take, d__law_pick, d__law_caught, d__law_shuffled, d__law_units, d__law_trees, d__law_rings, d__law_order, d__law_come, d__law_refused_right, d_law]
def fa11 : List He.Fa := [.glo "is_number", .glo "is_tuple_of", .glo "is_list", .glo "is_name", .glo "is_kind", .glo "is_expression", .glo "is_block", .glo "is_function", .glo "is_declaration", .glo "is_unit", .glo "_is_headed", .glo "_has_form", .glo "_is_part", .glo "_is_tuple_between", .glo "_are_names", .glo "_are_expressions", .glo "_are_branches", .glo "_is_variant", .glo "order_by_uses", .glo "shortest_ring", .glo "shortest_ring_from", .glo "users_by_uses", .glo "order_of", .glo "users_of", .glo "_checked_uses", .glo "_law_begun", .glo "_law_mixed", .glo "_law_take", .glo "_law_pick", .glo "_law_caught", .glo "_law_shuffled", .glo "_law_units", .glo "_law_trees", .glo "_law_rings", .glo "_law_order", .glo "_law_come", .glo "_law_refused_right", .glo "law", .glo "StopError", .glo "BadUnits", .glo "NoUnit", .glo "UsesRing", .glo "KEPT", .glo "EXPRESSION_FORMS", .glo "STATEMENT_FORMS", .free "isinstance", .free "int", .free "bool", .free "str", .free "len", .free "range", .free "tuple", .free "list", .free "all", .free "zip", .free "enumerate", .free "max", .free "min", .free "repr", .free "dict", .free "abs", .free "sorted", .free "set", .free "any", .exm "BadUnits" "StopError" true, .exm "NoUnit" "StopError" true, .exm "UsesRing" "StopError" true, .str "LETTERS" lettersS]
def kv_E : List (Str × He.Dv) := exprTab.map fun q => (q.1, He.Dv.str q.2)
def kv_S : List (Str × He.Dv) := stmtTab.map fun q => (q.1, He.Dv.str q.2)
def ts11 : List He.Tab := [(fun K => He.ga K "EXPRESSION_FORMS", kv_E.map Prod.fst), (fun K => He.ga K "STATEMENT_FORMS", kv_S.map Prod.fst)]
abbrev tR : He.Defn := ("_law_refused_right", none)
abbrev tL : He.Defn := ("law", none)
def isX (K : PySem.W.Frag) (x : Str) : Bool := decide (PySem.W.kitOne K (.ref (He.ga K x)) (.ref (He.ga K x)) = some true)
def ex11 (K : PySem.W.Frag) : Bool := sysB K && (excB K (He.ga K "BadUnits") && (excB K (He.ga K "NoUnit") && (excB K (He.ga K "UsesRing") && (ownB K (He.ga K "BadUnits") ["at"] && (ownB K (He.ga K "NoUnit") ["name"] && (ownB K (He.ga K "UsesRing") ["ring"] && (He.tupB K "KEPT" (keptS.map He.Dv.str) && (He.valsB K (He.ga K "EXPRESSION_FORMS") kv_E && (He.valsB K (He.ga K "STATEMENT_FORMS") kv_S &&
  (isX K "BadUnits" && (isX K "NoUnit" && (isX K "UsesRing" && (decide ((He.cT K tR).2 ≠ (He.cT K tL).2) && (PySem.W.codeHdIn K (He.cT K tR).1 (He.cT K tR).2 && PySem.W.codeHdIn K (He.cT K tL).1 (He.cT K tL).2))))))))))))))
abbrev Al : Type := He.AlT × Bool × Bool × Bool
def frag11 (g : Addr → Option Obj) : PySem.W.Frag := He.frT g (sysModules :: He.asD g 4)
/-- the table of a def that holds lambdas is empty -/
def emptyAt (g : Addr → Option Obj) (p : Addr) : Bool := match g p with
  | some ob => He.emptyTab ob
  | none => false
theorem emptyAt_ok {g : Addr → Option Obj} {p : Addr} (h : emptyAt g p = true) : ∃ ob, g p = some ob ∧ He.emptyTab ob = true := by
  unfold emptyAt at h
  split at h
  · rename_i ob e
    exact ⟨ob, e, h⟩
  · cases h
def obs11 (g : Addr → Option Obj) : Al := (He.obsT fa11 fn11 ts11 (frag11 g), ex11 (frag11 g), emptyAt g (He.cT (frag11 g) tR).2, emptyAt g (He.cT (frag11 g) tL).2)
def val11 (w : World) : Al := (He.valT fn11 ts11 w, true, true, true)
/-- what the end leans on -/
structure Says11 (w : World) (h : Heap) (K : PySem.W.Frag) : Prop where
  t : He.SaysT fa11 fn11 ts11 w K
  more : ex11 K = true
  noneR : K.lookup (He.cT K tR).2 = none
  empR : h.get? (He.cT K tR).2 = some noTab
  noneL : K.lookup (He.cT K tL).2 = none
  empL : h.get? (He.cT K tL).2 = some noTab
theorem says_of {w : World} {h : Heap} (e : obs11 h.get? = val11 w) : Says11 w h (frag11 h.get?) := by
  obtain ⟨ob, e1, e2⟩ := emptyAt_ok (congrArg (fun z : Al => z.2.2.1) e)
  obtain ⟨ob2, e3, e4⟩ := emptyAt_ok (congrArg (fun z : Al => z.2.2.2) e)
  exact ⟨congrArg (fun z : Al => z.1) e, congrArg (fun z : Al => z.2.1) e, He.frT_none e1 e2, by rw [e1, He.emptyTab_eq e2], He.frT_none e3 e4, by rw [e3, He.emptyTab_eq e4]⟩
def hk11 : PySem.W.Hook where
  α := Al
  obs := fun s => obs11 s.heap.get?
  val := fun w => val11 w
  says := fun w h => ∃ K : PySem.W.Frag, K.In h ∧ Says11 w h K
  of := fun _ _ e => ⟨_, He.frT_in, says_of e⟩
  keeps := fun _ _ _ ⟨K, hK, c⟩ k => ⟨K, PySem.W.Frag.In.keeps hK k, c.t, c.more, c.noneR, k _ _ c.empR, c.noneL, k _ _ c.empL⟩
abbrev R : PySem.W.OpenRow := PySem.W.OpenLaw.row PySem.Challenge.rw_stopanywhere_k11_units_in_order_or_the_s
def ob11 (s : PySem.W.SharedT) : Al := obs11 (HandSHeadRun.getT s)
theorem ob_eq (s : PySem.W.SharedT) : ob11 s = hk11.obs s.abs := by
  have e : HandSHeadRun.getT s = s.abs.heap.get? := funext (HandSHeadRun.getT_eq s)
  unfold ob11
  rw [e] <;> rfl
end SA

set_option Elab.async false
set_option linter.all false
set_option maxRecDepth 100000
set_option maxHeartbeats 0
namespace SA
open PySem PySem.W PySem.Calls PyProof.Rows
def names : List PySem.Str := [("StopError" : PySem.Str), ("BadUnits" : PySem.Str), ("NoUnit" : PySem.Str), ("UsesRing" : PySem.Str), ("is_number" : PySem.Str), ("is_tuple_of" : PySem.Str), ("is_list" : PySem.Str), ("KEPT" : PySem.Str), ("LETTERS" : PySem.Str), ("is_name" : PySem.Str), ("EXPRESSION_FORMS" : PySem.Str), ("STATEMENT_FORMS" : PySem.Str), ("is_kind" : PySem.Str), ("is_expression" : PySem.Str), ("is_block" : PySem.Str), ("is_function" : PySem.Str), ("is_declaration" : PySem.Str), ("is_unit" : PySem.Str), ("_is_headed" : PySem.Str), ("_has_form" : PySem.Str), ("_is_part" : PySem.Str), ("_is_tuple_between" : PySem.Str), ("_are_names" : PySem.Str), ("_are_expressions" : PySem.Str), ("_are_branches" : PySem.Str), ("_is_variant" : PySem.Str), ("order_by_uses" : PySem.Str), ("shortest_ring" : PySem.Str), ("shortest_ring_from" : PySem.Str), ("users_by_uses" : PySem.Str), ("order_of" : PySem.Str), ("users_of" : PySem.Str), ("_checked_uses" : PySem.Str), ("_law_begun" : PySem.Str), ("_law_mixed" : PySem.Str), ("_law_take" : PySem.Str), ("_law_pick" : PySem.Str), ("_law_caught" : PySem.Str), ("_law_shuffled" : PySem.Str), ("_law_units" : PySem.Str), ("_law_trees" : PySem.Str), ("_law_rings" : PySem.Str), ("_law_order" : PySem.Str), ("_law_come" : PySem.Str), ("_law_refused_right" : PySem.Str)]
theorem runF (w : World) : HandSHeadRun.RunEq R (view R.prog [52]) hk11 ob11 16000 names (w.withFollow "special-get-raises" false) := by
  intro os
  kernel_rfl
theorem runT (w : World) : HandSHeadRun.RunEq R (view R.prog [52]) hk11 ob11 16000 names (w.withFollow "special-get-raises" true) := by
  intro os
  kernel_rfl
theorem hrun (w : World) : HandSHeadRun.RunEq R (view R.prog [52]) hk11 ob11 16000 names w := byRow2 "special-get-raises" (P := fun w => HandSHeadRun.RunEq R (view R.prog [52]) hk11 ob11 16000 names w) runF runT w
end SA

set_option Elab.async false
set_option linter.all false
set_option maxRecDepth 100000
set_option maxHeartbeats 4000000
namespace SA
open PySem PySem.Spec PyProof.Rows L2 T02
/-- a tuple that is told -/
theorem Dn.tupOf {n : Addr → Prop} {H : Hp} {v : V} {ds : List PyData} (h : Dn n H v (.tuple ds)) : ∃ a xs, v = .ref a ∧ n a ∧ H a = some (.tup xs) ∧ DnAll n H xs ds := by
  match v, h with
  | .ref a, .tup hn e da => exact ⟨a, _, rfl, hn, e, da⟩
def spTupB : Sp := fun vs H Q _ => ∃ x d lo hi, vs = [x, .int (lo : Nat), .int (hi : Nat)] ∧ Dn anyA H x d ∧ Q (.bl (betw lo hi d)) H
def spTupOf : Sp := fun vs H Q _ => ∃ x d m, vs = [x, .int (m : Nat)] ∧ Dn anyA H x d ∧ Q (.bl (betw m m d)) H
def spNames : Sp := fun vs H Q _ => ∃ x d m, vs = [x, .int (m : Nat)] ∧ Dn anyA H x d ∧ fine d = true ∧ ∀ H', Same H H' → Q (.bl (areNames m d)) H'
theorem isTup_no {d : PyData} (h : isTup d = false) (lo hi : Nat) : betw lo hi d = false := by
  cases d <;> first | rfl | cases h
theorem isTup_yes {d : PyData} (h : isTup d = true) : ∃ ds, d = .tuple ds := by
  cases d <;> first | exact ⟨_, rfl⟩ | cases h
section
variable {P : Program} {w0 : World} {K : PySem.W.Frag} {mg : Str → Option Value} {base : Heap} {kA eA sA : Addr}
theorem ok_is_number {f : Addr} {fd : FuncData} (F : Fun K "is_number" "is_number" s_is_number f fd) (B : Bn2t mg) : FnOk P w0 K mg base CX0 1 f fd ["thing"] (spJ (fun _ => True) isNum) := by
  refine F.ok sc_is_number (fun vs H Q E h => ?_) (fun cdv A outer s H vs Q E hr h => ?_)
  · obtain ⟨x, d, rfl, _⟩ := h
    rfl
  · obtain ⟨x, d, rfl, hx, _, k⟩ := h
    refine ⟨_, (pss_one (ps_ret (pe_and (pe_callB call_isi (by rfl) B.isinstance (by decide +kernel) (pa_cons (pv 0) (pa_cons (pe_bltn (v := .ty "int") (by rfl) B.int (by decide +kernel) rfl) pa_nil))) (pe_one (pe_not (pe_callB call_isi (by rfl) B.isinstance (by decide +kernel) (pa_cons (pv 0) (pa_cons (pe_bltn (v := .ty "bool") (by rfl) B.bool (by decide +kernel) rfl) pa_nil)))))))), ?_⟩
    have q := k H (Same.refl H)
    refine ⟨_, rfl, x, .ty "int", .type (kindD d), .type "int", subK (kindD d) "int", rfl, .ty _, Kd.ty hx.kd, kit_kd d (.inr (.inr (.inr (.inl rfl)))), _, rfl, ?_⟩
    cases hx with
    | bl b => exact iteTd rfl ⟨_, rfl, _, .ty "bool", .type "bool", .type "bool", true, rfl, .ty _, Kd.ty (.bl b), kit_ty (by decide +kernel), _, rfl, q⟩
    | int i => exact iteTd rfl ⟨_, rfl, _, .ty "bool", .type "int", .type "bool", false, rfl, .ty _, Kd.ty (.int i), kit_ty (by decide +kernel), _, rfl, q⟩
    | _ => exact q
theorem ok_is_tuple_of {f : Addr} {fd : FuncData} (F : Fun K "is_tuple_of" "is_tuple_of" s_is_tuple_of f fd) (B : Bn2t mg) : FnOk P w0 K mg base CX0 1 f fd ["thing", "many"] spTupOf := by
  refine F.ok sc_is_tuple_of (fun vs H Q E h => ?_) (fun cdv A outer s H vs Q E hr h => ?_)
  · obtain ⟨x, d, m, rfl, _⟩ := h
    rfl
  · obtain ⟨x, d, m, rfl, hx, q⟩ := h
    refine ⟨_, (pss_one (ps_ret (pe_and (pe_callB call_isi (by rfl) B.isinstance (by decide +kernel) (pa_cons (pv 0) (pa_cons (pe_bltn (v := .ty "tuple") (by rfl) B.tuple (by decide +kernel) rfl) pa_nil))) (pe_one (pe_cmpR op_eq (pe_callB call_len_seq (by rfl) B.len PySem.boot_len (pa_cons (pv 0) pa_nil)) (pv 1) (nomark _)))))), ?_⟩
    refine ⟨_, rfl, x, .ty "tuple", .type (kindD d), .type "tuple", subK (kindD d) "tuple", rfl, .ty _, Kd.ty hx.kd, kit_kd d (.inl rfl), _, rfl, ?_⟩
    rw [subK_tup]
    cases ht : isTup d with
    | false =>
      rw [isTup_no ht] at q
      exact q
    | true =>
      obtain ⟨ds, rfl⟩ := isTup_yes ht
      obtain ⟨a, xs, rfl, _, e, da⟩ := hx.tupOf
      refine iteTd rfl ⟨_, rfl, a, _, rfl, .inr (SqT.of e), _, rfl, rfl, ?_⟩
      have hl := da.len
      have e2 : betw m m (.tuple ds) = decide ((V.int (xs.length : Nat)) = V.int (m : Nat)) := by
        show decide (m ≤ ds.length ∧ ds.length ≤ m) = _
        rw [decide_eq_decide, hl]
        exact ⟨fun h => by rw [show ds.length = m by omega], fun h => by have := V.int.inj h; omega⟩
      rw [e2] at q
      exact q
theorem ok_tuple_between {f : Addr} {fd : FuncData} (F : Fun K "_is_tuple_between" "_is_tuple_between" s__is_tuple_between f fd) (B : Bn2t mg) : FnOk P w0 K mg base CX0 1 f fd ["thing", "least", "most"] spTupB := by
  refine F.ok sc__is_tuple_between (fun vs H Q E h => ?_) (fun cdv A outer s H vs Q E hr h => ?_)
  · obtain ⟨x, d, lo, hi, rfl, _⟩ := h
    rfl
  · obtain ⟨x, d, lo, hi, rfl, hx, q⟩ := h
    refine ⟨_, (pss_one (ps_ret (pe_and (pe_callB call_isi (by rfl) B.isinstance (by decide +kernel) (pa_cons (pv 0) (pa_cons (pe_bltn (v := .ty "tuple") (by rfl) B.tuple (by decide +kernel) rfl) pa_nil))) (pe_one (pe_chain op_le op_le (pv 1) (pe_callB call_len_seq (by rfl) B.len PySem.boot_len (pa_cons (pv 0) pa_nil)) (pv 2)))))), ?_⟩
    refine ⟨_, rfl, x, .ty "tuple", .type (kindD d), .type "tuple", subK (kindD d) "tuple", rfl, .ty _, Kd.ty hx.kd, kit_kd d (.inl rfl), _, rfl, ?_⟩
    rw [subK_tup]
    cases ht : isTup d with
    | false =>
      rw [isTup_no ht] at q
      exact q
    | true =>
      obtain ⟨ds, rfl⟩ := isTup_yes ht
      obtain ⟨a, xs, rfl, _, e, da⟩ := hx.tupOf
      have hl := da.len
      refine iteTd rfl ⟨_, rfl, _, rfl, a, _, rfl, .inr (SqT.of e), _, _, rfl, rfl, _, rfl, ?_⟩
      by_cases c1 : lo ≤ ds.length
      · refine iteTd (decide_eq_true (by omega)) ⟨_, rfl, _, _, rfl, rfl, ?_⟩
        have e2 : betw lo hi (.tuple ds) = decide (((xs.length : Nat) : Int) ≤ (hi : Nat)) := by
          show decide (lo ≤ ds.length ∧ ds.length ≤ hi) = _
          rw [decide_eq_decide, hl]
          omega
        rw [e2] at q
        exact q
      · refine iteFd (decide_eq_false (by omega)) ?_
        have e2 : betw lo hi (.tuple ds) = false := decide_eq_false (by omega)
        rw [e2] at q
        exact q
theorem ok_is_kind {f : Addr} {fd : FuncData} (F : Fun K "is_kind" "is_kind" s_is_kind f fd) (c_is_name : Dq P w0 K mg base CX0 1 "is_name" ["thing"] (spJ (fun d => fine d = true) isName)) : FnOk P w0 K mg base CX0 2 f fd ["thing"] (spJ (fun d => fine d = true) isKind) := by
  refine F.ok sc_is_kind (fun vs H Q E h => ?_) (fun cdv A outer s H vs Q E hr h => ?_)
  · obtain ⟨x, d, rfl, _⟩ := h
    rfl
  · obtain ⟨x, d, rfl, hx, hl, k⟩ := h
    refine ⟨_, (pss_one (ps_ret (pe_or (pe_cmpR (op_inST hr.units) (pv 0) (pe_tup (pa_cons pe_str (pa_cons pe_str pa_nil))) (by rfl)) (pe_one (pe_q c_is_name hr (by omega) (by rfl) (pa_cons (pv 0) pa_nil)))))), ?_⟩
    refine ⟨_, rfl, (by show 2 ≤ sizeLine; decide), fun t ht => ?_⟩
    have st : Same H (upd H t (.tup [.str "number", .str "truth"])) := Same.new ht
    refine ⟨d, t, ["number", "truth"], hx.same st, rfl, SqT.of upd_same, _, rfl, ?_⟩
    cases hb : isIn ["number", "truth"] d with
    | true =>
      have : isKind d = true := by
        cases d with
        | str z =>
          have hb : (decide (z = "number") || (decide (z = "truth") || false)) = true := hb
          show (decide (z ∈ (["number", "truth"] : List Str)) || nameS z) = true
          simp only [Bool.or_eq_true, decide_eq_true_eq, Bool.false_eq_true, or_false] at hb
          simp [hb]
        | _ => cases hb
      exact iteTd rfl (this ▸ k _ st)
    | false =>
      have : isKind d = isName d := by
        cases d with
        | str z =>
          have hb : (decide (z = "number") || (decide (z = "truth") || false)) = false := hb
          show (decide (z ∈ (["number", "truth"] : List Str)) || nameS z) = nameS z
          simp only [Bool.or_eq_false_iff, decide_eq_false_iff_not] at hb
          simp [hb.1, hb.2.1]
        | _ => rfl
      exact iteFd rfl ⟨_, rfl, x, d, rfl, hx.same st, hl, fun H' s' => this ▸ k H' (st.trans s')⟩
/-- all of a tuple's items, asked one by one in a list -/
theorem ok_are_names {f : Addr} {fd : FuncData} (F : Fun K "_are_names" "_are_names" s__are_names f fd) (B : Bn2t mg) (c__is_tuple_between : Dq P w0 K mg base CX0 1 "_is_tuple_between" ["thing", "least", "most"] spTupB) (c_is_name : Dq P w0 K mg base CX0 1 "is_name" ["thing"] (spJ (fun d => fine d = true) isName)) :
    FnOk P w0 K mg base CX0 2 f fd ["thing", "most"] spNames := by
  refine F.ok sc__are_names (fun vs H Q E h => ?_) (fun cdv A outer s H vs Q E hr h => ?_)
  · obtain ⟨x, d, m, rfl, _⟩ := h
    rfl
  · obtain ⟨x, d, m, rfl, hx, hl, k⟩ := h
    refine ⟨_, (pss_one (ps_ret (pe_and (pe_q c__is_tuple_between hr (by omega) (by rfl) (pa_cons (pv 0) (pa_cons pe_int (pa_cons (pv 1) pa_nil)))) (pe_one (pe_callB (cr_all rfl) (by rfl) B.all (by decide +kernel) (pa_cons (pe_lc (own := [("name", 2)]) (g := (gName 2)) (tt := tYes) (by rfl) sc__are_names.nd (pi_tup (pv 0)) (blkOk_by (N := n__are_names) (sc := defScope s__are_names) (by decide +kernel)) (fun _ _ _ _ _ => (pg_name (i := 2) sc__are_names.nd rfl (Or.inl rfl))) (fun _ _ _ _ _ => pts_nil) (fun _ _ _ _ _ => (pe_q c_is_name hr (by omega) (by rfl) (pa_cons (pv 2) pa_nil)))) pa_nil)))))), ?_⟩
    have hs63 := sizeLine_eq
    refine ⟨_, rfl, _, rfl, x, d, 0, m, rfl, hx, _, rfl, ?_⟩
    cases hb : betw 0 m d with
    | false => exact iteFd rfl (by have := k H (Same.refl H); unfold areNames at this; rw [hb] at this; exact this)
    | true =>
      obtain ⟨ds, rfl⟩ : ∃ ds, d = .tuple ds := by
        cases d <;> first | exact ⟨_, rfl⟩ | cases hb
      obtain ⟨a, xs, rfl, _, e, da⟩ := hx.tupOf
      have hlen := da.len
      have okd := (show Ok ((PyData.tuple ds).depth + 1) (.tuple ds) from ⟨hl, Nat.lt_succ_self _⟩).tup
      refine iteTd rfl ⟨_, rfl, a, rfl, ⟨_, SqT.of e⟩, fun D hD => lc_it walk_tup (fun i H' => Same H H' ∧ H' D = some (.lst (((ds.take i).map isName).map V.bl))) ⟨Same.new hD, upd_same⟩ (fun i H' _ h => SqT.of (h.1 _ _ e)) ?_ ?_⟩
      · rintro i v H2 H3 hi ⟨s2, e2⟩ ⟨rfl, hv⟩
        obtain ⟨d1, hd1, dx⟩ := da.at hv
        refine ⟨rfl, yes ⟨_, rfl, v, d1, rfl, dx.same s2, (okd.2 d1 (List.mem_of_getElem? hd1)).1, fun H' s' => ⟨_, s' _ _ e2, ?_, Same.upd' (s2.trans s') hD, ?_⟩⟩⟩
        · have := List.length_take_le' i ds
          rw [List.length_map, List.length_map]
          omega
        · rw [upd_same, List.take_add_one, hd1, List.map_append, List.map_append]
          rfl
      · rintro H2 ⟨s2, e2⟩
        rw [hlen, List.take_length] at e2
        refine ⟨D, _, rfl, SqL.of e2, ?_⟩
        rw [all_map]
        have := k H2 s2
        unfold areNames at this
        rw [hb] at this
        exact this
theorem ok_is_headed {f : Addr} {fd : FuncData} (F : Fun K "_is_headed" "_is_headed" s__is_headed f fd) (B : Bn2t mg) : FnOk P w0 K mg base CX0 1 f fd ["thing"] (spJ (fun _ => True) headed) := by
  refine F.ok sc__is_headed (fun vs H Q E h => ?_) (fun cdv A outer s H vs Q E hr h => ?_)
  · obtain ⟨x, d, rfl, _⟩ := h
    rfl
  · obtain ⟨x, d, rfl, hx, _, k⟩ := h
    refine ⟨_, (pss_one (ps_ret (pe_and (pe_callB call_isi (by rfl) B.isinstance (by decide +kernel) (pa_cons (pv 0) (pa_cons (pe_bltn (v := .ty "tuple") (by rfl) B.tuple (by decide +kernel) rfl) pa_nil))) (pe_and (pe_cmpR (op_ne_nilT hr.units) (pv 0) (pe_tup pa_nil) (nomark _)) (pe_one (pe_callB call_isi (by rfl) B.isinstance (by decide +kernel) (pa_cons (pe_ix ix_tup (pv 0) pe_int (fun _ _ => rfl)) (pa_cons (pe_bltn (v := .ty "str") (by rfl) B.str (by decide +kernel) rfl) pa_nil)))))))), ?_⟩
    refine ⟨_, rfl, x, .ty "tuple", .type (kindD d), .type "tuple", subK (kindD d) "tuple", rfl, .ty _, Kd.ty hx.kd, kit_kd d (.inl rfl), _, rfl, ?_⟩
    rw [subK_tup]
    cases ht : isTup d with
    | false =>
      have : headed d = false := by cases d <;> first | rfl | cases ht
      exact iteFd rfl (this ▸ k H (Same.refl H))
    | true =>
      obtain ⟨ds, rfl⟩ := isTup_yes ht
      obtain ⟨a, xs, rfl, _, e, da⟩ := hx.tupOf
      refine iteTd rfl ⟨_, rfl, (Nat.zero_le _), fun t ht => ?_⟩
      have st : Same H (upd H t (.tup [])) := Same.new ht
      have e' := st _ _ e
      refine ⟨a, t, xs, rfl, rfl, SqT.of e', SqT.of upd_same, _, rfl, ?_⟩
      cases ds with
      | nil =>
        cases da
        exact iteFd rfl (k _ st)
      | cons d0 ds =>
        cases da with
        | @cons v0 vs0 _ _ h0 h1 =>
        refine iteTd rfl ⟨_, rfl, a, _, _, _, rfl, rfl, SqT.of e', atI_nat (j := 0) rfl, v0, .ty "str", .type (kindD d0), .type "str", subK (kindD d0) "str", rfl, .ty _, Kd.ty (h0.same st).kd, kit_kd d0 (.inr (.inl rfl)), ?_⟩
        rw [subK_str]
        have : headed (.tuple (d0 :: ds)) = isStr d0 := by cases d0 <;> rfl
        exact this ▸ k _ st
end
end SA

set_option Elab.async false
set_option linter.all false
set_option maxRecDepth 100000
set_option maxHeartbeats 4000000
namespace SA
open PySem PySem.Spec PyProof.Rows L2 T02
theorem noslice {n : Nat} : ¬ (HT.sIx (n + 1) 0 (some 1) = 0 ∧ HT.sIx (n + 1) (n + 1) none = n + 1) := by
  intro h
  have := h.1
  simp [HT.sIx] at this
theorem cutV_1 (x : V) (xs : List V) : cutV (x :: xs) (some 1) none = xs := by
  unfold cutV
  simp [HT.sIx]
theorem lookup_strs (z : Str) : ∀ t : List (Str × Str), (strsV t).lookup z = (t.lookup z).map V.str
  | [] => rfl
  | (a, b) :: t => by
    show ((a, V.str b) :: strsV t).lookup z = _
    rw [List.lookup_cons, List.lookup_cons, lookup_strs z t]
    cases z == a <;> rfl
def fV (f : Option Str) : V := (f.map V.str).getD .non
def sg (c : Nat) : Str := ⟨#[c]⟩
theorem take_all {p : PyData → Bool} {ds : List PyData} {i : Nat} {d : PyData} (h : (ds.take i).all p = true) (e : ds[i]? = some d) (hp : p d = true) : (ds.take (i + 1)).all p = true := by
  rw [List.take_add_one, e, List.all_append, h, Option.toList]
  simp [hp]
theorem all_no {p : PyData → Bool} {ds : List PyData} {i : Nat} {d : PyData} (e : ds[i]? = some d) (hp : p d = false) : ds.all p = false := by
  rw [List.all_eq_false]
  exact ⟨d, List.mem_of_getElem? e, by rw [hp]; decide⟩
def spHF (n : Nat) : Sp := fun vs H Q _ => ∃ x d0 ds f, vs = [x, fV f] ∧ Dn anyA H x (.tuple (d0 :: ds)) ∧ ds.length ≤ 100 ∧ (∀ d ∈ ds, Ok n d) ∧ (∀ z, f = some z → z.length ≤ 10 ∧ ∀ c ∈ tl z, c < 128) ∧ ∀ H', Same H H' → Q (.bl (hasForm f (.tuple (d0 :: ds)))) H'
def spPart (n : Nat) : Sp := fun vs H Q _ => ∃ x d c, vs = [.str (sg c), x] ∧ Dn anyA H x d ∧ Ok n d ∧ c < 128 ∧ ∀ H', Same H H' → Q (.bl (T02.part c d)) H'
theorem sg_eq {c k : Nat} (z : Str) (hz : z = sg k) : decide (V.str (sg c) = V.str z) = decide (c = k) := by
  subst hz
  rw [decide_eq_decide]
  constructor
  · intro h
    have := V.str.inj h
    unfold sg at this
    have h2 : #[c] = #[k] := congrArg Str.cps this
    simpa using h2
  · intro h
    rw [h]
section
variable {P : Program} {w0 : World} {K : PySem.W.Frag} {mg : Str → Option Value} {base : Heap} {kA eA sA : Addr}
theorem ok_are_expressions {n L : Nat} {f : Addr} {fd : FuncData} (F : Fun K "_are_expressions" "_are_expressions" s__are_expressions f fd) (c__is_tuple_between : Dq P w0 K mg base CX0 1 "_is_tuple_between" ["thing", "least", "most"] spTupB) (c_is_expression : Dq P w0 K mg base CX0 L "is_expression" ["thing"] (spJ (Ok n) isE)) (hL : 1 ≤ L) :
    FnOk P w0 K mg base CX0 (L + 1) f fd ["thing"] (spJ (Ok n) areE) := by
  refine F.ok sc__are_expressions (fun vs H Q E h => ?_) (fun cdv A outer s H vs Q E hr h => ?_)
  · obtain ⟨x, d, rfl, _⟩ := h
    rfl
  · obtain ⟨x, d, rfl, hx, ok, k⟩ := h
    refine ⟨_, (pss_cons (ps_if (pt_not (pt_val (pe_q c__is_tuple_between hr (by omega) (by rfl) (pa_cons (pv 0) (pa_cons pe_int (pa_cons pe_int pa_nil)))))) (pss_one (ps_ret pe_bl)) pss_nil)
      (pss_cons (ps_for PassesOwn.never rfl (pi_tup (pv 0)) (pg_name (i := 1) sc__are_expressions.nd rfl (Or.inl rfl)) (pss_one (ps_if (pt_not (pt_val (pe_q c_is_expression hr (by omega) (by rfl) (pa_cons (pv 1) pa_nil)))) (pss_one (ps_ret pe_bl)) pss_nil)))
      (pss_one (ps_ret pe_bl)))), ?_⟩
    refine ⟨_, rfl, x, d, 0, 3, rfl, hx, _, rfl, ?_⟩
    cases hb : betw 0 3 d with
    | false =>
      have : areE d = false := by
        cases d with
        | tuple ds =>
          have hb : decide (0 ≤ ds.length ∧ ds.length ≤ 3) = false := hb
          rw [areE, decide_eq_false (by have := of_decide_eq_false hb; omega)]
          rfl
        | _ => simp [areE]
      exact iteTd rfl (this ▸ k H (Same.refl H))
    | true =>
      obtain ⟨ds, rfl⟩ : ∃ ds, d = .tuple ds := by
        cases d <;> first | exact ⟨_, rfl⟩ | cases hb
      have hb : decide (0 ≤ ds.length ∧ ds.length ≤ 3) = true := hb
      have e3 : areE (.tuple ds) = ds.all isE := by
        rw [areE, decide_eq_true (by have := of_decide_eq_true hb; omega), allE_all]
        rfl
      obtain ⟨a, xs, rfl, _, e, da⟩ := hx.tupOf
      have hlen := da.len
      have okd := ok.tup0
      refine iteFd rfl ⟨_, rfl, a, rfl, ⟨_, SqT.of e⟩, for_it walk_tup (fun i σ H' => (∃ y1, σ = [some (.ref a), y1]) ∧ Same H H' ∧ (ds.take i).all isE = true) ⟨⟨_, rfl⟩, Same.refl _, rfl⟩ (fun i σ H' _ h => SqT.of (h.2.1 _ _ e)) ?_ ?_⟩
      · rintro i v σ H2 H3 hi ⟨⟨y1, rfl⟩, s2, al⟩ ⟨rfl, hv⟩
        obtain ⟨d1, hd1, dx⟩ := da.at hv
        refine ⟨_, rfl, v, d1, rfl, dx.same s2, okd.2 d1 (List.mem_of_getElem? hd1), fun H' s' => ⟨_, rfl, ?_⟩⟩
        cases hp : isE d1 with
        | true => exact iteFd rfl ⟨⟨_, rfl⟩, s2.trans s', take_all al hd1 hp⟩
        | false =>
          have := k H' (s2.trans s')
          rw [e3, all_no hd1 hp] at this
          exact iteTd rfl this
      · rintro σ H2 ⟨⟨y1, rfl⟩, s2, al⟩
        rw [hlen, List.take_length] at al
        have := k H2 s2
        rw [e3, al] at this
        exact this
theorem ok_are_branches {n L : Nat} {f : Addr} {fd : FuncData} (F : Fun K "_are_branches" "_are_branches" s__are_branches f fd) (c__is_tuple_between : Dq P w0 K mg base CX0 1 "_is_tuple_between" ["thing", "least", "most"] spTupB) (c_is_tuple_of : Dq P w0 K mg base CX0 1 "is_tuple_of" ["thing", "many"] spTupOf)
    (c_is_name : Dq P w0 K mg base CX0 1 "is_name" ["thing"] (spJ (fun d => fine d = true) isName)) (c__are_names : Dq P w0 K mg base CX0 2 "_are_names" ["thing", "most"] spNames) (c_is_block : Dq P w0 K mg base CX0 L "is_block" ["thing"] (spJ (Ok n) isB)) (hL : 2 ≤ L) :
    FnOk P w0 K mg base CX0 (L + 1) f fd ["thing"] (spJ (Ok n) areBr) := by
  refine F.ok sc__are_branches (fun vs H Q E h => ?_) (fun cdv A outer s H vs Q E hr h => ?_)
  · obtain ⟨x, d, rfl, _⟩ := h
    rfl
  · obtain ⟨x, d, rfl, hx, ok, k⟩ := h
    refine ⟨_, (pss_cons (ps_if (pt_not (pt_val (pe_q c__is_tuple_between hr (by omega) (by rfl) (pa_cons (pv 0) (pa_cons pe_int (pa_cons pe_int pa_nil)))))) (pss_one (ps_ret pe_bl)) pss_nil)
      (pss_cons (ps_for PassesOwn.never rfl (pi_tup (pv 0)) (pg_name (i := 1) sc__are_branches.nd rfl (Or.inl rfl)) (pss_cons (ps_if (PW.pt (pw_or (pt_not (pt_val (pe_q c_is_tuple_of hr (by omega) (by rfl) (pa_cons (pv 1) (pa_cons pe_int pa_nil))))) (pw_or (pt_not (pt_val (pe_q c_is_name hr (by omega) (by rfl) (pa_cons (pe_ix ix_tup (pv 1) pe_int (fun _ _ => rfl)) pa_nil)))) (pw_or1 (pt_not (pt_val (pe_q c__are_names hr (by omega) (by rfl) (pa_cons (pe_ix ix_tup (pv 1) pe_int (fun _ _ => rfl)) (pa_cons pe_int pa_nil))))))))) (pss_one (ps_ret pe_bl)) pss_nil)
      (pss_one (ps_if (pt_not (pt_val (pe_q c_is_block hr (by omega) (by rfl) (pa_cons (pe_ix ix_tup (pv 1) pe_int (fun _ _ => rfl)) pa_nil)))) (pss_one (ps_ret pe_bl)) pss_nil))))
      (pss_one (ps_ret pe_bl)))), ?_⟩
    refine ⟨_, rfl, x, d, 1, 4, rfl, hx, _, rfl, ?_⟩
    cases hb : betw 1 4 d with
    | false =>
      have : areBr d = false := by
        cases d with
        | tuple ds =>
          have hb : decide (1 ≤ ds.length ∧ ds.length ≤ 4) = false := hb
          rw [areBr, hb]
          rfl
        | _ => simp [areBr]
      exact iteTd rfl (this ▸ k H (Same.refl H))
    | true =>
      obtain ⟨ds, rfl⟩ : ∃ ds, d = .tuple ds := by
        cases d <;> first | exact ⟨_, rfl⟩ | cases hb
      have hb : decide (1 ≤ ds.length ∧ ds.length ≤ 4) = true := hb
      have e3 : areBr (.tuple ds) = ds.all isBr := by
        rw [areBr, hb, allBr_all]
        rfl
      obtain ⟨a, xs, rfl, _, e, da⟩ := hx.tupOf
      have hlen := da.len
      have okd := ok.tup0
      refine iteFd rfl ⟨_, rfl, a, rfl, ⟨_, SqT.of e⟩, for_it walk_tup (fun i σ H' => (∃ y1, σ = [some (.ref a), y1]) ∧ Same H H' ∧ (ds.take i).all isBr = true) ⟨⟨_, rfl⟩, Same.refl _, rfl⟩ (fun i σ H' _ h => SqT.of (h.2.1 _ _ e)) ?_ ?_⟩
      · rintro i v σ H2 H3 hi ⟨⟨y1, rfl⟩, s2, al⟩ ⟨rfl, hv⟩
        obtain ⟨d1, hd1, dx⟩ := da.at hv
        have ok1 := okd.2 d1 (List.mem_of_getElem? hd1)
        have dx2 := dx.same s2
        have no : ∀ H', Same H3 H' → isBr d1 = false → Q (.bl false) H' := fun H' s' hp => by
          have := k H' (s2.trans s')
          rw [e3, all_no hd1 hp] at this
          exact this
        refine ⟨_, rfl, v, d1, 3, rfl, dx2, _, rfl, ?_⟩
        cases h3 : betw 3 3 d1 with
        | false =>
          refine iteTd rfl (no _ (Same.refl _) ?_)
          unfold isBr
          split
          · cases h3
          · rfl
        | true =>
          obtain ⟨es, rfl⟩ : ∃ es, d1 = .tuple es := by
            cases d1 <;> first | exact ⟨_, rfl⟩ | cases h3
          have h3 : decide (3 ≤ es.length ∧ es.length ≤ 3) = true := h3
          obtain ⟨x1, x2, x3, rfl⟩ : ∃ x1 x2 x3, es = [x1, x2, x3] := by
            match es, of_decide_eq_true h3 with
            | [x1, x2, x3], _ => exact ⟨x1, x2, x3, rfl⟩
            | [], h => simp at h
            | [_], h => simp at h
            | [_, _], h => simp at h
            | _ :: _ :: _ :: _ :: _, h => simp at h
          obtain ⟨b, ys, rfl, _, eb, db⟩ := dx2.tupOf
          obtain ⟨u1, hu1, d1x⟩ := db.at' (i := 0) rfl
          obtain ⟨u2, hu2, d2x⟩ := db.at' (i := 1) rfl
          obtain ⟨u3, hu3, d3x⟩ := db.at' (i := 2) rfl
          have okb := ok1.tup0
          have eBr : isBr (.tuple [x1, x2, x3]) = (isName x1 && areNames 3 x2 && isB x3) := by rw [isBr]
          rw [eBr] at no
          refine iteFd rfl ⟨_, rfl, b, _, _, _, rfl, rfl, SqT.of eb, atI_nat (j := 0) hu1, u1, x1, rfl, d1x, (okb.2 x1 (by simp)).1, fun H4 s4 => ⟨_, rfl, ?_⟩⟩
          cases c1 : isName x1 with
          | false => exact iteTd rfl (no _ s4 (by rw [c1]; rfl))
          | true =>
            refine iteFd rfl ⟨_, rfl, b, _, _, _, rfl, rfl, SqT.of (s4 _ _ eb), atI_nat (j := 1) hu2, u2, x2, 3, rfl, d2x.same s4, (okb.2 x2 (by simp)).1, fun H5 s5 => ⟨_, rfl, ?_⟩⟩
            have s35 := s4.trans s5
            cases c2 : areNames 3 x2 with
            | false => exact iteTd rfl (no _ s35 (by rw [c1, c2]; rfl))
            | true =>
              refine iteFd rfl ⟨_, rfl, b, _, _, _, rfl, rfl, SqT.of (s35 _ _ eb), atI_nat (j := 2) hu3, u3, x3, rfl, d3x.same s35, okb.2 x3 (by simp), fun H6 s6 => ⟨_, rfl, ?_⟩⟩
              have s36 := s35.trans s6
              cases c3 : isB x3 with
              | false => exact iteTd rfl (no _ s36 (by rw [c1, c2, c3]; rfl))
              | true => exact iteFd rfl ⟨⟨_, rfl⟩, s2.trans s36, take_all al hd1 (by rw [eBr, c1, c2, c3]; rfl)⟩
      · rintro σ H2 ⟨⟨y1, rfl⟩, s2, al⟩
        rw [hlen, List.take_length] at al
        have := k H2 s2
        rw [e3, al] at this
        exact this
theorem ok_is_part {n L : Nat} {f : Addr} {fd : FuncData} (F : Fun K "_is_part" "_is_part" s__is_part f fd) (B : Bn2t mg) (c_is_number : Dq P w0 K mg base CX0 1 "is_number" ["thing"] (spJ (fun _ => True) isNum)) (c_is_name : Dq P w0 K mg base CX0 1 "is_name" ["thing"] (spJ (fun d => fine d = true) isName))
    (c_is_expression : Dq P w0 K mg base CX0 L "is_expression" ["thing"] (spJ (Ok n) isE)) (c__are_expressions : Dq P w0 K mg base CX0 (L + 1) "_are_expressions" ["thing"] (spJ (Ok n) areE)) (c_is_block : Dq P w0 K mg base CX0 L "is_block" ["thing"] (spJ (Ok n) isB)) (c__are_branches : Dq P w0 K mg base CX0 (L + 1) "_are_branches" ["thing"] (spJ (Ok n) areBr)) (hL : 1 ≤ L) :
    FnOk P w0 K mg base CX0 (L + 2) f fd ["letter", "part"] (spPart n) := by
  refine F.ok sc__is_part (fun vs H Q E h => ?_) (fun cdv A outer s H vs Q E hr h => ?_)
  · obtain ⟨x, d, c, rfl, _⟩ := h
    rfl
  · obtain ⟨x, d, c, rfl, hx, ok, hc, k⟩ := h
    refine ⟨_, (pss_cons (ps_if (pt_cmpR op_eq (pv 0) pe_str (nomark _)) (pss_one (ps_ret (pe_q c_is_number hr (by omega) (by rfl) (pa_cons (pv 1) pa_nil)))) pss_nil)
      (pss_cons (ps_if (pt_cmpR op_eq (pv 0) pe_str (nomark _)) (pss_one (ps_ret (pe_callB call_isi (by rfl) B.isinstance (by decide +kernel) (pa_cons (pv 1) (pa_cons (pe_bltn (v := .ty "bool") (by rfl) B.bool (by decide +kernel) rfl) pa_nil))))) pss_nil)
      (pss_cons (ps_if (pt_cmpR op_eq (pv 0) pe_str (nomark _)) (pss_one (ps_ret (pe_q c_is_name hr (by omega) (by rfl) (pa_cons (pv 1) pa_nil)))) pss_nil)
      (pss_cons (ps_if (pt_cmpR op_eq (pv 0) pe_str (nomark _)) (pss_one (ps_ret (pe_q c_is_expression hr (by omega) (by rfl) (pa_cons (pv 1) pa_nil)))) pss_nil)
      (pss_cons (ps_if (pt_cmpR op_eq (pv 0) pe_str (nomark _)) (pss_one (ps_ret (pe_q c__are_expressions hr (by omega) (by rfl) (pa_cons (pv 1) pa_nil)))) pss_nil)
      (pss_cons (ps_if (pt_cmpR op_eq (pv 0) pe_str (nomark _)) (pss_one (ps_ret (pe_and (pe_q c_is_expression hr (by omega) (by rfl) (pa_cons (pv 1) pa_nil)) (pe_one (pe_cmpR (op_eqS hr.units) (pe_ix ix_tup (pv 1) pe_int (fun _ _ => rfl)) pe_str (nomark _)))))) pss_nil)
      (pss_cons (ps_if (pt_cmpR op_eq (pv 0) pe_str (nomark _)) (pss_one (ps_ret (pe_q c_is_block hr (by omega) (by rfl) (pa_cons (pv 1) pa_nil)))) pss_nil)
      (pss_one (ps_ret (pe_q c__are_branches hr (by omega) (by rfl) (pa_cons (pv 1) pa_nil))))))))))), ?_⟩
    rw [T02.part] at k
    have st : ∀ (z : Str) (m : Nat), z = sg m → ∀ {p q : Prop}, (c = m → p) → (c ≠ m → q) → if decide (V.str (sg c) = V.str z) = true then p else q := fun z m hz {p q} h1 h2 => by
      rw [sg_eq z hz]
      by_cases hm : c = m
      · exact iteTd (decide_eq_true hm) (h1 hm)
      · exact iteFd (decide_eq_false hm) (h2 hm)
    refine ⟨_, rfl, rfl, _, rfl, st "n" 110 rfl (fun e => ?_) fun n1 => ?_⟩
    · rw [if_pos e] at k
      exact ⟨_, rfl, x, d, rfl, hx, trivial, k⟩
    rw [if_neg n1] at k
    refine ⟨_, rfl, rfl, _, rfl, st "t" 116 rfl (fun e => ?_) fun n2 => ?_⟩
    · rw [if_pos e, ← subK_bool] at k
      exact ⟨_, rfl, x, .ty "bool", .type (kindD d), .type "bool", subK (kindD d) "bool", rfl, .ty _, Kd.ty hx.kd, kit_kd d (.inr (.inr (.inl rfl))), k _ (Same.refl _)⟩
    rw [if_neg n2] at k
    refine ⟨_, rfl, rfl, _, rfl, st "x" 120 rfl (fun e => ?_) fun n3 => ?_⟩
    · rw [if_pos e] at k
      exact ⟨_, rfl, x, d, rfl, hx, ok.1, k⟩
    rw [if_neg n3] at k
    refine ⟨_, rfl, rfl, _, rfl, st "e" 101 rfl (fun e => ?_) fun n4 => ?_⟩
    · rw [if_pos e] at k
      exact ⟨_, rfl, x, d, rfl, hx, ok, k⟩
    rw [if_neg n4] at k
    refine ⟨_, rfl, rfl, _, rfl, st "E" 69 rfl (fun e => ?_) fun n5 => ?_⟩
    · rw [if_pos e] at k
      exact ⟨_, rfl, x, d, rfl, hx, ok, k⟩
    rw [if_neg n5] at k
    refine ⟨_, rfl, rfl, _, rfl, st "c" 99 rfl (fun e => ?_) fun n6 => ?_⟩
    · rw [if_pos e] at k
      refine ⟨_, rfl, x, d, rfl, hx, ok, fun H' s' => ⟨_, rfl, ?_⟩⟩
      have k1 := k H' s'
      cases hE : isE d with
      | false =>
        rw [hE] at k1
        exact iteFd rfl k1
      | true =>
        obtain ⟨h, ds, rfl⟩ : ∃ h ds, d = .tuple (.str h :: ds) := by
          have : headed d = true := by
            cases hh : headed d with
            | true => rfl
            | false =>
              rw [isE_no hh] at hE
              cases hE
          unfold headed at this
          split at this
          · exact ⟨_, _, rfl⟩
          · cases this
        obtain ⟨a, xs, rfl, _, ea, da⟩ := (hx.same s').tupOf
        obtain ⟨u, hu, dh⟩ := da.at' (i := 0) rfl
        rw [hE] at k1
        exact iteTd rfl ⟨_, rfl, a, _, _, _, rfl, rfl, SqT.of ea, atI_nat (j := 0) hu, .str h, "call", dh, rfl, k1⟩
    rw [if_neg n6] at k
    refine ⟨_, rfl, rfl, _, rfl, st "b" 98 rfl (fun e => ?_) fun n7 => ?_⟩
    · rw [if_pos e] at k
      exact ⟨_, rfl, x, d, rfl, hx, ok, k⟩
    rw [if_neg n7] at k
    exact ⟨_, rfl, x, d, rfl, hx, ok, k⟩
end
end SA

set_option Elab.async false
set_option linter.all false
set_option maxRecDepth 100000
set_option maxHeartbeats 4000000
namespace SA
open PySem PySem.Spec PyProof.Rows L2 T02
theorem signs_at {z : Str} {i : Nat} {v : V} (h : (signs z)[i]? = some v) : ∃ c, (tl z)[i]? = some c ∧ v = .str (sg c) := by
  unfold signs at h
  rw [List.getElem?_map] at h
  obtain ⟨c, hc, rfl⟩ := Option.map_eq_some_iff.mp h
  exact ⟨c, hc, rfl⟩
theorem zip_take {p : Nat × PyData → Bool} {l : List (Nat × PyData)} {i : Nat} {x : Nat × PyData} (h : (l.take i).all p = true) (e : l[i]? = some x) (hp : p x = true) : (l.take (i + 1)).all p = true := by
  rw [List.take_add_one, e, List.all_append, h, Option.toList]
  simp [hp]
section
variable {P : Program} {w0 : World} {K : PySem.W.Frag} {mg : Str → Option Value} {base : Heap} {kA eA sA : Addr}
theorem ok_has_form {n L : Nat} {f : Addr} {fd : FuncData} (F : Fun K "_has_form" "_has_form" s__has_form f fd) (B : Bn2t mg) (c__is_part : Dq P w0 K mg base CX0 L "_is_part" ["letter", "part"] (spPart n)) :
    FnOk P w0 K mg base CX0 (L + 1) f fd ["thing", "form"] (spHF n) := by
  refine F.ok sc__has_form (fun vs H Q E h => ?_) (fun cdv A outer s H vs Q E hr h => ?_)
  · obtain ⟨x, d0, ds, f, rfl, _⟩ := h
    rfl
  · obtain ⟨x, d0, ds, f, rfl, hx, hd, ok, hf, k⟩ := h
    refine ⟨_, (pss_cons (ps_if (PW.pt (pw_or (pt_cmpR op_isN (pv 1) pe_non (nomark _)) (pw_or1 (pt_cmpR op_ne (pe_callB call_len_seq (by rfl) B.len PySem.boot_len (pa_cons (pv 0) pa_nil)) (pe_op op_add (pe_callB call_len_str (by rfl) B.len PySem.boot_len (pa_cons (pv 1) pa_nil)) pe_int) (nomark _))))) (pss_one (ps_ret pe_bl)) pss_nil)
      (pss_cons (ps_for PassesOwn.never rfl (pi_zipX (by rfl) B.zip (pa_cons (pv 1) (pa_cons (pe_slice sl_tupA (pv 0) (po_some pe_int) po_none) pa_nil))) (pg_tup (by rfl) (pgs_cons (pg_name (i := 2) sc__has_form.nd rfl (Or.inl rfl)) (pgs_cons (pg_name (i := 3) sc__has_form.nd rfl (Or.inl rfl)) pgs_nil))) (pss_one (ps_if (pt_not (pt_val (pe_q c__is_part hr (by omega) (by rfl) (pa_cons (pv 2) (pa_cons (pv 3) pa_nil))))) (pss_one (ps_ret pe_bl)) pss_nil)))
      (pss_one (ps_ret pe_bl)))), ?_⟩
    have hs63 := sizeLine_eq
    obtain ⟨a, xs, rfl, _, ea, da⟩ := hx.tupOf
    have hlen := da.len
    cases f with
    | none => exact ⟨_, rfl, rfl, _, rfl, iteTd rfl (k H (Same.refl H))⟩
    | some z =>
      obtain ⟨z10, zc⟩ := hf z rfl
      have zl : (tl z).length = z.length := rfl
      have e0 : hasForm (some z) (.tuple (d0 :: ds)) = parts (tl z) ds := rfl
      rw [e0] at k
      refine ⟨_, rfl, rfl, _, rfl, iteFd rfl ?_⟩
      refine ⟨_, rfl, a, _, rfl, .inr (SqT.of ea), _, rfl, z, rfl, by omega, _, _, rfl, rfl, rfl, _, rfl, ?_⟩
      have hl2 : xs.length = ds.length + 1 := by rw [hlen, List.length_cons]
      by_cases hl : (tl z).length = ds.length
      · have e1 : (V.int (xs.length : Nat)) = V.int ((z.length : Nat) + 1 : Int) := by
          rw [hl2, ← hl, zl]
          rfl
        refine iteFd (by rw [e1]; simp) ?_
        cases da with
        | @cons v0 vs0 _ _ h0 h1 =>
        have hvl := h1.len
        refine ⟨_, rfl, _, rfl, 1, rfl, a, _, rfl, SqT.of ea, fun h => absurd h (noslice (n := vs0.length)), fun _ p2 hp2 => ?_⟩
        have s2 : Same H (upd H p2 (.tup (cutV (v0 :: vs0) (some 1) none))) := Same.new hp2
        have e2 : (upd H p2 (.tup (cutV (v0 :: vs0) (some 1) none))) p2 = some (.tup vs0) := by rw [upd_same, cutV_1]
        generalize upd H p2 (.tup (cutV (v0 :: vs0) (some 1) none)) = H2 at s2 e2
        refine ⟨.txt z, .tup p2, _, _, rfl, rfl, SqT.of e2, ?_⟩
        have pz := parts_zip (tl z) ds hl
        have hzl : ((tl z).zip ds).length = ds.length := by rw [List.length_zip, hl, Nat.min_self]
        refine for_it (walk_zipX (n := ds.length) (by rw [signs_len, hvl]; show _ = min (tl z).length _; rw [hl, Nat.min_self])) (fun i σ H' => (∃ y2 y3, σ = [some (.ref a), some (.str z), y2, y3]) ∧ Same H2 H' ∧ (((tl z).zip ds).take i).all (fun q => T02.part q.1 q.2) = true) ⟨⟨_, _, rfl⟩, Same.refl _, rfl⟩ (fun i σ H' _ h => ⟨rfl, SqT.of (h.2.1 _ _ e2)⟩) ?_ ?_
        · rintro i v σ H3 H4 hi ⟨⟨y2, y3, rfl⟩, s3, al⟩ ⟨T, x', y, rfl, hT, rfl, hxi, hy⟩
          obtain ⟨c, hc, rfl⟩ := signs_at (show (signs z)[i]? = some x' from hxi)
          have hy : vs0[i]? = some y := hy
          obtain ⟨d1, hd1, dx⟩ := h1.at hy
          have s4 := s3.trans (Same.new hT (o := .tup [.str (sg c), y]))
          refine ⟨T, _, rfl, SqT.of upd_same, rfl, _, _, rfl, _, _, rfl, rfl, ?_⟩
          change tIfS _ _ _ _ _ (upd H3 T (.tup [.str (sg c), y]))
          generalize upd H3 T (.tup [.str (sg c), y]) = H5 at s4
          have hz : ((tl z).zip ds)[i]? = some (c, d1) := List.getElem?_zip_eq_some.mpr ⟨hc, hd1⟩
          refine ⟨_, rfl, _, rfl, y, d1, c, rfl, dx.same (s2.trans s4), ok d1 (List.mem_of_getElem? hd1), zc c (List.mem_of_getElem? hc), fun H' s' => ⟨_, rfl, ?_⟩⟩
          cases hp : T02.part c d1 with
          | true => exact iteFd rfl ⟨⟨_, _, rfl⟩, s4.trans s', zip_take al hz hp⟩
          | false =>
            have := k H' ((s2.trans s4).trans s')
            rw [pz, List.all_eq_false.mpr ⟨(c, d1), List.mem_of_getElem? hz, by rw [hp]; decide⟩] at this
            exact iteTd rfl this
        · rintro σ H3 ⟨⟨y2, y3, rfl⟩, s3, al⟩
          rw [← hzl, List.take_length] at al
          have := k H3 (s2.trans s3)
          rw [pz, al] at this
          exact this
      · have e1 : (V.int (xs.length : Nat)) ≠ V.int ((z.length : Nat) + 1 : Int) := fun h => by
          have := V.int.inj h
          omega
        refine iteTd (by rw [decide_eq_false e1]; rfl) ?_
        have := k H (Same.refl H)
        rw [parts_len _ _ hl] at this
        exact this
theorem tabs_short : (∀ q ∈ exprTab, q.2.length ≤ 10 ∧ ∀ c ∈ tl q.2, c < 128) ∧ ∀ q ∈ stmtTab, q.2.length ≤ 10 ∧ ∀ c ∈ tl q.2, c < 128 := by decide +kernel
theorem lookup_mem {α : Type} {z : Str} {v : α} : ∀ {l : List (Str × α)}, l.lookup z = some v → (z, v) ∈ l
  | (a, b) :: l, h => by
    rw [List.lookup_cons] at h
    cases e : z == a with
    | true =>
      rw [e] at h
      cases h
      rw [eq_of_beq e]
      exact List.mem_cons_self
    | false =>
      rw [e] at h
      exact List.mem_cons_of_mem _ (lookup_mem h)
theorem headed_yes {d : PyData} (h : headed d = true) : ∃ z ds, d = .tuple (.str z :: ds) := by
  unfold headed at h
  split at h
  · exact ⟨_, _, rfl⟩
  · cases h
theorem ok_is_expression {n L : Nat} {f : Addr} {fd : FuncData} (F : Fun K "is_expression" "is_expression" s_is_expression f fd) (T : Top2 K w0 mg kA eA sA) (c__is_headed : Dq P w0 K mg base CX0 1 "_is_headed" ["thing"] (spJ (fun _ => True) headed)) (c__has_form : Dq P w0 K mg base CX0 L "_has_form" ["thing", "form"] (spHF n)) (hL : 1 ≤ L) :
    FnOk P w0 K mg base CX0 (L + 1) f fd ["thing"] (spJ (Ok (n + 1)) isE) := by
  refine F.ok sc_is_expression (fun vs H Q E h => ?_) (fun cdv A outer s H vs Q E hr h => ?_)
  · obtain ⟨x, d, rfl, _⟩ := h
    rfl
  · obtain ⟨x, d, rfl, hx, ok, k⟩ := h
    refine ⟨_, (pss_one (ps_ret (pe_and (pe_q c__is_headed hr (by omega) (by rfl) (pa_cons (pv 0) pa_nil)) (pe_one (pe_q c__has_form hr (by omega) (by rfl) (pa_cons (pv 0) (pa_cons (pe_kget T.ex (pe_glob (v := .ref eA) (by rfl) T.exG rfl) (pe_ix ix_tup (pv 0) pe_int (fun _ _ => rfl)) ⟨rfl, rfl, rfl, rfl⟩) pa_nil))))))), ?_⟩
    refine ⟨_, rfl, x, d, rfl, hx, trivial, fun H1 s1 => ⟨_, rfl, ?_⟩⟩
    cases hh : headed d with
    | false => exact iteFd rfl (isE_no hh ▸ k H1 s1)
    | true =>
      obtain ⟨z, ds, rfl⟩ := headed_yes hh
      have hx1 := hx.same s1
      obtain ⟨a, xs, rfl, _, ea, da⟩ := hx1.tupOf
      obtain ⟨u, hu, dh⟩ := da.at' (i := 0) rfl
      obtain ⟨h100, okd⟩ := ok.tup
      rw [isE_eq] at k
      cases dh with
      | str _ =>
      refine iteTd rfl ⟨_, rfl, rfl, _, rfl, a, _, _, _, rfl, rfl, SqT.of ea, atI_nat (j := 0) hu, z, rfl, .ref a, .str z, ds, exprTab.lookup z, ?_, hx1, by rw [List.length_cons] at h100; omega, fun d hd => okd d (List.mem_cons_of_mem _ hd), fun y hy => tabs_short.1 _ (lookup_mem hy), fun H' s' => k H' (s1.trans s')⟩
      show [V.ref a, ((strsV exprTab).lookup z).getD .non] = [V.ref a, fV (exprTab.lookup z)]
      rw [lookup_strs]
      rfl
theorem ok_is_block {n L : Nat} {f : Addr} {fd : FuncData} (F : Fun K "is_block" "is_block" s_is_block f fd) (B : Bn2t mg) (T : Top2 K w0 mg kA eA sA) (c__is_headed : Dq P w0 K mg base CX0 1 "_is_headed" ["thing"] (spJ (fun _ => True) headed)) (c__has_form : Dq P w0 K mg base CX0 L "_has_form" ["thing", "form"] (spHF n)) (hL : 1 ≤ L) :
    FnOk P w0 K mg base CX0 (L + 1) f fd ["thing"] (spJ (Ok (n + 1)) isB) := by
  refine F.ok sc_is_block (fun vs H Q E h => ?_) (fun cdv A outer s H vs Q E hr h => ?_)
  · obtain ⟨x, d, rfl, _⟩ := h
    rfl
  · obtain ⟨x, d, rfl, hx, ok, k⟩ := h
    refine ⟨_, (pss_cons (ps_if (pt_not (pt_val (pe_callB call_isi (by rfl) B.isinstance (by decide +kernel) (pa_cons (pv 0) (pa_cons (pe_bltn (v := .ty "tuple") (by rfl) B.tuple (by decide +kernel) rfl) pa_nil))))) (pss_one (ps_ret pe_bl)) pss_nil)
      (pss_cons (ps_for PassesOwn.never rfl (pi_tup (pv 0)) (pg_name (i := 1) sc_is_block.nd rfl (Or.inl rfl)) (pss_one (ps_if (PW.pt (pw_or (pt_not (pt_val (pe_q c__is_headed hr (by omega) (by rfl) (pa_cons (pv 1) pa_nil)))) (pw_or1 (pt_not (pt_val (pe_q c__has_form hr (by omega) (by rfl) (pa_cons (pv 1) (pa_cons (pe_kget T.st (pe_glob (v := .ref sA) (by rfl) T.stG rfl) (pe_ix ix_tup (pv 1) pe_int (fun _ _ => rfl)) ⟨rfl, rfl, rfl, rfl⟩) pa_nil)))))))) (pss_one (ps_ret pe_bl)) pss_nil)))
      (pss_one (ps_ret pe_bl)))), ?_⟩
    refine ⟨_, rfl, x, .ty "tuple", .type (kindD d), .type "tuple", subK (kindD d) "tuple", rfl, .ty _, Kd.ty hx.kd, kit_kd d (.inl rfl), _, rfl, ?_⟩
    rw [subK_tup]
    cases ht : isTup d with
    | false =>
      have : isB d = false := by cases d <;> first | (simp [isB]; done) | cases ht
      exact iteTd rfl (this ▸ k H (Same.refl H))
    | true =>
      obtain ⟨ds, rfl⟩ := isTup_yes ht
      obtain ⟨a, xs, rfl, _, e, da⟩ := hx.tupOf
      have hlen := da.len
      obtain ⟨h100, okd⟩ := ok.tup
      have e3 : isB (.tuple ds) = ds.all isSt := by rw [isB, allS_all]
      rw [e3] at k
      refine iteFd rfl ⟨_, rfl, a, rfl, ⟨_, SqT.of e⟩, for_it walk_tup (fun i σ H' => (∃ y1, σ = [some (.ref a), y1]) ∧ Same H H' ∧ (ds.take i).all isSt = true) ⟨⟨_, rfl⟩, Same.refl _, rfl⟩ (fun i σ H' _ h => SqT.of (h.2.1 _ _ e)) ?_ ?_⟩
      · rintro i v σ H2 H3 hi ⟨⟨y1, rfl⟩, s2, al⟩ ⟨rfl, hv⟩
        obtain ⟨d1, hd1, dx⟩ := da.at hv
        have ok1 := okd d1 (List.mem_of_getElem? hd1)
        have dx2 := dx.same s2
        have no : ∀ H', Same H3 H' → isSt d1 = false → Q (.bl false) H' := fun H' s' hp => by
          have := k H' (s2.trans s')
          rw [all_no hd1 hp] at this
          exact this
        refine ⟨_, rfl, v, d1, rfl, dx2, trivial, fun H4 s4 => ⟨_, rfl, ?_⟩⟩
        cases hh : headed d1 with
        | false => exact iteTd rfl (no H4 s4 (isSt_no hh))
        | true =>
          obtain ⟨z, es, rfl⟩ := headed_yes hh
          have dx4 := dx2.same s4
          obtain ⟨b, ys, rfl, _, eb, db⟩ := dx4.tupOf
          obtain ⟨u, hu, dh⟩ := db.at' (i := 0) rfl
          obtain ⟨h100', okd'⟩ := ok1.tup0
          cases dh with
          | str _ =>
          refine iteFd rfl ⟨_, rfl, rfl, _, rfl, b, _, _, _, rfl, rfl, SqT.of eb, atI_nat (j := 0) hu, z, rfl, .ref b, .str z, es, stmtTab.lookup z, ?_, dx4, by rw [List.length_cons] at h100'; omega, fun d hd => okd' d (List.mem_cons_of_mem _ hd), fun y hy => tabs_short.2 _ (lookup_mem hy), fun H' s' => ⟨_, rfl, ?_⟩⟩
          · show [V.ref b, ((strsV stmtTab).lookup z).getD .non] = [V.ref b, fV (stmtTab.lookup z)]
            rw [lookup_strs]
            rfl
          · rw [← isSt_eq]
            cases hp : isSt (.tuple (.str z :: es)) with
            | false => exact iteTd rfl (no H' (s4.trans s') hp)
            | true => exact iteFd rfl ⟨⟨_, rfl⟩, s2.trans (s4.trans s'), take_all al hd1 hp⟩
      · rintro σ H2 ⟨⟨y1, rfl⟩, s2, al⟩
        rw [hlen, List.take_length] at al
        have := k H2 s2
        rw [al] at this
        exact this
/-- how deep the calls go for data so deep -/
def LE (n : Nat) : Nat := 4 * n + 3
/-- what is no expression and no block, since nothing is so shallow -/
theorem ok_none {f : Addr} {fd : FuncData} {k : Nat} {ps : List Str} {sp : Sp} (h : ∀ vs H Q E, ¬ sp vs H Q E) : FnOk P w0 K mg base CX0 k f fd ps sp := ⟨fun vs H Q E s => absurd s (h vs H Q E), fun A outer s H args us vs Q E hr e0 hb r sp => absurd sp (h vs H Q E)⟩
end
end SA

set_option Elab.async false
set_option linter.all false
set_option maxRecDepth 100000
set_option maxHeartbeats 4000000
namespace SA
open PySem PySem.Spec PyProof.Rows L2 T02
/-- a def's name, and how it is called -/
structure Nm (K : PySem.W.Frag) (mg : Str → Option Value) (x : Str) (f : Addr) (fd : FuncData) (ps : List Str) : Prop where
  g : mg x = some (.ref f)
  k : PySem.W.keepIn K (.ref f) = true
  b : L2.Binds K fd ps []
section
variable {P : Program} {w0 : World} {K : PySem.W.Frag} {mg : Str → Option Value} {base : Heap} {kA eA sA : Addr}
theorem Nm.q {x : Str} {f : Addr} {fd : FuncData} {ps : List Str} {CX : CXT} {k : Nat} {sp : Sp} (N : Nm K mg x f fd ps) (F : FnOk P w0 K mg base CX k f fd ps sp) : Dq P w0 K mg base CX k x ps sp := ⟨f, fd, F, N.g, N.k, N.b⟩
theorem Ok.no {d : PyData} (h : Ok 0 d) : False := Nat.not_lt_zero _ h.2
/-- all that judge trees, for data so deep -/
theorem all_trees {fE fB fH fP fA fR : Addr} {dE dB dH dP dA dR : FuncData} (FE : Fun K "is_expression" "is_expression" s_is_expression fE dE) (FB : Fun K "is_block" "is_block" s_is_block fB dB) (FH : Fun K "_has_form" "_has_form" s__has_form fH dH) (FP : Fun K "_is_part" "_is_part" s__is_part fP dP)
    (FA : Fun K "_are_expressions" "_are_expressions" s__are_expressions fA dA) (FR : Fun K "_are_branches" "_are_branches" s__are_branches fR dR)
    (NE : Nm K mg "is_expression" fE dE ["thing"]) (NB : Nm K mg "is_block" fB dB ["thing"]) (NH : Nm K mg "_has_form" fH dH ["thing", "form"]) (NP : Nm K mg "_is_part" fP dP ["letter", "part"]) (NA : Nm K mg "_are_expressions" fA dA ["thing"]) (NR : Nm K mg "_are_branches" fR dR ["thing"])
    (B : Bn2t mg) (T : Top2 K w0 mg kA eA sA) (c_is_number : Dq P w0 K mg base CX0 1 "is_number" ["thing"] (spJ (fun _ => True) isNum)) (c_is_name : Dq P w0 K mg base CX0 1 "is_name" ["thing"] (spJ (fun d => fine d = true) isName)) (c_is_tuple_of : Dq P w0 K mg base CX0 1 "is_tuple_of" ["thing", "many"] spTupOf)
    (c__is_tuple_between : Dq P w0 K mg base CX0 1 "_is_tuple_between" ["thing", "least", "most"] spTupB) (c__are_names : Dq P w0 K mg base CX0 2 "_are_names" ["thing", "most"] spNames) (c__is_headed : Dq P w0 K mg base CX0 1 "_is_headed" ["thing"] (spJ (fun _ => True) headed)) :
    ∀ n, FnOk P w0 K mg base CX0 (LE n) fE dE ["thing"] (spJ (Ok n) isE) ∧ FnOk P w0 K mg base CX0 (LE n) fB dB ["thing"] (spJ (Ok n) isB)
  | 0 => ⟨ok_none fun vs H Q E ⟨_, _, _, _, h, _⟩ => Ok.no h, ok_none fun vs H Q E ⟨_, _, _, _, h, _⟩ => Ok.no h⟩
  | n + 1 => by
    obtain ⟨GE, GB⟩ := all_trees FE FB FH FP FA FR NE NB NH NP NA NR B T c_is_number c_is_name c_is_tuple_of c__is_tuple_between c__are_names c__is_headed n
    have h1 : 1 ≤ LE n := by unfold LE; omega
    have h2 : 2 ≤ LE n := by unfold LE; omega
    have cE := NE.q GE
    have cB := NB.q GB
    have GA := ok_are_expressions (n := n) FA c__is_tuple_between cE h1
    have GR := ok_are_branches (n := n) FR c__is_tuple_between c_is_tuple_of c_is_name c__are_names cB h2
    have GP := ok_is_part FP B c_is_number c_is_name cE (NA.q GA) cB (NR.q GR) h1
    have GH := ok_has_form FH B (NP.q GP)
    have e : LE (n + 1) = LE n + 2 + 1 + 1 := by unfold LE; omega
    rw [e]
    exact ⟨ok_is_expression FE T c__is_headed (NH.q GH) (by omega), ok_is_block FB B T c__is_headed (NH.q GH) (by omega)⟩
theorem betw_yes {lo hi : Nat} {d : PyData} (h : betw lo hi d = true) : ∃ ds, d = .tuple ds ∧ lo ≤ ds.length ∧ ds.length ≤ hi := by
  cases d with
  | tuple ds => exact ⟨ds, rfl, of_decide_eq_true h⟩
  | _ => cases h
theorem two_of {ds : List PyData} (h : ds.length = 2) : ∃ a b, ds = [a, b] := by
  match ds, h with
  | [a, b], _ => exact ⟨a, b, rfl⟩
theorem three_of {ds : List PyData} (h : ds.length = 3) : ∃ a b c, ds = [a, b, c] := by
  match ds, h with
  | [a, b, c], _ => exact ⟨a, b, c, rfl⟩
theorem four_of {ds : List PyData} (h : ds.length = 4) : ∃ a b c d, ds = [a, b, c, d] := by
  match ds, h with
  | [a, b, c, d], _ => exact ⟨a, b, c, d, rfl⟩
theorem five_of {ds : List PyData} (h : ds.length = 5) : ∃ a b c d e, ds = [a, b, c, d, e] := by
  match ds, h with
  | [a, b, c, d, e], _ => exact ⟨a, b, c, d, e, rfl⟩
theorem isFun_no {d : PyData} (h : betw 4 4 d = false) : isFun d = false := by
  unfold isFun
  split
  · cases h
  · rfl
theorem isFun_eq (h x y z : PyData) : isFun (.tuple [h, x, y, z]) = (isS "function" h && isName x && areNames 3 y && isB z) := by
  cases h <;> rfl
theorem isVar_no {d : PyData} (h : betw 2 2 d = false) : isVar d = false := by
  unfold isVar
  split
  · cases h
  · rfl
theorem isDecl_no {d : PyData} (h : betw 3 3 d = false) : isDecl d = false := by
  unfold isDecl
  split
  · cases h
  · rfl
theorem isDecl_eq (h x y : PyData) : isDecl (.tuple [h, x, y]) = (isName x && (if isS "row" h = true then isKind y else isS "choice" h && betw 1 4 y && (items y).all isVar)) := by
  cases h with
  | str z =>
    show (isName x && (if z = "row" then isKind y else decide (z = "choice") && betw 1 4 y && (items y).all isVar)) = (isName x && (if decide (z = "row") = true then isKind y else decide (z = "choice") && betw 1 4 y && (items y).all isVar))
    by_cases c : z = "row"
    · rw [if_pos c, if_pos (decide_eq_true c)]
    · rw [if_neg c, if_neg (by rw [decide_eq_false c]; decide)]
  | _ => exact (Bool.and_false _).symm
theorem isUnit_no {d : PyData} (h : betw 5 5 d = false) : isUnit d = false := by
  unfold isUnit
  split
  · cases h
  · rfl
theorem isUnit_eq (h x y z w : PyData) : isUnit (.tuple [h, x, y, z, w]) = (isS "unit" h && isName x && areNames 5 y && betw 0 8 z && betw 0 8 w && (items z).all isDecl && (items w).all isFun) := by
  cases h <;> rfl
/-- all of a tuple's items, asked one by one, their answers in a list -/
theorem lc_all {Pd : PyData → Bool} {te : TE} {σ : L2.St} {H : Hp} {Qd : Hp → Prop} {a D : Addr} {xs : List V} {ds : List PyData} {j : Nat} {vs : List Nat} (ha : H a = some (.tup xs)) (da : DnAll anyA H xs ds) (h100 : ds.length ≤ 100) (hD : H D = none) (hw : ∀ v, wipe ((wipe σ vs).set j (some v)) vs = wipe σ vs)
    (turn : ∀ (v : V) (d : PyData) (H' : Hp) (R : VK), d ∈ ds → Same H H' → Dn anyA H' v d → (∀ H3, Same H' H3 → R (.bl (Pd d)) H3) → te ((wipe σ vs).set j (some v)) H' R)
    (fin : ∀ H', Same H H' → H' D = some (.lst ((ds.map Pd).map V.bl)) → Qd H') :
    ∃ W : Nat → Nat → Hp → Prop, (∃ m, W 0 m (upd H D (.lst []))) ∧ ∀ i m H', W i m H' →
      ((Itt K a).stop i H' ∧ Qd H') ∨ ((Itt K a).go i H' ∧ ∃ Nx : Hp → Prop, (∀ H'', Nx H'' → ∃ m', m' < m ∧ W (i + 1) m' H'') ∧ ∀ x H'', (Itt K a).yld i H' x H'' → gName j x (wipe σ vs) H'' fun σ2 H2 => wipe σ2 vs = wipe σ vs ∧ tYes σ2 H2 fun b H3 =>
        if b = true then te σ2 H3 fun y H4 => ∃ acc, H4 D = some (.lst acc) ∧ acc.length < sizeLine ∧ Nx (upd H4 D (.lst (acc ++ [y]))) else Nx H3) := by
  have hs63 := sizeLine_eq
  have hlen := da.len
  refine lc_it walk_tup (fun i H' => Same H H' ∧ H' D = some (.lst (((ds.take i).map Pd).map V.bl))) ⟨Same.new hD, upd_same⟩ (fun i H' _ h => SqT.of (h.1 _ _ ha)) ?_ ?_
  · rintro i v H2 H3 hi ⟨s2, e2⟩ ⟨rfl, hv⟩
    obtain ⟨d1, hd1, dx⟩ := da.at hv
    refine ⟨hw v, yes (turn v d1 _ _ (List.mem_of_getElem? hd1) s2 (dx.same s2) fun H3 s3 => ⟨_, s3 _ _ e2, ?_, Same.upd' (s2.trans s3) hD, ?_⟩)⟩
    · have := List.length_take_le' i ds
      rw [List.length_map, List.length_map]
      omega
    · rw [upd_same, List.take_add_one, hd1, List.map_append, List.map_append]
      rfl
  · rintro H2 ⟨s2, e2⟩
    rw [hlen, List.take_length] at e2
    exact fin H2 s2 e2
theorem ok_is_variant {f : Addr} {fd : FuncData} (F : Fun K "_is_variant" "_is_variant" s__is_variant f fd) (B : Bn2t mg) (c_is_tuple_of : Dq P w0 K mg base CX0 1 "is_tuple_of" ["thing", "many"] spTupOf) (c_is_name : Dq P w0 K mg base CX0 1 "is_name" ["thing"] (spJ (fun d => fine d = true) isName)) (c__is_tuple_between : Dq P w0 K mg base CX0 1 "_is_tuple_between" ["thing", "least", "most"] spTupB)
    (c_is_kind : Dq P w0 K mg base CX0 2 "is_kind" ["thing"] (spJ (fun d => fine d = true) isKind)) : FnOk P w0 K mg base CX0 3 f fd ["thing"] (spJ (Ok DD) isVar) := by
  refine F.ok sc__is_variant (fun vs H Q E h => ?_) (fun cdv A outer s H vs Q E hr h => ?_)
  · obtain ⟨x, d, rfl, _⟩ := h
    rfl
  · obtain ⟨x, d, rfl, hx, ok, k⟩ := h
    refine ⟨_, (pss_cons (ps_if (PW.pt (pw_or (pt_not (pt_val (pe_q c_is_tuple_of hr (by omega) (by rfl) (pa_cons (pv 0) (pa_cons pe_int pa_nil))))) (pw_or (pt_not (pt_val (pe_q c_is_name hr (by omega) (by rfl) (pa_cons (pe_ix ix_tup (pv 0) pe_int (fun _ _ => rfl)) pa_nil)))) (pw_or1 (pt_not (pt_val (pe_q c__is_tuple_between hr (by omega) (by rfl) (pa_cons (pe_ix ix_tup (pv 0) pe_int (fun _ _ => rfl)) (pa_cons pe_int (pa_cons pe_int pa_nil)))))))))) (pss_one (ps_ret pe_bl)) pss_nil)
      (pss_one (ps_ret (pe_callB (cr_all rfl) (by rfl) B.all (by decide +kernel) (pa_cons (pe_lc (own := [("kind", 1)]) (g := (gName 1)) (tt := tYes) (by rfl) sc__is_variant.nd (pi_tup (pe_ix ix_tup (pv 0) pe_int (fun _ _ => rfl))) (blkOk_by (N := n__is_variant) (sc := defScope s__is_variant) (by decide +kernel)) (fun _ _ _ _ _ => (pg_name (i := 1) sc__is_variant.nd rfl (Or.inl rfl))) (fun _ _ _ _ _ => pts_nil) (fun _ _ _ _ _ => (pe_q c_is_kind hr (by omega) (by rfl) (pa_cons (pv 1) pa_nil)))) pa_nil))))), ?_⟩
    refine ⟨_, rfl, x, d, 2, rfl, hx, _, rfl, ?_⟩
    cases hb : betw 2 2 d with
    | false => exact iteTd rfl (isVar_no hb ▸ k H (Same.refl H))
    | true =>
      obtain ⟨ds, rfl, l1, l2⟩ := betw_yes hb
      obtain ⟨x1, x2, rfl⟩ := two_of (show ds.length = 2 by omega)
      obtain ⟨a, xs, rfl, _, e, da⟩ := hx.tupOf
      obtain ⟨u1, hu1, d1x⟩ := da.at' (i := 0) rfl
      obtain ⟨u2, hu2, d2x⟩ := da.at' (i := 1) rfl
      obtain ⟨_, okd⟩ := ok.tup0
      have eV : isVar (.tuple [x1, x2]) = (isName x1 && betw 0 3 x2 && (items x2).all isKind) := rfl
      rw [eV] at k
      refine iteFd rfl ⟨_, rfl, a, _, _, _, rfl, rfl, SqT.of e, atI_nat (j := 0) hu1, u1, x1, rfl, d1x, (okd x1 (by simp)).1, fun H1 s1 => ⟨_, rfl, ?_⟩⟩
      have k1 := k H1 s1
      cases c1 : isName x1 with
      | false =>
        rw [c1] at k1
        exact iteTd rfl k1
      | true =>
        have e1 := s1 _ _ e
        have d2x := d2x.same s1
        refine iteFd rfl ⟨_, rfl, a, _, _, _, rfl, rfl, SqT.of e1, atI_nat (j := 1) hu2, u2, x2, 0, 3, rfl, d2x, _, rfl, ?_⟩
        cases c2 : betw 0 3 x2 with
        | false =>
          rw [c1, c2] at k1
          exact iteTd rfl k1
        | true =>
          obtain ⟨es, rfl, _, l3⟩ := betw_yes c2
          obtain ⟨b, ys, rfl, _, eb, db⟩ := d2x.tupOf
          obtain ⟨h100, oke⟩ := (okd (.tuple es) (by simp)).tup0
          rw [c1, c2] at k
          refine iteFd rfl ⟨_, rfl, a, _, _, _, rfl, rfl, SqT.of e1, atI_nat (j := 1) hu2, b, rfl, ⟨_, SqT.of eb⟩, fun D hD => lc_all (Pd := isKind) eb db h100 hD (fun _ => rfl) (fun v d H' R hd s' dv q => ⟨_, rfl, v, d, rfl, dv, (oke d hd).1, q⟩) fun H2 s2 e2 => ⟨D, _, rfl, SqL.of e2, ?_⟩⟩
          rw [all_map]
          exact k H2 (s1.trans s2)
theorem ok_is_declaration {f : Addr} {fd : FuncData} (F : Fun K "is_declaration" "is_declaration" s_is_declaration f fd) (B : Bn2t mg) (c_is_tuple_of : Dq P w0 K mg base CX0 1 "is_tuple_of" ["thing", "many"] spTupOf) (c_is_name : Dq P w0 K mg base CX0 1 "is_name" ["thing"] (spJ (fun d => fine d = true) isName)) (c__is_tuple_between : Dq P w0 K mg base CX0 1 "_is_tuple_between" ["thing", "least", "most"] spTupB)
    (c_is_kind : Dq P w0 K mg base CX0 2 "is_kind" ["thing"] (spJ (fun d => fine d = true) isKind)) (c__is_variant : Dq P w0 K mg base CX0 3 "_is_variant" ["thing"] (spJ (Ok DD) isVar)) : FnOk P w0 K mg base CX0 4 f fd ["thing"] (spJ (Ok DD) isDecl) := by
  refine F.ok sc_is_declaration (fun vs H Q E h => ?_) (fun cdv A outer s H vs Q E hr h => ?_)
  · obtain ⟨x, d, rfl, _⟩ := h
    rfl
  · obtain ⟨x, d, rfl, hx, ok, k⟩ := h
    refine ⟨_, (pss_cons (ps_if (PW.pt (pw_or (pt_not (pt_val (pe_q c_is_tuple_of hr (by omega) (by rfl) (pa_cons (pv 0) (pa_cons pe_int pa_nil))))) (pw_or1 (pt_not (pt_val (pe_q c_is_name hr (by omega) (by rfl) (pa_cons (pe_ix ix_tup (pv 0) pe_int (fun _ _ => rfl)) pa_nil))))))) (pss_one (ps_ret pe_bl)) pss_nil)
      (pss_cons (ps_if (pt_cmpR (op_eqS hr.units) (pe_ix ix_tup (pv 0) pe_int (fun _ _ => rfl)) pe_str (nomark _)) (pss_one (ps_ret (pe_q c_is_kind hr (by omega) (by rfl) (pa_cons (pe_ix ix_tup (pv 0) pe_int (fun _ _ => rfl)) pa_nil)))) pss_nil)
      (pss_cons (ps_if (PW.pt (pw_or (pt_cmpR (op_neS hr.units) (pe_ix ix_tup (pv 0) pe_int (fun _ _ => rfl)) pe_str (nomark _)) (pw_or1 (pt_not (pt_val (pe_q c__is_tuple_between hr (by omega) (by rfl) (pa_cons (pe_ix ix_tup (pv 0) pe_int (fun _ _ => rfl)) (pa_cons pe_int (pa_cons pe_int pa_nil))))))))) (pss_one (ps_ret pe_bl)) pss_nil)
      (pss_one (ps_ret (pe_callB (cr_all rfl) (by rfl) B.all (by decide +kernel) (pa_cons (pe_lc (own := [("variant", 1)]) (g := (gName 1)) (tt := tYes) (by rfl) sc_is_declaration.nd (pi_tup (pe_ix ix_tup (pv 0) pe_int (fun _ _ => rfl))) (blkOk_by (N := n_is_declaration) (sc := defScope s_is_declaration) (by decide +kernel)) (fun _ _ _ _ _ => (pg_name (i := 1) sc_is_declaration.nd rfl (Or.inl rfl))) (fun _ _ _ _ _ => pts_nil) (fun _ _ _ _ _ => (pe_q c__is_variant hr (by omega) (by rfl) (pa_cons (pv 1) pa_nil)))) pa_nil))))))), ?_⟩
    refine ⟨_, rfl, x, d, 3, rfl, hx, _, rfl, ?_⟩
    cases hb : betw 3 3 d with
    | false => exact iteTd rfl (isDecl_no hb ▸ k H (Same.refl H))
    | true =>
      obtain ⟨ds, rfl, l1, l2⟩ := betw_yes hb
      obtain ⟨x0, x1, x2, rfl⟩ := three_of (show ds.length = 3 by omega)
      obtain ⟨a, xs, rfl, _, e, da⟩ := hx.tupOf
      obtain ⟨u0, hu0, d0x⟩ := da.at' (i := 0) rfl
      obtain ⟨u1, hu1, d1x⟩ := da.at' (i := 1) rfl
      obtain ⟨u2, hu2, d2x⟩ := da.at' (i := 2) rfl
      obtain ⟨_, okd⟩ := ok.tup0
      rw [isDecl_eq] at k
      refine iteFd rfl ⟨_, rfl, a, _, _, _, rfl, rfl, SqT.of e, atI_nat (j := 1) hu1, u1, x1, rfl, d1x, (okd x1 (by simp)).1, fun H1 s1 => ⟨_, rfl, ?_⟩⟩
      have k1 := k H1 s1
      cases c1 : isName x1 with
      | false =>
        rw [c1] at k1
        exact iteTd rfl k1
      | true =>
        have e1 := s1 _ _ e
        have d2x := d2x.same s1
        have d0x := d0x.same s1
        rw [c1] at k
        refine iteFd rfl ⟨_, rfl, a, _, _, _, rfl, rfl, SqT.of e1, atI_nat (j := 0) hu0, x0, "row", d0x, rfl, _, rfl, ?_⟩
        cases c0 : isS "row" x0 with
        | true =>
          rw [c0] at k
          exact iteTd rfl ⟨_, rfl, a, _, _, _, rfl, rfl, SqT.of e1, atI_nat (j := 2) hu2, u2, x2, rfl, d2x, (okd x2 (by simp)).1, fun H2 s2 => k H2 (s1.trans s2)⟩
        | false =>
          rw [c0] at k
          have k : ∀ H', Same H H' → Q (.bl (isS "choice" x0 && betw 1 4 x2 && (items x2).all isVar)) H' := k
          refine iteFd rfl ⟨_, rfl, a, _, _, _, rfl, rfl, SqT.of e1, atI_nat (j := 0) hu0, x0, "choice", d0x, rfl, _, rfl, ?_⟩
          have k1 := k H1 s1
          cases c3 : isS "choice" x0 with
          | false =>
            rw [c3] at k1
            exact iteTd rfl k1
          | true =>
            refine iteFd rfl ⟨_, rfl, a, _, _, _, rfl, rfl, SqT.of e1, atI_nat (j := 2) hu2, u2, x2, 1, 4, rfl, d2x, _, rfl, ?_⟩
            cases c2 : betw 1 4 x2 with
            | false =>
              rw [c3, c2] at k1
              exact iteTd rfl k1
            | true =>
              obtain ⟨es, rfl, _, l3⟩ := betw_yes c2
              obtain ⟨b, ys, rfl, _, eb, db⟩ := d2x.tupOf
              obtain ⟨h100, oke⟩ := (okd (.tuple es) (by simp)).tup0
              rw [c3, c2] at k
              refine iteFd rfl ⟨_, rfl, a, _, _, _, rfl, rfl, SqT.of e1, atI_nat (j := 2) hu2, b, rfl, ⟨_, SqT.of eb⟩, fun D hD => lc_all (Pd := isVar) eb db h100 hD (fun _ => rfl) (fun v d H' R hd s' dv q => ⟨_, rfl, v, d, rfl, dv, oke d hd, q⟩) fun H2 s2 e2 => ⟨D, _, rfl, SqL.of e2, ?_⟩⟩
              rw [all_map]
              exact k H2 (s1.trans s2)
theorem ok_is_function {f : Addr} {fd : FuncData} (F : Fun K "is_function" "is_function" s_is_function f fd) (c_is_tuple_of : Dq P w0 K mg base CX0 1 "is_tuple_of" ["thing", "many"] spTupOf) (c_is_name : Dq P w0 K mg base CX0 1 "is_name" ["thing"] (spJ (fun d => fine d = true) isName)) (c__are_names : Dq P w0 K mg base CX0 2 "_are_names" ["thing", "most"] spNames)
    (c_is_block : Dq P w0 K mg base CX0 (LE DD) "is_block" ["thing"] (spJ (Ok DD) isB)) : FnOk P w0 K mg base CX0 (LE DD + 1) f fd ["thing"] (spJ (Ok DD) isFun) := by
  have hL : 2 ≤ LE DD := by decide
  refine F.ok sc_is_function (fun vs H Q E h => ?_) (fun cdv A outer s H vs Q E hr h => ?_)
  · obtain ⟨x, d, rfl, _⟩ := h
    rfl
  · obtain ⟨x, d, rfl, hx, ok, k⟩ := h
    refine ⟨_, (pss_cons (ps_if (PW.pt (pw_or (pt_not (pt_val (pe_q c_is_tuple_of hr (by omega) (by rfl) (pa_cons (pv 0) (pa_cons pe_int pa_nil))))) (pw_or (pt_cmpR (op_neS hr.units) (pe_ix ix_tup (pv 0) pe_int (fun _ _ => rfl)) pe_str (nomark _)) (pw_or1 (pt_not (pt_val (pe_q c_is_name hr (by omega) (by rfl) (pa_cons (pe_ix ix_tup (pv 0) pe_int (fun _ _ => rfl)) pa_nil)))))))) (pss_one (ps_ret pe_bl)) pss_nil)
      (pss_one (ps_ret (pe_and (pe_q c__are_names hr (by omega) (by rfl) (pa_cons (pe_ix ix_tup (pv 0) pe_int (fun _ _ => rfl)) (pa_cons pe_int pa_nil))) (pe_one (pe_q c_is_block hr (by omega) (by rfl) (pa_cons (pe_ix ix_tup (pv 0) pe_int (fun _ _ => rfl)) pa_nil))))))), ?_⟩
    refine ⟨_, rfl, x, d, 4, rfl, hx, _, rfl, ?_⟩
    cases hb : betw 4 4 d with
    | false => exact iteTd rfl (isFun_no hb ▸ k H (Same.refl H))
    | true =>
      obtain ⟨ds, rfl, l1, l2⟩ := betw_yes hb
      obtain ⟨x0, x1, x2, x3, rfl⟩ := four_of (show ds.length = 4 by omega)
      obtain ⟨a, xs, rfl, _, e, da⟩ := hx.tupOf
      obtain ⟨u0, hu0, d0x⟩ := da.at' (i := 0) rfl
      obtain ⟨u1, hu1, d1x⟩ := da.at' (i := 1) rfl
      obtain ⟨u2, hu2, d2x⟩ := da.at' (i := 2) rfl
      obtain ⟨u3, hu3, d3x⟩ := da.at' (i := 3) rfl
      obtain ⟨_, okd⟩ := ok.tup0
      rw [isFun_eq] at k
      refine iteFd rfl ⟨_, rfl, a, _, _, _, rfl, rfl, SqT.of e, atI_nat (j := 0) hu0, x0, "function", d0x, rfl, _, rfl, ?_⟩
      cases c0 : isS "function" x0 with
      | false =>
        have k1 := k H (Same.refl H)
        rw [c0] at k1
        exact iteTd rfl k1
      | true =>
        rw [c0] at k
        refine iteFd rfl ⟨_, rfl, a, _, _, _, rfl, rfl, SqT.of e, atI_nat (j := 1) hu1, u1, x1, rfl, d1x, (okd x1 (by simp)).1, fun H1 s1 => ⟨_, rfl, ?_⟩⟩
        cases c1 : isName x1 with
        | false =>
          have k1 := k H1 s1
          rw [c1] at k1
          exact iteTd rfl k1
        | true =>
          rw [c1] at k
          refine iteFd rfl ⟨_, rfl, a, _, _, _, rfl, rfl, SqT.of (s1 _ _ e), atI_nat (j := 2) hu2, u2, x2, 3, rfl, d2x.same s1, (okd x2 (by simp)).1, fun H2 s2 => ⟨_, rfl, ?_⟩⟩
          have s12 := s1.trans s2
          cases c2 : areNames 3 x2 with
          | false =>
            have k1 := k H2 s12
            rw [c2] at k1
            exact iteFd rfl k1
          | true =>
            rw [c2] at k
            exact iteTd rfl ⟨_, rfl, a, _, _, _, rfl, rfl, SqT.of (s12 _ _ e), atI_nat (j := 3) hu3, u3, x3, rfl, d3x.same s12, okd x3 (by simp), fun H3 s3 => k H3 (s12.trans s3)⟩
theorem ok_is_unit {f : Addr} {fd : FuncData} (F : Fun K "is_unit" "is_unit" s_is_unit f fd) (B : Bn2t mg) (c_is_tuple_of : Dq P w0 K mg base CX0 1 "is_tuple_of" ["thing", "many"] spTupOf) (c_is_name : Dq P w0 K mg base CX0 1 "is_name" ["thing"] (spJ (fun d => fine d = true) isName)) (c__are_names : Dq P w0 K mg base CX0 2 "_are_names" ["thing", "most"] spNames)
    (c__is_tuple_between : Dq P w0 K mg base CX0 1 "_is_tuple_between" ["thing", "least", "most"] spTupB) (c_is_declaration : Dq P w0 K mg base CX0 4 "is_declaration" ["thing"] (spJ (Ok DD) isDecl)) (c_is_function : Dq P w0 K mg base CX0 (LE DD + 1) "is_function" ["thing"] (spJ (Ok DD) isFun)) : FnOk P w0 K mg base CX0 (LE DD + 2) f fd ["thing"] (spJ (Ok DD) isUnit) := by
  have hL : 4 ≤ LE DD := by decide
  refine F.ok sc_is_unit (fun vs H Q E h => ?_) (fun cdv A outer s H vs Q E hr h => ?_)
  · obtain ⟨x, d, rfl, _⟩ := h
    rfl
  · obtain ⟨x, d, rfl, hx, ok, k⟩ := h
    refine ⟨_, (pss_cons (ps_if (PW.pt (pw_or (pt_not (pt_val (pe_q c_is_tuple_of hr (by omega) (by rfl) (pa_cons (pv 0) (pa_cons pe_int pa_nil))))) (pw_or (pt_cmpR (op_neS hr.units) (pe_ix ix_tup (pv 0) pe_int (fun _ _ => rfl)) pe_str (nomark _)) (pw_or (pt_not (pt_val (pe_q c_is_name hr (by omega) (by rfl) (pa_cons (pe_ix ix_tup (pv 0) pe_int (fun _ _ => rfl)) pa_nil)))) (pw_or1 (pt_not (pt_val (pe_q c__are_names hr (by omega) (by rfl) (pa_cons (pe_ix ix_tup (pv 0) pe_int (fun _ _ => rfl)) (pa_cons pe_int pa_nil)))))))))) (pss_one (ps_ret pe_bl)) pss_nil)
      (pss_cons (ps_if (PW.pt (pw_or (pt_not (pt_val (pe_q c__is_tuple_between hr (by omega) (by rfl) (pa_cons (pe_ix ix_tup (pv 0) pe_int (fun _ _ => rfl)) (pa_cons pe_int (pa_cons pe_int pa_nil)))))) (pw_or1 (pt_not (pt_val (pe_q c__is_tuple_between hr (by omega) (by rfl) (pa_cons (pe_ix ix_tup (pv 0) pe_int (fun _ _ => rfl)) (pa_cons pe_int (pa_cons pe_int pa_nil))))))))) (pss_one (ps_ret pe_bl)) pss_nil)
      (pss_cons (ps_if (pt_not (pt_val (pe_callB (cr_all rfl) (by rfl) B.all (by decide +kernel) (pa_cons (pe_lc (own := [("declaration", 2)]) (g := (gName 2)) (tt := tYes) (by rfl) sc_is_unit.nd (pi_tup (pe_ix ix_tup (pv 0) pe_int (fun _ _ => rfl))) (blkOk_by (N := n_is_unit) (sc := defScope s_is_unit) (by decide +kernel)) (fun _ _ _ _ _ => (pg_name (i := 2) sc_is_unit.nd rfl (Or.inl rfl))) (fun _ _ _ _ _ => pts_nil) (fun _ _ _ _ _ => (pe_q c_is_declaration hr (by omega) (by rfl) (pa_cons (pv 2) pa_nil)))) pa_nil)))) (pss_one (ps_ret pe_bl)) pss_nil)
      (pss_one (ps_ret (pe_callB (cr_all rfl) (by rfl) B.all (by decide +kernel) (pa_cons (pe_lc (own := [("function", 1)]) (g := (gName 1)) (tt := tYes) (by rfl) sc_is_unit.nd (pi_tup (pe_ix ix_tup (pv 0) pe_int (fun _ _ => rfl))) (blkOk_by (N := n_is_unit) (sc := defScope s_is_unit) (by decide +kernel)) (fun _ _ _ _ _ => (pg_name (i := 1) sc_is_unit.nd rfl (Or.inl rfl))) (fun _ _ _ _ _ => pts_nil) (fun _ _ _ _ _ => (pe_q c_is_function hr (by omega) (by rfl) (pa_cons (pv 1) pa_nil)))) pa_nil))))))), ?_⟩
    refine ⟨_, rfl, x, d, 5, rfl, hx, _, rfl, ?_⟩
    cases hb : betw 5 5 d with
    | false => exact iteTd rfl (isUnit_no hb ▸ k H (Same.refl H))
    | true =>
      obtain ⟨ds, rfl, l1, l2⟩ := betw_yes hb
      obtain ⟨x0, x1, x2, x3, x4, rfl⟩ := five_of (show ds.length = 5 by omega)
      obtain ⟨a, xs, rfl, _, e, da⟩ := hx.tupOf
      obtain ⟨u0, hu0, d0x⟩ := da.at' (i := 0) rfl
      obtain ⟨u1, hu1, d1x⟩ := da.at' (i := 1) rfl
      obtain ⟨u2, hu2, d2x⟩ := da.at' (i := 2) rfl
      obtain ⟨u3, hu3, d3x⟩ := da.at' (i := 3) rfl
      obtain ⟨u4, hu4, d4x⟩ := da.at' (i := 4) rfl
      obtain ⟨_, okd⟩ := ok.tup0
      rw [isUnit_eq] at k
      refine iteFd rfl ⟨_, rfl, a, _, _, _, rfl, rfl, SqT.of e, atI_nat (j := 0) hu0, x0, "unit", d0x, rfl, _, rfl, ?_⟩
      cases c0 : isS "unit" x0 with
      | false =>
        have k1 := k H (Same.refl H)
        rw [c0] at k1
        exact iteTd rfl k1
      | true =>
        rw [c0] at k
        refine iteFd rfl ⟨_, rfl, a, _, _, _, rfl, rfl, SqT.of e, atI_nat (j := 1) hu1, u1, x1, rfl, d1x, (okd x1 (by simp)).1, fun H1 s1 => ⟨_, rfl, ?_⟩⟩
        cases c1 : isName x1 with
        | false =>
          have k1 := k H1 s1
          rw [c1] at k1
          exact iteTd rfl k1
        | true =>
          rw [c1] at k
          refine iteFd rfl ⟨_, rfl, a, _, _, _, rfl, rfl, SqT.of (s1 _ _ e), atI_nat (j := 2) hu2, u2, x2, 5, rfl, d2x.same s1, (okd x2 (by simp)).1, fun H2 s2 => ⟨_, rfl, ?_⟩⟩
          have s12 := s1.trans s2
          cases c2 : areNames 5 x2 with
          | false =>
            have k1 := k H2 s12
            rw [c2] at k1
            exact iteTd rfl k1
          | true =>
            rw [c2] at k
            have e12 := s12 _ _ e
            have d3x := d3x.same s12
            have d4x := d4x.same s12
            have k2 := k H2 s12
            refine iteFd rfl ⟨_, rfl, a, _, _, _, rfl, rfl, SqT.of e12, atI_nat (j := 3) hu3, u3, x3, 0, 8, rfl, d3x, _, rfl, ?_⟩
            cases c3 : betw 0 8 x3 with
            | false =>
              rw [c3] at k2
              exact iteTd rfl k2
            | true =>
              rw [c3] at k k2
              refine iteFd rfl ⟨_, rfl, a, _, _, _, rfl, rfl, SqT.of e12, atI_nat (j := 4) hu4, u4, x4, 0, 8, rfl, d4x, _, rfl, ?_⟩
              cases c4 : betw 0 8 x4 with
              | false =>
                rw [c4] at k2
                exact iteTd rfl k2
              | true =>
                rw [c4] at k
                obtain ⟨es, rfl, _, l3⟩ := betw_yes c3
                obtain ⟨gs, rfl, _, l4⟩ := betw_yes c4
                obtain ⟨b, ys, rfl, _, eb, db⟩ := d3x.tupOf
                obtain ⟨c, zs, rfl, _, ec, dc⟩ := d4x.tupOf
                obtain ⟨h100, oke⟩ := (okd (.tuple es) (by simp)).tup0
                obtain ⟨h100', okg⟩ := (okd (.tuple gs) (by simp)).tup0
                have k : ∀ H', Same H H' → Q (.bl (es.all isDecl && gs.all isFun)) H' := k
                refine iteFd rfl ⟨_, rfl, a, _, _, _, rfl, rfl, SqT.of e12, atI_nat (j := 3) hu3, b, rfl, ⟨_, SqT.of eb⟩, fun D hD => lc_all (Pd := isDecl) eb db h100 hD (fun _ => rfl) (fun v d H' R hd s' dv q => ⟨_, rfl, v, d, rfl, dv, oke d hd, q⟩) fun H3 s3 e3 => ⟨D, _, rfl, SqL.of e3, ?_⟩⟩
                rw [all_map]
                have s13 := s12.trans s3
                refine ⟨_, rfl, ?_⟩
                cases c5 : es.all isDecl with
                | false =>
                  have k3 := k H3 s13
                  rw [c5] at k3
                  exact iteTd rfl k3
                | true =>
                  rw [c5] at k
                  refine iteFd rfl ⟨_, rfl, a, _, _, _, rfl, rfl, SqT.of (s13 _ _ e), atI_nat (j := 4) hu4, c, rfl, ⟨_, SqT.of (s3 _ _ ec)⟩, fun D2 hD2 => lc_all (Pd := isFun) (s3 _ _ ec) (dc.same s3) h100' hD2 (fun _ => rfl) (fun v d H' R hd s' dv q => ⟨_, rfl, v, d, rfl, dv, okg d hd, q⟩) fun H4 s4 e4 => ⟨D2, _, rfl, SqL.of e4, ?_⟩⟩
                  rw [all_map]
                  exact k H4 (s13.trans s4)
end
end SA

set_option Elab.async false
set_option linter.all false
set_option maxRecDepth 100000
set_option maxHeartbeats 4000000
namespace SA
open PySem PySem.Spec PyProof.Rows L2
theorem cps_inj {a b : Str} (h : a.cps.toList = b.cps.toList) : a = b := by
  have hc : a.cps = b.cps := Array.toList_inj.mp h
  cases a
  cases b
  cases hc
  rfl
/-! ### the order of texts -/
theorem ltC_eq : ∀ a b : List Nat, ltCps a b = decide (a < b)
  | [], [] => (decide_eq_false (fun h => List.not_lt_nil _ h)).symm
  | [], _ :: _ => (decide_eq_true (List.nil_lt_cons _ _)).symm
  | _ :: _, [] => (decide_eq_false (fun h => List.not_lt_nil _ h)).symm
  | a :: r, b :: t => by
    show (decide (a < b) || (a == b && ltCps r t)) = _
    rw [ltC_eq r t, Bool.eq_iff_iff]
    simp only [Bool.or_eq_true, Bool.and_eq_true, decide_eq_true_eq, beq_iff_eq, List.cons_lt_cons_iff]
theorem leS_not (a b : Str) : leS a b = !ltCps b.cps.toList a.cps.toList := by
  rw [ltC_eq]
  unfold leS
  rw [Bool.eq_iff_iff]
  simp only [decide_eq_true_eq, Bool.not_eq_true', decide_eq_false_iff_not]
  exact Iff.rfl
theorem ltC_trans : ∀ a b c : List Nat, ltCps a b = true → ltCps b c = true → ltCps a c = true
  | [], [], _, h, _ => by simp [ltCps] at h
  | [], _ :: _, [], _, h => by simp [ltCps] at h
  | [], _ :: _, _ :: _, _, _ => rfl
  | _ :: _, [], _, h, _ => by simp [ltCps] at h
  | _ :: _, _ :: _, [], _, h => by simp [ltCps] at h
  | a :: r, b :: t, c :: u, h1, h2 => by
    simp only [ltCps, Bool.or_eq_true, Bool.and_eq_true, decide_eq_true_eq, beq_iff_eq] at *
    rcases h1 with h1 | ⟨rfl, h1⟩ <;> rcases h2 with h2 | ⟨rfl, h2⟩
    · exact .inl (by omega)
    · exact .inl h1
    · exact .inl h2
    · exact .inr ⟨rfl, ltC_trans r t u h1 h2⟩
theorem ltC_tri : ∀ a b : List Nat, a = b ∨ ltCps a b = true ∨ ltCps b a = true
  | [], [] => .inl rfl
  | [], _ :: _ => .inr (.inl rfl)
  | _ :: _, [] => .inr (.inr rfl)
  | a :: r, b :: t => by
    simp only [ltCps, Bool.or_eq_true, Bool.and_eq_true, decide_eq_true_eq, beq_iff_eq, List.cons.injEq]
    rcases ltC_tri r t with h | h | h
    · by_cases e : a = b
      · exact .inl ⟨e, h⟩
      · omega
    · by_cases e : a = b
      · exact .inr (.inl (.inr ⟨e, h⟩))
      · omega
    · by_cases e : a = b
      · exact .inr (.inr (.inr ⟨e.symm, h⟩))
      · omega
theorem ltC_irr : ∀ a : List Nat, ltCps a a = false
  | [] => rfl
  | a :: r => by simp [ltCps, ltC_irr r]
theorem leS_total (a b : Str) : (leS a b || leS b a) = true := by
  rw [leS_not, leS_not]
  rcases ltC_tri a.cps.toList b.cps.toList with h | h | h
  · rw [h, ltC_irr]
    rfl
  · cases h2 : ltCps b.cps.toList a.cps.toList with
    | false => rfl
    | true =>
      have := ltC_trans _ _ _ h h2
      rw [ltC_irr] at this
      cases this
  · cases h2 : ltCps a.cps.toList b.cps.toList with
    | false => simp
    | true =>
      have := ltC_trans _ _ _ h h2
      rw [ltC_irr] at this
      cases this
theorem leS_trans (a b c : Str) (h1 : leS a b = true) (h2 : leS b c = true) : leS a c = true := by
  rw [leS_not] at *
  simp only [Bool.not_eq_true'] at *
  cases h : ltCps c.cps.toList a.cps.toList with
  | false => rfl
  | true =>
    rcases ltC_tri a.cps.toList b.cps.toList with e | e | e
    · rw [← e] at h2
      rw [h2] at h
      cases h
    · have := ltC_trans _ _ _ h e
      rw [this] at h2
      cases h2
    · rw [e] at h1
      cases h1
theorem leS_anti {a b : Str} (h1 : leS a b = true) (h2 : leS b a = true) : a = b := by
  rw [leS_not] at *
  simp only [Bool.not_eq_true'] at *
  rcases ltC_tri a.cps.toList b.cps.toList with e | e | e
  · exact cps_inj e
  · rw [e] at h2
    cases h2
  · rw [e] at h1
    cases h1
theorem leS_refl (a : Str) : leS a a = true := by
  rw [leS_not, ltC_irr]
  rfl
theorem pw_rising : ∀ {l : List Str} {p : Str}, risingS p l = true → (p :: l).Pairwise fun a b => leS a b = true
  | [], p, _ => by simp
  | x :: r, p, h => by
    simp only [risingS, Bool.and_eq_true] at h
    have h1 : leS p x = true := by rw [leS_not]; exact h.1
    have h2 := pw_rising h.2
    rw [List.pairwise_cons]
    refine ⟨fun b hb => ?_, h2⟩
    rcases List.mem_cons.mp hb with rfl | hb
    · exact h1
    · exact leS_trans _ _ _ h1 ((List.pairwise_cons.mp h2).1 b hb)
theorem pw_sorted : ∀ {l : List Str}, sortedS l = true → l.Pairwise fun a b => leS a b = true
  | [], _ => .nil
  | x :: r, h => pw_rising h
theorem sorted_uniq {l m : List Str} (h1 : l.Pairwise fun a b => leS a b = true) (h2 : m.Pairwise fun a b => leS a b = true) (p : l.Perm m) : l = m :=
  List.Perm.eq_of_pairwise (le := fun a b => leS a b = true) (fun a b _ _ h1 h2 => leS_anti h1 h2) h1 h2 p
end SA

set_option Elab.async false
set_option linter.all false
set_option maxRecDepth 100000
set_option maxHeartbeats 4000000
/-! ### set(t), t a tuple of texts that are all different, and its sorted list -/
namespace SA
open PySem PySem.Spec PyProof.Rows L2
open PySem.Froz (SD TxOk sObj addTx tailTx)
/-- the set's payload is in order, or lets its order be asked -/
def SdOk (w : World) (D : SD) : Prop := L2.Ris D.2.2.place.toList ∧ (w.params.followText "set-order" = true ∨ D.2.2.led = true)
def SetS (P : Program) (w : World) (h : Heap) (a : Addr) (l : List Str) : Prop := ∃ D : SD, h.get? a = some (sObj "set" D) ∧ TxOk P w D l ∧ SdOk w D
theorem tail_sd {w : World} {ep : Nat} {es : Array (Int × Value)} {t : SetTable} {b : Bool} (h1 : L2.Ris t.place.toList) (h2 : w.params.followText "set-order" = true ∨ t.led = true) : SdOk w (tailTx ep es t b) := by
  unfold tailTx
  by_cases c : (!b && t.tooFull) = true
  · rw [if_pos c]
    exact ⟨L2.relayAll_ris t es _, h2.imp id fun z => by rw [L2.relayAll_led]; exact z⟩
  · rw [if_neg c]
    exact ⟨h1, h2⟩
theorem add_sd {w : World} {D : SD} {x : Int} {v : Value} (h : SdOk w D) : SdOk w (addTx x v D) := by
  obtain ⟨es, ep, t⟩ := D
  obtain ⟨h1, h2⟩ := h
  have r := L2.layNew_ris t es x v h1
  have l := L2.layNew_led t es x v
  unfold addTx
  refine tail_sd ?_ ?_
  · dsimp only
    split
    · exact r
    · exact r
  · refine h2.imp id fun z => ?_
    dsimp only
    split
    · exact l.trans z
    · exact l.trans z
theorem setS_fresh {P : Program} {h : Heap} (w : World) : SetS P w (h.push { cls := .type "set", data := .set #[] 0 (SetTable.fresh 0 0 !w.params.followText "set-order") }) h.objs.size [] := by
  refine ⟨(#[], 0, SetTable.fresh 0 0 !w.params.followText "set-order"), Heap.get?_push_size _ rfl, TxOk.nil (by rfl), List.Pairwise.nil, ?_⟩
  show _ ∨ (!w.params.followText "set-order") = true
  cases w.params.followText "set-order"
  · exact .inr rfl
  · exact .inl rfl
/-- the values of a tuple of texts -/
inductive StrVs : List Value → List Str → Prop
  | nil : StrVs [] []
  | cons {t : Tok} {z : Str} {us : List Value} {zs : List Str} : StrVs us zs → StrVs (.str z t :: us) (z :: zs)
theorem StrVs.length : ∀ {us : List Value} {zs : List Str}, StrVs us zs → us.length = zs.length
  | _, _, .nil => rfl
  | _, _, .cons h => by rw [List.length_cons, List.length_cons, h.length]
theorem StrVs.at_ : ∀ {us : List Value} {zs : List Str} {i : Nat} {v : Value}, StrVs us zs → us[i]? = some v → ∃ t, v = .str (zs.getD i Str.empty) t ∧ zs[i]? = some (zs.getD i Str.empty)
  | _, _, i, v, .nil, e => by simp at e
  | _, _, 0, v, .cons h, e => by
    cases e
    exact ⟨_, rfl, rfl⟩
  | _, _, i + 1, v, .cons h, e => h.at_ (i := i) e
theorem vals_strVs : ∀ {zs : List Str} {us : List Value}, Vals (zs.map V.str) us → StrVs us zs
  | [], _, h => by
    cases h
    exact .nil
  | z :: zs, _, h => by
    cases h with
    | cons h t =>
      obtain ⟨k, rfl⟩ := h
      exact .cons (vals_strVs t)
theorem loopS {P : Program} {w : World} {A : Around} {E : Value → Shared → Prop} (hh : A.handled = none) {a I l : Addr} {its : List Value} {zs : List Str} (hi : StrVs its zs) (nd : zs.Nodup) (hla : l ≠ a) (hIa : I ≠ a) (hlI : l ≠ I) (hb : its.length + 1 < scanBound) :
    ∀ (m i : Nat) (s : Shared) (Q₁ : Value → Shared → Prop), m = its.length - i → i ≤ its.length → SetS P w s.heap a (zs.take i).reverse → s.heap.IsTupleIter I l i → s.heap.IsTuple l its.toArray →
      (∀ (h' : Heap) (tk : Nat), SetS P w h' a zs.reverse → (∀ (b : Addr) (o : Obj), b ≠ a → b ≠ I → s.heap.get? b = some o → h'.get? b = some o) → Q₁ .none { heap := h', gens := s.gens, drawn := s.drawn, toks := tk, os := s.os }) →
      codeAny (model P w) A (Code.builtin "set.update.loop" { pos := [.ref a, .ref I] }) (wants Q₁ E) s := by
  intro m
  induction m with
  | zero =>
    intro i s Q₁ hm hil R st hl q
    have ei : i = its.length := by omega
    subst ei
    refine codeAny_builtin PyProof.Rows.F.entry_set_update_loop ?_
    unfold PySem.Builtin.«set.update.loop»
    refine wpAny_bind ?_
    have wk := Walks.tuple (prog := P) (w := w) (A := A.under (Code.builtin "set.update.loop" { pos := [.ref a, .ref I] })) hh I l hlI its.toArray
    refine wk.done _ _ _ ?_ fun h' tk hk => ?_
    · exact ⟨by simpa using st, hl⟩
    · have R' : SetS P w h' a zs.reverse := by
        obtain ⟨D, g, f, d⟩ := R
        rw [hi.length, List.take_of_length_le (Nat.le_refl _)] at f
        exact ⟨D, hk _ _ (by simpa using hIa.symm) g, f, d⟩
      exact wpAny_pure (q h' tk R' fun b o _ h2 e => hk b o (by simpa using h2) e)
  | succ m ih =>
    intro i s Q₁ hm hil R st hl q
    refine codeAny_builtin PyProof.Rows.F.entry_set_update_loop ?_
    unfold PySem.Builtin.«set.update.loop»
    refine wpAny_bind ?_
    have wk := Walks.tuple (prog := P) (w := w) (A := A.under (Code.builtin "set.update.loop" { pos := [.ref a, .ref I] })) hh I l hlI its.toArray
    have hlt : i < its.length := by omega
    refine wk.item i _ _ _ (by simpa using hlt) ⟨st, hl⟩ fun v h' tk hv st' hk => ?_
    obtain ⟨t, rfl, ez⟩ := hi.at_ (i := i) (v := v) (by simpa using hv)
    obtain ⟨D, g, f, d⟩ := R
    have g' : h'.get? a = some (sObj "set" D) := hk _ _ (by simpa using hIa.symm) g
    have hl2 := hi.length
    have hin : i < zs.length := by omega
    have hnew : zs.getD i Str.empty ∉ (zs.take i).reverse := fun z => by
      rw [List.mem_reverse] at z
      have nd2 : (zs.take i ++ zs.drop i).Nodup := by
        rw [List.take_append_drop]
        exact nd
      have m2 : zs.getD i Str.empty ∈ zs.drop i := List.mem_of_getElem? (i := 0) (by rw [List.getElem?_drop, Nat.add_zero]; exact ez)
      exact (List.nodup_append.mp nd2).2.2 _ z _ m2 rfl
    refine wpAny_bind (wpAny_holding (wpAny_holding (wpAny_bind ((PySem.strKind P w).pyHash (k := zs.getD i Str.empty) (PySem.Froz.is_str _ _) ?_))))
    refine PySem.Froz.add_x (T := "set") (s := { heap := h', gens := s.gens, drawn := s.drawn, toks := tk + 1, os := s.os }) g' f hnew (by rw [List.length_reverse, List.length_take]; omega) ?_
    have sb : ∀ (b : Addr) (o : Obj), b ≠ a → h'.get? b = some o → (h'.update a fun _ => sObj "set" (addTx (hashStr w (zs.getD i Str.empty)) (.str (zs.getD i Str.empty) t) D)).get? b = some o := fun b o hb e => (Heap.get?_update_other _ _ (Ne.symm hb)).trans e
    refine wpAny_pure ⟨Code.quiet_builtin _ (by decide +kernel), ih (i + 1) _ Q₁ (by omega) (by omega) ?_ ?_ ?_ fun h3 tk3 R3 hk3 => ?_⟩
    · refine ⟨_, PySem.Froz.get_upd _ g' rfl, ?_, add_sd d⟩
      have e2 : (zs.take (i + 1)).reverse = zs.getD i Str.empty :: (zs.take i).reverse := by
        rw [List.take_add_one, ez]
        simp
      rw [e2]
      exact PySem.Froz.add_ok t f
    · exact st'.1.at fun o e => sb I o hIa e
    · exact st'.2.at fun o e => sb l o hla e
    · exact q h3 tk3 R3 fun b o h1 h2' e => hk3 b o h1 h2' (sb b o h1 (hk b o (by simpa using h2') e))
end SA

set_option Elab.async false
set_option linter.all false
set_option maxRecDepth 100000
set_option maxHeartbeats 4000000
namespace SA
open PySem PySem.Spec PyProof.Rows L2
theorem sub_tup_set : PySem.isSubtype (.type "tuple") (.type "set") = pure false := by first | exact PySem.F.sub_tuple_set | (rw [isSubtype_eq_fast] <;> kernel_rfl) | kernel_rfl
theorem sub_tup_froz : PySem.isSubtype (.type "tuple") (.type "frozenset") = pure false := by first | exact PySem.F.sub_tuple_frozenset | (rw [isSubtype_eq_fast] <;> kernel_rfl) | kernel_rfl
theorem code_set_led1 {P : Program} {w : World} {A : Around} {E : Value → Shared → Prop} {s : Shared} {Q₁ : Value → Shared → Prop} (a : Value) (h : Q₁ (.ref s.heap.objs.size) { heap := s.heap.push { cls := .type "set", data := .set #[] 0 (SetTable.fresh 0 0 !w.params.followText "set-order") }, gens := s.gens, drawn := s.drawn, toks := s.toks, os := s.os }) :
    codeAny (model P w) A (Code.call (.builtin "set.__new__") { pos := [.type "set", a] }) (wants Q₁ E) s := by
  refine codeAny_of_tree ?_
  refine wpAny_bind (wpAny_of_eq (PySem.F.newCall_set_1 a) (wpAny_pure ⟨plainId_quiet PySem.F.plain_set_new _, ?_⟩))
  refine codeAny_builtin PySem.F.entry_set_new ?_
  rw [Around.under_plainId PySem.F.plain_set_new]
  have hsub := @sub_set_self
  obtain ⟨hp, g, d, tk, os⟩ := s
  refine wpAny_bind (wpAny_bind (wpAny_pure (wpAny_ite_false rfl (wpAny_bind (wpAny_of_eq hsub (wpAny_ite_false rfl (wpAny_pure ?_)))))))
  refine wpAny_bind (wpAny_bind (wpAny_bind (wpAny_askSetting (wpAny_pure ?_))))
  show wpAny _ _ (newObj (.type "set") (.set #[] 0 (SetTable.fresh 0 0 !w.params.followText "set-order"))) _ _ _
  unfold newObj
  show wpAny _ _ (if (#[] : Array (Int × Value)).size > sizeLine then _ else newObjAsIs (.type "set") (.set #[] 0 (SetTable.fresh 0 0 !w.params.followText "set-order"))) _ _ _
  rw [if_neg (by simp)]
  exact wpAny_bind (wpAny_alloc (wpAny_pure (wpAny_pure h)))
theorem setS_tup {P : Program} {w : World} {A : Around} {E : Value → Shared → Prop} {s : Shared} {l : Addr} {its : List Value} {zs : List Str} {Q : Value → Shared → Prop} (hh : A.handled = none) (hl : s.heap.IsTuple l its.toArray) (hi : StrVs its zs) (nd : zs.Nodup) (hb : its.length + 1 < scanBound)
    (q : ∀ (h' : Heap) (tk : Nat), SetS P w h' s.heap.objs.size zs.reverse → (∀ (b : Addr) (o : Obj), s.heap.get? b = some o → h'.get? b = some o) → Q (.ref s.heap.objs.size) { heap := h', gens := s.gens, drawn := s.drawn, toks := tk, os := s.os }) :
    wpAny (model P w) A (call (.type "set") [.ref l]) Q E s := by
  obtain ⟨c, tl, hmro⟩ := PySem.F.called_set.mro
  have hmade := PySem.F.called_set.made
  have hsub := PySem.F.called_set.sub
  refine wpAny_call (codeAny_of_tree (wpAny_pure ⟨Code.quiet_builtin _ (by decide +kernel), ?_⟩))
  refine codeAny_builtin PySem.F.entry_type_call ?_
  rw [Around.under_plain (weight_type_call_type "set" [.ref l] []) rfl]
  have h1 := PySem.F.called_set.notType
  have h2 := PySem.F.called_set.canCreate
  have hct := PySem.F.typeCall_set_1 (.ref l)
  unfold PySem.Builtin.«type.__call__»
  dsimp only
  refine wpAny_ite_false (by rfl) ?_
  refine wpAny_ite_false (by rfl) ?_
  refine wpAny_bind (wpAny_of_eq hct ?_)
  refine wpAny_bind (wpAny_of_eq hmro ?_)
  refine wpAny_ite_false (by rfl) ?_
  refine wpAny_bind (wpAny_of_eq hmade ?_)
  dsimp only
  refine wpAny_bind (wpAny_pure ?_)
  refine wpAny_bind (wpAny_holding (wpAny_call (codeAny_mono (code_set_led1 (E := fun _ _ => False) (Q₁ := fun v s1 => v = .ref s.heap.objs.size ∧ s1 = { heap := s.heap.push { cls := .type "set", data := .set #[] 0 (SetTable.fresh 0 0 !w.params.followText "set-order") }, gens := s.gens, drawn := s.drawn, toks := s.toks, os := s.os }) (.ref l) ⟨rfl, rfl⟩) fun r s₁ hr => ?_)))
  match r, hr with
  | .ok (.ret v), hr =>
    obtain ⟨rfl, rfl⟩ := hr
    have hS := Heap.get?_push_size s.heap (o := { cls := .type "set", data := .set #[] 0 (SetTable.fresh 0 0 !w.params.followText "set-order") }) rfl
    have hT : Shared.TypeIs { heap := s.heap.push { cls := .type "set", data := .set #[] 0 (SetTable.fresh 0 0 !w.params.followText "set-order") }, gens := s.gens, drawn := s.drawn, toks := s.toks, os := s.os } (.ref s.heap.objs.size) "set" := ⟨_, hS, rfl⟩
    have hli := PySem.F.called_set.init.lookup
    have hbi := PySem.F.called_set.init.bind (.ref s.heap.objs.size)
    refine wpAny_bind (wpAny_isInstance hT hsub ?_)
    refine wpAny_ite_false (by rfl) ?_
    refine wpAny_bind (wpAny_holding ?_)
    unfold callSpecial?
    refine wpAny_bind (wpAny_specialOf hT hli ?_)
    dsimp only
    refine wpAny_holding (wpAny_bind (wpAny_of_eq hbi ?_))
    refine wpAny_bind (wpAny_call (codeAny_call_builtin PySem.F.called_set.init.plain PySem.F.entry_set_init (check_set_init_1 hT ?_)))
    unfold PySem.Builtin.«set.__init__»
    obtain ⟨⟨oc, od, odat, osl⟩, hol, hcl, nl, hdl⟩ := id hl
    obtain rfl : oc = .type "tuple" := hcl
    obtain rfl : odat = .seq its.toArray nl := hdl
    have hol' := Heap.get?_push_of_some { cls := .type "set", data := .set #[] 0 (SetTable.fresh 0 0 !w.params.followText "set-order") } hol
    have hsls : PySem.isSubtype (.type "tuple") (.type "set") = pure false := sub_tup_set
    have hslf : PySem.isSubtype (.type "tuple") (.type "frozenset") = pure false := sub_tup_froz
    have hlS := Heap.lt_size hol
    refine wpAny_bind (wpAny_ite_true (by rfl) (wpAny_pure ?_))
    refine wpAny_bind (wpAny_bind (wpAny_bind (wpAny_typeOf hT (wpAny_ite_false (by rfl) (wpAny_pure (wpAny_pure ?_))))))
    refine wpAny_bind ?_
    unfold checkCount
    refine wpAny_ite_false (by rfl) ?_
    refine wpAny_ite_false (by rfl) ?_
    refine wpAny_ite_false (by rfl) (wpAny_pure ?_)
    refine wpAny_bind (wpAny_pure ?_)
    refine wpAny_bind (wpAny_bind (wpAny_bind (wpAny_load' hS (wpAny_ite_false (by rfl) (wpAny_pure (wpAny_pure ?_))))))
    refine wpAny_ite_false (by rfl) ?_
    refine wpAny_bind (wpAny_bind ?_)
    have hT2 : Shared.TypeIs { heap := s.heap.push { cls := .type "set", data := .set #[] 0 (SetTable.fresh 0 0 !w.params.followText "set-order") }, gens := s.gens, drawn := s.drawn, toks := s.toks, os := s.os } (.ref l) "tuple" := ⟨_, hol', rfl⟩
    unfold Builtin.Frozenset.isAnySet
    refine wpAny_bind (wpAny_isInstance hT2 hsls ?_)
    show wpAny _ _ (isInstance (.ref l) (.type "frozenset")) _ _ _
    refine wpAny_isInstance hT2 hslf ?_
    refine wpAny_ite_false (by rfl) ?_
    refine wpAny_bind (wpAny_typeOf hT2 ?_)
    refine wpAny_ite_false (by rfl) ?_
    have hl1 : (s.heap.push { cls := .type "set", data := .set #[] 0 (SetTable.fresh 0 0 !w.params.followText "set-order") }).IsTuple l its.toArray := ⟨_, hol', rfl, nl, rfl⟩
    refine wpAny_bind (wpAny_pyIter_tuple hl1 ?_)
    have sz := Heap.size_push s.heap { cls := .type "set", data := .set #[] 0 (SetTable.fresh 0 0 !w.params.followText "set-order") }
    have hIa : (s.heap.push { cls := .type "set", data := .set #[] 0 (SetTable.fresh 0 0 !w.params.followText "set-order") }).objs.size ≠ s.heap.objs.size := by rw [sz]; exact Nat.succ_ne_self _
    have hlI : l ≠ (s.heap.push { cls := .type "set", data := .set #[] 0 (SetTable.fresh 0 0 !w.params.followText "set-order") }).objs.size := by rw [sz]; exact Nat.ne_of_lt (Nat.lt_succ_of_lt hlS)
    refine wpAny_bind (wpAny_runValue (codeAny_mono (loopS (A := A.in1.in1) (E := fun _ _ => False) (hh := (show A.in1.in1.handled = none from hh)) hi nd (a := s.heap.objs.size) (l := l) (Nat.ne_of_lt hlS) hIa hlI hb its.length 0 _ (fun v s3 => v = .none ∧ ∃ (h' : Heap) (tk : Nat), s3 = { heap := h', gens := s.gens, drawn := s.drawn, toks := tk, os := s.os } ∧ SetS P w h' s.heap.objs.size zs.reverse ∧ ∀ (b : Addr) (o : Obj), s.heap.get? b = some o → h'.get? b = some o) (by omega) (Nat.zero_le _) ?_ ?_ (hl1.push _) fun h' tk R hk => ?_) fun r s3 hr => ?_))
    · obtain ⟨D, g, r⟩ := setS_fresh (P := P) (h := s.heap) w
      exact ⟨D, Heap.get?_push_of_some _ g, r⟩
    · exact ⟨_, Heap.get?_push_size _ rfl, rfl, rfl⟩
    · refine ⟨rfl, h', tk, rfl, R, fun b o e => hk b o (Nat.ne_of_lt (Heap.lt_size e)) (by rw [sz]; exact Nat.ne_of_lt (Nat.lt_succ_of_lt (Heap.lt_size e))) (Heap.get?_push_of_some _ (Heap.get?_push_of_some _ e))⟩
    · match r, hr with
      | .ok (.ret v), hr =>
        obtain ⟨rfl, h', tk, rfl, R, hk⟩ := hr
        have := q h' tk R hk
        refine wpAny_pure ?_
        refine wpAny_pure ?_
        exact wpAny_pure (wpAny_ite_false (by rfl) (wpAny_pure this))
      | .error e, hr => exact hr.elim
      | .ok .next, hr => exact hr.elim
      | .ok .brk, hr => exact hr.elim
      | .ok .cont, hr => exact hr.elim
  | .error e, hr => exact hr.elim
  | .ok .next, hr => exact hr.elim
  | .ok .brk, hr => exact hr.elim
  | .ok .cont, hr => exact hr.elim
def SetSO (P : Program) (w : World) (a : Addr) (l : List Str) : HO := .ext fun h => SetS P w h a l
theorem setS_new {P : Program} {w : World} {H : Hp} {h : Heap} {a : Addr} {l : List Str} (R : SetS P w h a l) : ObjOk P w H h a (SetSO P w a l) := by
  obtain ⟨D, g, r⟩ := id R
  exact ⟨R, ⟨_, g⟩, fun _ _ ⟨D, g, r⟩ k => ⟨D, k _ g, r⟩⟩
/-- set(t), t a tuple of different texts -/
def rSetTS (P : Program) (w : World) (K : PySem.W.Frag) : List V → Hp → VK → Prop := fun vs H Q => ∃ (a : Addr) (zs : List Str), vs = [.ref a] ∧ SqT K H a (zs.map V.str) ∧ zs.Nodup ∧ zs.length < 64 ∧ ∀ p, H p = none → Q (.ref p) (upd H p (SetSO P w p zs.reverse))
theorem cr_setTS {X : Cx} (hc : X.calm = true) : CallR X (.type "set") (rSetTS X.prog X.w X.K) := by
  intro pins s σ H vs us Q I r h
  obtain ⟨a, zs, rfl, hs, nd, hn, q⟩ := h
  obtain ⟨its, rv, hl, _⟩ := I.tuple hs
  rw [Vals.ref1 r]
  have hlen := rv.length
  rw [List.length_map] at hlen
  refine setS_tup (I.ok.hd hc) hl (vals_strVs rv) nd (by
    have : (100 : Nat) < scanBound := by decide +kernel
    omega) fun h' tk R hk => ?_
  exact ⟨.ref s.heap.objs.size, upd H s.heap.objs.size (SetSO X.prog X.w s.heap.objs.size zs.reverse), I.laid hk (Nat.le_refl _) (setS_new R), rfl, q _ I.fresh⟩
end SA

set_option Elab.async false
set_option linter.all false
set_option maxRecDepth 100000
set_option maxHeartbeats 4000000
namespace SA
open PySem PySem.Spec PyProof.Rows L2
theorem perm_of_sub {α : Type} [DecidableEq α] : ∀ {l m : List α}, l.Nodup → (∀ x ∈ l, x ∈ m) → m.length ≤ l.length → l.Perm m
  | [], m, _, _, h => by
    rw [List.length_eq_zero_iff.mp (Nat.le_zero.mp h)]
  | x :: l, m, nd, hs, hl => by
    obtain ⟨nx, nd'⟩ := List.nodup_cons.mp nd
    have hx := hs x List.mem_cons_self
    have e := List.length_erase_of_mem hx
    have hp := List.length_pos_of_mem hx
    simp only [List.length_cons] at hl
    have := perm_of_sub (l := l) (m := m.erase x) nd' (fun y hy => (List.mem_erase_of_ne (fun z : y = x => nx (by rw [← z]; exact hy))).mpr (hs y (List.mem_cons_of_mem _ hy))) (by omega)
    exact (List.Perm.cons x this).trans (List.perm_cons_erase hx).symm
def txtOf : Value → Str
  | .str z _ => z
  | _ => Str.empty
theorem strs_of : ∀ {vs : List Value}, (∀ v ∈ vs, ∃ z t, v = Value.str z t) → StrsAre vs (vs.map txtOf)
  | [], _ => .nil
  | v :: vs, h => by
    obtain ⟨z, t, rfl⟩ := h v List.mem_cons_self
    exact .cons z t (strs_of fun u hu => h u (List.mem_cons_of_mem _ hu))
theorem is_txt {P : Program} {w : World} {k : Str} {v : Value} (h : (strKind P w).is k v = true) : ∃ t, v = .str k t := by
  cases v with
  | str y t =>
    have e : y = k := by
      have h2 : Value.isStrOf k (.str y t) = true := h
      simpa [Value.isStrOf] using h2
    exact ⟨t, by rw [e]⟩
  | _ => cases h
/-- sorted(s), s such a set -/
def rSortSS (P : Program) (w : World) : List V → Hp → VK → Prop := fun vs H Q => ∃ (a : Addr) (l : List Str), vs = [.ref a] ∧ H a = some (SetSO P w a l) ∧ l.Nodup ∧ l.length < 64 ∧ ∀ ys p, ys.Perm l → sortedS ys = true → H p = none → Q (.ref p) (upd H p (.lst (ys.map V.str)))
theorem sortSS {P : Program} {w : World} {A : Around} {E : Value → Shared → Prop} {s : Shared} {a : Addr} {l : List Str} {Q : Value → Shared → Prop} (R : SetS P w s.heap a l) (nd : l.Nodup) (hh : A.handled = none) (h64 : l.length < 64)
    (q : ∀ s' p (out : List Value) (c : Nat) (ys : List Str), (∀ b o, s.heap.get? b = some o → s'.heap.get? b = some o) → s'.gens = s.gens → s'.os = s.os → s.heap.objs.size ≤ p → s'.heap.get? p = some (seqObj "list" out.toArray c) → StrsAre out ys → ys.Perm l → sortedS ys = true → Q (.ref p) s') :
    wpAny (model P w) A (call (.builtin "sorted") [.ref a]) Q E s := by
  obtain ⟨⟨es, ep, t⟩, g, F, r, led⟩ := R
  have h100 : (100 : Nat) < scanBound := by decide +kernel
  have sz : es.size = l.length := F.sz
  have fit : t.fits es.size = true := F.fit
  refine Calls.call_function_entry kind_sorted plain_sorted entry_sorted (args_sorted1 _) ?_
  unfold Builtin.«sorted»
  refine wpAny_bind (m := checkCount "sorted" 1 1 _) (wpAny_pure ?_)
  refine wpAny_bind (collect_set (A := A.in1) (es := es) (ep := ep) (t := t) hh ⟨_, g, rfl, rfl⟩ fit (by omega) r led fun s1 vs keep big gen1 os1 pm => ?_)
  have lenV : vs.length = l.length := by rw [pm.length_eq, List.length_map, Array.length_toList, sz]
  have each : ∀ v ∈ vs, ∃ z k, v = Value.str z k := fun v hv => by
    obtain ⟨e, he, rfl⟩ := List.mem_map.mp (pm.mem_iff.mp hv)
    obtain ⟨⟨k, hk, _⟩, _⟩ := F.el e he
    obtain ⟨tk, e2⟩ := is_txt hk
    exact ⟨k, tk, e2⟩
  have are := strs_of each
  have pl : (vs.map txtOf).Perm l := by
    refine (perm_of_sub nd (fun k hk => ?_) (by rw [List.length_map, lenV] <;> exact Nat.le_refl _)).symm
    obtain ⟨e, he, hi⟩ := (F.mem k).mp hk
    obtain ⟨tk, e2⟩ := is_txt hi
    exact List.mem_map.mpr ⟨e.2, pm.mem_iff.mpr (List.mem_map.mpr ⟨e, he, rfl⟩), by rw [e2]; rfl⟩
  refine wpAny_bind (wpAny_newList ?_ (by rw [lenV, sizeLine_eq]; omega))
  have new : (s1.heap.push (seqObj "list" vs.toArray 0)).get? s1.heap.objs.size = some (seqObj "list" vs.toArray 0) := Heap.get?_push_size _ rfl
  refine wpAny_bind (wpAny_holding (wpAny_call_entry slot_list_sort ⟨_, new, rfl⟩ entry_list_sort
    (list_sort_treeK strKind_oneLt new are.keysOf (fun v₁ v₂ rest e => keyKind_strs (by rw [← e]; exact are)) (by rw [lenV]; exact h64) fun st' hp hs => ⟨_, rfl, ?_⟩) (args_list_sort _)))
  obtain ⟨ys, g1, g2, g3⟩ := sorted_out_str are hp hs
  obtain ⟨c, at_⟩ := sortedHeap_at (vs := vs) (out := (arrOf st').map (·.2)) new
  refine wpAny_pure ⟨_, rfl, q _ s1.heap.objs.size ((arrOf st').map (·.2)).toList c ys (fun b u e => ?_) gen1 os1 big (by rw [Array.toArray_toList]; exact at_) g1 (g2.trans pl) g3⟩
  have k1 := keep b u e
  have lt := Heap.lt_size k1
  show (sortedHeap (s1.heap.push (seqObj "list" vs.toArray 0)) s1.heap.objs.size vs ((arrOf st').map (·.2))).get? b = some u
  rw [sortedHeap_old (Nat.ne_of_lt lt) (by rw [size_push']; exact Nat.lt_succ_of_lt lt)]
  exact Heap.get?_push_of_some _ k1
theorem inv_reS {X : Cx} {pins : List (Addr × Obj)} {σ : L2.St} {H : Hp} {s s' : Shared} {d : Drawn} {t : Nat} (J : L2.Inv X pins σ H { heap := s'.heap, gens := s.gens, drawn := d, toks := t, os := s.os }) (hg : s'.gens = s.gens) (ho : s'.os = s.os) : L2.Inv X pins σ H s' :=
  ⟨J.ok, ho.trans J.os, hg ▸ J.bare, J.base, J.loc, J.cell, J.free, J.freeC, J.pin, J.hok, J.len⟩
theorem cr_sortSS {X : Cx} (hc : X.calm = true) : CallR X (.builtin "sorted") (rSortSS X.prog X.w) := by
  intro pins s σ H vs us Q I r h
  obtain ⟨a, l, rfl, e, nd, hn, q⟩ := h
  rw [Vals.ref1 r]
  obtain ⟨R, _, _⟩ := I.hok a _ e
  refine sortSS R nd (I.ok.hd hc) hn fun s' p out c ys hk hg ho hp ep hi pm so => ?_
  have hs63 := sizeLine_eq
  refine ⟨.ref p, upd H p (.lst (ys.map V.str)), inv_reS (s := s) (I.laid (t' := 0) hk hp ?_) hg ho, rfl, q ys p pm so (I.hok.fresh hp)⟩
  exact ⟨by rw [List.length_map, pm.length_eq]; omega, out, c, vals_of_strs hi, ep⟩
end SA

set_option Elab.async false
set_option linter.all false
set_option maxRecDepth 100000
set_option maxHeartbeats 4000000
/-! ### min and sorted of a list of data -/
namespace SA
open PySem PySem.Spec PySem.W PyProof.Rows L2
theorem dpAll_at {K : PySem.W.Frag} {H : Hp} : ∀ {xs : List V} {ds : List PyData} {i : Nat} {x : V}, DpAll K H xs ds → xs[i]? = some x → ∃ d, ds[i]? = some d ∧ Dp K H x d
  | _, _, i, _, .nil, e => by simp at e
  | _, _, 0, _, .cons h _, e => by
    cases e
    exact ⟨_, rfl, h⟩
  | _, _, i + 1, _, .cons _ t, e => dpAll_at (i := i) t e
def rMinD (K : PySem.W.Frag) : List V → Hp → VK → Prop := fun vs H Q => ∃ (a : Addr) (xs : List V) (d : PyData) (ds : List PyData), vs = [.ref a] ∧ SqL K H a xs ∧ DpAll K H xs (d :: ds) ∧ AlikeAll (d :: ds) ∧ PyData.depthAll (d :: ds) ≤ 40 ∧ ∀ (i : Nat) (v : V), xs[i]? = some v → (d :: ds)[i]? = some (minD d ds) → Q v H
theorem cr_minD {X : Cx} (hc : X.calm = true) (hu : X.A.units + 64 < cLine) : CallR X (.builtin "min") (rMinD X.K) := by
  intro pins s σ H vs us Q I r h
  obtain ⟨a, xs, d, ds, rfl, hs, dp, al, dep, q⟩ := h
  obtain ⟨its, rv, hl, _⟩ := I.list hs
  rw [Vals.ref1 r]
  obtain ⟨as, rd⟩ := Dp.readsAll I _ _ _ dp rv
  refine min_list_data (I.ok.hd hc) hl.isList (by simpa using rd) al (by omega) fun i v h' tk bs hv hr hk => ?_
  obtain ⟨x, hx, rx⟩ := vals_at rv (by simpa using hv)
  obtain ⟨d', hd', dpx⟩ := dpAll_at dp hx
  obtain ⟨as', rd'⟩ := Dp.reads I _ _ _ dpx rx
  have e : minD d ds = d' := ((Reads.unique (Reads.keeps hk rd')) _ _ hr).1.symm
  exact ⟨x, H, I.kept (t' := tk) hk, rx, q i x hx (by rw [e]; exact hd')⟩
/-- a list of data, sorted -/
def rSortD (K : PySem.W.Frag) : List V → Hp → VK → Prop := fun vs H Q => ∃ (a : Addr) (bs : List (V × PyData)), vs = [.ref a] ∧ SqL K H a (bs.map Prod.fst) ∧ (∀ b ∈ bs, Dp K H b.1 b.2 ∧ b.2.depth ≤ 40) ∧ AllAlike (bs.map Prod.snd) ∧ Sortable (bs.map Prod.snd) ∧
  ∀ p, H p = none → Q (.ref p) (upd H p (.lst ((bs.mergeSort (dataLe false Prod.snd)).map Prod.fst)))
theorem cr_sortD {X : Cx} (hu : X.A.units + 64 < cLine) : CallR X (.builtin "sorted") (rSortD X.K) := by
  intro pins s σ H vs us Q I r h
  obtain ⟨a, bs, rfl, hs, dp, al, so, q⟩ := h
  obtain ⟨its, rv, hl, hz⟩ := I.list hs
  rw [Vals.ref1 r]
  have ev := each_vl (vl := Prod.fst) rv
  have er : ∀ {cs : List (V × PyData)} {us : List Value}, EachIs (fun v (b : V × PyData) => RelV b.1 v) us cs → (∀ b ∈ cs, Dp X.K H b.1 b.2 ∧ b.2.depth ≤ 40) → EachIs (fun v (b : V × PyData) => ∃ as, Reads s.heap v b.2 as) us cs := fun {cs us} h => by
    induction h with
    | nil => exact fun _ => .nil
    | cons h t ih => exact fun hd => .cons (Dp.reads I _ _ _ (hd _ List.mem_cons_self).1 h) (ih fun b hb => hd b (List.mem_cons_of_mem _ hb))
  rw [List.length_map] at hz
  refine sorted_data (enc := fun b : V × PyData => b.2) hl.isList ev (er ev dp) al so hz (fun b hb => by have := (dp b hb).2; omega) fun out e1 e2 => ?_
  obtain ⟨ep, he'⟩ := PyProof.Rows.sortedAll_at s.heap its (List.toArray out)
  refine ⟨.ref _, upd H (s.heap.objs.size + 1) (.lst ((bs.mergeSort (dataLe false Prod.snd)).map Prod.fst)), I.laid (t' := s.toks) (fun _ _ => PyProof.Rows.sortedAll_old) (Nat.le_succ _) ⟨by rw [List.length_map, List.length_mergeSort]; exact hz, out, ep, vl_each e2, by simpa using he'⟩, rfl, q _ (I.hok.fresh (Nat.le_succ _))⟩
end SA

set_option Elab.async false
set_option linter.all false
/-! ### k11: rings of numbers (no kit) -/
namespace G11
theorem nodup_sub : ∀ {l m : List Nat}, l.Nodup → (∀ x ∈ l, x ∈ m) → l.length ≤ m.length
  | [], _, _, _ => Nat.zero_le _
  | x :: l, m, nd, h => by
    have hx := h x List.mem_cons_self
    obtain ⟨nx, nd'⟩ := List.nodup_cons.mp nd
    have := nodup_sub (l := l) (m := m.erase x) nd' fun y hy => (List.mem_erase_of_ne (fun z : y = x => nx (by rw [← z]; exact hy))).mpr (h y (List.mem_cons_of_mem _ hy))
    rw [List.length_erase_of_mem hx] at this
    have hp : 0 < m.length := List.length_pos_of_mem hx
    simp only [List.length_cons]
    omega
/-- one list ahead of another, item by item -/
def lt : List Nat → List Nat → Bool
  | [], [] => false
  | [], _ :: _ => true
  | _ :: _, [] => false
  | x :: xs, y :: ys => decide (x < y) || (decide (x = y) && lt xs ys)
theorem lt_irr : ∀ a, lt a a = false
  | [] => rfl
  | x :: xs => by simp [lt, lt_irr xs]
theorem lt_trans : ∀ {a b c}, lt a b = true → lt b c = true → lt a c = true
  | [], [], _, h, _ => by simp [lt] at h
  | [], _ :: _, [], _, h => by simp [lt] at h
  | [], _ :: _, _ :: _, _, _ => rfl
  | _ :: _, [], _, h, _ => by simp [lt] at h
  | _ :: _, _ :: _, [], _, h => by simp [lt] at h
  | x :: xs, y :: ys, z :: zs, h1, h2 => by
    simp only [lt, Bool.or_eq_true, Bool.and_eq_true, decide_eq_true_eq] at h1 h2 ⊢
    rcases h1 with h1 | ⟨rfl, h1⟩
    · rcases h2 with h2 | ⟨rfl, h2⟩
      · left; omega
      · left; exact h1
    · rcases h2 with h2 | ⟨rfl, h2⟩
      · left; exact h2
      · right; exact ⟨rfl, lt_trans h1 h2⟩
theorem lt_total : ∀ {a b}, a.length = b.length → a ≠ b → lt a b = true ∨ lt b a = true
  | [], [], _, h => absurd rfl h
  | [], _ :: _, h, _ => by simp at h
  | _ :: _, [], h, _ => by simp at h
  | x :: xs, y :: ys, h, hn => by
    simp only [lt, Bool.or_eq_true, Bool.and_eq_true, decide_eq_true_eq]
    by_cases e : x = y
    · subst e
      have := lt_total (a := xs) (b := ys) (by simpa using h) fun z => hn (by rw [z])
      rcases this with z | z
      · exact .inl (.inr ⟨rfl, z⟩)
      · exact .inr (.inr ⟨rfl, z⟩)
    · rcases Nat.lt_or_gt_of_ne e with z | z
      · exact .inl (.inl z)
      · exact .inr (.inl z)
theorem lt_asymm {a b : List Nat} (h : lt a b = true) : lt b a = false := by
  cases e : lt b a with
  | false => rfl
  | true =>
    have := lt_trans h e
    rw [lt_irr] at this
    cases this
theorem lt_snoc {x y : Nat} : ∀ {a b : List Nat}, a.length = b.length → lt a b = true → lt (a ++ [x]) (b ++ [y]) = true
  | [], [], _, h => by simp [lt] at h
  | [], _ :: _, h, _ => by simp at h
  | _ :: _, [], h, _ => by simp at h
  | u :: a, v :: b, h, hl => by
    simp only [lt, List.cons_append, Bool.or_eq_true, Bool.and_eq_true, decide_eq_true_eq] at hl ⊢
    rcases hl with hl | ⟨e, hl⟩
    · exact .inl hl
    · exact .inr ⟨e, lt_snoc (by simpa using h) hl⟩
theorem lt_app {s : List Nat} : ∀ {a b : List Nat}, a.length = b.length → lt a b = true → lt (a ++ s) (b ++ s) = true
  | [], [], _, h => by simp [lt] at h
  | [], _ :: _, h, _ => by simp at h
  | _ :: _, [], h, _ => by simp at h
  | u :: a, v :: b, h, hl => by
    simp only [lt, List.cons_append, Bool.or_eq_true, Bool.and_eq_true, decide_eq_true_eq] at hl ⊢
    rcases hl with hl | ⟨e, hl⟩
    · exact .inl hl
    · exact .inr ⟨e, lt_app (by simpa using h) hl⟩
theorem lt_last {x y : Nat} : ∀ {a : List Nat}, x < y → lt (a ++ [x]) (a ++ [y]) = true
  | [], h => by simp [lt, h]
  | u :: a, h => by simp [lt, lt_last h]
/-- a least one among lists of one length -/
theorem least_nat {P : Nat → Prop} (h : ∃ n, P n) : ∃ n, P n ∧ ∀ m, P m → n ≤ m := by
  obtain ⟨n, hn⟩ := h
  induction n using Nat.strongRecOn with
  | _ n ih =>
    by_cases e : ∃ m, m < n ∧ P m
    · obtain ⟨m, hm, hp⟩ := e
      exact ih m hm hp
    · exact ⟨n, hn, fun m hm => Nat.le_of_not_lt fun z => e ⟨m, z, hm⟩⟩
theorem least_list : ∀ (k : Nat) {P : List Nat → Prop}, (∃ r, r.length = k ∧ P r) → ∃ r, r.length = k ∧ P r ∧ ∀ r', r'.length = k → P r' → lt r' r = false
  | 0, P, ⟨r, hl, hp⟩ => ⟨r, hl, hp, fun r' hl' _ => by
    rw [List.length_eq_zero_iff.mp hl, List.length_eq_zero_iff.mp hl']
    rfl⟩
  | k + 1, P, ⟨r, hl, hp⟩ => by
    obtain ⟨x, hx, least⟩ := least_nat (P := fun x => ∃ r, r.length = k ∧ P (x :: r)) (by
      match r, hl with
      | x :: r, hl => exact ⟨x, r, by simpa using hl, hp⟩)
    obtain ⟨r1, h1, h2, h3⟩ := least_list k (P := fun r => P (x :: r)) hx
    refine ⟨x :: r1, by simp [h1], h2, fun r' hl' hp' => ?_⟩
    match r', hl' with
    | y :: r', hl' =>
      have hl2 : r'.length = k := by simpa using hl'
      have := least y ⟨r', hl2, hp'⟩
      by_cases e : y = x
      · subst e
        simp [lt, h3 r' hl2 hp']
      · simp only [lt, Bool.or_eq_false_iff, Bool.and_eq_false_iff, decide_eq_false_iff_not]
        exact ⟨by omega, .inl e⟩
section
variable (adj : Nat → List Nat)
/-- a walk from x on -/
def Wk : Nat → List Nat → Prop
  | _, [] => True
  | x, y :: r => y ∈ adj x ∧ Wk y r
def lst : Nat → List Nat → Nat
  | x, [] => x
  | _, y :: r => lst y r
/-- a closed walk -/
def Cl (x : Nat) (r : List Nat) : Prop := Wk adj x r ∧ x ∈ adj (lst x r)
variable {adj}
theorem lst_snoc : ∀ {x z : Nat} {r : List Nat}, lst x (r ++ [z]) = z
  | _, _, [] => rfl
  | _, _, y :: r => lst_snoc (x := y) (r := r)
theorem lst_app : ∀ {x : Nat} {r s : List Nat}, lst x (r ++ s) = lst (lst x r) s
  | _, [], _ => rfl
  | _, y :: r, s => lst_app (x := y) (r := r)
theorem wk_app : ∀ {x : Nat} {r s : List Nat}, Wk adj x (r ++ s) ↔ Wk adj x r ∧ Wk adj (lst x r) s
  | _, [], _ => by simp [Wk, lst]
  | x, y :: r, s => by simp only [List.cons_append, Wk, lst, wk_app (x := y) (r := r), and_assoc]
theorem lst_eq : ∀ {x : Nat} {r : List Nat}, (x :: r).getLastD 0 = lst x r
  | _, [] => rfl
  | x, y :: r => by
    show (y :: r).getLastD x = lst y r
    rw [List.getLastD_cons] <;> exact (show _ from by
      have := lst_eq (x := y) (r := r)
      rw [List.getLastD_cons] at this
      exact this)
theorem lst_mem : ∀ {x : Nat} {r : List Nat}, lst x r ∈ x :: r
  | _, [] => List.mem_cons_self
  | x, y :: r => List.mem_cons_of_mem _ (lst_mem (x := y) (r := r))
/-- one step on around the ring -/
theorem cl_turn {x y : Nat} {r : List Nat} (h : Cl adj x (y :: r)) : Cl adj y (r ++ [x]) := by
  obtain ⟨⟨h1, h2⟩, h3⟩ := h
  refine ⟨wk_app.mpr ⟨h2, h3, trivial⟩, ?_⟩
  rw [lst_snoc]
  exact h1
/-- turned so that any of its nodes comes first -/
theorem cl_turns {x : Nat} {r : List Nat} (h : Cl adj x r) : ∀ {z : Nat}, z ∈ x :: r → ∃ s, Cl adj z s ∧ s.length = r.length ∧ ∀ y, y ∈ z :: s ↔ y ∈ x :: r := by
  intro z hz
  -- the place of z
  obtain ⟨a, b, e⟩ := List.append_of_mem hz
  match a, e with
  | [], e =>
    injection e with e1 e2
    subst e1 e2
    exact ⟨_, h, rfl, fun _ => Iff.rfl⟩
  | u :: a, e =>
    injection e with e1 e2
    subst e1
    have e2 : r = a ++ z :: b := e2
    subst e2
    obtain ⟨h1, h3⟩ := h
    obtain ⟨h1, h2⟩ := wk_app.mp h1
    obtain ⟨hz1, h2⟩ := h2
    rw [lst_app] at h3
    refine ⟨b ++ x :: a, ⟨wk_app.mpr ⟨h2, h3, h1⟩, ?_⟩, by simp; omega, fun y => by simp; constructor <;> (intro q; rcases q with q | q | q | q <;> simp [q])⟩
    rw [lst_app]
    exact hz1
end
end G11

set_option Elab.async false
set_option linter.all false
/-! ### k11: the due ring (no kit) -/
namespace G11
section
variable {adj : Nat → List Nat}
/-- a closed walk as a list -/
def Clw (adj : Nat → List Nat) : List Nat → Prop
  | [] => False
  | x :: r => Cl adj x r
/-- as short as any, and ahead of the others that are as short -/
def Leq (w w' : List Nat) : Prop := w.length ≤ w'.length ∧ (w'.length = w.length → lt w' w = false)
def Due (adj : Nat → List Nat) (w : List Nat) : Prop := Clw adj w ∧ ∀ w', Clw adj w' → Leq w w'
theorem Leq.anti {a b : List Nat} (h : Leq a b) (k : Leq b a) : a = b := by
  have e : a.length = b.length := Nat.le_antisymm h.1 k.1
  by_cases n : a = b
  · exact n
  · rcases lt_total e n with z | z
    · rw [k.2 e] at z
      cases z
    · rw [h.2 e.symm] at z
      cases z
theorem Leq.trans {a b c : List Nat} (h : Leq a b) (k : Leq b c) : Leq a c := by
  refine ⟨Nat.le_trans h.1 k.1, fun e => ?_⟩
  have e1 : b.length = a.length := by have := h.1; have := k.1; omega
  have e2 : c.length = b.length := by omega
  cases z : lt c a with
  | false => rfl
  | true =>
    by_cases n : b = a
    · subst n
      rw [k.2 e2] at z
      cases z
    · rcases lt_total e1 n with y | y
      · rw [h.2 e1] at y
        cases y
      · have := lt_trans z y
        rw [k.2 e2] at this
        cases this
theorem Due.uniq {a b : List Nat} (h : Due adj a) (k : Due adj b) : a = b := (h.2 b k.1).anti (k.2 a h.1)
/-- the least closed walk with a property -/
theorem least_walk {P : List Nat → Prop} (h : ∃ w, P w) : ∃ w, P w ∧ ∀ w', P w' → Leq w w' := by
  obtain ⟨n, ⟨w0, h1, h2⟩, least⟩ := least_nat (P := fun n => ∃ w, P w ∧ w.length = n) (let ⟨w, h⟩ := h; ⟨_, w, h, rfl⟩)
  obtain ⟨w, e, hp, hl⟩ := least_list n (P := P) ⟨w0, h2, h1⟩
  exact ⟨w, hp, fun w' hp' => ⟨e ▸ least _ ⟨w', hp', rfl⟩, fun e' => hl w' (e'.trans e) hp'⟩⟩
theorem twice : ∀ {l : List Nat}, ¬ l.Nodup → ∃ z u a b, l = u ++ z :: (a ++ z :: b)
  | [], h => absurd List.nodup_nil h
  | x :: l, h => by
    by_cases hx : x ∈ l
    · obtain ⟨a, b, e⟩ := List.append_of_mem hx
      exact ⟨x, [], a, b, by rw [e]; rfl⟩
    · obtain ⟨z, u, a, b, e⟩ := twice (l := l) fun nd => h (List.nodup_cons.mpr ⟨hx, nd⟩)
      exact ⟨z, x :: u, a, b, by rw [e]; rfl⟩
/-- a way that comes twice to a node holds a shorter closed walk -/
theorem cl_cut {x z : Nat} {r u a b : List Nat} (h : Wk adj x r) (e : x :: r = u ++ z :: (a ++ z :: b)) : Cl adj z a := by
  match u, e with
  | [], e =>
    injection e with e1 e2
    subst e1
    have e2 : r = a ++ x :: b := e2
    subst e2
    obtain ⟨h1, h2, _⟩ := wk_app.mp h
    exact ⟨h1, h2⟩
  | v :: u, e =>
    injection e with e1 e2
    have e2 : r = u ++ z :: (a ++ z :: b) := e2
    subst e2
    obtain ⟨_, _, h2⟩ := wk_app.mp h
    obtain ⟨h1, h3, _⟩ := wk_app.mp h2
    exact ⟨h1, h3⟩
theorem Due.simple {x : Nat} {r : List Nat} (h : Due adj (x :: r)) : (x :: r).Nodup := by
  by_cases n : (x :: r).Nodup
  · exact n
  · obtain ⟨z, u, a, b, e⟩ := twice n
    have := (h.2 (z :: a) (cl_cut h.1.1 e)).1
    rw [e] at this
    simp at this
    omega
theorem Due.first {x : Nat} {r : List Nat} (h : Due adj (x :: r)) : ∀ y ∈ r, x < y := by
  intro y hy
  have nd := List.nodup_cons.mp h.simple
  by_cases hlt : x < y
  · exact hlt
  · have ne : y ≠ x := fun z => nd.1 (z ▸ hy)
    obtain ⟨s, hs, hl, _⟩ := cl_turns h.1 (List.mem_cons_of_mem x hy)
    have := (h.2 (y :: s) hs).2 (by simp [hl])
    have h2 : y < x := by omega
    simp [lt, h2] at this
/-! ### the program's search from one node -/
variable (adj)
/-- names that come next -/
def ext (way : List Nat) : List Nat → List Nat → List (List Nat) → List Nat × List (List Nat)
  | [], met, lg => (met, lg)
  | n :: ns, met, lg => if n ∈ met then ext way ns met lg else ext way ns (met ++ [n]) (lg ++ [way ++ [n]])
def lvl (sa : Nat → List Nat) (first : Nat) : List (List Nat) → List Nat → List (List Nat) → Option (List Nat) × List Nat × List (List Nat)
  | [], met, lg => (none, met, lg)
  | w :: ws, met, lg => if first ∈ adj (w.getLastD 0) then (some w, met, lg) else lvl sa first ws (ext w (sa (w.getLastD 0)) met lg).1 (ext w (sa (w.getLastD 0)) met lg).2
variable {adj}
/-- the ways of a level: in their order, each a walk, of one length -/
structure Lv (adj : Nat → List Nat) (first i : Nat) (ws : List (List Nat)) : Prop where
  inc : ws.Pairwise (fun a b => lt a b = true)
  is : ∀ w ∈ ws, ∃ r, w = first :: r ∧ r.length = i ∧ Wk adj first r
/-- what is known of the least closed walk: x0 :: r0 -/
def MinF (adj : Nat → List Nat) (first : Nat) (w : List Nat) : Prop := (∃ r, w = first :: r ∧ Cl adj first r) ∧ ∀ r', Cl adj first r' → Leq w (first :: r')
theorem exists_min {first : Nat} (h : ∃ r, Cl adj first r) : ∃ w, MinF adj first w := by
  obtain ⟨w, h1, h2⟩ := least_walk (P := fun w => ∃ r, w = first :: r ∧ Cl adj first r) (let ⟨r, h⟩ := h; ⟨_, r, rfl, h⟩)
  exact ⟨w, h1, fun r' h' => h2 _ ⟨r', rfl, h'⟩⟩
/-- in a level's work: met holds ends of walks not longer than the level's, or of walks laid ready -/
structure Mid (adj : Nat → List Nat) (first i : Nat) (met : List Nat) (lg : List (List Nat)) (done : List (List Nat)) : Prop where
  nd : met.Nodup
  lv : Lv adj first (i + 1) lg
  old : ∀ x ∈ met, (∃ r, r.length ≤ i ∧ Wk adj first r ∧ lst first r = x) ∨ ∃ w ∈ done, w ++ [x] ∈ lg
  from_ : ∀ v ∈ lg, ∃ w ∈ done, ∃ x, v = w ++ [x] ∧ x ∈ met
theorem ext_len {way : List Nat} : ∀ {ns met : List Nat} {lg : List (List Nat)}, (ext way ns met lg).1.length + lg.length = met.length + (ext way ns met lg).2.length
  | [], _, _ => by simp [ext]
  | n :: ns, met, lg => by
    unfold ext
    split
    · exact ext_len
    · have := ext_len (way := way) (ns := ns) (met := met ++ [n]) (lg := lg ++ [way ++ [n]])
      simp only [List.length_append, List.length_cons, List.length_nil] at this
      omega
theorem ext_sub {way : List Nat} : ∀ {ns met : List Nat} {lg : List (List Nat)}, (∀ x ∈ met, x ∈ (ext way ns met lg).1) ∧ (∀ v ∈ lg, v ∈ (ext way ns met lg).2) ∧ (∀ x ∈ (ext way ns met lg).1, x ∈ met ∨ x ∈ ns)
  | [], _, _ => ⟨fun _ h => h, fun _ h => h, fun _ h => .inl h⟩
  | n :: ns, met, lg => by
    unfold ext
    split
    · obtain ⟨h1, h2, h3⟩ := ext_sub (way := way) (ns := ns) (met := met) (lg := lg)
      exact ⟨h1, h2, fun x hx => (h3 x hx).imp id (List.mem_cons_of_mem _)⟩
    · obtain ⟨h1, h2, h3⟩ := ext_sub (way := way) (ns := ns) (met := met ++ [n]) (lg := lg ++ [way ++ [n]])
      refine ⟨fun x hx => h1 x (List.mem_append_left _ hx), fun v hv => h2 v (List.mem_append_left _ hv), fun x hx => ?_⟩
      rcases h3 x hx with z | z
      · rcases List.mem_append.mp z with z | z
        · exact .inl z
        · rw [List.mem_singleton.mp z]
          exact .inr List.mem_cons_self
      · exact .inr (List.mem_cons_of_mem _ z)
/-- each name is met behind it -/
theorem ext_all {way : List Nat} : ∀ {ns met : List Nat} {lg : List (List Nat)}, ∀ x ∈ ns, x ∈ (ext way ns met lg).1
  | n :: ns, met, lg, x, hx => by
    unfold ext
    split
    · rename_i h
      rcases List.mem_cons.mp hx with rfl | hx
      · exact ext_sub.1 _ h
      · exact ext_all x hx
    · rcases List.mem_cons.mp hx with rfl | hx
      · exact ext_sub.1 _ (List.mem_append_right _ (List.mem_singleton.mpr rfl))
      · exact ext_all x hx
/-- a name that was not met yet is laid ready -/
theorem ext_new {way : List Nat} : ∀ {ns met : List Nat} {lg : List (List Nat)}, ns.Nodup → ∀ x ∈ ns, x ∉ met → way ++ [x] ∈ (ext way ns met lg).2
  | n :: ns, met, lg, nd, x, hx, hm => by
    obtain ⟨nn, nd⟩ := List.nodup_cons.mp nd
    unfold ext
    rcases List.mem_cons.mp hx with rfl | hx
    · rw [if_neg hm]
      exact ext_sub.2.1 _ (List.mem_append_right _ (List.mem_singleton.mpr rfl))
    · split
      · exact ext_new nd x hx hm
      · refine ext_new nd x hx fun z => ?_
        rcases List.mem_append.mp z with z | z
        · exact hm z
        · exact nn (List.mem_singleton.mp z ▸ hx)
theorem ext_mid {first i : Nat} {r : List Nat} {done : List (List Nat)} (hr : Wk adj first r) (hl : r.length = i) (hd : ∀ w ∈ done, w.length = (first :: r).length ∧ lt w (first :: r) = true) :
    ∀ {ns met : List Nat} {lg : List (List Nat)}, ns.Pairwise (· < ·) → (∀ x ∈ ns, x ∈ adj (lst first r)) → Mid adj first i met lg (done ++ [first :: r]) → (∀ x ∈ ns, ∀ v ∈ lg, lt v ((first :: r) ++ [x]) = true) →
      Mid adj first i (ext (first :: r) ns met lg).1 (ext (first :: r) ns met lg).2 (done ++ [first :: r])
  | [], _, _, _, _, M, _ => M
  | n :: ns, met, lg, hp, ha, M, hlt => by
    obtain ⟨h1, h2⟩ := List.pairwise_cons.mp hp
    unfold ext
    split
    · exact ext_mid hr hl hd h2 (fun x hx => ha x (List.mem_cons_of_mem _ hx)) M fun x hx => hlt x (List.mem_cons_of_mem _ hx)
    · rename_i hn
      have here : first :: r ∈ done ++ [first :: r] := List.mem_append_right _ (List.mem_singleton.mpr rfl)
      refine ext_mid hr hl hd h2 (fun x hx => ha x (List.mem_cons_of_mem _ hx)) ⟨?_, ⟨?_, fun w hw => ?_⟩, fun x hx => ?_, fun v hv => ?_⟩ fun x hx v hv => ?_
      · rw [List.nodup_append]
        exact ⟨M.nd, List.nodup_cons.mpr ⟨List.not_mem_nil, List.nodup_nil⟩, fun a h b hb z => hn (by rw [← List.mem_singleton.mp hb, ← z]; exact h)⟩
      · rw [List.pairwise_append]
        exact ⟨M.lv.inc, List.pairwise_cons.mpr ⟨fun _ h => absurd h List.not_mem_nil, List.Pairwise.nil⟩, fun a h b hb => by
          rw [List.mem_singleton.mp hb]
          exact hlt n List.mem_cons_self a h⟩
      · rcases List.mem_append.mp hw with hw | hw
        · exact M.lv.is w hw
        · refine ⟨r ++ [n], by rw [List.mem_singleton.mp hw]; rfl, by simp [hl], wk_app.mpr ⟨hr, ha n List.mem_cons_self, trivial⟩⟩
      · rcases List.mem_append.mp hx with hx | hx
        · rcases M.old x hx with z | ⟨w, h1, h2⟩
          · exact .inl z
          · exact .inr ⟨w, h1, List.mem_append_left _ h2⟩
        · rw [List.mem_singleton.mp hx]
          exact .inr ⟨_, here, List.mem_append_right _ (List.mem_singleton.mpr rfl)⟩
      · rcases List.mem_append.mp hv with hv | hv
        · obtain ⟨w, h1, x, h2, h3⟩ := M.from_ v hv
          exact ⟨w, h1, x, h2, List.mem_append_left _ h3⟩
        · exact ⟨_, here, n, List.mem_singleton.mp hv, List.mem_append_right _ (List.mem_singleton.mpr rfl)⟩
      · rcases List.mem_append.mp hv with hv | hv
        · exact hlt x (List.mem_cons_of_mem _ hx) v hv
        · rw [List.mem_singleton.mp hv]
          exact lt_last (h1 x hx)
end
end G11

set_option Elab.async false
set_option linter.all false
/-! ### k11: the search, level by level (no kit) -/
namespace G11
section
variable {adj : Nat → List Nat}
structure SaOk (adj sa : Nat → List Nat) : Prop where
  inc : ∀ x, (sa x).Pairwise (· < ·)
  mem : ∀ x y, y ∈ sa x ↔ y ∈ adj x
theorem pw_nodup {l : List Nat} (h : l.Pairwise (· < ·)) : l.Nodup := h.imp fun h => Nat.ne_of_lt h
theorem lvl_ok {sa : Nat → List Nat} (S : SaOk adj sa) {first i : Nat} : ∀ {ws done met lg}, Lv adj first i (done ++ ws) → Mid adj first i met lg done →
    (∀ w, (lvl adj sa first ws met lg).1 = some w → ∃ a b, ws = a ++ w :: b ∧ first ∈ adj (w.getLastD 0) ∧ ∀ v ∈ a, first ∉ adj (v.getLastD 0)) ∧
    ((lvl adj sa first ws met lg).1 = none → Mid adj first i (lvl adj sa first ws met lg).2.1 (lvl adj sa first ws met lg).2.2 (done ++ ws) ∧ (∀ w ∈ ws, first ∉ adj (w.getLastD 0)) ∧ (∀ x ∈ lg, x ∈ (lvl adj sa first ws met lg).2.2) ∧
      (lvl adj sa first ws met lg).2.1.length + lg.length = met.length + (lvl adj sa first ws met lg).2.2.length ∧
      (∀ x ∈ (lvl adj sa first ws met lg).2.1, x ∈ met ∨ ∃ y, x ∈ adj y) ∧
      ∀ r v, first :: r ∈ ws → v ∈ adj (lst first r) → (∀ r', r'.length ≤ i → Wk adj first r' → lst first r' ≠ v) → (∀ r', r'.length = i → Wk adj first (r' ++ [v]) → lt (first :: r') (first :: r) = true → False) → (first :: r) ++ [v] ∈ (lvl adj sa first ws met lg).2.2)
  | [], done, met, lg, L, M => ⟨fun w h => by simp [lvl] at h, fun _ => ⟨by rw [List.append_nil]; exact M, fun _ h => absurd h List.not_mem_nil, fun _ h => h, rfl, fun _ h => .inl h, fun _ _ h => absurd h List.not_mem_nil⟩⟩
  | w :: ws, done, met, lg, L, M => by
    by_cases hf : first ∈ adj (w.getLastD 0)
    · have e : lvl adj sa first (w :: ws) met lg = (some w, met, lg) := by rw [lvl, if_pos hf]
      rw [e]
      exact ⟨fun w' h => by
        cases h
        exact ⟨[], ws, rfl, hf, fun _ h => absurd h List.not_mem_nil⟩, fun h => by cases h⟩
    · have e : lvl adj sa first (w :: ws) met lg = lvl adj sa first ws (ext w (sa (w.getLastD 0)) met lg).1 (ext w (sa (w.getLastD 0)) met lg).2 := by rw [lvl, if_neg hf]
      rw [e]
      obtain ⟨r, ew, hl, hr⟩ := L.is w (List.mem_append_right _ List.mem_cons_self)
      subst ew
      rw [lst_eq] at hf ⊢
      have before : ∀ v ∈ done, v.length = (first :: r).length ∧ lt v (first :: r) = true := fun v hv => by
        obtain ⟨r', e', hl', _⟩ := L.is v (List.mem_append_left _ hv)
        exact ⟨by rw [e']; simp [hl, hl'], (List.pairwise_append.mp L.inc).2.2 v hv _ List.mem_cons_self⟩
      have M0 : Mid adj first i met lg (done ++ [first :: r]) := ⟨M.nd, M.lv, fun x hx => (M.old x hx).imp id fun ⟨w, h1, h2⟩ => ⟨w, List.mem_append_left _ h1, h2⟩, fun v hv => let ⟨w, h1, x, h2, h3⟩ := M.from_ v hv; ⟨w, List.mem_append_left _ h1, x, h2, h3⟩⟩
      have M1 := ext_mid hr hl before (S.inc (lst first r)) (fun x hx => (S.mem _ _).mp hx) M0 fun x hx v hv => by
        obtain ⟨w', h1, x', e', _⟩ := M.from_ v hv
        rw [e']
        exact lt_snoc (before w' h1).1 (before w' h1).2
      have eA : done ++ (first :: r) :: ws = (done ++ [first :: r]) ++ ws := by simp
      obtain ⟨ih1, ih2⟩ := lvl_ok S (ws := ws) (eA ▸ L) M1
      refine ⟨fun w' h => ?_, fun h => ?_⟩
      · obtain ⟨a, b, e1, e2, e3⟩ := ih1 w' h
        refine ⟨(first :: r) :: a, b, by rw [e1]; rfl, e2, fun v hv => ?_⟩
        rcases List.mem_cons.mp hv with rfl | hv
        · rw [lst_eq]
          exact hf
        · exact e3 v hv
      · obtain ⟨j1, j2, j3, j4, j6, j5⟩ := ih2 h
        refine ⟨eA ▸ j1, fun v hv => ?_, fun x hx => j3 x (ext_sub.2.1 x hx), ?_, fun x hx => ?_, fun r2 v hm hv n1 n2 => ?_⟩
        · rcases List.mem_cons.mp hv with rfl | hv
          · rw [lst_eq]
            exact hf
          · exact j2 v hv
        · have := ext_len (way := first :: r) (ns := sa (lst first r)) (met := met) (lg := lg)
          omega
        · rcases j6 x hx with z | z
          · rcases ext_sub.2.2 x z with z | z
            · exact .inl z
            · exact .inr ⟨_, (S.mem _ _).mp z⟩
          · exact .inr z
        · rcases List.mem_cons.mp hm with z | hm
          · injection z with _ z
            subst z
            refine j3 _ (ext_new (pw_nodup (S.inc _)) v ((S.mem _ _).mpr hv) fun hmet => ?_)
            rcases M.old v hmet with ⟨r', q1, q2, q3⟩ | ⟨w', q1, q2⟩
            · exact n1 r' q1 q2 q3
            · obtain ⟨r', e', hl', hw'⟩ := L.is w' (List.mem_append_left _ q1)
              obtain ⟨r3, e3, _, hw3⟩ := M.lv.is _ q2
              rw [e'] at e3
              injection e3 with _ e3
              have e3 : r' ++ [v] = r3 := e3
              rw [← e3] at hw3
              exact n2 r' hl' hw3 (e' ▸ (before w' q1).2)
          · exact j5 r2 v hm hv n1 n2
variable (adj)
def bfs (sa : Nat → List Nat) (first : Nat) : Nat → List (List Nat) → List Nat → Option (Option (List Nat))
  | 0, ws, _ => if ws = [] then some none else none
  | k + 1, ws, met => if ws = [] then some none else match (lvl adj sa first ws met []).1 with
    | some w => some (some w)
    | none => bfs sa first k (lvl adj sa first ws met []).2.2 (lvl adj sa first ws met []).2.1
variable {adj}
theorem bfs_ok {sa : Nat → List Nat} (S : SaOk adj sa) {first : Nat} {ns : List Nat} (hns : ∀ x y, y ∈ adj x → y ∈ ns) : ∀ {k i : Nat} {ws : List (List Nat)} {met : List Nat}, Lv adj first i ws → Mid adj first i met [] [] → (∀ x ∈ met, x ∈ ns) → (ws ≠ [] → ns.length + 1 ≤ met.length + k) →
    ((¬ ∃ r, Cl adj first r) → bfs adj sa first k ws met = some none) ∧ ∀ r, MinF adj first (first :: r) → (∃ a b, r = a ++ b ∧ a.length = i ∧ first :: a ∈ ws) → bfs adj sa first k ws met = some (some (first :: r))
  | 0, i, ws, met, L, M, hm, hk => by
    have e : ws = [] := by
      by_cases e : ws = []
      · exact e
      · have := hk e
        have := nodup_sub M.nd hm
        omega
    subst e
    exact ⟨fun _ => rfl, fun r _ ⟨a, b, _, _, h⟩ => absurd h List.not_mem_nil⟩
  | k + 1, i, ws, met, L, M, hm, hk => by
    by_cases e : ws = []
    · subst e
      exact ⟨fun _ => rfl, fun r _ ⟨a, b, _, _, h⟩ => absurd h List.not_mem_nil⟩
    · have hk := hk e
      obtain ⟨q1, q2⟩ := lvl_ok S (done := []) L M
      have eB : bfs adj sa first (k + 1) ws met = match (lvl adj sa first ws met []).1 with
        | some w => some (some w)
        | none => bfs adj sa first k (lvl adj sa first ws met []).2.2 (lvl adj sa first ws met []).2.1 := by rw [bfs, if_neg e]
      rw [eB]
      cases h1 : (lvl adj sa first ws met []).1 with
      | some w =>
        obtain ⟨a, b, ew, hf, hno⟩ := q1 w h1
        obtain ⟨r0, e0, hl0, hw0⟩ := L.is w (by rw [ew]; simp)
        subst e0
        rw [lst_eq] at hf
        refine ⟨fun n => absurd ⟨r0, hw0, hf⟩ n, fun r hmin hpre => ?_⟩
        obtain ⟨⟨r', er, hc⟩, least⟩ := hmin
        injection er with _ er
        subst er
        obtain ⟨p, s, rfl, hp, hpm⟩ := hpre
        have l1 := least r0 ⟨hw0, hf⟩
        have hs : s = [] := by
          have := l1.1
          simp at this
          exact List.length_eq_zero_iff.mp (by omega)
        subst hs
        rw [List.append_nil] at *
        have hne : lt (first :: r0) (first :: p) = false := l1.2 (by simp [hl0, hp])
        by_cases ee : first :: r0 = first :: p
        · rw [ee]
        · -- p stands in ws, closed: not ahead of r0, so behind it: ahead of it is not
          rw [ew] at hpm
          rcases List.mem_append.mp hpm with z | z
          · have := hno _ z
            rw [lst_eq] at this
            exact absurd hc.2 this
          · rcases List.mem_cons.mp z with z | z
            · exact absurd z.symm ee
            · have := L.inc
              rw [ew] at this
              have := (List.pairwise_cons.mp (List.pairwise_append.mp this).2.1).1 _ z
              rw [hne] at this
              cases this
      | none =>
        obtain ⟨j1, j2, _, j4, j6, j5⟩ := q2 h1
        simp only [List.nil_append, List.length_nil, Nat.add_zero] at j1 j4
        have L' := j1.lv
        have M' : Mid adj first (i + 1) (lvl adj sa first ws met []).2.1 [] [] := ⟨j1.nd, ⟨List.Pairwise.nil, fun _ h => absurd h List.not_mem_nil⟩, fun x hx => .inl (by
          rcases j1.old x hx with ⟨r, a1, a2, a3⟩ | ⟨w, _, a2⟩
          · exact ⟨r, by omega, a2, a3⟩
          · obtain ⟨r, e1, e2, e3⟩ := j1.lv.is _ a2
            refine ⟨r, by omega, e3, ?_⟩
            rw [← lst_eq, ← e1, List.getLastD_concat]), fun _ h => absurd h List.not_mem_nil⟩
        have hm' : ∀ x ∈ (lvl adj sa first ws met []).2.1, x ∈ ns := fun x hx => (j6 x hx).elim (hm x) fun ⟨y, hy⟩ => hns y x hy
        have hk' : (lvl adj sa first ws met []).2.2 ≠ [] → ns.length + 1 ≤ (lvl adj sa first ws met []).2.1.length + k := fun z => by
          have := List.length_pos_iff.mpr z
          omega
        obtain ⟨b1, b2⟩ := bfs_ok S hns (k := k) L' M' hm' hk'
        refine ⟨b1, fun r hmin hpre => b2 r hmin ?_⟩
        obtain ⟨⟨r', er, hc⟩, least⟩ := hmin
        injection er with _ er
        subst er
        obtain ⟨p, s, rfl, hp, hpm⟩ := hpre
        match s with
        | [] =>
          rw [List.append_nil] at hc
          have := j2 _ hpm
          rw [lst_eq] at this
          exact absurd hc.2 this
        | v :: s =>
          obtain ⟨hw, hcl⟩ := hc
          obtain ⟨hw1, hv, hw2⟩ := wk_app.mp hw
          rw [lst_app] at hcl
          refine ⟨p ++ [v], s, by simp, by simp [hp], ?_⟩
          refine j5 p v hpm hv (fun r' hl' hw' e' => ?_) fun r' hl' hw' hlt => ?_
          · -- a shorter way to v
            subst e'
            have := (least (r' ++ s) ⟨wk_app.mpr ⟨hw', hw2⟩, by rw [lst_app]; exact hcl⟩).1
            simp at this
            omega
          · have := (least (r' ++ v :: s) ⟨by
              have : r' ++ v :: s = (r' ++ [v]) ++ s := by simp
              rw [this]
              exact wk_app.mpr ⟨hw', by rw [lst_snoc]; exact hw2⟩, by
              rw [lst_app]
              exact hcl⟩).2 (by simp [hl', hp])
            have e1 : first :: (r' ++ v :: s) = (first :: r') ++ (v :: s) := rfl
            have e2 : first :: (p ++ v :: s) = (first :: p) ++ (v :: s) := rfl
            rw [e1, e2, lt_app (by simp [hl', hp]) hlt] at this
            cases this
/-- the search from a node -/
theorem bfs_all {sa : Nat → List Nat} (S : SaOk adj sa) {first k : Nat} {ns : List Nat} (hns : ∀ x y, y ∈ adj x → y ∈ ns) (hf : first ∈ ns) (hk : ns.length ≤ k) :
    (¬ (∃ r, Cl adj first r) ∧ bfs adj sa first k [[first]] [first] = some none) ∨ ∃ w, MinF adj first w ∧ bfs adj sa first k [[first]] [first] = some (some w) := by
  have L : Lv adj first 0 [[first]] := ⟨List.pairwise_cons.mpr ⟨fun _ h => absurd h List.not_mem_nil, List.Pairwise.nil⟩, fun w hw => ⟨[], List.mem_singleton.mp hw, rfl, trivial⟩⟩
  have M : Mid adj first 0 [first] [] [] := ⟨List.nodup_cons.mpr ⟨List.not_mem_nil, List.nodup_nil⟩, ⟨List.Pairwise.nil, fun _ h => absurd h List.not_mem_nil⟩, fun x hx => .inl ⟨[], Nat.le_refl _, trivial, (List.mem_singleton.mp hx).symm⟩, fun _ h => absurd h List.not_mem_nil⟩
  obtain ⟨b1, b2⟩ := bfs_ok S hns (k := k) L M (fun x hx => List.mem_singleton.mp hx ▸ hf) fun _ => by simp; omega
  by_cases h : ∃ r, Cl adj first r
  · obtain ⟨w, hw⟩ := exists_min h
    obtain ⟨⟨r, rfl, hc⟩, least⟩ := id hw
    exact .inr ⟨_, hw, b2 r hw ⟨[], r, rfl, rfl, List.mem_singleton.mpr rfl⟩⟩
  · exact .inl ⟨h, b1 h⟩
end
end G11

set_option Elab.async false
set_option linter.all false
/-! ### k11: the law's rings, its order, its users; the program's (no kit) -/
namespace G11
section
variable (adj : Nat → List Nat)
/-! #### the least of what the searches found -/
/-- the program's rings: of each node in turn -/
def ringsOf (sa : Nat → List Nat) (k : Nat) (ns : List Nat) : List (List Nat) := ns.filterMap fun n => (bfs adj sa n k [[n]] [n]).getD none
variable {adj}
theorem ringsOf_due {sa : Nat → List Nat} (S : SaOk adj sa) {k : Nat} {ns : List Nat} (hns : ∀ x y, y ∈ adj x → x ∈ ns ∧ y ∈ ns) (hk : ns.length ≤ k) :
    (∀ w ∈ ringsOf adj sa k ns, Clw adj w) ∧ ((∃ w, Clw adj w) → ringsOf adj sa k ns ≠ []) ∧ ∀ w, w ∈ ringsOf adj sa k ns → (∀ w' ∈ ringsOf adj sa k ns, Leq w w') → Due adj w := by
  have cl : ∀ w, w ∈ ringsOf adj sa k ns ↔ ∃ n ∈ ns, MinF adj n w := fun w => by
    unfold ringsOf
    rw [List.mem_filterMap]
    constructor
    · rintro ⟨n, hn, e⟩
      rcases bfs_all S (fun x y h => (hns x y h).2) hn hk with ⟨_, e'⟩ | ⟨w', h, e'⟩
      · rw [e'] at e
        cases e
      · rw [e'] at e
        cases e
        exact ⟨n, hn, h⟩
    · rintro ⟨n, hn, h⟩
      rcases bfs_all S (fun x y h => (hns x y h).2) hn hk with ⟨no, e'⟩ | ⟨w', h', e'⟩
      · obtain ⟨⟨r, _, hc⟩, _⟩ := h
        exact absurd ⟨r, hc⟩ no
      · obtain ⟨⟨r, rfl, hc⟩, l1⟩ := h
        obtain ⟨⟨r', rfl, hc'⟩, l2⟩ := h'
        refine ⟨n, hn, ?_⟩
        rw [e', (l1 r' hc').anti (l2 r hc)]
        rfl
  have inNs : ∀ {x r}, Cl adj x r → x ∈ ns := fun {x r} h => (hns _ _ h.2).2
  have some_ : ∀ {x r}, Cl adj x r → ∃ w ∈ ringsOf adj sa k ns, Leq w (x :: r) := fun {x r} h => by
    obtain ⟨w, hw⟩ := exists_min ⟨r, h⟩
    exact ⟨w, (cl w).mpr ⟨x, inNs h, hw⟩, hw.2 r h⟩
  refine ⟨fun w hw => ?_, fun ⟨w, hw⟩ => ?_, fun w hw hl => ⟨?_, fun w' hw' => ?_⟩⟩
  · obtain ⟨n, _, ⟨r, rfl, hc⟩, _⟩ := (cl w).mp hw
    exact hc
  · match w, hw with
    | x :: r, hw =>
      obtain ⟨w', h, _⟩ := some_ hw
      exact List.ne_nil_of_mem h
  · obtain ⟨n, _, ⟨r, rfl, hc⟩, _⟩ := (cl w).mp hw
    exact hc
  · match w', hw' with
    | x :: r, hw' =>
      obtain ⟨v, h, l⟩ := some_ hw'
      exact (hl v h).trans l
/-! #### the law's rings: all ways at once -/
variable (adj)
/-- one way looked at: the rings found, the ways laid ready -/
def look (way : List Nat) : List Nat → List (List Nat) × List (List Nat) → List (List Nat) × List (List Nat)
  | [], fl => fl
  | g :: gs, (f, l) => look way gs (if g = way.headD 0 then (f ++ [way], l) else if g ∉ way ∧ way.headD 0 < g then (f, l ++ [way ++ [g]]) else (f, l))
def line : Nat → List (List Nat) → List (List Nat) → Option (List (List Nat))
  | 0, [], f => some f
  | 0, _ :: _, _ => none
  | _ + 1, [], f => some f
  | k + 1, w :: ws, f => line k (look w (adj (w.getLastD 0)) (f, ws)).2 (look w (adj (w.getLastD 0)) (f, ws)).1
variable {adj}
theorem look_mem {way : List Nat} : ∀ {gs : List Nat} {f l : List (List Nat)}, (∀ v, v ∈ (look way gs (f, l)).1 ↔ v ∈ f ∨ (v = way ∧ way.headD 0 ∈ gs)) ∧ (∀ v, v ∈ (look way gs (f, l)).2 ↔ v ∈ l ∨ ∃ g ∈ gs, g ≠ way.headD 0 ∧ g ∉ way ∧ way.headD 0 < g ∧ v = way ++ [g])
  | [], f, l => ⟨fun v => by simp [look], fun v => by simp [look]⟩
  | g :: gs, f, l => by
    unfold look
    by_cases h : g = way.headD 0
    · rw [if_pos h]
      obtain ⟨h1, h2⟩ := look_mem (way := way) (gs := gs) (f := f ++ [way]) (l := l)
      refine ⟨fun v => ?_, fun v => ?_⟩
      · rw [h1 v]
        constructor
        · rintro (z | ⟨z, z2⟩)
          · rcases List.mem_append.mp z with z | z
            · exact .inl z
            · exact .inr ⟨List.mem_singleton.mp z, h ▸ List.mem_cons_self⟩
          · exact .inr ⟨z, List.mem_cons_of_mem _ z2⟩
        · rintro (z | ⟨z, _⟩)
          · exact .inl (List.mem_append_left _ z)
          · exact .inl (List.mem_append_right _ (List.mem_singleton.mpr z))
      · rw [h2 v]
        constructor
        · rintro (z | ⟨q, a, b⟩)
          · exact .inl z
          · exact .inr ⟨q, List.mem_cons_of_mem _ a, b⟩
        · rintro (z | ⟨q, a, b⟩)
          · exact .inl z
          · rcases List.mem_cons.mp a with rfl | a
            · exact absurd h b.1
            · exact .inr ⟨q, a, b⟩
    · rw [if_neg h]
      by_cases h' : g ∉ way ∧ way.headD 0 < g
      · rw [if_pos h']
        obtain ⟨h1, h2⟩ := look_mem (way := way) (gs := gs) (f := f) (l := l ++ [way ++ [g]])
        refine ⟨fun v => ?_, fun v => ?_⟩
        · rw [h1 v]
          constructor
          · rintro (z | ⟨z, z2⟩)
            · exact .inl z
            · exact .inr ⟨z, List.mem_cons_of_mem _ z2⟩
          · rintro (z | ⟨z, z2⟩)
            · exact .inl z
            · rcases List.mem_cons.mp z2 with z2 | z2
              · exact absurd z2.symm h
              · exact .inr ⟨z, z2⟩
        · rw [h2 v]
          constructor
          · rintro (z | ⟨q, a, b⟩)
            · rcases List.mem_append.mp z with z | z
              · exact .inl z
              · exact .inr ⟨g, List.mem_cons_self, h, h'.1, h'.2, List.mem_singleton.mp z⟩
            · exact .inr ⟨q, List.mem_cons_of_mem _ a, b⟩
          · rintro (z | ⟨q, a, b⟩)
            · exact .inl (List.mem_append_left _ z)
            · rcases List.mem_cons.mp a with rfl | a
              · exact .inl (List.mem_append_right _ (List.mem_singleton.mpr b.2.2.2))
              · exact .inr ⟨q, a, b⟩
      · rw [if_neg h']
        obtain ⟨h1, h2⟩ := look_mem (way := way) (gs := gs) (f := f) (l := l)
        refine ⟨fun v => ?_, fun v => ?_⟩
        · rw [h1 v]
          constructor
          · rintro (z | ⟨z, z2⟩)
            · exact .inl z
            · exact .inr ⟨z, List.mem_cons_of_mem _ z2⟩
          · rintro (z | ⟨z, z2⟩)
            · exact .inl z
            · rcases List.mem_cons.mp z2 with z2 | z2
              · exact absurd z2.symm h
              · exact .inr ⟨z, z2⟩
        · rw [h2 v]
          constructor
          · rintro (z | ⟨q, a, b⟩)
            · exact .inl z
            · exact .inr ⟨q, List.mem_cons_of_mem _ a, b⟩
          · rintro (z | ⟨q, a, b⟩)
            · exact .inl z
            · rcases List.mem_cons.mp a with rfl | a
              · exact absurd ⟨b.2.1, b.2.2.1⟩ h'
              · exact .inr ⟨q, a, b⟩
/-- walks that are found or laid ready; each canonical ring is found, or a part of it lies ready -/
structure LnOk (adj : Nat → List Nat) (ws f : List (List Nat)) : Prop where
  wk : ∀ w ∈ ws, ∃ x r, w = x :: r ∧ Wk adj x r
  cl : ∀ w ∈ f, Clw adj w
  all : ∀ x r, Cl adj x r → (x :: r).Nodup → (∀ y ∈ r, x < y) → x :: r ∈ f ∨ ∃ a b, r = a ++ b ∧ x :: a ∈ ws
theorem line_ok : ∀ {k : Nat} {ws f F : List (List Nat)}, line adj k ws f = some F → LnOk adj ws f → (∀ w ∈ F, Clw adj w) ∧ ∀ x r, Cl adj x r → (x :: r).Nodup → (∀ y ∈ r, x < y) → x :: r ∈ F
  | 0, [], f, F, e, h => by
    cases e
    exact ⟨h.cl, fun x r a b c => (h.all x r a b c).elim id fun ⟨_, _, _, z⟩ => absurd z List.not_mem_nil⟩
  | 0, _ :: _, _, _, e, _ => by cases e
  | _ + 1, [], f, F, e, h => by
    cases e
    exact ⟨h.cl, fun x r a b c => (h.all x r a b c).elim id fun ⟨_, _, _, z⟩ => absurd z List.not_mem_nil⟩
  | k + 1, w :: ws, f, F, e, h => by
    unfold line at e
    obtain ⟨m1, m2⟩ := look_mem (way := w) (gs := adj (w.getLastD 0)) (f := f) (l := ws)
    obtain ⟨x0, r0, ew, hw⟩ := h.wk w List.mem_cons_self
    subst ew
    rw [lst_eq] at e m1 m2
    refine line_ok e ⟨fun v hv => ?_, fun v hv => ?_, fun x r hc nd hlt => ?_⟩
    · rcases (m2 v).mp hv with z | ⟨g, hg, _, _, _, rfl⟩
      · exact h.wk v (List.mem_cons_of_mem _ z)
      · exact ⟨x0, r0 ++ [g], rfl, wk_app.mpr ⟨hw, hg, trivial⟩⟩
    · rcases (m1 v).mp hv with z | ⟨rfl, z⟩
      · exact h.cl v z
      · exact ⟨hw, z⟩
    · rcases h.all x r hc nd hlt with z | ⟨a, b, rfl, z⟩
      · exact .inl ((m1 _).mpr (.inl z))
      · rcases List.mem_cons.mp z with z | z
        · injection z with e1 e2
          subst e1 e2
          match b with
          | [] =>
            rw [List.append_nil] at *
            exact .inl ((m1 _).mpr (.inr ⟨rfl, hc.2⟩))
          | g :: b =>
            obtain ⟨hw1, hg, _⟩ := wk_app.mp hc.1
            refine .inr ⟨a ++ [g], b, by simp, (m2 _).mpr (.inr ⟨g, hg, ?_, ?_, hlt g (by simp), rfl⟩)⟩
            · exact Nat.ne_of_gt (hlt g (by simp))
            · intro hm
              have nd2 : ((x :: a) ++ g :: b).Nodup := nd
              exact (List.nodup_append.mp nd2).2.2 g hm g List.mem_cons_self rfl
        · exact .inr ⟨a, b, rfl, (m2 _).mpr (.inl z)⟩
theorem law_due {k : Nat} {ns : List Nat} {F : List (List Nat)} (hns : ∀ x y, y ∈ adj x → x ∈ ns ∧ y ∈ ns) (e : line adj k (ns.map fun n => [n]) [] = some F) :
    ((∃ w, Clw adj w) → F ≠ []) ∧ (∀ w ∈ F, Clw adj w) ∧ ∀ w, w ∈ F → (∀ w' ∈ F, Leq w w') → Due adj w := by
  obtain ⟨h1, h2⟩ := line_ok e ⟨fun w hw => by
    obtain ⟨n, _, rfl⟩ := List.mem_map.mp hw
    exact ⟨n, [], rfl, trivial⟩, fun w hw => absurd hw List.not_mem_nil, fun x r hc _ _ => .inr ⟨[], r, rfl, List.mem_map.mpr ⟨x, (hns _ _ hc.2).2, rfl⟩⟩⟩
  have D : (∃ w, Clw adj w) → ∃ d, Due adj d ∧ d ∈ F := fun h => by
    obtain ⟨d, hd, l⟩ := least_walk h
    match d, hd, l with
    | x :: r, hd, l =>
      have du : Due adj (x :: r) := ⟨hd, l⟩
      exact ⟨_, du, h2 x r hd du.simple du.first⟩
  refine ⟨fun h => ?_, h1, fun w hw hl => ?_⟩
  · obtain ⟨d, _, z⟩ := D h
    exact List.ne_nil_of_mem z
  · obtain ⟨d, du, z⟩ := D ⟨w, h1 w hw⟩
    rw [← (hl d z).anti (du.2 w (h1 w hw))] at du
    exact du
/-! #### how long the law's line can be -/
def T : Nat → Nat
  | 0 => 1
  | m + 1 => 1 + (m + 1) * T m
theorem T_pos : ∀ m, 1 ≤ T m
  | 0 => Nat.le_refl 1
  | m + 1 => by unfold T; omega
def wts (N : Nat) (ws : List (List Nat)) : Nat := (ws.map fun w => T (N - w.length)).sum
theorem wts_app {N : Nat} {a b : List (List Nat)} : wts N (a ++ b) = wts N a + wts N b := by
  unfold wts
  rw [List.map_append, List.sum_append]
theorem wts_len {N : Nat} : ∀ {ws : List (List Nat)}, ws.length ≤ wts N ws
  | [] => Nat.le_refl 0
  | w :: ws => by
    have := wts_len (N := N) (ws := ws)
    have h := T_pos (N - w.length)
    show ws.length + 1 ≤ (((w :: ws).map fun w => T (N - w.length))).sum
    rw [List.map_cons, List.sum_cons]
    unfold wts at this
    omega
theorem look_eq {way : List Nat} : ∀ {gs : List Nat} {f l : List (List Nat)}, (look way gs (f, l)).2 = l ++ (gs.filter fun g => decide (g ≠ way.headD 0 ∧ g ∉ way ∧ way.headD 0 < g)).map (fun g => way ++ [g]) ∧ (look way gs (f, l)).1.length = f.length + (gs.filter fun g => decide (g = way.headD 0)).length
  | [], f, l => by simp [look]
  | g :: gs, f, l => by
    unfold look
    by_cases h : g = way.headD 0
    · rw [if_pos h]
      obtain ⟨h1, h2⟩ := look_eq (way := way) (gs := gs) (f := f ++ [way]) (l := l)
      rw [h1, h2, List.filter_cons, List.filter_cons, if_neg (by simp [h]), if_pos (by simp [h])]
      simp
      omega
    · rw [if_neg h]
      by_cases h' : g ∉ way ∧ way.headD 0 < g
      · rw [if_pos h']
        obtain ⟨h1, h2⟩ := look_eq (way := way) (gs := gs) (f := f) (l := l ++ [way ++ [g]])
        rw [h1, h2, List.filter_cons, List.filter_cons, if_pos (by exact decide_eq_true ⟨h, h'⟩), if_neg (fun z => h (of_decide_eq_true z))]
        simp
      · rw [if_neg h']
        obtain ⟨h1, h2⟩ := look_eq (way := way) (gs := gs) (f := f) (l := l)
        rw [h1, h2, List.filter_cons, List.filter_cons, if_neg (by
          intro z
          exact h' (of_decide_eq_true z).2), if_neg (fun z => h (of_decide_eq_true z))]
        exact ⟨rfl, rfl⟩
theorem sum_const {A : List Nat} {way : List Nat} {N : Nat} : wts N (A.map fun g => way ++ [g]) = A.length * T (N - (way.length + 1)) := by
  induction A with
  | nil => simp [wts]
  | cons g A ih =>
    unfold wts at ih ⊢
    rw [List.map_cons, List.map_cons, List.sum_cons, ih, List.length_append, List.length_cons, List.length_nil, Nat.zero_add, List.length_cons, Nat.succ_mul]
    omega
/-- a way in the line: no node twice, all of them nodes -/
def WayOk (ns w : List Nat) : Prop := w ≠ [] ∧ w.Nodup ∧ ∀ x ∈ w, x ∈ ns
theorem look_small {ns way : List Nat} (hw : WayOk ns way) {gs : List Nat} (nd : gs.Nodup) (hg : ∀ g ∈ gs, g ∈ ns) {f l : List (List Nat)} (hl : ∀ w ∈ l, WayOk ns w) :
    (∀ w ∈ (look way gs (f, l)).2, WayOk ns w) ∧ wts ns.length (look way gs (f, l)).2 + 1 ≤ wts ns.length (way :: l) ∧ (look way gs (f, l)).1.length ≤ f.length + 1 := by
  obtain ⟨h1, h2⟩ := look_eq (way := way) (gs := gs) (f := f) (l := l)
  have hm := (look_mem (way := way) (gs := gs) (f := f) (l := l)).2
  refine ⟨fun w h => ?_, ?_, ?_⟩
  · rcases (hm w).mp h with z | ⟨g, hgm, _, hn, _, rfl⟩
    · exact hl w z
    · refine ⟨by simp, ?_, fun x hx => ?_⟩
      · rw [List.nodup_append]
        exact ⟨hw.2.1, List.nodup_cons.mpr ⟨List.not_mem_nil, List.nodup_nil⟩, fun a ha b hb z => hn (by rw [← List.mem_singleton.mp hb, ← z]; exact ha)⟩
      · rcases List.mem_append.mp hx with hx | hx
        · exact hw.2.2 x hx
        · rw [List.mem_singleton.mp hx]
          exact hg g hgm
  · rw [h1, wts_app, sum_const]
    obtain ⟨A, eA⟩ : ∃ A, A = gs.filter fun g => decide (g ≠ way.headD 0 ∧ g ∉ way ∧ way.headD 0 < g) := ⟨_, rfl⟩
    rw [← eA]
    have hA : ∀ g ∈ A, g ∈ ns ∧ g ∉ way := fun g hgA => by
      rw [eA] at hgA
      obtain ⟨a, b⟩ := List.mem_filter.mp hgA
      exact ⟨hg g a, (of_decide_eq_true b).2.1⟩
    have nA : (way ++ A).Nodup := by
      rw [List.nodup_append]
      exact ⟨hw.2.1, by rw [eA]; exact nd.filter _, fun a ha b hb z => (hA b hb).2 (z ▸ ha)⟩
    have hc := nodup_sub nA (m := ns) fun x hx => (List.mem_append.mp hx).elim (hw.2.2 x) fun h => (hA x h).1
    rw [List.length_append] at hc
    have e1 : wts ns.length (way :: l) = T (ns.length - way.length) + wts ns.length l := by
      unfold wts
      rw [List.map_cons, List.sum_cons]
    rw [e1]
    by_cases z : ns.length - way.length = 0
    · have : A.length = 0 := by omega
      rw [this, z]
      simp [T]
      omega
    · obtain ⟨m, em⟩ : ∃ m, ns.length - way.length = m + 1 := ⟨ns.length - way.length - 1, by omega⟩
      have em2 : ns.length - (way.length + 1) = m := by omega
      rw [em, em2]
      have h3 : A.length * T m ≤ (m + 1) * T m := Nat.mul_le_mul_right _ (by omega)
      rw [show T (m + 1) = 1 + (m + 1) * T m from rfl]
      omega
  · rw [h2]
    have : (gs.filter fun g => decide (g = way.headD 0)).length ≤ [way.headD 0].length := nodup_sub (nd.filter _) fun x hx => by
      obtain ⟨_, b⟩ := List.mem_filter.mp hx
      rw [of_decide_eq_true b]
      exact List.mem_singleton.mpr rfl
    simpa using this
theorem line_ends {ns : List Nat} (nd : ∀ x, (adj x).Nodup) (hns : ∀ x y, y ∈ adj x → y ∈ ns) : ∀ {k : Nat} {ws f : List (List Nat)}, (∀ w ∈ ws, WayOk ns w) → wts ns.length ws ≤ k → ∃ F, line adj k ws f = some F
  | 0, [], f, _, _ => ⟨f, rfl⟩
  | 0, w :: ws, f, h, hk => by
    have := wts_len (N := ns.length) (ws := w :: ws)
    simp at this
    omega
  | k + 1, [], f, _, _ => ⟨f, rfl⟩
  | k + 1, w :: ws, f, h, hk => by
    obtain ⟨h1, h2, _⟩ := look_small (ns := ns) (h w List.mem_cons_self) (nd (w.getLastD 0)) (fun g hg => hns _ g hg) (f := f) fun v hv => h v (List.mem_cons_of_mem _ hv)
    obtain ⟨F, e⟩ := line_ends nd hns (k := k) (ws := (look w (adj (w.getLastD 0)) (f, ws)).2) (f := (look w (adj (w.getLastD 0)) (f, ws)).1) h1 (by omega)
    exact ⟨F, by rw [line]; exact e⟩
end
end G11

set_option Elab.async false
set_option linter.all false
/-! ### k11: the order of the units, who comes to one by uses (no kit) -/
namespace G11
section
variable {adj : Nat → List Nat}
/-! #### order -/
variable (adj)
/-- which can come next, among ns -/
def rdy (ns f : List Nat) : List Nat := ns.filter fun n => decide (n ∉ f) && (adj n).all fun o => decide (o ∈ f)
def ordGo (ns : List Nat) : Nat → List Nat → List Nat
  | 0, f => f
  | k + 1, f => match rdy adj ns f with
    | [] => f
    | x :: _ => ordGo ns k (f ++ [x])
variable {adj}
theorem rdy_mem {ns f : List Nat} {n : Nat} : n ∈ rdy adj ns f ↔ n ∈ ns ∧ n ∉ f ∧ ∀ o ∈ adj n, o ∈ f := by
  unfold rdy
  rw [List.mem_filter, Bool.and_eq_true, List.all_eq_true]
  simp only [decide_eq_true_eq]
/-- each stands behind all that it uses -/
structure OrdOk (adj : Nat → List Nat) (ns f : List Nat) : Prop where
  nd : f.Nodup
  sub : ∀ x ∈ f, x ∈ ns
  top : ∀ a x b, f = a ++ x :: b → ∀ o ∈ adj x, o ∈ a
theorem OrdOk.more {ns f : List Nat} {x : Nat} (h : OrdOk adj ns f) (hx : x ∈ rdy adj ns f) : OrdOk adj ns (f ++ [x]) := by
  obtain ⟨h1, h2, h3⟩ := rdy_mem.mp hx
  refine ⟨?_, fun y hy => ?_, fun a z b e o ho => ?_⟩
  · rw [List.nodup_append]
    exact ⟨h.nd, List.nodup_cons.mpr ⟨List.not_mem_nil, List.nodup_nil⟩, fun a ha b hb q => h2 (by rw [← List.mem_singleton.mp hb, ← q]; exact ha)⟩
  · rcases List.mem_append.mp hy with hy | hy
    · exact h.sub y hy
    · rw [List.mem_singleton.mp hy]
      exact h1
  · rcases List.eq_nil_or_concat b with rfl | ⟨b', y, rfl⟩
    · have := List.append_inj' e rfl
      obtain ⟨e1, e2⟩ := this
      injection e2 with e2
      subst e1 e2
      exact h3 o ho
    · have e' : f ++ [x] = (a ++ z :: b') ++ [y] := by rw [e]; simp
      have := (List.append_inj' e' rfl).1
      exact h.top a z b' this o ho
theorem ordGo_ok {ns : List Nat} : ∀ {k : Nat} {f : List Nat}, OrdOk adj ns f → OrdOk adj ns (ordGo adj ns k f)
  | 0, f, h => h
  | k + 1, f, h => by
    unfold ordGo
    split
    · exact h
    · rename_i x t e
      exact ordGo_ok (h.more (e ▸ List.mem_cons_self))
theorem first_in {P : Nat → Prop} : ∀ {f : List Nat}, (∃ z ∈ f, P z) → ∃ a z b, f = a ++ z :: b ∧ P z ∧ ∀ y ∈ a, ¬ P y
  | [], ⟨_, h, _⟩ => absurd h List.not_mem_nil
  | x :: f, ⟨z, hz, hp⟩ => by
    by_cases h : P x
    · exact ⟨[], x, f, rfl, h, fun _ q => absurd q List.not_mem_nil⟩
    · have : z ∈ f := (List.mem_cons.mp hz).resolve_left fun e => h (e ▸ hp)
      obtain ⟨a, y, b, rfl, q, n⟩ := first_in (P := P) ⟨z, this, hp⟩
      refine ⟨x :: a, y, b, rfl, q, fun u hu => ?_⟩
      rcases List.mem_cons.mp hu with rfl | hu
      · exact h
      · exact n u hu
theorem cl_next {x z : Nat} {r : List Nat} (h : Cl adj x r) (hz : z ∈ x :: r) : ∃ y ∈ x :: r, y ∈ adj z := by
  obtain ⟨s, hs, _, hm⟩ := cl_turns h hz
  match s, hs, hm with
  | [], hs, hm => exact ⟨z, hz, hs.2⟩
  | y :: s, hs, hm => exact ⟨y, (hm y).mp (by simp), hs.1.1⟩
/-- a ring is never in order -/
theorem ord_ring {ns f : List Nat} (h : OrdOk adj ns f) (hc : ∃ x r, Cl adj x r ∧ ∀ y ∈ x :: r, y ∈ ns) : ¬ ∀ n ∈ ns, n ∈ f := by
  intro hall
  obtain ⟨x, r, hc, hm⟩ := hc
  obtain ⟨a, z, b, e, hz, no⟩ := first_in (P := fun y => y ∈ x :: r) (f := f) ⟨x, hall x (hm x List.mem_cons_self), List.mem_cons_self⟩
  obtain ⟨y, hy, ho⟩ := cl_next hc hz
  exact no y (h.top a z b e y ho) hy
theorem walk_on {R : Nat → Prop} (hR : ∀ n, R n → ∃ o ∈ adj n, R o) : ∀ (m : Nat) {x : Nat}, R x → ∃ r, Wk adj x r ∧ r.length = m ∧ ∀ y ∈ r, R y
  | 0, x, _ => ⟨[], trivial, rfl, fun _ h => absurd h List.not_mem_nil⟩
  | m + 1, x, hx => by
    obtain ⟨o, ho, hr⟩ := hR x hx
    obtain ⟨r, h1, h2, h3⟩ := walk_on hR m hr
    refine ⟨o :: r, ⟨ho, h1⟩, by simp [h2], fun y hy => ?_⟩
    rcases List.mem_cons.mp hy with rfl | hy
    · exact hr
    · exact h3 y hy
/-- with no ring there is always one that can come next -/
theorem ord_goes {ns f : List Nat} (hns : ∀ x y, y ∈ adj x → y ∈ ns) (no : ¬ ∃ w, Clw adj w) (hlt : ∃ n ∈ ns, n ∉ f) : rdy adj ns f ≠ [] := by
  intro e
  refine no ?_
  obtain ⟨x, hx, hf⟩ := hlt
  have hR : ∀ n, (n ∈ ns ∧ n ∉ f) → ∃ o ∈ adj n, o ∈ ns ∧ o ∉ f := fun n hn => by
    by_cases q : ∀ o ∈ adj n, o ∈ f
    · have : n ∈ rdy adj ns f := rdy_mem.mpr ⟨hn.1, hn.2, q⟩
      rw [e] at this
      exact absurd this List.not_mem_nil
    · obtain ⟨o, q⟩ := Classical.not_forall.mp q
      obtain ⟨ho, q⟩ := Classical.not_imp.mp q
      exact ⟨o, ho, hns n o ho, q⟩
  obtain ⟨r, h1, h2, h3⟩ := walk_on hR ns.length (x := x) ⟨hx, hf⟩
  have nnd : ¬ (x :: r).Nodup := fun nd => by
    have := nodup_sub nd (m := ns) fun y hy => by
      rcases List.mem_cons.mp hy with rfl | hy
      · exact hx
      · exact (h3 y hy).1
    simp [h2] at this
    omega
  obtain ⟨z, u, a, b, e⟩ := twice nnd
  exact ⟨z :: a, cl_cut h1 e⟩
/-! #### who comes to one by uses -/
variable (adj)
inductive Rc (us : List Nat) (name : Nat) : Nat → Prop
  | here : Rc us name name
  | step {u o : Nat} : u ∈ us → o ∈ adj u → Rc us name o → Rc us name u
def pass : List Nat → List Nat → List Nat
  | [], f => f
  | u :: us, f => pass us (if (adj u).any (fun o => decide (o ∈ f)) && !decide (u ∈ f) then f ++ [u] else f)
variable {adj}
theorem pass_sub : ∀ {us f : List Nat}, (∃ t, pass adj us f = f ++ t) ∧ (∀ x ∈ pass adj us f, x ∈ f ∨ x ∈ us)
  | [], f => ⟨⟨[], by simp [pass]⟩, fun _ h => .inl h⟩
  | u :: us, f => by
    unfold pass
    split
    · obtain ⟨⟨t, h1⟩, h2⟩ := pass_sub (us := us) (f := f ++ [u])
      refine ⟨⟨[u] ++ t, by rw [h1]; simp⟩, fun x hx => ?_⟩
      rcases h2 x hx with z | z
      · rcases List.mem_append.mp z with z | z
        · exact .inl z
        · rw [List.mem_singleton.mp z]
          exact .inr List.mem_cons_self
      · exact .inr (List.mem_cons_of_mem _ z)
    · obtain ⟨h1, h2⟩ := pass_sub (us := us) (f := f)
      exact ⟨h1, fun x hx => (h2 x hx).imp id (List.mem_cons_of_mem _)⟩
theorem pass_nd : ∀ {us f : List Nat}, f.Nodup → (pass adj us f).Nodup
  | [], f, h => h
  | u :: us, f, h => by
    unfold pass
    split
    · rename_i e
      simp only [Bool.and_eq_true, Bool.not_eq_true', decide_eq_false_iff_not] at e
      refine pass_nd ?_
      rw [List.nodup_append]
      exact ⟨h, List.nodup_cons.mpr ⟨List.not_mem_nil, List.nodup_nil⟩, fun a ha b hb q => e.2 (by rw [← List.mem_singleton.mp hb, ← q]; exact ha)⟩
    · exact pass_nd h
theorem pass_rc {us0 : List Nat} {name : Nat} : ∀ {us f : List Nat}, (∀ u ∈ us, u ∈ us0) → (∀ x ∈ f, Rc adj us0 name x) → ∀ x ∈ pass adj us f, Rc adj us0 name x
  | [], f, _, h => h
  | u :: us, f, hs, h => by
    unfold pass
    split
    · rename_i e
      simp only [Bool.and_eq_true, List.any_eq_true, decide_eq_true_eq] at e
      obtain ⟨⟨o, ho, hf⟩, _⟩ := e
      refine pass_rc (fun v hv => hs v (List.mem_cons_of_mem _ hv)) fun x hx => ?_
      rcases List.mem_append.mp hx with hx | hx
      · exact h x hx
      · rw [List.mem_singleton.mp hx]
        exact .step (hs u List.mem_cons_self) ho (h o hf)
    · exact pass_rc (fun v hv => hs v (List.mem_cons_of_mem _ hv)) h
/-- nothing was added: all that uses one of them is among them -/
theorem pass_same : ∀ {us f : List Nat}, (pass adj us f).length = f.length → pass adj us f = f ∧ ∀ u ∈ us, (∃ o ∈ adj u, o ∈ f) → u ∈ f
  | [], f, _ => ⟨rfl, fun _ h => absurd h List.not_mem_nil⟩
  | u :: us, f, e => by
    unfold pass at e ⊢
    split at e
    · obtain ⟨⟨t, h1⟩, _⟩ := pass_sub (adj := adj) (us := us) (f := f ++ [u])
      rw [h1] at e
      simp at e
    · rename_i h
      rw [if_neg h]
      obtain ⟨h1, h2⟩ := pass_same e
      refine ⟨h1, fun v hv ⟨o, ho, hf⟩ => ?_⟩
      rcases List.mem_cons.mp hv with rfl | hv
      · by_cases q : v ∈ f
        · exact q
        · exact absurd (by simp only [Bool.and_eq_true, List.any_eq_true, decide_eq_true_eq, Bool.not_eq_true', decide_eq_false_iff_not]; exact ⟨⟨o, ho, hf⟩, q⟩) h
      · exact h2 v hv ⟨o, ho, hf⟩
/-- those that are closed and hold nobody else are just those that come to the name -/
theorem closed_rc {us f : List Nat} {name : Nat} (h0 : name ∈ f) (h1 : ∀ x ∈ f, Rc adj us name x) (h2 : ∀ u ∈ us, (∃ o ∈ adj u, o ∈ f) → u ∈ f) : ∀ x, x ∈ f ↔ Rc adj us name x := fun x => by
  refine ⟨h1 x, fun h => ?_⟩
  induction h with
  | here => exact h0
  | step hu ho _ ih => exact h2 _ hu ⟨_, ho, ih⟩
variable (adj)
def stepL (us met : List Nat) : List Nat := met ++ us.filter fun u => decide (u ∉ met) && (adj u).any fun o => decide (o ∈ met)
def goL (us : List Nat) : Nat → List Nat → List Nat
  | 0, met => met
  | k + 1, met => goL us k (stepL adj us met)
variable {adj}
theorem stepL_ok {us met : List Nat} {name : Nat} (nu : us.Nodup) (h : met.Nodup) (h1 : ∀ x ∈ met, Rc adj us name x) (hs : ∀ x ∈ met, x ∈ us) : (stepL adj us met).Nodup ∧ (∀ x ∈ stepL adj us met, Rc adj us name x) ∧ (∀ x ∈ stepL adj us met, x ∈ us) := by
  have mem : ∀ x, x ∈ us.filter (fun u => decide (u ∉ met) && (adj u).any fun o => decide (o ∈ met)) → x ∈ us ∧ x ∉ met ∧ ∃ o ∈ adj x, o ∈ met := fun x hx => by
    obtain ⟨a, b⟩ := List.mem_filter.mp hx
    simp only [Bool.and_eq_true, List.any_eq_true, decide_eq_true_eq] at b
    exact ⟨a, b.1, b.2⟩
  unfold stepL
  refine ⟨?_, fun x hx => ?_, fun x hx => ?_⟩
  · rw [List.nodup_append]
    exact ⟨h, nu.filter _, fun a ha b hb q => (mem b hb).2.1 (q ▸ ha)⟩
  · rcases List.mem_append.mp hx with hx | hx
    · exact h1 x hx
    · obtain ⟨a, _, o, ho, hm⟩ := mem x hx
      exact .step a ho (h1 o hm)
  · rcases List.mem_append.mp hx with hx | hx
    · exact hs x hx
    · exact (mem x hx).1
theorem stepL_same {us met : List Nat} (e : (stepL adj us met).length = met.length) : ∀ u ∈ us, (∃ o ∈ adj u, o ∈ met) → u ∈ met := fun u hu ⟨o, ho, hm⟩ => by
  unfold stepL at e
  rw [List.length_append] at e
  have e0 : (us.filter fun u => decide (u ∉ met) && (adj u).any fun o => decide (o ∈ met)) = [] := List.length_eq_zero_iff.mp (by omega)
  by_cases q : u ∈ met
  · exact q
  · have : u ∈ us.filter fun u => decide (u ∉ met) && (adj u).any fun o => decide (o ∈ met) := List.mem_filter.mpr ⟨hu, by simp only [Bool.and_eq_true, List.any_eq_true, decide_eq_true_eq]; exact ⟨q, o, ho, hm⟩⟩
    rw [e0] at this
    exact absurd this List.not_mem_nil
theorem closed_stays {us met : List Nat} (h : ∀ u ∈ us, (∃ o ∈ adj u, o ∈ met) → u ∈ met) : stepL adj us met = met := by
  unfold stepL
  have : (us.filter fun u => decide (u ∉ met) && (adj u).any fun o => decide (o ∈ met)) = [] := by
    rw [List.filter_eq_nil_iff]
    intro u hu z
    simp only [Bool.and_eq_true, List.any_eq_true, decide_eq_true_eq] at z
    obtain ⟨z1, o, ho, hm⟩ := z
    exact z1 (h u hu ⟨o, ho, hm⟩)
  rw [this, List.append_nil]
theorem goL_ok {us : List Nat} {name : Nat} (nu : us.Nodup) : ∀ {k : Nat} {met : List Nat}, met.Nodup → name ∈ met → (∀ x ∈ met, Rc adj us name x) → (∀ x ∈ met, x ∈ us) → us.length ≤ met.length + k →
    (goL adj us k met).Nodup ∧ (∃ t, goL adj us k met = met ++ t) ∧ ∀ x, x ∈ goL adj us k met ↔ Rc adj us name x
  | 0, met, h, hn, h1, hs, hk => by
    refine ⟨h, ⟨[], by simp [goL]⟩, closed_rc hn h1 fun u hu _ => ?_⟩
    -- met holds all
    by_cases q : u ∈ met
    · exact q
    · have := nodup_sub (l := u :: met) (m := us) (List.nodup_cons.mpr ⟨q, h⟩) fun x hx => by
        rcases List.mem_cons.mp hx with rfl | hx
        · exact hu
        · exact hs x hx
      simp at this
      omega
  | k + 1, met, h, hn, h1, hs, hk => by
    obtain ⟨a, b, c⟩ := stepL_ok nu h h1 hs
    have lg : met.length ≤ (stepL adj us met).length := by
      unfold stepL
      rw [List.length_append]
      omega
    by_cases e : (stepL adj us met).length = met.length
    · have cl := stepL_same e
      have st : ∀ j, goL adj us j met = met := fun j => by
        induction j with
        | zero => rfl
        | succ j ih => rw [goL, closed_stays cl, ih]
      rw [st]
      exact ⟨h, ⟨[], by simp⟩, closed_rc hn h1 cl⟩
    · obtain ⟨p, ⟨t, q⟩, r⟩ := goL_ok nu (k := k) a (by unfold stepL; exact List.mem_append_left _ hn) b c (by omega)
      rw [goL]
      refine ⟨p, ?_, r⟩
      rw [q]
      unfold stepL
      exact ⟨_, by rw [List.append_assoc]⟩
end
end G11

set_option Elab.async false
set_option linter.all false
set_option maxRecDepth 100000
set_option maxHeartbeats 4000000
namespace SA
open PySem PySem.Spec PySem.W PyProof.Rows L2 G11
/-! ### names by numbers -/
def nmL : List Str := ["ab", "abc", "b", "bay", "c", "y", "zz"]
def nm (i : Nat) : Str := nmL.getD i "notthere"
theorem nm_inj : ∀ {i j : Nat}, i < 7 → j < 7 → nm i = nm j → i = j := by
  have h : ∀ i, i < 7 → ∀ j, j < 7 → nm i = nm j → i = j := by decide +kernel
  exact fun {_ _} hi hj e => h _ hi _ hj e
theorem nm_le : ∀ {i j : Nat}, i < 7 → j < 7 → i ≤ j → leS (nm i) (nm j) = true := by
  have h : ∀ i, i < 7 → ∀ j, j < 7 → i ≤ j → leS (nm i) (nm j) = true := by decide +kernel
  exact fun {_ _} hi hj e => h _ hi _ hj e
def lt7 (l : List Nat) : Prop := ∀ n ∈ l, n < 7
/-- the numbers of a list in their order -/
def ascN (ns : List Nat) : List Nat := (List.range 7).filter fun i => decide (i ∈ ns)
theorem asc_mem {ns : List Nat} (h : lt7 ns) {i : Nat} : i ∈ ascN ns ↔ i ∈ ns := by
  unfold ascN
  rw [List.mem_filter, List.mem_range, decide_eq_true_eq]
  exact ⟨fun z => z.2, fun z => ⟨h i z, z⟩⟩
theorem asc_inc (ns : List Nat) : (ascN ns).Pairwise (· < ·) := (List.pairwise_lt_range (n := 7)).filter _
theorem asc_lt (ns : List Nat) : lt7 (ascN ns) := fun i h => List.mem_range.mp (List.mem_filter.mp h).1
theorem nd_map {ns : List Nat} (nd : ns.Nodup) (h : lt7 ns) : (ns.map nm).Nodup := by
  rw [List.nodup_iff_pairwise_ne, List.pairwise_map]
  exact (List.nodup_iff_pairwise_ne.mp nd).imp_of_mem fun ha hb n e => n (nm_inj (h _ ha) (h _ hb) e)
theorem inc_sorted {l : List Nat} (h : l.Pairwise (· < ·)) (h7 : lt7 l) : (l.map nm).Pairwise fun a b => leS a b = true := by
  rw [List.pairwise_map]
  exact h.imp_of_mem fun ha hb n => nm_le (h7 _ ha) (h7 _ hb) (Nat.le_of_lt n)
theorem asc_perm {ns : List Nat} (nd : ns.Nodup) (h : lt7 ns) : (ascN ns).Perm ns := perm_of_sub (pw_nodup (asc_inc ns)) (fun x hx => (asc_mem h).mp hx) (nodup_sub nd fun x hx => (asc_mem h).mpr hx)
/-- sorted names are the names of the sorted numbers -/
theorem sort_nm {ns : List Nat} {ys : List Str} (nd : ns.Nodup) (h : lt7 ns) (p : ys.Perm (ns.map nm)) (s : sortedS ys = true) : ys = (ascN ns).map nm :=
  sorted_uniq (pw_sorted s) (inc_sorted (asc_inc ns) (asc_lt ns)) (p.trans ((asc_perm nd h).map nm).symm)
/-- two lists in order of the same numbers are one -/
theorem asc_eq : ∀ {l m : List Nat}, l.Pairwise (· < ·) → m.Pairwise (· < ·) → (∀ k, k ∈ l ↔ k ∈ m) → l = m := fun {l m} h1 h2 h => by
  have p : l.Perm m := perm_of_sub (pw_nodup h1) (fun x hx => (h x).mp hx) (nodup_sub (pw_nodup h2) fun x hx => (h x).mpr hx)
  exact List.Perm.eq_of_pairwise (le := fun a b => a < b) (fun a b _ _ h1 h2 => by omega) h1 h2 p
/-! #### tuples of names, compared -/
def nmD (w : List Nat) : List PyData := w.map fun i => PyData.str (nm i)
theorem nm_ltD {i j : Nat} (hi : i < 7) (hj : j < 7) : dataLt (.str (nm i)) (.str (nm j)) = decide (i < j) := by
  have h : ∀ i, i < 7 → ∀ j, j < 7 → dataLt (.str (nm i)) (.str (nm j)) = decide (i < j) := by
    intro i hi j hj
    rw [dataLt_str]
    have h2 : ∀ i, i < 7 → ∀ j, j < 7 → decide ((nm i).cps.toList < (nm j).cps.toList) = decide (i < j) := by decide +kernel
    exact h2 i hi j hj
  exact h i hi j hj
theorem row_nm : ∀ {v w : List Nat}, lt7 v → lt7 w → v.length = w.length → rowLt (nmD v) (nmD w) = G11.lt v w
  | [], [], _, _, _ => lex_irrefl _
  | [], _ :: _, _, _, e => by simp at e
  | _ :: _, [], _, _, e => by simp at e
  | x :: v, y :: w, h1, h2, e => by
    have hx := h1 x List.mem_cons_self
    have hy := h2 y List.mem_cons_self
    have ih := row_nm (v := v) (w := w) (fun n hn => h1 n (List.mem_cons_of_mem _ hn)) (fun n hn => h2 n (List.mem_cons_of_mem _ hn)) (by simpa using e)
    show PyProof.Rows.lexLt itemOrd (keyToksAll (.str (nm x) :: nmD v)) (keyToksAll (.str (nm y) :: nmD w)) = _
    rw [dataLt_cons (by rfl)]
    have e2 : PyData.eqv (.str (nm x)) (.str (nm y)) = decide (x = y) := by
      by_cases q : x = y
      · rw [q]
        simp [PyData.eqv]
      · have : nm x ≠ nm y := fun z => q (nm_inj hx hy z)
        simp [PyData.eqv, q, this]
    rw [e2, nm_ltD hx hy]
    show (if decide (x = y) = true then rowLt (nmD v) (nmD w) else decide (x < y)) = _
    rw [ih]
    by_cases q : x = y
    · subst q
      simp [G11.lt]
    · simp [G11.lt, q]
theorem tup_nm {v w : List Nat} (h1 : lt7 v) (h2 : lt7 w) (e : v.length = w.length) : dataLt (.tuple (nmD v)) (.tuple (nmD w)) = G11.lt v w := by
  rw [dataLt_tuple]
  exact row_nm h1 h2 e
theorem eqv_nm : ∀ {v w : List Nat}, lt7 v → lt7 w → PyData.eqv (.tuple (nmD v)) (.tuple (nmD w)) = decide (v = w) := by
  have all : ∀ {v w : List Nat}, lt7 v → lt7 w → PyData.eqvAll (nmD v) (nmD w) = decide (v = w) := fun {v} => by
    induction v with
    | nil => intro w _ _; cases w <;> simp [nmD, PyData.eqvAll]
    | cons x v ih =>
      intro w h1 h2
      cases w with
      | nil => simp [nmD, PyData.eqvAll]
      | cons y w =>
        have hx := h1 x List.mem_cons_self
        have hy := h2 y List.mem_cons_self
        have ih := ih (w := w) (fun n hn => h1 n (List.mem_cons_of_mem _ hn)) (fun n hn => h2 n (List.mem_cons_of_mem _ hn))
        show (PyData.eqv (.str (nm x)) (.str (nm y)) && PyData.eqvAll (nmD v) (nmD w)) = _
        rw [ih]
        by_cases q : x = y
        · subst q
          simp [PyData.eqv]
        · have : nm x ≠ nm y := fun z => q (nm_inj hx hy z)
          simp [PyData.eqv, q, this]
  intro v w h1 h2
  show PyData.eqvAll (nmD v) (nmD w) = _
  exact all h1 h2
/-- a ring with its length -/
def entD (w : List Nat) : PyData := .tuple [.int (w.length : Nat), .tuple (nmD w)]
theorem alike_nm : ∀ {v w : List Nat}, alikeAll (nmD v) (nmD w) = true
  | [], w => by simp [nmD, alikeAll]
  | _ :: _, [] => by simp [nmD, alikeAll]
  | x :: v, y :: w => by
    show (alike (.str (nm x)) (.str (nm y)) && alikeAll (nmD v) (nmD w)) = true
    rw [alike_nm (v := v) (w := w)]
    rfl
theorem alike_tup {v w : List Nat} : alike (.tuple (nmD v)) (.tuple (nmD w)) = true := alike_nm
theorem ent_lt {v w : List Nat} (h1 : lt7 v) (h2 : lt7 w) : dataLt (entD v) (entD w) = true ↔ v.length < w.length ∨ (v.length = w.length ∧ G11.lt v w = true) := by
  unfold entD
  rw [dataLt_pair (by rfl) alike_tup, dataLt_int]
  by_cases e : v.length = w.length
  · have q : PyData.eqv (.int ((v.length : Nat) : Int)) (.int ((w.length : Nat) : Int)) = true := by simp [PyData.eqv, e]
    rw [if_pos q, eqv_nm h1 h2, tup_nm h1 h2 e]
    by_cases z : v = w
    · subst z
      simp [lt_irr]
    · simp [z, e]
  · have q : ¬ PyData.eqv (.int ((v.length : Nat) : Int)) (.int ((w.length : Nat) : Int)) = true := by simp [PyData.eqv]; omega
    rw [if_neg q]
    simp [e]
/-- the least of the rings -/
def minW : List Nat → List (List Nat) → List Nat
  | w, [] => w
  | w, v :: vs => minW (if dataLt (entD v) (entD w) then v else w) vs
theorem min_ent : ∀ {ws : List (List Nat)} {w : List Nat}, minD (entD w) (ws.map entD) = entD (minW w ws)
  | [], w => rfl
  | v :: vs, w => by
    show minD (if dataLt (entD v) (entD w) then entD v else entD w) (vs.map entD) = _
    rw [show (if dataLt (entD v) (entD w) = true then entD v else entD w) = entD (if dataLt (entD v) (entD w) then v else w) by split <;> rfl, min_ent]
    rfl
theorem minW_ok : ∀ {ws : List (List Nat)} {w : List Nat}, lt7 w → (∀ v ∈ ws, lt7 v) → minW w ws ∈ w :: ws ∧ ∀ v ∈ w :: ws, Leq (minW w ws) v
  | [], w, _, _ => ⟨List.mem_cons_self, fun v hv => by
    rw [List.mem_singleton.mp hv]
    exact ⟨Nat.le_refl _, fun _ => lt_irr _⟩⟩
  | u :: ws, w, h1, h2 => by
    have hu := h2 u List.mem_cons_self
    have hr : ∀ v ∈ ws, lt7 v := fun v hv => h2 v (List.mem_cons_of_mem _ hv)
    unfold minW
    by_cases q : dataLt (entD u) (entD w) = true
    · rw [if_pos q]
      obtain ⟨a, b⟩ := minW_ok (w := u) hu hr
      have l : Leq u w := by
        rcases (ent_lt hu h1).mp q with z | ⟨z1, z2⟩
        · exact ⟨by omega, fun e => by omega⟩
        · exact ⟨by omega, fun _ => lt_asymm z2⟩
      refine ⟨List.mem_cons_of_mem _ a, fun v hv => ?_⟩
      rcases List.mem_cons.mp hv with rfl | hv
      · exact (b u List.mem_cons_self).trans l
      · exact b v hv
    · rw [if_neg q]
      obtain ⟨a, b⟩ := minW_ok (w := w) h1 hr
      have l : Leq w u := by
        refine ⟨?_, fun e => ?_⟩
        · by_cases z : w.length ≤ u.length
          · exact z
          · exact absurd ((ent_lt hu h1).mpr (.inl (by omega))) q
        · cases z : G11.lt u w with
          | false => rfl
          | true => exact absurd ((ent_lt hu h1).mpr (.inr ⟨e, z⟩)) q
      refine ⟨?_, fun v hv => ?_⟩
      · rcases List.mem_cons.mp a with z | z
        · rw [z]
          exact List.mem_cons_self
        · exact List.mem_cons_of_mem _ (List.mem_cons_of_mem _ z)
      · rcases List.mem_cons.mp hv with rfl | hv
        · exact b _ List.mem_cons_self
        · rcases List.mem_cons.mp hv with rfl | hv
          · exact (b w List.mem_cons_self).trans l
          · exact b v (List.mem_cons_of_mem _ hv)
end SA

set_option Elab.async false
set_option linter.all false
set_option maxRecDepth 100000
set_option maxHeartbeats 4000000
/-! ### try with a clause without a name and a clause with one -/
namespace SA
open PySem PySem.Spec PyProof.Rows L2
/-- an exception of the body that has landed before the clauses -/
structure Cgt (X : Cx) (pins : List (Addr × Obj)) (a : Addr) (B : Heap) (sI : Shared) (σ : L2.St) (H : Hp) (cls : Value) (d : Option Addr) (t : Shared) : Prop where
  J : Inv X pins σ H sI
  nb : ∀ b o, sI.heap.get? b = some o → b ∉ frs X.stack → B.get? b = some o
  fl : HandSPX.FlyingZ B (X.env :: X.outer) a (Zc cls d) t.heap
  up : sI.heap.UpToSlots t.heap
  na : H a = none
  os : t.os = sI.os
  ag : AllBare t.gens
  nL : a ≠ X.env.locals
  nF : a ∉ X.fs
section
variable {X : Cx} {pins : List (Addr × Obj)} {a : Addr} {B : Heap} {sI t : Shared} {σ : L2.St} {H : Hp} {cls : Value} {d : Option Addr} {D : Ends} {Wout : WX} {x n : Str} {c : Value} {i : Nat} {hds : List ExceptHandler} {b₀ : Stmt} {suite body : List Stmt} {np p1 p2 : Pos} {ts : Addr → Value → Option Addr → TS}
theorem Cgt.inv (C : Cgt X pins a B sI σ H cls d t) : Inv X pins σ H t := C.J.landed C.nb C.fl.1 C.up C.os C.ag
theorem catch_nil (hs : X.stack = X.env :: X.outer) (hf : X.env.frame = some X.env.locals) (tk : Takes X Wout) (C : Cgt X pins a B sI σ H cls d t) (w : Wout cls d σ H) : wpAny (model X.prog X.w) X.A (handleBy (.ref a) X.env []) (SP X pins D) X.xe t := by
  obtain ⟨J, nb, fl, up, na, os, ag, nL, nF⟩ := C
  obtain ⟨_, _, _, oe, vs, T, _, _, g, _, dd, h1, _⟩ := id fl
  have out : wpAny (model X.prog X.w) X.A (setFlight (.ref a) X.env.frame) (fun _ t4 => wpAny (model X.prog X.w) X.A (throw (.ref a) : Sem Flow) (SP X pins D) X.xe t4) X.xe t := by
    rw [hf]
    exact HandSPX.setFlight_upZ fl fun h4 k4 up4 => wpAny_throw (tk _ _ ⟨a, B, sI, pins, σ, H, cls, d, rfl, J, nb, up.trans up4, .inr (.inr (hs ▸ k4)), na, os, ag, w⟩)
  refine wpAny_handleBy_nil ?_
  unfold PySem.passOn
  refine wpAny_bind (wpAny_field g dd h1 ?_)
  rw [if_neg (show ¬ ((Value.ref T == Value.none) = true) from by simp)]
  first
    | exact wpAny_bind out
    | exact wpAny_bind (wpAny_pure (wpAny_bind out))
theorem catch_test {b : Bool} {Q E : Value → Shared → Prop} (hc : Names X x c) (C : Cgt X pins a B sI σ H cls d t) (h : Q c t) : wpAny (model X.prog X.w) (X.A.mark (some (.ref a))) (eval (.Name x np) X.env) Q E t := by
  obtain ⟨o3, v3, g3, z3, d3⟩ := C.fl.there
  have T3 := C.inv.suite g3 d3 C.na C.nL C.nF
  obtain ⟨hg, hdb, hm⟩ := hc
  rcases hm with hm | ⟨hm, hv, hnn⟩
  · exact ld_glob (X := X.suite a ((a, o3) :: (X.pn ++ pins))) T3 hg hm h hdb
  · exact ld_blt (X := X.suite a ((a, o3) :: (X.pn ++ pins))) T3 hg hm hv h hnn hdb
theorem Cgt.looks (C : Cgt X pins a B sI σ H cls d t) : PySem.W.Looks (model X.prog X.w) t.heap (typeOf (.ref a)) cls := by
  obtain ⟨o3, v3, g3, z3, d3⟩ := C.fl.there
  exact fun _ _ _ t' k q => wpAny_typeOf_ref (k _ _ g3) (z3.1.symm ▸ q)
theorem catch_bare {b : Bool} (hc : Names X x c) (hsu : ∀ (a : Addr) (oe : Obj) (cls : Value) (d : Option Addr) (pn : List (Addr × Obj)), Zc cls d oe → (∃ vs, oe.data = .fields vs) → PSs (X.suite a ((a, oe) :: pn)) (b₀ :: suite) (ts a cls d))
    (C : Cgt X pins a B sI σ H cls d t) (hb : PySem.W.exmOne X.K cls c = some b) (yes : b = true → ts a cls d D σ H) (no : b = false → wpAny (model X.prog X.w) X.A (handleBy (.ref a) X.env hds) (SP X pins D) X.xe t) :
    wpAny (model X.prog X.w) X.A (handleBy (.ref a) X.env (.ExceptHandler (some (.Name x np)) none (b₀ :: suite) p1 :: hds)) (SP X pins D) X.xe t := by
  refine wpAny_handleBy_cons (codeAny_handlers_test ?_) (fun q => nomatch q)
  refine catch_test (b := b) hc C ((PySem.W.exm_one (M := model X.prog X.w) C.inv.kIn C.looks hb).here ?_)
  cases b with
  | false => exact no rfl
  | true =>
    refine codeAny_handlers_suite (HandSPX.lands_againZ C.fl fun h4 fl4 up4 => ?_)
    obtain ⟨o4, v4, g4, z4, d4⟩ := fl4.there
    have J4 : Inv X pins σ H { t with heap := h4 } := C.J.landed C.nb fl4.1 (C.up.trans up4) C.os C.ag
    refine wpAny_mono ((hsu a o4 cls d (X.pn ++ pins) z4 ⟨_, d4⟩).run [] _ _ H _ (J4.suite g4 d4 C.na C.nL C.nF) (yes rfl)) (fun f s6 q => ?_) (fun _ _ z => z.elim)
    have ok := C.J.ok
    match f, q with
    | .next, ⟨_, _, T, q⟩ => exact ⟨_, _, T.unsuite ok, q⟩
    | .brk, ⟨_, _, T, q⟩ => exact ⟨_, _, T.unsuite ok, q⟩
    | .cont, ⟨_, _, T, q⟩ => exact ⟨_, _, T.unsuite ok, q⟩
    | .ret _, ⟨_, _, _, T, r, q⟩ => exact ⟨_, _, _, T.unsuite ok, r, q⟩
/-- the ends behind a suite whose exception's name goes -/
def endsAs (i : Nat) (D : Ends) : Ends := { nx := fun σ' H' => D.nx (σ'.set i none) H', rt := D.rt, bk := fun σ' H' => D.bk (σ'.set i none) H', ct := fun σ' H' => D.ct (σ'.set i none) H' }
theorem catch_as {b : Bool} (hN : X.N.Nodup) (hi : X.N[i]? = some n) (hln : X.env.kindOf n = some .local) (hc : Names X x c)
    (hsu : ∀ (a : Addr) (oe : Obj) (cls : Value) (d : Option Addr) (pn : List (Addr × Obj)), Zc cls d oe → (∃ vs, oe.data = .fields vs) → PSs (X.suite a ((a, oe) :: pn)) (b₀ :: suite) (ts a cls d))
    (C : Cgt X pins a B sI σ H cls d t) (hb : PySem.W.exmOne X.K cls c = some b) (yes : b = true → ts a cls d (endsAs i D) (σ.set i (some (.ref a))) H) (no : b = false → wpAny (model X.prog X.w) X.A (handleBy (.ref a) X.env hds) (SP X pins D) X.xe t) :
    wpAny (model X.prog X.w) X.A (handleBy (.ref a) X.env (.ExceptHandler (some (.Name x np)) (some n) (b₀ :: suite) p1 :: hds)) (SP X pins D) X.xe t := by
  refine wpAny_handleBy_cons (codeAny_handlers_test ?_) (fun q => nomatch q)
  refine catch_test (b := b) hc C ((PySem.W.exm_one (M := model X.prog X.w) C.inv.kIn C.looks hb).here ?_)
  cases b with
  | false => exact no rfl
  | true =>
    refine codeAny_handlers_suite_as (HandSPX.lands_againZ C.fl fun h4 fl4 up4 => ?_)
    obtain ⟨o4, v4, g4, z4, d4⟩ := fl4.there
    have J4 : Inv X pins σ H { t with heap := h4 } := C.J.landed C.nb fl4.1 (C.up.trans up4) C.os C.ag
    refine store_ok (X := X.suite a ((a, o4) :: (X.pn ++ pins))) (v := .ref a) (J4.suite g4 d4 C.na C.nL C.nF) hN hi (.inl hln) rfl (fun s5 T5 => ?_) (.inr hln)
    refine wpAny_mono ((hsu a o4 cls d (X.pn ++ pins) z4 ⟨_, d4⟩).run [] s5 _ H _ T5 (yes rfl)) (fun f s6 q => ?_) (fun _ _ z => z.elim)
    have ok := C.J.ok
    match f, q with
    | .next, ⟨_, _, T, q⟩ => exact gone_ok (T.unsuite ok) hN hi hln fun s7 J7 => ⟨_, _, J7, q⟩
    | .brk, ⟨_, _, T, q⟩ => exact gone_ok (T.unsuite ok) hN hi hln fun s7 J7 => ⟨_, _, J7, q⟩
    | .cont, ⟨_, _, T, q⟩ => exact gone_ok (T.unsuite ok) hN hi hln fun s7 J7 => ⟨_, _, J7, q⟩
    | .ret _, ⟨_, _, _, T, r, q⟩ => exact gone_ok (T.unsuite ok) hN hi hln fun s7 J7 => ⟨_, _, _, J7, r, q⟩
/-- what a clause without a name, behind it a clause with one, wish -/
def wTwo (K : PySem.W.Frag) (m : Nat) (c1 c2 : Value) (i : Nat) (t1 t2 : Addr → Value → Option Addr → TS) (Wout : WX) (D : Ends) : WX := fun cls d σ H => σ.length = m →
  ∃ b1, PySem.W.exmOne K cls c1 = some b1 ∧ (b1 = true → ∀ a, H a = none → t1 a cls d D σ H) ∧
    (b1 = false → ∃ b2, PySem.W.exmOne K cls c2 = some b2 ∧ (b2 = true → ∀ a, H a = none → t2 a cls d (endsAs i D) (σ.set i (some (.ref a))) H) ∧ (b2 = false → Wout cls d σ H))
theorem ps_try_two {x1 x2 : Str} {c1 c2 : Value} {b₁ b₂ : Stmt} {suite1 suite2 : List Stmt} {np1 np2 q1 q2 : Pos} {t1 t2 : Addr → Value → Option Addr → TS} {tb : WX → TS}
    (hs : X.stack = X.env :: X.outer) (hf : X.env.frame = some X.env.locals) (hN : X.N.Nodup) (hi : X.N[i]? = some n) (hln : X.env.kindOf n = some .local) (h1 : Names X x1 c1) (h2 : Names X x2 c2) (tk : Takes X Wout)
    (hb : ∀ (W : WX) (pn : List (Addr × Obj)) (xe : Value → Shared → Prop), Takes (X.tr pn xe) W → PassesOwn (model X.prog X.w) X.A X.env xe → PSs (X.tr pn xe) body (tb W))
    (s1 : ∀ (a : Addr) (oe : Obj) (cls : Value) (d : Option Addr) (pn : List (Addr × Obj)), Zc cls d oe → (∃ vs, oe.data = .fields vs) → PSs (X.suite a ((a, oe) :: pn)) (b₁ :: suite1) (t1 a cls d))
    (s2 : ∀ (a : Addr) (oe : Obj) (cls : Value) (d : Option Addr) (pn : List (Addr × Obj)), Zc cls d oe → (∃ vs, oe.data = .fields vs) → PSs (X.suite a ((a, oe) :: pn)) (b₂ :: suite2) (t2 a cls d)) :
    PS X (.Try body [.ExceptHandler (some (.Name x1 np1)) none (b₁ :: suite1) q1, .ExceptHandler (some (.Name x2 np2)) (some n) (b₂ :: suite2) q2] [] [] p2) (fun D σ H => tb (wTwo X.K X.N.length c1 c2 i t1 t2 Wout D) D σ H) := ⟨fun pins s σ H D I hw => by
  have ok := I.ok
  have fr : X.A.frames = some (X.env :: X.outer) := hs ▸ ok.frames
  let caught : Value → Shared → Prop := fun e t1' => wpAny (model X.prog X.w) X.A (noteFrame e X.env) (fun _ t2' => wpAny (model X.prog X.w) X.A (setFlight e none) (fun _ t3 => wpAny (model X.prog X.w) X.A (handleBy e X.env [.ExceptHandler (some (.Name x1 np1)) none (b₁ :: suite1) q1, .ExceptHandler (some (.Name x2 np2)) (some n) (b₂ :: suite2) q2]) (SP X pins D) X.xe t3) X.xe t2') X.xe t1'
  have takes : Takes (X.tr (X.pn ++ pins) caught) (wTwo X.K X.N.length c1 c2 i t1 t2 Wout D) := fun u t ⟨a, B, sI, _, σ1, H1, cls, d, eu, I1, nb, up, sky, na, os, ag, ww⟩ => by
    subst eu
    have J : Inv X pins σ1 H1 sI := I1.ofTry ok
    obtain ⟨b1, k1, y1, n1⟩ := ww J.len
    refine Sky.land Zc.steady fr hf (show Sky B (X.env :: X.outer) a (Zc cls d) X.env.locals t.heap from hs ▸ sky) fun h3 fl3 up3 => ?_
    obtain ⟨o3, v3, g3, z3, d3⟩ := fl3.there
    have nf := fields_noframe fl3.2.2.1 g3 d3
    have C : Cgt X pins a B sI σ1 H1 cls d { t with heap := h3 } := ⟨J, nb, fl3, up.trans up3, na, os, ag, fun z => nf (List.mem_filterMap.mpr ⟨X.env, List.mem_cons_self, z ▸ hf⟩), fun m => by
      obtain ⟨v, hv, q⟩ := List.mem_filterMap.mp m
      exact nf (List.mem_filterMap.mpr ⟨v, List.mem_cons_of_mem _ hv, q⟩)⟩
    refine catch_bare h1 s1 C k1 (fun e => y1 e a na) fun e => ?_
    obtain ⟨b2, k2, y2, n2⟩ := n1 e
    exact catch_as hN hi hln h2 s2 C k2 (fun e => y2 e a na) fun e => catch_nil hs hf tk C (n2 e)
  refine wpAny_Try_except (wpAny_mono ((hb _ (X.pn ++ pins) caught takes PassesOwn.looking).run [] s σ H D (I.toTry _) hw) (fun f s1 q => ?_) fun e s1 q => q)
  match f, q with
  | .next, ⟨_, _, T, q⟩ => exact wpAny_execs_nil ⟨_, _, T.ofTry ok, q⟩
  | .brk, ⟨_, _, T, q⟩ => exact ⟨_, _, T.ofTry ok, q⟩
  | .cont, ⟨_, _, T, q⟩ => exact ⟨_, _, T.ofTry ok, q⟩
  | .ret _, ⟨_, _, _, T, r, q⟩ => exact ⟨_, _, _, T.ofTry ok, r, q⟩⟩
end
end SA

set_option Elab.async false
set_option linter.all false
set_option maxRecDepth 100000
set_option maxHeartbeats 4000000
/-! ### o.m(k = v); x(lambda: .., y) -/
namespace SA
open PySem PySem.Spec PyProof.Rows L2
def tMethK (C : Addr) (m : Str) (sp : Sp) (gV : List V → List V → List V) (E : XK) (ta : TE) (tk : TA) : TE := fun σ H Q => ta σ H fun x H1 => ∃ a dx fs, x = .ref a ∧ H1 a = some (.ins C dx fs) ∧ fs.lookup m = none ∧
  tk σ H1 fun zs H2 => sp (gV [x] zs) H2 Q E
section
variable {X : Cx} {CX : CXT} {k : Nat} {f C : Addr} {fd : FuncData} {ps ks : List Str} {sp : Sp} {E : XK} {m : Str} {p pos apos : Pos} {o : Expr} {kws : List Keyword} {ta : TE} {tk : TA} {g : List Value → List Value → List Value} {gV : List V → List V → List V}
/-- o.m(k = v, ..) -/
theorem pe_methK {pl : Sem Bool} (he : PE X o ta) (c : Cls X.K C) (hm : Meth X.K C m f) (F : FnOk X.prog X.w X.K X.mg X.base CX k f fd ps sp) (hr : Room k X.A) (hb : KBinds X.K fd ps ks g gV) (hx : Passes CX X E) (hkw : PK X kws tk)
    (hall : (backToKw pos (keywordEach kws X.env)).all (·.1.isSome) = true := by rfl) (hks : (backToKw pos (keywordEach kws X.env)).filterMap (·.1) = ks := by rfl)
    (hpl : ((backTo pos (starEach [] X.env)).any (·.1) || (backToKw pos (keywordEach kws X.env)).any (·.1.isNone)) = false := by rfl)
    (ht : eval (.Call (.Attribute o m apos) [] kws pos) X.env = (do
      let ov ← eval o X.env
      standAt apos.atName
      let (f, first) ← holding [ov] (getMethod ov m pl)
      callWith pos f first (backTo pos (starEach [] X.env)) (backToKw pos (keywordEach kws X.env))) := by rfl) :
    PE X (.Call (.Attribute o m apos) [] kws pos) (tMethK C m sp gV E ta tk) := by
  refine ⟨fun pins s σ H Q I h => ?_⟩
  refine PySem.W.methodCall_KW (pl := pl) (thn (he.run pins s σ H _ I h) fun u s1 ⟨x, H1, I1, rx, a, dx, fs, ex, ea, l, q⟩ => ?_) ht
  subst ex
  obtain rfl : u = Value.ref a := rx
  refine getmeth_ok I1 ea c hm l ?_
  refine PySem.W.callWith_KW0 (first := [.ref a]) (h₀ := X.base) I.ok.mod.kin hm.kp hall ?_ hpl
  refine thn (hkw.run pos pins s1 σ H1 _ I1 q) fun ws s2 ⟨zs, H2, I2, rz, q2⟩ => ⟨I2.kIn, ?_⟩
  rw [hks]
  exact run_fnk (us := [.ref a]) (vs := [.ref a]) F hr hb hx I2 (.cons rfl .nil) rz q2
end
/-- a local or captured name's value, the state as it is -/
theorem var_at {X : Cx} {pins : List (Addr × Obj)} {σ : L2.St} {H : Hp} {s : Shared} {i : Nat} {x : Str} {pos : Pos} {v : V} {Q E : Value → Shared → Prop} (I : Inv X pins σ H s) (hN : X.N[i]? = some x) (hv : Vis X.env.scope x) (e : σ[i]? = some (some v)) (h : ∀ u, RelV v u → Q u s)
    (hd : (x == ("__debug__" : Str)) = false := by decide) (hcd : (x == ("__classdict__" : Str)) = false := by decide) : wpAny (model X.prog X.w) X.A (eval (.Name x pos) X.env) Q E s := by
  obtain ⟨m, hn, hl⟩ := I.loc
  obtain ⟨u, r, l⟩ := hl i x v hN e hv
  rcases l with ⟨hk, hm⟩ | ⟨hk, c, hc, hcell⟩
  · exact wpAny_Name (wpAny_loadName_local I.ok.kind hk hn hm (h u r)) hd
  · rcases hk with hk | hk
    · exact wpAny_Name (wpAny_loadName_cell I.ok.kind hk hc hcell (h u r)) hd
    · exact wpAny_Name (wpAny_loadName_free I.ok.kind hk hc hcell (h u r) hcd) hd
/-- the def that calls what it got, a second argument beside -/
def Gives2 (X : Cx) (Ng : List Str) (x : Str) (sg : Scope) (g : Addr) (cdg : Value) (bg : List Stmt) (a : Str) (q : Str) (TT : V → (XK → Hp → VK → Prop) → Hp → VK → Prop) : Prop :=
  ∀ (f c' : Addr) (y : V) (s : Shared) (H : Hp) (Q : VK) (tl : XK → Hp → VK → Prop),
    (∀ (W : WX) (pn : List (Addr × Obj)) (xe : Value → Shared → Prop) (E : XK) (p1 p2 : Pos), Takes ((cxOf C8.CX0 X.prog X.w X.K X.mg X.base Ng x sg g cdg X.A X.stack s H C8.E0).tr pn xe) W → (∀ cls d σ' H', E cls d H' → W cls d σ' H') →
      PE ((cxOf C8.CX0 X.prog X.w X.K X.mg X.base Ng x sg g cdg X.A X.stack s H C8.E0).tr pn xe) (.Call (.Name a p1) [] [] p2) (fun σZ HZ Q => σZ[0]? = some (some (.ref f)) ∧ HZ c' = some (LamX.CodeO c' q) ∧ tl E HZ Q)) →
    H c' = some (LamX.CodeO c' q) → TT y tl H Q →
    ∃ t, PSs (cxOf C8.CX0 X.prog X.w X.K X.mg X.base Ng x sg g cdg X.A X.stack s H C8.E0).nox bg t ∧ t { nx := fun _ H' => Q .non H', rt := Q } (L2.start Ng [.ref f, y]) H
def tLam2 (T : List (Addr × Str)) (TT : V → (XK → Hp → VK → Prop) → Hp → VK → Prop) (t : XK → TE) (j : Nat) : TE := fun σ H Q => LamX.Tabs T H ∧ ∃ y, σ[j]? = some (some y) ∧ ∀ H1, LamX.ExtN H H1 → LamX.Tabs T H1 → TT y (fun E H' Q' => t E σ H' Q') H1 Q
section
variable {X : Cx}
/-- x(lambda: body, y) -/
theorem pe_lamcall2 {T : List (Addr × Str)} {TT : V → (XK → Hp → VK → Prop) → Hp → VK → Prop} {x a b y : Str} {g c P : Addr} {k j : Nat} {pg : Arguments} {bg : List Stmt} {sg : Scope} {dV kV doc pm cdv ct oc : Value} {an od : Option Addr} {osl : Array (Option Value)} {Ng : List Str}
    {params : Arguments} {body : Expr} {scope : Scope} {t : XK → TE} {p lpos pos ypos : Pos} (hg : Gl X x) (hm : X.mg x = some (.ref g)) (hk : PySem.W.keepIn X.K (.ref g) = true)
    (lk : X.K.lookup g = some ⟨oc, od, .func (PySem.W.fnOf x x pg bg sg dV kV doc pm an cdv ct), osl⟩) (hcg : PySem.W.codeIn X.K cdv x = true) (hb : L2.Binds X.K (PySem.W.fnOf x x pg bg sg dV kV doc pm an cdv ct) [a, b] []) (Sg : FnScope Ng [a, b] sg) (hNg : Ng[0]? = some a) (hva : Vis sg a)
    (hG : Gives2 X Ng x sg g cdv bg a (X.env.qual ++ "<lambda>") TT)
    (TB : LamX.TabB X.base X.mg c P) (hcode : X.env.code = .ref c) (hmT : (P, X.env.qual ++ "<lambda>") ∈ T) (hu : ∀ p ∈ T, p.1 = P → p.2 = X.env.qual ++ "<lambda>") (hr : Room (k + 2) X.A) (L : LamX.LamS X.env.scope scope) (hdef : defaultsOf params X.env = ([], []))
    (hbind : ∀ (q : Str) (cl : List (Str × Addr)) (pm cv ctv : Value), bindArgs (PySem.W.kla_fn "<lambda>" q params body scope cl pm cv ctv) ⟨[], []⟩ = pure [])
    (hbody : ∀ (A : Around) (outer : List Env) (s : Shared) (H : Hp) (E : XK) (f c' : Addr), Room k (A.deeper (LamX.lamEnv X scope s.heap.objs.size f c')) → PE (LamX.lamCx X A outer s H E scope f c') body (t E))
    (hNy : X.N[j]? = some y) (hvy : Vis X.env.scope y) (hdy : (y == ("__debug__" : Str)) = false := by decide) (hcy : (y == ("__classdict__" : Str)) = false := by decide)
    (hdb : (x == ("__debug__" : Str)) = false := by decide) (hd : (a == ("__debug__" : Str)) = false := by decide) (hcd : (a == ("__classdict__" : Str)) = false := by decide) :
    PE X (.Call (.Name x p) [.Lambda params body scope lpos, .Name y ypos] [] pos) (tLam2 T TT t j) := by
  refine ⟨fun pins s σ H Q I h => ?_⟩
  obtain ⟨hT, v, hv, h⟩ := h
  refine wpAny_Call_Name_kw (ld_glob I hg hm ?_ hdb)
  refine PySem.W.callWith_K (h₀ := X.base) I.ok.mod.kin hk ?_ (by rfl) (by rfl)
  show wpAny _ _ (spliced ((false, eval (.Lambda params body scope lpos) X.env) :: (false, eval (.Name y ypos) X.env) :: backTo pos (starEach [] X.env))) _ _ s
  refine Calls.spliced_cons (LamX.lam_make2 I TB hcode hmT hu hT hdef (L.has I.ok) fun f c' pm' ctv H1 s' I1 eN T1 hf hfn hfr hco => ?_)
  refine Calls.spliced_cons (var_at I1 hNy hvy hv (fun u ru => ?_) hdy hcy)
  refine Calls.spliced_nil ⟨I1.kIn, ?_⟩
  have rc : codeAny (model X.prog X.w) X.A (.call (.ref g) ⟨[.ref f, u], []⟩) (CR C8.CX0 X.stack X.prog X.w H1 s' Q C8.E0) s' := by
    refine LamX.run_ofS (N := Ng) (ps := [a, b]) (us := [.ref f, u]) (vs := [.ref f, v]) lk hcg Sg hr I1.env0 (hb s' [.ref f, u] I1.kIn rfl) (.cons rfl (.cons ru .nil)) rfl fun hr' => ?_
    obtain ⟨t', ht', hq'⟩ := hG f c' v s' H1 Q (fun E H' Q' => t E σ H' Q') (fun W pn xe E p1 p2 tk hW => LamX.pe_act (i := 0) I1 L hf hfn hfr (hbind _ _ _ _ _) tk hW hr' (fun A outer s H hr2 => hbody A outer s H E f c' hr2) hNg hva hd hcd) hco (h H1 eN T1)
    exact ⟨t', ht'.nox, hq'⟩
  refine wpAny_call (codeAny_mono rc fun r s2 hq => ?_)
  cases r with
  | error e => exact (show False from hq).elim
  | ok fl =>
    cases fl with
    | ret u => exact I1.after hq
    | next => exact False.elim hq
    | brk => exact False.elim hq
    | cont => exact False.elim hq
end
end SA

set_option Elab.async false
set_option linter.all false
set_option maxRecDepth 100000
set_option maxHeartbeats 4000000
/-! ### a lambda called in a try: what it lets out, told at the very state -/
namespace SA
open PySem PySem.Spec PyProof.Rows L2
section
variable {X : Cx} {pins : List (Addr × Obj)} {σ : L2.St} {H : Hp} {s : Shared}
theorem pe_act3 {Ng : List Str} {qg : Str} {sg : Scope} {g f c' : Addr} {cdg pm ctv : Value} {params : Arguments} {body : Expr} {scope : Scope} {k i : Nat} {a : Str} {pn : List (Addr × Obj)} {xe : Value → Shared → Prop} {W : WX} {tb : XK → TE} {p1 p2 : Pos}
    (I : Inv X pins σ H s) (L : LamX.LamS X.env.scope scope) (hf : s.heap.get? f = some (PySem.W.kla_obj "<lambda>" (X.env.qual ++ "<lambda>") params body scope (cloFrom X.env.cells scope.names []) pm c' ctv)) (hfn : H f = none) (hfr : f ∉ frs X.stack)
    (hbind : bindArgs (PySem.W.kla_fn "<lambda>" (X.env.qual ++ "<lambda>") params body scope (cloFrom X.env.cells scope.names []) pm (.ref c') ctv) ⟨[], []⟩ = pure [])
    (tk : Takes ((cxOf C8.CX0 X.prog X.w X.K X.mg X.base Ng qg sg g cdg X.A X.stack s H C8.E0).tr pn xe) W) (hr : Room (k + 1) (X.A.deeper (envOfC qg sg s.heap.objs.size g cdg)))
    (hbody : ∀ (A : Around) (outer : List Env) (s : Shared) (H : Hp) (E : XK), Room k (A.deeper (LamX.lamEnv X scope s.heap.objs.size f c')) → PE (LamX.lamCx X A outer s H E scope f c') body (tb E))
    (hN : Ng[i]? = some a) (hv : Vis sg a) (hd : (a == ("__debug__" : Str)) = false := by decide) (hcd : (a == ("__classdict__" : Str)) = false := by decide) :
    PE ((cxOf C8.CX0 X.prog X.w X.K X.mg X.base Ng qg sg g cdg X.A X.stack s H C8.E0).tr pn xe) (.Call (.Name a p1) [] [] p2)
      (fun σZ HZ Q => σZ[i]? = some (some (.ref f)) ∧ HZ c' = some (LamX.CodeO c' (X.env.qual ++ "<lambda>")) ∧ ∃ E : XK, (∀ cls d H', E cls d H' → W cls d σZ H') ∧ tb E σ HZ Q) := ⟨fun pinsZ sZ σZ HZ Q IZ ⟨h0, hc, E, hW, ht⟩ => by
  refine wpAny_Call_Name_kw (thn ((pe_var (pos := p1) (i := i) hN hv hd hcd).run pinsZ sZ σZ HZ (fun v H1 => v = .ref f ∧ H1 = HZ) IZ ⟨.ref f, h0, rfl, rfl⟩) fun u s1 ⟨v, H1, I1, r1, ev, eH⟩ => ?_)
  subst ev eH
  obtain rfl : u = Value.ref f := r1
  have at1 := I1.base.keep f _ hf hfn hfr (fun z => nomatch (show f ∈ ([] : List Addr) from z))
  obtain ⟨⟨oc, vs, t, e1, e2, e3⟩, _, _⟩ := I1.hok c' _ hc
  have un : Un (frs X.stack) [] H H1 s.heap s1.heap := I1.base
  refine PySem.W.callWith_F0 ⟨_, _, _, _, at1⟩ (wpAny_call (codeAny_mono (R := CR (L2.CX X.prog X.w) (envOfC qg sg s.heap.objs.size g cdg :: X.stack) X.prog X.w H1 s1 Q E) ?_ fun r s' hq => ?_))
  · refine PySem.W.kla_callFunE hr.depth at1 rfl L.co L.gen rfl ⟨c', oc, vs, t, rfl, e1, e2, e3⟩ ?_
    show wpAny _ _ (bindArgs _ ⟨[], []⟩) _ _ _
    rw [hbind]
    refine wpAny_pure (wpAny_newFunctionEnv (fun y hy => (L.own y hy).2) (fun y hy => absurd hy (by simp)) (fun h₁ hns hsb => ⟨I1.nolimit.fresh _ hsb, ?_⟩) L.kind)
    have J := LamX.lam_start2 (E := E) (f := f) (c' := c') (tk := s1.toks + ([] : List (Str × Value)).length) I L I1.env0 hr.hd un hns fun b o e => hsb.extBut b o (Nat.ne_of_lt (Heap.lt_size e)) (Heap.get?_push_of_some _ e)
    refine PySem.W.kla_codeExpr (wpAny_mono ((hbody _ _ s1 H1 E (hr.deeper _)).run [] _ _ H1 Q J ht) (fun v s' hq => ?_) fun e s' hq => hq)
    obtain ⟨w', H', J', rv, q⟩ := hq
    exact ⟨w', H', J'.os, J'.bare, J'.base, J'.hok, rv, q⟩
  · match r, hq with
    | .error e, hq => exact tk e s' (XE.of_call I1 hW hq)
    | .ok (.ret u), hq => exact I1.after hq
    | .ok .next, hq => exact False.elim hq
    | .ok .brk, hq => exact False.elim hq
    | .ok .cont, hq => exact False.elim hq⟩
end
section
variable {X : Cx} {a C : Addr} {oe : Obj} {cls : Value} {d : Option Addr} {pn : List (Addr × Obj)}
/-- isinstance(e, c) in the suite that holds e, e's dict told -/
def rIsS (K : PySem.W.Frag) (a C : Addr) (cls : Value) (d : Option Addr) : List V → Hp → VK → Prop := fun xs H Q => ∃ (c : V) (cv : Value) (b : Bool) (dd : Addr) (fs : List (Str × V)), xs = [.ref a, c] ∧ ClsV c cv ∧ cls = .ref C ∧ d = some dd ∧ H dd = some (.xd fs) ∧ PySem.W.kitOne K (.ref C) cv = some b ∧ Q (.bl b) H
theorem call_isS (hC : ExcC X.K C) (hz : Zc cls d oe) (hf : ∃ vs, oe.data = .fields vs) : CallR (X.suite a ((a, oe) :: pn)) (.builtin "isinstance") (rIsS X.K a C cls d) := by
  intro pins s σ H xs us Q I r h
  obtain ⟨c, cv, b, dd, fs, rfl, k, rfl, rfl, hx, e, q⟩ := h
  obtain ⟨u1, u2, rfl, r1, r2⟩ := vals2 r
  have e2 := k.eq r2
  subst e2
  obtain rfl : u1 = Value.ref a := r1
  obtain ⟨ha, _⟩ := I.pin (a, oe) (List.mem_append_left _ List.mem_cons_self)
  obtain ⟨vs, hv⟩ := hf
  obtain ⟨mA, hns, hr⟩ := (show ObjOk X.prog X.w H s.heap dd (.xd fs) from I.hok dd _ hx)
  obtain ⟨od, ho, hl⟩ := lookIn_ns hns
  have J : PySem.W.InstAt s.heap a oe C (some od) := ⟨ha, hz.1, by unfold PySem.W.notCls; rw [hv] <;> rfl, by rw [hz.2]; exact ho⟩
  exact PySem.W.kia_one (kit_exc hC) I.kIn J e (fun z => nomatch z) fun tk => ⟨.bl b, H, I.kept (t' := tk) fun _ _ z => z, rfl, q⟩
end
/-- the def that calls what it got, a second argument beside -/
def Gives3 (X : Cx) (Ng : List Str) (x : Str) (sg : Scope) (g : Addr) (cdg : Value) (bg : List Stmt) (a : Str) (q : Str) (TT : V → (XK → Hp → VK → Prop) → Hp → VK → Prop) : Prop :=
  ∀ (f c' : Addr) (y : V) (s : Shared) (H : Hp) (Q : VK) (tl : XK → Hp → VK → Prop),
    (∀ (W : WX) (pn : List (Addr × Obj)) (xe : Value → Shared → Prop) (p1 p2 : Pos), Takes ((cxOf C8.CX0 X.prog X.w X.K X.mg X.base Ng x sg g cdg X.A X.stack s H C8.E0).tr pn xe) W →
      PE ((cxOf C8.CX0 X.prog X.w X.K X.mg X.base Ng x sg g cdg X.A X.stack s H C8.E0).tr pn xe) (.Call (.Name a p1) [] [] p2) (fun σZ HZ Q => σZ[0]? = some (some (.ref f)) ∧ HZ c' = some (LamX.CodeO c' q) ∧ ∃ E : XK, (∀ cls d H', E cls d H' → W cls d σZ H') ∧ tl E HZ Q)) →
    H c' = some (LamX.CodeO c' q) → TT y tl H Q →
    ∃ t, PSs (cxOf C8.CX0 X.prog X.w X.K X.mg X.base Ng x sg g cdg X.A X.stack s H C8.E0).nox bg t ∧ t { nx := fun _ H' => Q .non H', rt := Q } (L2.start Ng [.ref f, y]) H
def tLam3 (T : List (Addr × Str)) (TT : V → (XK → Hp → VK → Prop) → Hp → VK → Prop) (t : XK → TE) (j : Nat) : TE := fun σ H Q => LamX.Tabs T H ∧ ∃ y, σ[j]? = some (some y) ∧ ∀ H1, LamX.ExtN H H1 → LamX.Tabs T H1 → TT y (fun E H' Q' => t E σ H' Q') H1 Q
section
variable {X : Cx}
/-- x(lambda: body, y) -/
theorem pe_lamcall3 {T : List (Addr × Str)} {TT : V → (XK → Hp → VK → Prop) → Hp → VK → Prop} {x a b y : Str} {g c P : Addr} {k j : Nat} {pg : Arguments} {bg : List Stmt} {sg : Scope} {dV kV doc pm cdv ct oc : Value} {an od : Option Addr} {osl : Array (Option Value)} {Ng : List Str}
    {params : Arguments} {body : Expr} {scope : Scope} {t : XK → TE} {p lpos pos ypos : Pos} (hg : Gl X x) (hm : X.mg x = some (.ref g)) (hk : PySem.W.keepIn X.K (.ref g) = true)
    (lk : X.K.lookup g = some ⟨oc, od, .func (PySem.W.fnOf x x pg bg sg dV kV doc pm an cdv ct), osl⟩) (hcg : PySem.W.codeIn X.K cdv x = true) (hb : L2.Binds X.K (PySem.W.fnOf x x pg bg sg dV kV doc pm an cdv ct) [a, b] []) (Sg : FnScope Ng [a, b] sg) (hNg : Ng[0]? = some a) (hva : Vis sg a)
    (hG : Gives3 X Ng x sg g cdv bg a (X.env.qual ++ "<lambda>") TT)
    (TB : LamX.TabB X.base X.mg c P) (hcode : X.env.code = .ref c) (hmT : (P, X.env.qual ++ "<lambda>") ∈ T) (hu : ∀ p ∈ T, p.1 = P → p.2 = X.env.qual ++ "<lambda>") (hr : Room (k + 2) X.A) (L : LamX.LamS X.env.scope scope) (hdef : defaultsOf params X.env = ([], []))
    (hbind : ∀ (q : Str) (cl : List (Str × Addr)) (pm cv ctv : Value), bindArgs (PySem.W.kla_fn "<lambda>" q params body scope cl pm cv ctv) ⟨[], []⟩ = pure [])
    (hbody : ∀ (A : Around) (outer : List Env) (s : Shared) (H : Hp) (E : XK) (f c' : Addr), Room k (A.deeper (LamX.lamEnv X scope s.heap.objs.size f c')) → PE (LamX.lamCx X A outer s H E scope f c') body (t E))
    (hNy : X.N[j]? = some y) (hvy : Vis X.env.scope y) (hdy : (y == ("__debug__" : Str)) = false := by decide) (hcy : (y == ("__classdict__" : Str)) = false := by decide)
    (hdb : (x == ("__debug__" : Str)) = false := by decide) (hd : (a == ("__debug__" : Str)) = false := by decide) (hcd : (a == ("__classdict__" : Str)) = false := by decide) :
    PE X (.Call (.Name x p) [.Lambda params body scope lpos, .Name y ypos] [] pos) (tLam3 T TT t j) := by
  refine ⟨fun pins s σ H Q I h => ?_⟩
  obtain ⟨hT, v, hv, h⟩ := h
  refine wpAny_Call_Name_kw (ld_glob I hg hm ?_ hdb)
  refine PySem.W.callWith_K (h₀ := X.base) I.ok.mod.kin hk ?_ (by rfl) (by rfl)
  show wpAny _ _ (spliced ((false, eval (.Lambda params body scope lpos) X.env) :: (false, eval (.Name y ypos) X.env) :: backTo pos (starEach [] X.env))) _ _ s
  refine Calls.spliced_cons (LamX.lam_make2 I TB hcode hmT hu hT hdef (L.has I.ok) fun f c' pm' ctv H1 s' I1 eN T1 hf hfn hfr hco => ?_)
  refine Calls.spliced_cons (var_at I1 hNy hvy hv (fun u ru => ?_) hdy hcy)
  refine Calls.spliced_nil ⟨I1.kIn, ?_⟩
  have rc : codeAny (model X.prog X.w) X.A (.call (.ref g) ⟨[.ref f, u], []⟩) (CR C8.CX0 X.stack X.prog X.w H1 s' Q C8.E0) s' := by
    refine LamX.run_ofS (N := Ng) (ps := [a, b]) (us := [.ref f, u]) (vs := [.ref f, v]) lk hcg Sg hr I1.env0 (hb s' [.ref f, u] I1.kIn rfl) (.cons rfl (.cons ru .nil)) rfl fun hr' => ?_
    obtain ⟨t', ht', hq'⟩ := hG f c' v s' H1 Q (fun E H' Q' => t E σ H' Q') (fun W pn xe p1 p2 tk => pe_act3 (i := 0) I1 L hf hfn hfr (hbind _ _ _ _ _) tk hr' (fun A outer s H E hr2 => hbody A outer s H E f c' hr2) hNg hva hd hcd) hco (h H1 eN T1)
    exact ⟨t', ht'.nox, hq'⟩
  refine wpAny_call (codeAny_mono rc fun r s2 hq => ?_)
  cases r with
  | error e => exact (show False from hq).elim
  | ok fl =>
    cases fl with
    | ret u => exact I1.after hq
    | next => exact False.elim hq
    | brk => exact False.elim hq
    | cont => exact False.elim hq
end
end SA

set_option Elab.async false
set_option linter.all false
set_option maxRecDepth 100000
set_option maxHeartbeats 4000000
/-! ### a lambda as a value: made, kept in a list, called later by a def that gets it -/
namespace SA
open PySem PySem.Spec PyProof.Rows L2
/-- a lambda's text -/
structure LamD where
  params : Arguments
  body : Expr
  scope : Scope
abbrev LamD.ob (d : LamD) (q : Str) (cl : List (Str × Addr)) (pm : Value) (c' : Addr) (ctv : Value) : Obj := PySem.W.kla_obj "<lambda>" q d.params d.body d.scope cl pm c' ctv
abbrev LamD.cl (d : LamD) (X : Cx) : List (Str × Addr) := cloFrom X.env.cells d.scope.names []
/-- at f stands the lambda d that the def of the name q made with those cells -/
def LamO (d : LamD) (q : Str) (cl : List (Str × Addr)) (f c' : Addr) : HO := .ext fun h => ∃ pm ctv, h.get? f = some (d.ob q cl pm c' ctv)
theorem lamO_ok {P : Program} {w : World} {H : Hp} {h : Heap} {d : LamD} {q : Str} {cl : List (Str × Addr)} {f c' : Addr} {pm ctv : Value} (e : h.get? f = some (d.ob q cl pm c' ctv)) : ObjOk P w H h f (LamO d q cl f c') :=
  ⟨⟨pm, ctv, e⟩, ⟨_, e⟩, fun _ _ ⟨p, c, z⟩ k => ⟨p, c, k _ z⟩⟩
section
variable {X : Cx} {pins : List (Addr × Obj)} {σ : L2.St} {H : Hp} {s : Shared}
/-- the maker of a lambda, told where the lambda stands: behind all that was -/
theorem lam_new {T : List (Addr × Str)} {c P : Addr} {d : LamD} {pos : Pos} {E Q : Value → Shared → Prop} (I : Inv X pins σ H s) (TB : LamX.TabB X.base X.mg c P) (hcode : X.env.code = .ref c) (hm : (P, X.env.qual ++ "<lambda>") ∈ T) (hu : ∀ p ∈ T, p.1 = P → p.2 = X.env.qual ++ "<lambda>") (hT : LamX.Tabs T H)
    (hdef : defaultsOf d.params X.env = ([], [])) (hfree : ∀ y ∈ d.scope.names, y.2 = .free → ∃ c, X.env.cells.lookup y.1 = some c)
    (k : ∀ (f c' : Addr) (pm ctv : Value) (H1 : Hp) (s1 : Shared), Inv X pins σ H1 s1 → LamX.ExtN H H1 → LamX.Tabs T H1 → s1.heap.get? f = some (d.ob (X.env.qual ++ "<lambda>") (d.cl X) pm c' ctv) → H1 f = none → s.heap.objs.size ≤ f → H f = none → H1 c' = some (LamX.CodeO c' (X.env.qual ++ "<lambda>")) → Q (.ref f) s1) :
    wpAny (model X.prog X.w) X.A (eval (.Lambda d.params d.body d.scope pos) X.env) Q E s := by
  obtain ⟨ps, eP, tri, among⟩ := hT _ hm
  have gP : s.heap.get? P = some { cls := .none, data := .fields ps } := I.hok P _ eP
  have lP : P < s.heap.objs.size := Heap.lt_size gP
  have blt : s.heap.BuiltinsAt X.mg P := TB.bm.keeps I.bk
  refine PySem.W.kla_eval hdef ?_
  match hc : codeAmong pos ps.toList with
  | some cv =>
    obtain ⟨c', rfl, old⟩ := among pos cv hc
    refine PySem.W.kla_makeFunctionHit (mg := X.mg) (c := c) (P := P) (ps := ps) (closure_ok hfree) I.ok.glob (I.mod.glob.keeps I.bk) hcode (TB.code.keeps I.bk) gP tri hc blt fun ctv h' tk hx hsz => ?_
    refine k _ c' _ ctv H _ (I.kept (t' := tk) fun b o e => Heap.get?_push_of_some _ (hx b o e)) (LamX.ExtN.refl H) hT (Heap.get?_push_size _ rfl) (I.hok.fresh hsz) hsz (I.hok.fresh hsz) old
  | none =>
    refine PySem.W.kla_makeFunction (mg := X.mg) (c := c) (P := P) (ps := ps) (closure_ok hfree) I.ok.glob (I.mod.glob.keeps I.bk) hcode (TB.code.keeps I.bk) gP tri hc TB.gP blt fun c' ctv h' tk hx hge hlt hrec htb => ?_
    obtain ⟨_, oc, vs, t, ec, g2, d2, v2⟩ := hrec
    cases ec
    have hsz : s.heap.objs.size ≤ h'.objs.size := by omega
    have nc : H c' = none := I.hok.fresh hge
    have J := LamX.inv_table (t' := tk) (more := #[rawInt pos.line, rawInt pos.col, .ref c']) (h' := h'.push (d.ob (X.env.qual ++ "<lambda>") (d.cl X) ((X.mg "__name__").getD .none) c' ctv)) I eP
      (fun b o nb e => Heap.get?_push_of_some _ (hx b o nb e)) (Heap.get?_push_of_some _ htb) hge ⟨oc, vs, t, Heap.get?_push_of_some _ g2, d2, v2⟩
    have ext : LamX.ExtN H (upd (upd H P (.tbl (ps ++ #[rawInt pos.line, rawInt pos.col, .ref c']))) c' (LamX.CodeO c' (X.env.qual ++ "<lambda>"))) := fun b o e nt => by
      have b1 : b ≠ P := fun z => by
        subst z
        exact nt ps (Option.some.inj (e.symm.trans eP))
      rw [upd_ne (ne_of_none e nc), upd_ne b1]
      exact e
    have lst : (ps ++ #[rawInt pos.line, rawInt pos.col, .ref c']).toList = ps.toList ++ [rawInt pos.line, rawInt pos.col, .ref c'] := by simp
    refine k _ c' _ ctv _ _ J ext (fun p hp => ?_) (Heap.get?_push_size _ rfl) ?_ hsz (I.hok.fresh hsz) upd_same
    · by_cases hb : p.1 = P
      · rw [hu p hp hb, hb]
        refine ⟨ps ++ #[rawInt pos.line, rawInt pos.col, .ref c'], (upd_ne (ne_of_none eP nc)).trans upd_same, lst ▸ PySem.TriplesOk_snoc _ _ _ _ tri, fun p' cv hcv => ?_⟩
        rcases LamX.among_app _ tri (lst ▸ hcv) with z | z
        · obtain ⟨c0, e1, e2⟩ := among p' cv z
          exact ⟨c0, e1, ext _ _ e2 LamX.codeO_ne⟩
        · exact ⟨c', z, upd_same⟩
      · obtain ⟨qs, a1, a2, a3⟩ := hT p hp
        refine ⟨qs, (upd_ne (ne_of_none a1 nc)).trans ((upd_ne hb).trans a1), a2, fun p' cv hcv => ?_⟩
        obtain ⟨c0, e1, e2⟩ := a3 p' cv hcv
        exact ⟨c0, e1, ext _ _ e2 LamX.codeO_ne⟩
    · rw [upd_ne (Nat.ne_of_gt hlt), upd_ne (Nat.ne_of_gt (Nat.lt_of_lt_of_le lP hsz))]
      exact I.hok.fresh hsz
/-- what is new to the heap is new to the def -/
theorem new_track {f : Addr} {o : HO} {s1 : Shared} {H1 : Hp} (hex : X.ex = []) (I : Inv X pins σ H s) (hge : s.heap.objs.size ≤ f) (I1 : Inv X pins σ H1 s1) (hn : H1 f = none) (new : ObjOk X.prog X.w (upd H1 f o) s1.heap f o) : Inv X pins σ (upd H1 f o) s1 := by
  have no : ∀ u, s.heap.get? f ≠ some u := fun u e => absurd (Heap.lt_size e) (Nat.not_lt.mpr hge)
  refine Inv.track I1 hn ?_ (fun z => ?_) (fun x c e z => ?_) (fun p hp z => no _ (z ▸ (I.pin p hp).1)) new
  · match e : X.s_0.heap.get? f with
    | none => rfl
    | some u =>
      obtain ⟨u', q⟩ := I.base.there f u e (hex ▸ List.not_mem_nil)
      exact absurd q (no u')
  · obtain ⟨m, ⟨ob, es, ep, g, _⟩, _⟩ := I.loc
    exact no ob (z ▸ g)
  · obtain ⟨v, ob, g, _⟩ := I.cell x c e
    exact no ob (z ▸ g)
def tLamV (X : Cx) (T : List (Addr × Str)) (d : LamD) : TE := fun σ H Q => LamX.Tabs T H ∧ ∀ f c' H1, LamX.ExtN H H1 → LamX.Tabs T H1 → H f = none → H1 f = some (LamO d (X.env.qual ++ "<lambda>") (d.cl X) f c') → H1 c' = some (LamX.CodeO c' (X.env.qual ++ "<lambda>")) → Q (.ref f) H1
theorem lamO_net {d : LamD} {q : Str} {cl : List (Str × Addr)} {f c' : Addr} (ps : Array Value) : LamO d q cl f c' ≠ .tbl ps := fun z => by
  unfold LamO at z
  cases z
/-- lambda: body -/
theorem pe_lamV {T : List (Addr × Str)} {c P : Addr} {d : LamD} {pos : Pos} (hex : X.ex = []) (TB : LamX.TabB X.base X.mg c P) (hcode : X.env.code = .ref c) (hm : (P, X.env.qual ++ "<lambda>") ∈ T) (hu : ∀ p ∈ T, p.1 = P → p.2 = X.env.qual ++ "<lambda>") (hdef : defaultsOf d.params X.env = ([], []))
    (L : LamX.LamS X.env.scope d.scope) : PE X (.Lambda d.params d.body d.scope pos) (tLamV X T d) := ⟨fun pins s σ H Q I ⟨hT, h⟩ => by
  refine lam_new I TB hcode hm hu hT hdef (L.has I.ok) fun f c' pm ctv H1 s1 I1 e1 T1 g hn hge h0 hc => ?_
  have J := new_track hex I hge I1 hn (lamO_ok g)
  have up : ∀ {b : Addr} {u : HO}, H1 b = some u → upd H1 f (LamO d (X.env.qual ++ "<lambda>") (d.cl X) f c') b = some u := fun {b u} e => by
    rw [upd_ne (ne_of_none e hn)]
    exact e
  exact ⟨.ref f, _, J, rfl, h f c' _ (fun b o e nt => up (e1 b o e nt)) (T1.ext fun b o e => up e) h0 upd_same (up hc)⟩⟩
end
end SA

set_option Elab.async false
set_option linter.all false
set_option maxRecDepth 100000
set_option maxHeartbeats 4000000
/-! ### a def called with a lambda that is at hand -/
namespace SA
open PySem PySem.Spec PyProof.Rows L2
section
variable {X : Cx} {pins : List (Addr × Obj)} {σ : L2.St} {H : Hp} {s : Shared}
/-- the body of the def that got the lambda d: work() -/
theorem pe_actV {Ng : List Str} {qg : Str} {sg : Scope} {g f c' : Addr} {cdg : Value} {d : LamD} {k i : Nat} {a : Str} {pn : List (Addr × Obj)} {xe : Value → Shared → Prop} {W : WX} {tb : XK → TE} {p1 p2 : Pos}
    (I : Inv X pins σ H s) (L : LamX.LamS X.env.scope d.scope) (hbind : ∀ (cl : List (Str × Addr)) (pm cv ctv : Value), bindArgs (PySem.W.kla_fn "<lambda>" (X.env.qual ++ "<lambda>") d.params d.body d.scope cl pm cv ctv) ⟨[], []⟩ = pure [])
    (tk : Takes ((cxOf C8.CX0 X.prog X.w X.K X.mg X.base Ng qg sg g cdg X.A X.stack s H C8.E0).tr pn xe) W) (hr : Room (k + 1) (X.A.deeper (envOfC qg sg s.heap.objs.size g cdg)))
    (hbody : ∀ (A : Around) (outer : List Env) (s : Shared) (H : Hp) (E : XK), Room k (A.deeper (LamX.lamEnv X d.scope s.heap.objs.size f c')) → PE (LamX.lamCx X A outer s H E d.scope f c') d.body (tb E))
    (hN : Ng[i]? = some a) (hv : Vis sg a) (hd : (a == ("__debug__" : Str)) = false := by decide) (hcd : (a == ("__classdict__" : Str)) = false := by decide) :
    PE ((cxOf C8.CX0 X.prog X.w X.K X.mg X.base Ng qg sg g cdg X.A X.stack s H C8.E0).tr pn xe) (.Call (.Name a p1) [] [] p2)
      (fun σZ HZ Q => σZ[i]? = some (some (.ref f)) ∧ HZ c' = some (LamX.CodeO c' (X.env.qual ++ "<lambda>")) ∧ HZ f = some (LamO d (X.env.qual ++ "<lambda>") (d.cl X) f c') ∧ ∃ E : XK, (∀ cls d H', E cls d H' → W cls d σZ H') ∧ tb E σ HZ Q) := ⟨fun pinsZ sZ σZ HZ Q IZ ⟨h0, hc, hf, E, hW, ht⟩ => by
  refine wpAny_Call_Name_kw (thn ((pe_var (pos := p1) (i := i) hN hv hd hcd).run pinsZ sZ σZ HZ (fun v H1 => v = .ref f ∧ H1 = HZ) IZ ⟨.ref f, h0, rfl, rfl⟩) fun u s1 ⟨v, H1, I1, r1, ev, eH⟩ => ?_)
  subst ev eH
  obtain rfl : u = Value.ref f := r1
  obtain ⟨⟨pm, ctv, at1⟩, _, _⟩ := I1.hok f _ hf
  obtain ⟨⟨oc, vs, t, e1, e2, e3⟩, _, _⟩ := I1.hok c' _ hc
  have un : Un (frs X.stack) [] H H1 s.heap s1.heap := I1.base
  have run : codeAny (model X.prog X.w) (X.A.deeper (envOfC qg sg s.heap.objs.size g cdg)) (.call (.ref f) ⟨[], []⟩) (CR (L2.CX X.prog X.w) (envOfC qg sg s.heap.objs.size g cdg :: X.stack) X.prog X.w H1 s1 Q E) s1 := by
    refine PySem.W.kla_callFunE hr.depth at1 rfl L.co L.gen rfl ⟨c', oc, vs, t, rfl, e1, e2, e3⟩ ?_
    rw [hbind]
    refine wpAny_pure (wpAny_newFunctionEnv (fun y hy => (L.own y hy).2) (fun y hy => absurd hy (by simp)) (fun h₁ ns1 be => ⟨I1.nolimit.fresh _ be, ?_⟩) L.kind)
    have J := LamX.lam_start2 (E := E) (f := f) (c' := c') (tk := s1.toks + ([] : List (Str × Value)).length) I L I1.env0 hr.hd un ns1 fun b o e => be.extBut b o (Nat.ne_of_lt (Heap.lt_size e)) (Heap.get?_push_of_some _ e)
    refine PySem.W.kla_codeExpr (wpAny_mono ((hbody _ _ s1 H1 E (hr.deeper _)).run [] _ _ H1 Q J ht) (fun v s' ⟨w', H', J', rv, q⟩ => ?_) fun e s' q => q)
    exact ⟨w', H', J'.os, J'.bare, J'.base, J'.hok, rv, q⟩
  refine PySem.W.callWith_F0 ⟨_, _, _, _, at1⟩ (wpAny_call (codeAny_mono run fun r s' q => ?_))
  match r, q with
  | .ok (.ret u), q => exact I1.after q
  | .ok .next, q => exact q.elim
  | .ok .brk, q => exact q.elim
  | .ok .cont, q => exact q.elim
  | .error e, q => exact tk e s' (XE.of_call I1 hW q)⟩
end
/-- a def of one parameter that calls what it got -/
def GivesV (X : Cx) (Ng : List Str) (x : Str) (sg : Scope) (g : Addr) (cdg : Value) (bg : List Stmt) (a : Str) (q : Str) (TT : (XK → Hp → VK → Prop) → Hp → VK → Prop) : Prop :=
  ∀ (f c' : Addr) (o : HO) (s : Shared) (H : Hp) (Q : VK) (tl : XK → Hp → VK → Prop),
    (∀ (W : WX) (pn : List (Addr × Obj)) (xe : Value → Shared → Prop) (p1 p2 : Pos), Takes ((cxOf C8.CX0 X.prog X.w X.K X.mg X.base Ng x sg g cdg X.A X.stack s H C8.E0).tr pn xe) W →
      PE ((cxOf C8.CX0 X.prog X.w X.K X.mg X.base Ng x sg g cdg X.A X.stack s H C8.E0).tr pn xe) (.Call (.Name a p1) [] [] p2)
        (fun σZ HZ Q => σZ[0]? = some (some (.ref f)) ∧ HZ c' = some (LamX.CodeO c' q) ∧ HZ f = some o ∧ ∃ E : XK, (∀ cls d H', E cls d H' → W cls d σZ H') ∧ tl E HZ Q)) →
    H c' = some (LamX.CodeO c' q) → H f = some o → TT tl H Q →
    ∃ t, PSs (cxOf C8.CX0 X.prog X.w X.K X.mg X.base Ng x sg g cdg X.A X.stack s H C8.E0).nox bg t ∧ t { nx := fun _ H' => Q .non H', rt := Q } (L2.start Ng [.ref f]) H
/-- what is asked where a def is called with one of the lambdas ls -/
def tCallV (X : Cx) (ls : List (LamD × (XK → TE))) (TT : (XK → Hp → VK → Prop) → Hp → VK → Prop) (te : TE) : TE := fun σ H Q => te σ H fun x H1 => ∃ l ∈ ls, ∃ f c', x = .ref f ∧ H1 f = some (LamO l.1 (X.env.qual ++ "<lambda>") (l.1.cl X) f c') ∧ H1 c' = some (LamX.CodeO c' (X.env.qual ++ "<lambda>")) ∧ TT (fun E H' Q' => l.2 E σ H' Q') H1 Q
section
variable {X : Cx}
/-- x(e), e one of the lambdas -/
theorem pe_callV {TT : (XK → Hp → VK → Prop) → Hp → VK → Prop} {x a : Str} {g : Addr} {k : Nat} {pg : Arguments} {bg : List Stmt} {sg : Scope} {dV kV doc pm cdv ct oc : Value} {an od : Option Addr} {osl : Array (Option Value)} {Ng : List Str} {ls : List (LamD × (XK → TE))} {e : Expr} {te : TE} {p pos : Pos}
    (hg : Gl X x) (hm : X.mg x = some (.ref g)) (hk : PySem.W.keepIn X.K (.ref g) = true)
    (lk : X.K.lookup g = some ⟨oc, od, .func (PySem.W.fnOf x x pg bg sg dV kV doc pm an cdv ct), osl⟩) (hcg : PySem.W.codeIn X.K cdv x = true) (hb : L2.Binds X.K (PySem.W.fnOf x x pg bg sg dV kV doc pm an cdv ct) [a] []) (Sg : FnScope Ng [a] sg) (hNg : Ng[0]? = some a) (hva : Vis sg a)
    (hG : GivesV X Ng x sg g cdv bg a (X.env.qual ++ "<lambda>") TT) (hr : Room (k + 2) X.A) (he : PE X e te) (hst : starEach [e] X.env = (false, eval e X.env) :: starEach [] X.env)
    (hl : ∀ l ∈ ls, LamX.LamS X.env.scope l.1.scope ∧ (∀ (q : Str) (cl : List (Str × Addr)) (pm cv ctv : Value), bindArgs (PySem.W.kla_fn "<lambda>" q l.1.params l.1.body l.1.scope cl pm cv ctv) ⟨[], []⟩ = pure []) ∧
      ∀ (A : Around) (outer : List Env) (s : Shared) (H : Hp) (E : XK) (f c' : Addr), Room k (A.deeper (LamX.lamEnv X l.1.scope s.heap.objs.size f c')) → PE (LamX.lamCx X A outer s H E l.1.scope f c') l.1.body (l.2 E))
    (hdb : (x == ("__debug__" : Str)) = false := by decide) (hd : (a == ("__debug__" : Str)) = false := by decide) (hcd : (a == ("__classdict__" : Str)) = false := by decide) (hpl : (backTo pos (starEach [e] X.env)).any (·.1) = false := by rfl) :
    PE X (.Call (.Name x p) [e] [] pos) (tCallV X ls TT te) := by
  refine ⟨fun pins s σ H Q I h => ?_⟩
  refine wpAny_Call_Name_kw (ld_glob I hg hm ?_ hdb)
  refine PySem.W.callWith_K (h₀ := X.base) I.ok.mod.kin hk (thn ((pa_cons he pa_nil hst).run pos pins s σ H (fun vs H1 => match vs with
    | [x] => ∃ l ∈ ls, ∃ f c', x = .ref f ∧ H1 f = some (LamO l.1 (X.env.qual ++ "<lambda>") (l.1.cl X) f c') ∧ H1 c' = some (LamX.CodeO c' (X.env.qual ++ "<lambda>")) ∧ TT (fun E H' Q' => l.2 E σ H' Q') H1 Q
    | _ => False) I h) fun us s1 ⟨vs, H1, I1, r1, z⟩ => ⟨I1.kIn, ?_⟩) hst (by rfl)
  obtain ⟨v, rfl, l, hm1, f, c', ev, hf, hc, q⟩ : ∃ v, vs = [v] ∧ ∃ l ∈ ls, ∃ f c', v = .ref f ∧ H1 f = some (LamO l.1 (X.env.qual ++ "<lambda>") (l.1.cl X) f c') ∧ H1 c' = some (LamX.CodeO c' (X.env.qual ++ "<lambda>")) ∧ TT (fun E H' Q' => l.2 E σ H' Q') H1 Q := by
    match vs, z with
    | [v], z => exact ⟨v, rfl, z⟩
    | [], z => exact z.elim
    | _ :: _ :: _, z => exact z.elim
  subst ev
  obtain ⟨u, eu, ru⟩ := vals1 r1
  subst eu
  obtain rfl : u = Value.ref f := ru
  obtain ⟨L, hbind, hbody⟩ := hl l hm1
  have rc : codeAny (model X.prog X.w) X.A (.call (.ref g) ⟨[.ref f], []⟩) (CR C8.CX0 X.stack X.prog X.w H1 s1 Q C8.E0) s1 := by
    refine LamX.run_ofS (N := Ng) (ps := [a]) (us := [.ref f]) (vs := [.ref f]) lk hcg Sg hr I1.env0 (hb s1 [.ref f] I1.kIn rfl) (.cons rfl .nil) rfl fun hr' => ?_
    obtain ⟨t', ht', hq'⟩ := hG f c' _ s1 H1 Q (fun E H' Q' => l.2 E σ H' Q') (fun W pn xe p1 p2 tk => pe_actV (i := 0) I1 L (hbind _) tk hr' (fun A outer s H E hr2 => hbody A outer s H E f c' hr2) hNg hva hd hcd) hc hf q
    exact ⟨t', ht'.nox, hq'⟩
  refine wpAny_call (codeAny_mono rc fun r s2 hq => ?_)
  match r, hq with
  | .ok (.ret u), hq => exact I1.after hq
  | .ok .next, hq => exact hq.elim
  | .ok .brk, hq => exact hq.elim
  | .ok .cont, hq => exact hq.elim
  | .error e, hq => exact (show False from hq).elim
end
end SA

set_option Elab.async false
set_option linter.all false
set_option maxRecDepth 100000
set_option maxHeartbeats 4000000
namespace SA
open PySem PySem.Spec PyProof.Rows L2
/-- what walks, and what is done for each -/
theorem walks {J : It} {n : Nat} {G : Hp → Prop} {Y : Nat → Hp → V → Hp → Prop} (w : Walk J n G Y) {In : (Hp → Prop) → V → Hp → Prop} {Qd : Hp → Prop} {H0 : Hp} (Pv : Nat → Hp → Prop) (h0 : Pv 0 H0) (hG : ∀ i H, i ≤ n → Pv i H → G H)
    (hs : ∀ i x H H', i < n → Pv i H → Y i H x H' → In (Pv (i + 1)) x H') (hd : ∀ H, Pv n H → Qd H) :
    ∃ W : Nat → Nat → Hp → Prop, (∃ m, W 0 m H0) ∧ ∀ i m H, W i m H → (J.stop i H ∧ Qd H) ∨ (J.go i H ∧ ∃ Nx : Hp → Prop, (∀ H', Nx H' → ∃ m', m' < m ∧ W (i + 1) m' H') ∧ ∀ x H', J.yld i H x H' → In Nx x H') := by
  refine ⟨fun i m H => m = n - i ∧ i ≤ n ∧ Pv i H, ⟨n, by simp, Nat.zero_le _, h0⟩, ?_⟩
  rintro i m H ⟨rfl, hi, p⟩
  have q := hG i H hi p
  by_cases hlt : i < n
  · exact .inr ⟨w.goes i H hlt q, Pv (i + 1), fun H' p' => ⟨n - (i + 1), by omega, rfl, hlt, p'⟩, fun x H' y => hs i x H H' hlt p (w.yields i H x H' hlt q y)⟩
  · have e : i = n := by omega
    subst e
    exact .inl ⟨w.stops H q, hd H p⟩
theorem and_both {t u : TT} {σ : L2.St} {H : Hp} {Q : Bool → Hp → Prop} (b1 b2 : Bool) (h1 : ∀ R : Bool → Hp → Prop, R b1 H → t σ H R) (h2 : ∀ R : Bool → Hp → Prop, R b2 H → u σ H R) (q : Q (b1 && b2) H) : tAnd t u σ H Q := by
  refine h1 _ ?_
  cases b1 with
  | true => exact iteT (h2 _ q)
  | false => exact iteF q
theorem or_both {t u : TT} {σ : L2.St} {H : Hp} {Q : Bool → Hp → Prop} (b1 b2 : Bool) (h1 : ∀ R : Bool → Hp → Prop, R b1 H → t σ H R) (h2 : ∀ R : Bool → Hp → Prop, R b2 H → u σ H R) (q : Q (b1 || b2) H) : tOr t u σ H Q := by
  refine h1 _ ?_
  cases b1 with
  | true => exact iteT q
  | false => exact iteF (h2 _ q)
/-- the built-in names that the text uses beside -/
structure Bn11 (mg : Str → Option Value) : Prop where
  sorted : mg "sorted" = none
  set : mg "set" = none
  any : mg "any" = none
  isinstance : mg "isinstance" = none
  int : mg "int" = none
  bool : mg "bool" = none
  str : mg "str" = none
  len : mg "len" = none
  range : mg "range" = none
  tuple : mg "tuple" = none
  list : mg "list" = none
  all : mg "all" = none
  enumerate : mg "enumerate" = none
  min : mg "min" = none
  repr : mg "repr" = none
  dict : mg "dict" = none
def nmV (w : List Nat) : List V := w.map fun i => V.str (nm i)
theorem nmV_str (w : List Nat) : nmV w = (w.map nm).map V.str := by
  unfold nmV
  rw [List.map_map]
  rfl
/-- a dict of the units: each name, what it uses -/
structure UD (K : PySem.W.Frag) (H : Hp) (u : Addr) (us : List Nat) (adj : Nat → List Nat) (ad : Nat → Addr) : Prop where
  e : H u = some (.dK (us.map fun n => ((Sum.inr (nm n) : Key), V.ref (ad n))))
  t : ∀ n ∈ us, SqT K H (ad n) (nmV (adj n))
/-- what is known of the units -/
structure Gr (us : List Nat) (adj : Nat → List Nat) : Prop where
  nd : us.Nodup
  l7 : lt7 us
  few : us.length ≤ 6
  an : ∀ n, (adj n).Nodup
  cl : ∀ x y, y ∈ adj x → x ∈ us ∧ y ∈ us
theorem ix_tupK {X : Cx} {K : PySem.W.Frag} (hK : X.K = K) : IxR X (rIxT K) := hK ▸ ix_tup
theorem ix_listK {X : Cx} {K : PySem.W.Frag} (hK : X.K = K) : IxR X (rIxL K) := hK ▸ ix_list
theorem op_in_seqK {X : Cx} {K : PySem.W.Frag} (hK : X.K = K) : OpR X (compareOp .In) (rIn K false) := hK ▸ op_in_seq
theorem op_notIn_seqK {X : Cx} {K : PySem.W.Frag} (hK : X.K = K) : OpR X (compareOp .NotIn) (rIn K true) := hK ▸ op_notIn_seq
theorem pi_tupK {X : Cx} {K : PySem.W.Frag} {tg e : Expr} {te : TE} (hK : X.K = K) (he : PE X e te) : PI X tg e (iTup K te) := hK ▸ pi_tup he
theorem pi_listK {X : Cx} {K : PySem.W.Frag} (hK : X.K = K) {g e : Expr} {te : TE} (h : PE X e te) : PI X g e (iList K te) := hK ▸ pi_list h
theorem op_eq_nilLK {X : Cx} {K : PySem.W.Frag} (hK : X.K = K) (hu : X.A.units + 64 < cLine) : OpR X (compareOp .Eq) (fun x y H Q => ∃ (a b : Addr) (xs : List V), x = .ref a ∧ y = .ref b ∧ SqL K H a xs ∧ SqL K H b [] ∧ Q (.bl xs.isEmpty) H) := hK ▸ op_eq_nilL hu
theorem pt_truthK {X : Cx} {K : PySem.W.Frag} {a : Expr} {ta : TE} (hK : X.K = K) (ha : PE X a ta) (he : ∀ whole, isTrue a X.env whole = (do let v ← whole; standAt a.pos; holding [v] (truthy v))) : PT X a (fun σ H Q => ta σ H fun x H' => ∃ k, TruV K x H' k ∧ Q k H') := hK ▸ pt_truth ha he
theorem cr_allK {X : Cx} {K : PySem.W.Frag} (hK : X.K = K) (hc : X.calm = true) : CallR X (.builtin "all") (rAll K) := hK ▸ cr_all hc
theorem cr_anyK {X : Cx} {K : PySem.W.Frag} (hK : X.K = K) (hc : X.calm = true) : CallR X (.builtin "any") (rAny K) := hK ▸ cr_any hc
/-- is a name among those -/
theorem inN {p : Nat} (hp : p < 7) {l : List Nat} (hl : lt7 l) : inV (.str (nm p)) (nmV l) = decide (p ∈ l) := by
  unfold inV nmV
  rw [List.any_map, Bool.eq_iff_iff, List.any_eq_true, decide_eq_true_eq]
  constructor
  · rintro ⟨k, hk, e⟩
    have e : (nm k == nm p) = true := e
    exact nm_inj (hl k hk) hp (by simpa using e) ▸ hk
  · intro hk
    exact ⟨p, hk, (by show (nm p == nm p) = true; simp)⟩
theorem flatN (l : List Nat) : (nmV l).all flatV = true := by
  unfold nmV
  rw [List.all_map]
  exact List.all_eq_true.mpr fun _ _ => rfl
/-- what the dict has at a name -/
theorem ud_val {us : List Nat} {ad : Nat → Addr} {n : Nat} (nd : us.Nodup) (h7 : lt7 us) (hn : n < 7) : valV (us.map fun n => ((Sum.inr (nm n) : Key), V.ref (ad n))) (Sum.inr (nm n)) = if n ∈ us then some (V.ref (ad n)) else none := by
  unfold valV
  rw [List.find?_map]
  induction us with
  | nil => rfl
  | cons m us ih =>
    obtain ⟨nn, nd'⟩ := List.nodup_cons.mp nd
    have hm := h7 m List.mem_cons_self
    have ih := ih nd' fun k hk => h7 k (List.mem_cons_of_mem _ hk)
    rw [List.find?_cons]
    by_cases e : m = n
    · subst e
      simp
    · have ne : nm m ≠ nm n := fun z => e (nm_inj hm hn z)
      have : ((fun kv : Key × V => decide (kv.1 = Sum.inr (nm n))) ∘ fun n => ((Sum.inr (nm n) : Key), V.ref (ad n))) m = false := decide_eq_false fun z => ne (Sum.inr.inj z)
      rw [this]
      simp only [List.mem_cons, show ¬ n = m from fun z => e z.symm, false_or]
      exact ih
theorem UD.get {K : PySem.W.Frag} {H : Hp} {u : Addr} {us : List Nat} {adj : Nat → List Nat} {ad : Nat → Addr} (U : UD K H u us adj ad) (G : Gr us adj) {n : Nat} (hn : n ∈ us) : DGet H u (.str (nm n)) (some (.ref (ad n))) := by
  have := DGet.k (k := (Sum.inr (nm n) : Key)) U.e
  rw [ud_val G.nd G.l7 (G.l7 n hn), if_pos hn] at this
  exact this
theorem UD.same {K : PySem.W.Frag} {H H' : Hp} {u : Addr} {us : List Nat} {adj : Nat → List Nat} {ad : Nat → Addr} (U : UD K H u us adj ad) (s : Same H H') : UD K H' u us adj ad := ⟨s _ _ U.e, fun n hn => by
  rcases U.t n hn with (h | ⟨o, h⟩) | h
  · exact .inl (.inl (s _ _ h))
  · exact .inl (.inr ⟨o, s _ _ h⟩)
  · exact .inr h⟩
theorem Gr.l {us : List Nat} {adj : Nat → List Nat} (G : Gr us adj) (n : Nat) : lt7 (adj n) := fun y hy => G.l7 y (G.cl n y hy).2
theorem Gr.len {us : List Nat} {adj : Nat → List Nat} (G : Gr us adj) (n : Nat) : (adj n).length ≤ 6 := Nat.le_trans (G11.nodup_sub (G.an n) fun y hy => (G.cl n y hy).2) G.few
theorem nmV_at {l : List Nat} {i : Nat} {v : V} (h : (nmV l)[i]? = some v) : ∃ n, l[i]? = some n ∧ v = .str (nm n) := by
  unfold nmV at h
  rw [List.getElem?_map] at h
  match e : l[i]?, h with
  | some n, h => exact ⟨n, rfl, (Option.some.inj h).symm⟩
  | none, h => cases h
theorem filt_snoc (f : Nat → Bool) {l : List Nat} {i n : Nat} (h : l[i]? = some n) : (l.take (i + 1)).filter f = (l.take i).filter f ++ if f n = true then [n] else [] := by
  rw [List.take_add_one, h, List.filter_append]
  cases e : f n <;> simp [e]
theorem nmV_app (a b : List Nat) : nmV (a ++ b) = nmV a ++ nmV b := List.map_append
theorem nmV_len (a : List Nat) : (nmV a).length = a.length := List.length_map _
theorem SqT.same {K : PySem.W.Frag} {H H' : Hp} {a : Addr} {xs : List V} (h : SqT K H a xs) (s : Same H H') : SqT K H' a xs := by
  rcases h with (h | ⟨o, h⟩) | h
  · exact .inl (.inl (s _ _ h))
  · exact .inl (.inr ⟨o, s _ _ h⟩)
  · exact .inr h
/-- one turn of [x for x in l if ..] -/
theorem filt_step {f : Nat → Bool} {H0 H3 : Hp} {D : Addr} {l : List Nat} {i n : Nat} {b : Bool} (hb : b = f n) (hn : l[i]? = some n) (hD : H0 D = none) (s : Same H0 H3) (e : H3 D = some (.lst (nmV ((l.take i).filter f)))) (sz : l.length < 1000) :
    if b = true then (∃ v, (some (some (V.str (nm n))) : Option (Option V)) = some (some v) ∧ ∃ acc, H3 D = some (.lst acc) ∧ acc.length < sizeLine ∧ Same H0 (upd H3 D (.lst (acc ++ [v]))) ∧ upd H3 D (.lst (acc ++ [v])) D = some (.lst (nmV ((l.take (i + 1)).filter f))))
    else Same H0 H3 ∧ H3 D = some (.lst (nmV ((l.take (i + 1)).filter f))) := by
  subst hb
  rw [filt_snoc f hn]
  cases h : f n with
  | true =>
    refine iteTd rfl ⟨_, rfl, _, e, ?_, Same.upd' s hD, ?_⟩
    · have := List.length_filter_le f (l.take i)
      have h2 := sizeLine_eq
      rw [nmV_len]
      rw [List.length_take] at this
      omega
    · rw [upd_same, nmV_app]
      rfl
  | false =>
    refine iteFd rfl ⟨s, ?_⟩
    rw [e]
    simp
theorem Same.gone {H H' : Hp} (s : Same H H') {p : Addr} (h : H' p = none) : H p = none := by
  cases e : H p with
  | none => rfl
  | some o =>
    have := s p o e
    rw [h] at this
    cases this
theorem Same.put {H H' : Hp} {p : Addr} {o : HO} (s : Same H H') (h : H p = none) : Same H (upd H' p o) := Same.upd' s h
theorem ordGo_nil {adj : Nat → List Nat} {ns f : List Nat} (h : G11.rdy adj ns f = []) : ∀ k, G11.ordGo adj ns k f = f
  | 0 => rfl
  | k + 1 => by
    rw [G11.ordGo, h]
theorem ordGo_cons {adj : Nat → List Nat} {ns f t : List Nat} {x k : Nat} (h : G11.rdy adj ns f = x :: t) : G11.ordGo adj ns (k + 1) f = G11.ordGo adj ns k (f ++ [x]) := by
  rw [G11.ordGo, h]
theorem cr_setTSK {X : Cx} {P : Program} {w : World} {K : PySem.W.Frag} (h1 : X.prog = P) (h2 : X.w = w) (h3 : X.K = K) (hc : X.calm = true) : CallR X (.type "set") (rSetTS P w K) := h1 ▸ h2 ▸ h3 ▸ cr_setTS hc
theorem cr_sortSSK {X : Cx} {P : Program} {w : World} (h1 : X.prog = P) (h2 : X.w = w) (hc : X.calm = true) : CallR X (.builtin "sorted") (rSortSS P w) := h1 ▸ h2 ▸ cr_sortSS hc
theorem yesT {p q : Prop} (h : p) : if true = true then p else q := (if_pos rfl).mpr h
theorem UD.keys {K : PySem.W.Frag} {H : Hp} {u : Addr} {us : List Nat} {adj : Nat → List Nat} {ad : Nat → Addr} (U : UD K H u us adj ad) : (us.map fun n => ((Sum.inr (nm n) : Key), V.ref (ad n))).map (·.1) = (us.map nm).map Sum.inr := by
  rw [List.map_map, List.map_map]
  rfl
end SA

set_option Elab.async false
set_option linter.all false
set_option maxRecDepth 100000
set_option maxHeartbeats 4000000
namespace SA
open PySem PySem.Spec PyProof.Rows L2
open G11 (ordGo rdy)
def scO1 : Scope := { kind := ScopeKind.function, names := [(".0", NameKind.local), ("name", NameKind.local), ("all", NameKind.globalImplicit), ("found", NameKind.cell), ("uses", NameKind.cell)], isGenerator := false, isCoroutine := false }
section
variable {P : Program} {w0 : World} {K : PySem.W.Frag} {mg : Str → Option Value} {base : Heap}
def spOrd (K : PySem.W.Frag) : Sp := fun vs H Q _ => ∃ (u : Addr) (us : List Nat) (adj : Nat → List Nat) (ad : Nat → Addr), vs = [.ref u] ∧ UD K H u us adj ad ∧ Gr us adj ∧ ∀ H' p, Same H H' → H p = none → H' p = some (.tup (nmV (ordGo adj (ascN us) (ascN us).length []))) → Q (.ref p) H'
theorem ok_order {f : Addr} {fd : FuncData} (F : Fun K "order_by_uses" "order_by_uses" s_order_by_uses f fd) (B : Bn11 mg) : FnOk P w0 K mg base CX0 1 f fd ["uses"] (spOrd K) := by
  refine F.ok sc_order_by_uses (fun vs H Q E h => ?_) (fun cdv A outer s H vs Q E hr h => ?_)
  · obtain ⟨u, us, adj, ad, rfl, _⟩ := h
    rfl
  · obtain ⟨u, us, adj, ad, rfl, U, G, q⟩ := h
    refine ⟨_, (pss_cons (ps_set (i := 1) sc_order_by_uses.nd rfl (Or.inr rfl) (pe_lst pa_nil))
      (pss_cons (ps_setLc (i := 2) (own := [("name", 3)]) (g := (gName 3)) (tt := _) (by rfl) sc_order_by_uses.nd rfl rfl (sw_true rfl rfl rfl (by decide +kernel)) (pi_list (pe_callB (call_sortedD rfl) (by rfl) B.sorted (by decide +kernel) (pa_cons (pv 0) pa_nil))) (blkOk_by (N := n_order_by_uses) (sc := defScope s_order_by_uses) (by decide +kernel)) (fun _ _ _ _ _ => (pg_name (i := 3) sc_order_by_uses.nd rfl (Or.inl rfl))) (fun _ _ _ _ _ => (pts_one (pt_not (pt_truthK (K := K) rfl (pe_dget (hu_of hr) (pv 0) (pv 3) (fun _ _ => rfl)) (by intro _; rfl))))) (fun _ _ _ _ _ => (pv 3)))
      (pss_cons (ps_while PassesOwn.never (pt_truth (pv 2) (by intro _; rfl)) (pss_cons (ps_expr (pe_bm PySem.F.plainAttrs_list PySem.F.slot_list_append PySem.F.type_list_append mt_append (pv 1) (pa_cons (pe_ix ix_list (pv 2) pe_int (fun _ _ => rfl)) pa_nil)))
      (pss_one (ps_setLc (i := 2) (own := [("name", 3)]) (g := (gName 3)) (tt := _) (by rfl) sc_order_by_uses.nd rfl rfl (sw_true rfl rfl rfl (by decide +kernel)) (pi_list (pe_callB (call_sortedD rfl) (by rfl) B.sorted (by decide +kernel) (pa_cons (pv 0) pa_nil))) (blkOk_by (N := n_order_by_uses) (sc := defScope s_order_by_uses) (by decide +kernel)) (fun _ _ _ _ _ => (pg_name (i := 3) sc_order_by_uses.nd rfl (Or.inl rfl))) (fun _ _ _ _ _ => (pts_one (PW.pt (pw_and (pt_cmpR (op_notIn_seqK (K := K) rfl) (pv 3) (pv 1) (by rfl)) (pw_and1 (pt_val (pe_callB (cr_allK (K := K) rfl rfl) (by rfl) B.all (by decide +kernel) (pa_cons (pe_lc (own := [("other", 4)]) (g := (gName 4)) (tt := tYes) (by rfl) sc_order_by_uses.nd (pi_tupK (K := K) rfl (pe_dget (hu_of hr) (pv 0) (pv 3) (fun _ _ => rfl))) (blkOk_by (N := n_order_by_uses) (sc := scO1) (by decide +kernel)) (fun _ _ _ _ _ => (pg_name (i := 4) sc_order_by_uses.nd rfl (Or.inl rfl))) (fun _ _ _ _ _ => pts_nil) (fun _ _ _ _ _ => (pe_cmpR (op_in_seqK (K := K) rfl) (pv 4) (pv 1) (by rfl)))) pa_nil)))))))) (fun _ _ _ _ _ => (pv 3))))))
      (pss_one (ps_ret (pe_callTy call_tuple_of (by rfl) B.tuple (by decide +kernel) (pa_cons (pv 1) pa_nil))))))), ?_⟩
    have hs63 := sizeLine_eq
    have few := G.few
    refine ⟨by simp, fun p hp => ?_⟩
    have U1 := U.same (Same.new (o := .lst []) hp)
    -- what is ready at the beginning
    refine ⟨_, rfl, u, _, us.map nm, rfl, .inl U1.e, U1.keys, by rw [List.length_map]; omega, fun ys a hpm hso ha => ?_⟩
    obtain rfl := sort_nm G.nd G.l7 hpm hso
    rw [← nmV_str]
    have U2 := U1.same (Same.new (o := .lst (nmV (ascN us))) ha)
    have inU : ∀ {n}, n ∈ ascN us → n ∈ us := fun h => (asc_mem G.l7).mp h
    have l7a := asc_lt us
    have la : (ascN us).length ≤ 6 := by rw [(asc_perm G.nd G.l7).length_eq]; exact few
    have first : ∀ n, ((adj n).isEmpty) = (decide (n ∉ ([] : List Nat)) && ((adj n).all fun o => decide (o ∈ ([] : List Nat)))) := fun n => by cases adj n <;> simp
    refine ⟨a, rfl, ⟨_, SqL.of upd_same⟩, fun D hD => lc_list (K := K) (a := a) (xs := nmV (ascN us)) (fun i H' => Same (upd (upd H p (.lst [])) a (.lst (nmV (ascN us)))) H' ∧ H' D = some (.lst (nmV (((ascN us).take i).filter fun n => (adj n).isEmpty)))) ⟨Same.new hD, upd_same⟩ (fun i H' _ e => SqL.of (e.1 _ _ upd_same)) ?_ ?_⟩
    · rintro i v H2 hv ⟨s2, e2⟩
      obtain ⟨n, hn, rfl⟩ := nmV_at hv
      have nu := inU (List.mem_of_getElem? hn)
      have U3 := U2.same s2
      refine ⟨rfl, _, rfl, _, rfl, u, _, rfl, U3.get G nu, _, .inr (.inl ⟨_, U3.t n nu, rfl⟩), ?_⟩
      refine filt_step (f := fun n => (adj n).isEmpty) ?_ hn hD s2 e2 (by omega)
      show (!!(nmV (adj n)).isEmpty) = _
      rw [Bool.not_not]
      cases adj n <;> rfl
    · rintro H2 ⟨s2, e2⟩
      rw [nmV_len, List.take_length] at e2
      -- the loop
      have e1 : H2 p = some (.lst (nmV [])) := s2 _ _ (by rw [upd_ne (ne_of_none upd_same ha)]; exact upd_same)
      have s0 : Same H H2 := ((Same.new hp).trans (Same.new ha)).trans s2
      have Dp : D ≠ p := (ne_of_none (by rw [upd_ne (ne_of_none upd_same ha)]; exact upd_same) hD).symm
      have er : (ascN us).filter (fun n => (adj n).isEmpty) = rdy adj (ascN us) [] := by
        unfold G11.rdy
        congr 1
        funext n
        exact first n
      rw [er] at e2
      refine ⟨fun k σ H' => ∃ (fo : List Nat) (r : Addr) (y3 y4 : Option V), σ = [some (.ref u), some (.ref p), some (.ref r), y3, y4] ∧ Same H H' ∧ H' p = some (.lst (nmV fo)) ∧ H' r = some (.lst (nmV (rdy adj (ascN us) fo))) ∧ r ≠ p ∧ fo.length + k = (ascN us).length ∧ G11.OrdOk adj (ascN us) fo ∧ ordGo adj (ascN us) k fo = ordGo adj (ascN us) (ascN us).length [], ⟨(ascN us).length, [], D, none, none, rfl, s0, e1, e2, Dp, by simp, ⟨List.nodup_nil, fun _ h => absurd h List.not_mem_nil, fun a x b e => by simp at e⟩, rfl⟩, ?_⟩
      rintro k σ H3 ⟨fo, r, y3, y4, rfl, s3, ep, er3, rp, hk, ok, eq⟩
      refine ⟨_, rfl, !(nmV (rdy adj (ascN us) fo)).isEmpty, .inl ⟨_, SqL.of er3, rfl⟩, ?_⟩
      match hR : rdy adj (ascN us) fo with
      | [] =>
        refine iteFd rfl ⟨_, rfl, p, nmV fo, rfl, .inl ⟨SqL.of ep, fun l hl => ?_⟩⟩
        refine q _ l (Same.put s3 (Same.gone s3 hl)) (Same.gone s3 hl) ?_
        rw [upd_same, ← eq, ordGo_nil hR]
      | x :: t =>
        have hx : x ∈ rdy adj (ascN us) fo := by rw [hR]; exact List.mem_cons_self
        have ok2 := ok.more hx
        have len2 := G11.nodup_sub ok2.nd ok2.sub
        rw [List.length_append, List.length_cons, List.length_nil] at len2
        rw [hR] at er3
        obtain ⟨k', rfl⟩ : ∃ k', k = k' + 1 := ⟨k - 1, by omega⟩
        refine iteTd rfl ⟨fun σ' H' => ∃ m', m' < k' + 1 ∧ _, fun _ _ h => h, ?_⟩
        refine ⟨_, rfl, .inl ⟨rfl, _, SqL.of ep⟩, _, rfl, r, _, 0, _, rfl, rfl, SqL.of er3, atI_nat (j := 0) rfl, p, _, _, rfl, rfl, ep, by rw [nmV_len]; omega, ?_⟩
        have s4 : Same H (upd H3 p (.lst (nmV fo ++ [.str (nm x)]))) := Same.put s3 hp
        have ep4 : (upd H3 p (.lst (nmV fo ++ [.str (nm x)]))) p = some (.lst (nmV (fo ++ [x]))) := by rw [upd_same, nmV_app]; rfl
        generalize upd H3 p (.lst (nmV fo ++ [.str (nm x)])) = H4 at s4 ep4
        have U4 := U.same s4
        have l7f : lt7 (fo ++ [x]) := fun n hn => asc_lt us n (ok2.sub n hn)
        refine ⟨_, rfl, u, _, us.map nm, rfl, .inl U4.e, U4.keys, by rw [List.length_map]; omega, fun ys a2 hpm2 hso2 ha2 => ?_⟩
        obtain rfl := sort_nm G.nd G.l7 hpm2 hso2
        rw [← nmV_str]
        have U5 := U4.same (Same.new (o := .lst (nmV (ascN us))) ha2)
        have ep5 := Same.new (o := .lst (nmV (ascN us))) ha2 _ _ ep4
        refine ⟨a2, rfl, ⟨_, SqL.of upd_same⟩, fun D2 hD2 => lc_list (K := K) (a := a2) (xs := nmV (ascN us)) (fun i H' => Same (upd H4 a2 (.lst (nmV (ascN us)))) H' ∧ H' D2 = some (.lst (nmV (((ascN us).take i).filter fun n => decide (n ∉ fo ++ [x]) && (adj n).all fun o => decide (o ∈ fo ++ [x])))))
          ⟨Same.new hD2, upd_same⟩ (fun i H' _ e => SqL.of (e.1 _ _ upd_same)) ?_ ?_⟩
        · rintro i v H5 hv ⟨s5, e5⟩
          obtain ⟨n, hn, rfl⟩ := nmV_at hv
          have nu := inU (List.mem_of_getElem? hn)
          have n7 := G.l7 n nu
          have U6 := U5.same s5
          have ep6 := s5 _ _ ep5
          refine ⟨rfl, _, rfl, _, rfl, p, _, rfl, .inl (SqL.of ep6), rfl, flatN _, ?_⟩
          rw [inN n7 l7f]
          by_cases hin : n ∈ fo ++ [x]
          · refine ⟨_, rfl, iteFd (by simp [hin]) ?_⟩
            exact filt_step (b := false) (f := fun n => decide (n ∉ fo ++ [x]) && (adj n).all fun o => decide (o ∈ fo ++ [x])) (by simp [hin]) hn hD2 s5 e5 (by omega)
          · refine ⟨_, rfl, iteTd (by simp [hin]) ?_⟩
            refine ⟨_, rfl, _, rfl, u, _, rfl, U6.get G nu, ad n, rfl, ⟨_, U6.t n nu⟩, fun D3 hD3 => lc_tup (K := K) (a := ad n) (xs := nmV (adj n)) (fun i H' => Same H5 H' ∧ H' D3 = some (.lst (((adj n).take i).map fun o => V.bl (decide (o ∈ fo ++ [x]))))) ⟨Same.new hD3, upd_same⟩ (fun i H' _ e => SqT.same (U6.t n nu) e.1) ?_ ?_⟩
            · rintro j w H6 hw ⟨s6, e6⟩
              obtain ⟨o, ho, rfl⟩ := nmV_at hw
              have o7 := G.l n o (List.mem_of_getElem? ho)
              refine ⟨rfl, yes ⟨_, rfl, _, rfl, p, _, rfl, .inl (SqL.of (s6 _ _ ep6)), rfl, flatN _, ?_⟩⟩
              rw [inN o7 l7f]
              refine ⟨_, e6, ?_, Same.upd' s6 hD3, ?_⟩
              · rw [List.length_map, List.length_take]
                have := G.len n
                omega
              · rw [upd_same, List.take_add_one, ho, List.map_append]
                rfl
            · rintro H6 ⟨s6, e6⟩
              rw [nmV_len, List.take_length] at e6
              refine ⟨D3, ((adj n).map fun o => decide (o ∈ fo ++ [x])), rfl, ?_, ?_⟩
              · rw [List.map_map]
                exact SqL.of e6
              · refine ⟨_, rfl, ?_⟩
                refine filt_step (f := fun n => decide (n ∉ fo ++ [x]) && (adj n).all fun o => decide (o ∈ fo ++ [x])) ?_ hn hD2 (s5.trans s6) (s6 _ _ e5) (by omega)
                rw [List.all_map]
                simp [hin]
                try rfl
        · rintro H5 ⟨s5, e5⟩
          rw [nmV_len, List.take_length] at e5
          refine ⟨k', by omega, fo ++ [x], D2, y3, y4, rfl, (s4.trans (Same.new ha2)).trans s5, s5 _ _ ep5, e5, (ne_of_none ep5 hD2).symm, by simp; omega, ok2, ?_⟩
          rw [← eq, ordGo_cons hR]
end
end SA

set_option Elab.async false
set_option linter.all false
set_option maxRecDepth 100000
set_option maxHeartbeats 4000000
namespace SA
open PySem PySem.Spec PyProof.Rows L2
open G11 (bfs lvl ext SaOk)
/-- tuples of names, at their addresses -/
inductive WsAt (H : Hp) : List Addr → List (List Nat) → Prop
  | nil : WsAt H [] []
  | cons {a : Addr} {w : List Nat} {as : List Addr} {ws : List (List Nat)} : H a = some (.tup (nmV w)) → WsAt H as ws → WsAt H (a :: as) (w :: ws)
theorem WsAt.same {H H' : Hp} (s : Same H H') : ∀ {as : List Addr} {ws : List (List Nat)}, WsAt H as ws → WsAt H' as ws
  | _, _, .nil => .nil
  | _, _, .cons e t => .cons (s _ _ e) (t.same s)
theorem WsAt.put {H : Hp} {x : Addr} {o o' : HO} (e0 : H x = some o) (ho : ∀ xs, o ≠ .tup xs) : ∀ {as : List Addr} {ws : List (List Nat)}, WsAt H as ws → WsAt (upd H x o') as ws
  | _, _, .nil => .nil
  | _, _, .cons e t => .cons (by rw [upd_ne (fun z => by rw [z, e0] at e; exact ho _ (Option.some.inj e))]; exact e) (t.put e0 ho)
theorem WsAt.snoc {H : Hp} {a : Addr} {w : List Nat} (e : H a = some (.tup (nmV w))) : ∀ {as : List Addr} {ws : List (List Nat)}, WsAt H as ws → WsAt H (as ++ [a]) (ws ++ [w])
  | _, _, .nil => .cons e .nil
  | _, _, .cons e' t => .cons e' (t.snoc e)
theorem WsAt.len {H : Hp} : ∀ {as : List Addr} {ws : List (List Nat)}, WsAt H as ws → as.length = ws.length
  | _, _, .nil => rfl
  | _, _, .cons _ t => by rw [List.length_cons, List.length_cons, t.len]
theorem WsAt.at_ {H : Hp} : ∀ {as : List Addr} {ws : List (List Nat)} {i : Nat} {a : Addr}, WsAt H as ws → as[i]? = some a → ∃ w, ws[i]? = some w ∧ H a = some (.tup (nmV w))
  | _, _, i, _, .nil, e => by simp at e
  | _, _, 0, _, .cons h _, e => by
    cases e
    exact ⟨_, rfl, h⟩
  | _, _, i + 1, _, .cons _ t, e => t.at_ (i := i) e
theorem at_last {w : List Nat} (h : w ≠ []) : atI (nmV w) (-1) = some (.str (nm (w.getLastD 0))) := by
  have hl : 0 < w.length := List.length_pos_iff.mpr h
  unfold atI ixN
  rw [nmV_len, if_neg (by omega), if_pos (by omega)]
  have e : ((-1 : Int) + (w.length : Nat)).toNat = w.length - 1 := by omega
  simp only [Option.bind_some]
  unfold nmV
  rw [List.getElem?_map]
  have e2 : w[w.length - 1]? = some (w.getLastD 0) := by
    rw [← List.getLast?_eq_getElem?]
    cases w with
    | nil => exact absurd rfl h
    | cons x r => rw [List.getLast?_cons, List.getLastD_cons]; cases r <;> simp [List.getLast?_cons, List.getLastD_cons]
  first
    | rw [e, e2] <;> rfl
    | (have e3 : ((w.length : Nat) + (-1 : Int)).toNat = w.length - 1 := by omega
       rw [e3, e2] <;> rfl)
theorem drop_at {α : Type} {l : List α} {i : Nat} {x : α} (h : l[i]? = some x) : l.drop i = x :: l.drop (i + 1) := by
  obtain ⟨hi, e⟩ := List.getElem?_eq_some_iff.mp h
  rw [List.drop_eq_getElem_cons hi, e]
def metK (met : List Nat) : List (Key × V) := met.map fun n => ((Sum.inr (nm n) : Key), V.bl true)
theorem met_val {met : List Nat} {n : Nat} (h7 : lt7 met) (hn : n < 7) : valV (metK met) (Sum.inr (nm n)) = if n ∈ met then some (.bl true) else none := by
  unfold valV metK
  induction met with
  | nil => rfl
  | cons m met ih =>
    have hm := h7 m List.mem_cons_self
    have ih := ih fun k hk => h7 k (List.mem_cons_of_mem _ hk)
    rw [List.map_cons, List.find?_cons]
    by_cases e : m = n
    · subst e
      simp
    · have ne : nm m ≠ nm n := fun z => e (nm_inj hm hn z)
      have : decide ((((Sum.inr (nm m) : Key), V.bl true) : Key × V).1 = Sum.inr (nm n)) = false := decide_eq_false fun z => ne (Sum.inr.inj z)
      rw [this]
      simp only [List.mem_cons, show ¬ n = m from fun z => e z.symm, false_or]
      exact ih
theorem met_put {met : List Nat} {n : Nat} (h7 : lt7 met) (hn : n < 7) (h : n ∉ met) : putK (metK met) (Sum.inr (nm n)) (.bl true) = metK (met ++ [n]) := by
  unfold putK
  rw [if_neg ?_]
  · unfold metK
    rw [List.map_append]
    rfl
  · intro z
    obtain ⟨kv, hk, e⟩ := List.any_eq_true.mp z
    obtain ⟨m, hm, rfl⟩ := List.mem_map.mp hk
    exact h (nm_inj (h7 m hm) hn (Sum.inr.inj (of_decide_eq_true e)) ▸ hm)
/-- what is known of a level's ways -/
structure Wy (us : List Nat) (k : Nat) (ws : List (List Nat)) : Prop where
  ne : ∀ w ∈ ws, w ≠ []
  len : ∀ w ∈ ws, w.length + k ≤ us.length + 1
  last : ∀ w ∈ ws, w.getLastD 0 ∈ us
/-- .. of the nodes met -/
structure Mt11 (us met : List Nat) : Prop where
  nd : met.Nodup
  sub : ∀ x ∈ met, x ∈ us
theorem sa_ok {us : List Nat} {adj : Nat → List Nat} (G : Gr us adj) : SaOk adj fun n => ascN (adj n) := ⟨fun x => asc_inc _, fun x y => asc_mem (G.l x)⟩
/-- the search's heap: ways, nodes met, longer ways -/
structure SrfAt (H H' : Hp) (wa m lo : Addr) (was las : List Addr) (ws lg : List (List Nat)) (met : List Nat) : Prop where
  s : Same H H'
  hm : H m = none
  hlo : H lo = none
  ewa : H' wa = some (.lst (was.map V.ref))
  wws : WsAt H' was ws
  em : H' m = some (.dK (metK met))
  elo : H' lo = some (.lst (las.map V.ref))
  wlg : WsAt H' las lg
  ne : wa ≠ lo
theorem SrfAt.same {H H' H2 : Hp} {wa m lo : Addr} {was las : List Addr} {ws lg : List (List Nat)} {met : List Nat} (h : SrfAt H H' wa m lo was las ws lg met) (k : Same H' H2) : SrfAt H H2 wa m lo was las ws lg met := ⟨h.s.trans k, h.hm, h.hlo, k _ _ h.ewa, h.wws.same k, k _ _ h.em, k _ _ h.elo, h.wlg.same k, h.ne⟩
theorem SrfAt.met {H H' : Hp} {wa m lo : Addr} {was las : List Addr} {ws lg : List (List Nat)} {met met' : List Nat} (h : SrfAt H H' wa m lo was las ws lg met) : SrfAt H (upd H' m (.dK (metK met'))) wa m lo was las ws lg met' :=
  ⟨Same.put h.s h.hm, h.hm, h.hlo, by rw [upd_ne (fun z => by have := h.ewa; rw [z, h.em] at this; cases this)]; exact h.ewa, h.wws.put h.em (fun _ z => nomatch z), upd_same, by rw [upd_ne (fun z => by have := h.elo; rw [z, h.em] at this; cases this)]; exact h.elo, h.wlg.put h.em (fun _ z => nomatch z), h.ne⟩
theorem SrfAt.push {H H' : Hp} {wa m lo t : Addr} {was las : List Addr} {ws lg : List (List Nat)} {met w : List Nat} (h : SrfAt H H' wa m lo was las ws lg met) (et : H' t = some (.tup (nmV w))) : SrfAt H (upd H' lo (.lst (las.map V.ref ++ [.ref t]))) wa m lo was (las ++ [t]) ws (lg ++ [w]) met :=
  ⟨Same.put h.s h.hlo, h.hm, h.hlo, by rw [upd_ne h.ne]; exact h.ewa, h.wws.put h.elo (fun _ z => nomatch z), by rw [upd_ne (fun z => by have := h.em; rw [z, h.elo] at this; cases this)]; exact h.em, by rw [upd_same, List.map_append]; rfl, (h.wlg.put h.elo (fun _ z => nomatch z)).snoc (by rw [upd_ne (fun z => by rw [z, h.elo] at et; cases et)]; exact et), h.ne⟩
def spSrf (K : PySem.W.Frag) : Sp := fun vs H Q _ => ∃ (u : Addr) (us : List Nat) (adj : Nat → List Nat) (ad : Nat → Addr) (f : Nat), vs = [.ref u, .str (nm f)] ∧ UD K H u us adj ad ∧ Gr us adj ∧ f ∈ us ∧ ∃ r, bfs adj (fun n => ascN (adj n)) f us.length [[f]] [f] = some r ∧
  match r with
  | some w => ∀ H' p, Same H H' → H' p = some (.tup (nmV w)) → Q (.ref p) H'
  | none => ∀ H', Same H H' → Q .non H'
section
variable {P : Program} {w0 : World} {K : PySem.W.Frag} {mg : Str → Option Value} {base : Heap}
theorem ok_srf {f : Addr} {fd : FuncData} (F : Fun K "shortest_ring_from" "shortest_ring_from" s_shortest_ring_from f fd) (B : Bn11 mg) : FnOk P w0 K mg base CX0 1 f fd ["uses", "first"] (spSrf K) := by
  refine F.ok sc_shortest_ring_from (fun vs H Q E h => ?_) (fun cdv A outer s H vs Q E hr h => ?_)
  · obtain ⟨u, us, adj, ad, f, rfl, _⟩ := h
    rfl
  · obtain ⟨u, us, adj, ad, n0, rfl, U, G, hf, r, er, q⟩ := h
    refine ⟨_, (pss_cons (ps_set (i := 2) sc_shortest_ring_from.nd rfl (Or.inl rfl) (pe_lst (pa_cons (pe_tup (pa_cons (pv 1) pa_nil)) pa_nil)))
      (pss_cons (ps_set (i := 3) sc_shortest_ring_from.nd rfl (Or.inl rfl) (pe_disp (pps_cons (pv 1) pe_bl pps_nil) (by rfl) (by rfl) (fun z => by cases z) (by decide)))
      (pss_cons (ps_while PassesOwn.never (pt_truth (pv 2) (by intro _; rfl)) (pss_cons (ps_set (i := 4) sc_shortest_ring_from.nd rfl (Or.inl rfl) (pe_lst pa_nil))
      (pss_cons (ps_for PassesOwn.never rfl (pi_list (pv 2)) (pg_name (i := 5) sc_shortest_ring_from.nd rfl (Or.inl rfl)) (pss_cons (ps_if (pt_cmpR op_in_seq (pv 1) (pe_dget (hu_of hr) (pv 0) (pe_ix ix_tup (pv 5) (pe_un un_neg pe_int) (fun _ _ => rfl)) (fun _ _ => rfl)) (by rfl)) (pss_one (ps_ret (pv 5))) pss_nil)
      (pss_one (ps_for PassesOwn.never rfl (pi_list (pe_callB (cr_sortSSK (P := P) (w := w0) rfl rfl rfl) (by rfl) B.sorted (by decide +kernel) (pa_cons (pe_callTy (cr_setTSK (P := P) (w := w0) (K := K) rfl rfl rfl rfl) (by rfl) B.set (by decide +kernel) (pa_cons (pe_dget (hu_of hr) (pv 0) (pe_ix ix_tup (pv 5) (pe_un un_neg pe_int) (fun _ _ => rfl)) (fun _ _ => rfl)) pa_nil)) pa_nil))) (pg_name (i := 6) sc_shortest_ring_from.nd rfl (Or.inl rfl)) (pss_one (ps_if (pt_cmp (pc_dnotin (hu_of hr) (pv 6) (pv 3))) (pss_cons (ps_dput (hu_of hr) (pv 3) (pv 6) pe_bl rfl)
      (pss_one (ps_expr (pe_bm PySem.F.plainAttrs_list PySem.F.slot_list_append PySem.F.type_list_append mt_append (pv 4) (pa_cons (pe_tup (StX.pa_star (pv 5) (pa_cons (pv 6) pa_nil))) pa_nil))))) pss_nil))))))
      (pss_one (ps_set (i := 2) sc_shortest_ring_from.nd rfl (Or.inl rfl) (pv 4))))))
      (pss_one (ps_ret pe_non))))), ?_⟩
    have hs63 := sizeLine_eq
    have few := G.few
    have f7 := G.l7 n0 hf
    refine ⟨_, rfl, by show 1 ≤ sizeLine; omega, fun w1 hw1 => ⟨by show 1 ≤ sizeLine; omega, fun wa hwa => ?_⟩⟩
    have s1 : Same H (upd (upd H w1 (.tup [.str (nm n0)])) wa (.lst [.ref w1])) := (Same.new hw1).trans (Same.new hwa)
    have e1 : (upd (upd H w1 (.tup [.str (nm n0)])) wa (.lst [.ref w1])) w1 = some (.tup (nmV [n0])) := by
      rw [upd_ne (ne_of_none upd_same hwa)]
      exact upd_same
    have e2 : (upd (upd H w1 (.tup [.str (nm n0)])) wa (.lst [.ref w1])) wa = some (.lst ([w1].map V.ref)) := upd_same
    generalize upd (upd H w1 (.tup [.str (nm n0)])) wa (.lst [.ref w1]) = H1 at s1 e1 e2
    intro m hm
    refine ⟨_, rfl, upd_same, [(Sum.inr (nm n0), .bl true)], rfl, by simp, ?_⟩
    have hm0 := Same.gone s1 hm
    have e3 : upd (upd H1 m (.dK [])) m (.dK (mergeK [] [((Sum.inr (nm n0) : Key), V.bl true)])) = upd H1 m (.dK (metK [n0])) := upd_upd
    rw [e3]
    refine ⟨fun k σ H' => ∃ (ws : List (List Nat)) (was : List Addr) (met : List Nat) (wa : Addr) (y4 y5 y6 : Option V), σ = [some (.ref u), some (.str (nm n0)), some (.ref wa), some (.ref m), y4, y5, y6] ∧ Same H H' ∧ H' wa = some (.lst (was.map V.ref)) ∧ WsAt H' was ws ∧ H' m = some (.dK (metK met)) ∧ Wy us k ws ∧ Mt11 us met ∧ ws.length ≤ 6 ∧ bfs adj (fun n => ascN (adj n)) n0 k ws met = some r,
      ⟨us.length, [[n0]], [w1], [n0], wa, none, none, none, rfl, s1.trans (Same.new hm), Same.new hm _ _ e2, .cons (Same.new hm _ _ e1) .nil, upd_same, ⟨by simp, fun w h => by rw [List.mem_singleton.mp h]; simp; omega, fun w h => by rw [List.mem_singleton.mp h]; exact hf⟩, ⟨by simp, fun x h => by rw [List.mem_singleton.mp h]; exact hf⟩, by simp, er⟩, ?_⟩
    rintro k σ H2 ⟨ws, was, met, wa, y4, y5, y6, rfl, s2, ewa, wws, em, wy, mt, l6, er⟩
    refine ⟨_, rfl, !(was.map V.ref).isEmpty, .inl ⟨_, SqL.of ewa, rfl⟩, ?_⟩
    have hl := wws.len
    by_cases he : ws = []
    · subst he
      obtain rfl : was = [] := List.length_eq_zero_iff.mp hl
      have : r = none := by cases k <;> (simp [G11.bfs] at er; exact er.symm)
      subst this
      exact iteFd rfl (q H2 s2)
    · have hwe : was ≠ [] := fun z => he (List.length_eq_zero_iff.mp (by rw [← hl, z]; rfl))
      match k, er, wy with
      | 0, er, _ => simp [G11.bfs, he] at er
      | k + 1, er, wy =>
        refine iteTd (by cases was with | nil => exact absurd rfl hwe | cons _ _ => rfl) ⟨fun σ' H' => ∃ m', m' < k + 1 ∧ _, fun _ _ h => h, ?_⟩
        rw [G11.bfs, if_neg he] at er
        refine ⟨by simp, fun lo hlo => ?_⟩
        have hlo0 := Same.gone s2 hlo
        have S0 : SrfAt H (upd H2 lo (.lst [])) wa m lo was [] ws [] met := ⟨Same.put s2 hlo0, hm0, hlo0, Same.new hlo _ _ ewa, wws.same (Same.new hlo), Same.new hlo _ _ em, upd_same, .nil, ne_of_none ewa hlo⟩
        refine ⟨_, rfl, wa, rfl, ⟨_, SqL.of S0.ewa⟩, for_it (walk_list (xs := was.map V.ref)) (fun i σ H' => ∃ (met' : List Nat) (lg : List (List Nat)) (las : List Addr) (y5 y6 : Option V), σ = [some (.ref u), some (.str (nm n0)), some (.ref wa), some (.ref m), some (.ref lo), y5, y6] ∧ SrfAt H H' wa m lo was las ws lg met' ∧ Mt11 us met' ∧ Wy us k lg ∧ lg.length ≤ met'.length ∧ lvl adj (fun n => ascN (adj n)) n0 (ws.drop i) met' lg = lvl adj (fun n => ascN (adj n)) n0 ws met [])
          ⟨met, [], [], y5, y6, rfl, S0, mt, ⟨by simp, by simp, by simp⟩, Nat.zero_le _, rfl⟩ (fun i σ H' _ h => by obtain ⟨_, _, _, _, _, _, S, _⟩ := h; exact SqL.of S.ewa) ?_ ?_⟩
        · rintro i v σ H3 H4 hi ⟨met', lg, las, y5, y6, rfl, S, mt', wy', ll, el⟩ ⟨rfl, hv⟩
          rw [List.getElem?_map] at hv
          obtain ⟨a, ha, rfl⟩ := Option.map_eq_some_iff.mp hv
          obtain ⟨w, hw, ea⟩ := S.wws.at_ ha
          have wm := List.mem_of_getElem? hw
          have wne := wy.ne w wm
          have xu := wy.last w wm
          have wl := wy.len w wm
          have U1 := U.same S.s
          have dr := drop_at hw
          rw [dr] at el
          refine ⟨_, rfl, _, rfl, _, rfl, 1, rfl, a, _, -1, _, rfl, rfl, SqT.of ea, at_last wne, u, _, rfl, U1.get G xu, ad (w.getLastD 0), _, rfl, .inr (U1.t _ xu), rfl, flatN _, ?_⟩
          rw [show (if false = true then (!inV (V.str (nm n0)) (nmV (adj (w.getLastD 0)))) else inV (V.str (nm n0)) (nmV (adj (w.getLastD 0)))) = inV (V.str (nm n0)) (nmV (adj (w.getLastD 0))) from rfl, inN f7 (G.l _)]
          by_cases hin : n0 ∈ adj (w.getLastD 0)
          · -- a ring
            rw [G11.lvl, if_pos hin] at el
            rw [← el] at er
            have : r = some w := (Option.some.inj er).symm
            subst this
            exact ⟨_, rfl, iteTd (decide_eq_true hin) ⟨_, rfl, q H4 a S.s ea⟩⟩
          · rw [G11.lvl, if_neg hin] at el
            have x7 := G.l7 _ xu
            refine ⟨_, rfl, iteFd (decide_eq_false hin) ?_⟩
            refine ⟨_, rfl, _, rfl, 1, rfl, a, _, -1, _, rfl, rfl, SqT.of ea, at_last wne, u, _, rfl, U1.get G xu, ad (w.getLastD 0), (adj (w.getLastD 0)).map nm, rfl, by rw [← nmV_str]; exact U1.t _ xu, nd_map (G.an _) (G.l _), by rw [List.length_map]; have := G.len (w.getLastD 0); omega, fun ps hps => ?_⟩
            refine ⟨ps, _, rfl, upd_same, (List.reverse_perm _).nodup_iff.mpr (nd_map (G.an _) (G.l _)), by rw [List.length_reverse, List.length_map]; have := G.len (w.getLastD 0); omega, fun ys py hpm hso hpy => ?_⟩
            obtain rfl := sort_nm (G.an _) (G.l _) (hpm.trans (List.reverse_perm _)) hso
            rw [← nmV_str]
            have S1 := (S.same (Same.new (o := SetSO P w0 ps ((adj (w.getLastD 0)).map nm).reverse) hps)).same (Same.new (o := .lst (nmV (ascN (adj (w.getLastD 0))))) hpy)
            have hpy0 := Same.gone (S.same (Same.new (o := SetSO P w0 ps ((adj (w.getLastD 0)).map nm).reverse) hps)).s hpy
            have ea1 : (upd (upd H4 ps (SetSO P w0 ps ((adj (w.getLastD 0)).map nm).reverse)) py (.lst (nmV (ascN (adj (w.getLastD 0)))))) a = some (.tup (nmV w)) := Same.new hpy _ _ (Same.new hps _ _ ea)
            have epy : (upd (upd H4 ps (SetSO P w0 ps ((adj (w.getLastD 0)).map nm).reverse)) py (.lst (nmV (ascN (adj (w.getLastD 0)))))) py = some (.lst (nmV (ascN (adj (w.getLastD 0))))) := upd_same
            have npl : py ≠ lo := fun z => by
              have := (S.same (Same.new (o := SetSO P w0 ps ((adj (w.getLastD 0)).map nm).reverse) hps)).elo
              rw [← z, hpy] at this
              cases this
            generalize upd (upd H4 ps (SetSO P w0 ps ((adj (w.getLastD 0)).map nm).reverse)) py (.lst (nmV (ascN (adj (w.getLastD 0))))) = H5 at S1 ea1 epy
            refine ⟨py, rfl, ⟨_, SqL.of epy⟩, for_it (walk_list (xs := nmV (ascN (adj (w.getLastD 0))))) (fun j σ H' => ∃ (met2 : List Nat) (lg2 : List (List Nat)) (las2 : List Addr) (y6 : Option V), σ = [some (.ref u), some (.str (nm n0)), some (.ref wa), some (.ref m), some (.ref lo), some (.ref a), y6] ∧ SrfAt H H' wa m lo was las2 ws lg2 met2 ∧ H' a = some (.tup (nmV w)) ∧ H' py = some (.lst (nmV (ascN (adj (w.getLastD 0))))) ∧ Mt11 us met2 ∧ Wy us k lg2 ∧ lg2.length ≤ met2.length ∧ ext w ((ascN (adj (w.getLastD 0))).drop j) met2 lg2 = ext w (ascN (adj (w.getLastD 0))) met' lg)
              ⟨met', lg, las, _, rfl, S1, ea1, epy, mt', wy', ll, rfl⟩ (fun j σ H' _ h => by obtain ⟨_, _, _, _, _, _, _, e, _⟩ := h; exact SqL.of e) ?_ ?_⟩
            · rintro j v σ H6 H7 hj ⟨met2, lg2, las2, y6, rfl, S2, ea2, epy2, mt2, wy2, ll2, el2⟩ ⟨rfl, hv⟩
              obtain ⟨n, hn, rfl⟩ := nmV_at hv
              have na : n ∈ adj (w.getLastD 0) := (asc_mem (G.l _)).mp (List.mem_of_getElem? hn)
              have nu := (G.cl _ _ na).2
              have n7 := G.l7 n nu
              have m7 : lt7 met2 := fun k hk => G.l7 k (mt2.sub k hk)
              have m6 : met2.length ≤ 6 := Nat.le_trans (G11.nodup_sub mt2.nd mt2.sub) few
              rw [drop_at hn] at el2
              have dg := DGet.k (k := (Sum.inr (nm n) : Key)) S2.em
              rw [met_val m7 n7] at dg
              by_cases hm2 : n ∈ met2
              · rw [if_pos hm2] at dg
                rw [G11.ext, if_pos hm2] at el2
                exact ⟨_, rfl, _, rfl, m, _, rfl, dg, _, rfl, iteFd rfl ⟨met2, lg2, las2, _, rfl, S2, ea2, epy2, mt2, wy2, ll2, el2⟩⟩
              · rw [if_neg hm2] at dg
                rw [G11.ext, if_neg hm2] at el2
                refine ⟨_, rfl, _, rfl, m, _, rfl, dg, _, rfl, iteTd rfl ?_⟩
                refine ⟨_, rfl, _, rfl, m, _, rfl, DPut.k (k := (Sum.inr (nm n) : Key)) S2.em (by unfold metK; rw [List.length_map]; omega), ?_⟩
                rw [met_put m7 n7 hm2]
                have S3 := S2.met (met' := met2 ++ [n])
                have ea3 : (upd H7 m (.dK (metK (met2 ++ [n])))) a = some (.tup (nmV w)) := by
                  rw [upd_ne (fun z => by have := S2.em; rw [← z, ea2] at this; cases this)]
                  exact ea2
                have epy3 : (upd H7 m (.dK (metK (met2 ++ [n])))) py = some (.lst (nmV (ascN (adj (w.getLastD 0))))) := by
                  rw [upd_ne (fun z => by have := S2.em; rw [← z, epy2] at this; cases this)]
                  exact epy2
                generalize upd H7 m (.dK (metK (met2 ++ [n]))) = H8 at S3 ea3 epy3
                refine ⟨_, rfl, .inl ⟨rfl, _, SqL.of S3.elo⟩, _, rfl, a, _, rfl, .inl (SqT.of ea3), _, rfl, ⟨?_, fun t ht => ?_⟩⟩
                · have := wl
                  rw [List.length_append, nmV_len, List.length_cons, List.length_nil]
                  omega
                · have S4 := S3.same (Same.new (o := .tup (nmV w ++ [.str (nm n)])) ht)
                  have et : (upd H8 t (.tup (nmV w ++ [.str (nm n)]))) t = some (.tup (nmV (w ++ [n]))) := by rw [upd_same, nmV_app]; rfl
                  have ea4 := Same.new (o := .tup (nmV w ++ [.str (nm n)])) ht _ _ ea3
                  have epy4 := Same.new (o := .tup (nmV w ++ [.str (nm n)])) ht _ _ epy3
                  generalize upd H8 t (.tup (nmV w ++ [.str (nm n)])) = H9 at S4 et ea4 epy4
                  refine ⟨lo, _, _, rfl, rfl, S4.elo, by rw [List.length_map, S4.wlg.len]; omega, ?_⟩
                  refine ⟨met2 ++ [n], lg2 ++ [w ++ [n]], las2 ++ [t], _, rfl, S4.push et, ?_, ?_, ⟨?_, fun x hx => ?_⟩, ⟨fun v hv => ?_, fun v hv => ?_, fun v hv => ?_⟩, by simp; omega, el2⟩
                  · rw [upd_ne (fun z => by have := S4.elo; rw [← z, ea4] at this; cases this)]
                    exact ea4
                  · rw [upd_ne npl]
                    exact epy4
                  · rw [List.nodup_append]
                    exact ⟨mt2.nd, List.nodup_cons.mpr ⟨List.not_mem_nil, List.nodup_nil⟩, fun a ha b hb z => hm2 (by rw [← List.mem_singleton.mp hb, ← z]; exact ha)⟩
                  · rcases List.mem_append.mp hx with hx | hx
                    · exact mt2.sub x hx
                    · rw [List.mem_singleton.mp hx]
                      exact nu
                  · rcases List.mem_append.mp hv with hv | hv
                    · exact wy2.ne v hv
                    · rw [List.mem_singleton.mp hv]
                      simp
                  · rcases List.mem_append.mp hv with hv | hv
                    · exact wy2.len v hv
                    · rw [List.mem_singleton.mp hv, List.length_append, List.length_cons, List.length_nil]
                      omega
                  · rcases List.mem_append.mp hv with hv | hv
                    · exact wy2.last v hv
                    · rw [List.mem_singleton.mp hv, List.getLastD_concat]
                      exact nu
            · rintro σ H6 ⟨met2, lg2, las2, y6, rfl, S2, ea2, epy2, mt2, wy2, ll2, el2⟩
              rw [nmV_len, List.drop_length] at el2
              rw [← el2] at el
              exact ⟨met2, lg2, las2, _, _, rfl, S2, mt2, wy2, ll2, el⟩
        · rintro σ H3 ⟨met', lg, las, y5, y6, rfl, S, mt', wy', ll, el⟩
          rw [List.length_map, hl, List.drop_length] at el
          rw [← el] at er
          have m6 : met'.length ≤ 6 := Nat.le_trans (G11.nodup_sub mt'.nd mt'.sub) few
          exact ⟨_, rfl, k, Nat.lt_succ_self k, lg, las, met', lo, _, _, _, rfl, S.s, S.elo, S.wlg, S.em, wy', mt', by omega, er⟩
end
end SA

set_option Elab.async false
set_option linter.all false
set_option maxRecDepth 100000
set_option maxHeartbeats 4000000
namespace SA
open PySem PySem.Spec PySem.W PyProof.Rows L2
open G11 (bfs ringsOf Clw Due Leq)
/-- rings beside their lengths -/
inductive EsAt (H : Hp) : List Addr → List (List Nat) → Prop
  | nil : EsAt H [] []
  | cons {e b : Addr} {w : List Nat} {es : List Addr} {ws : List (List Nat)} : H e = some (.tup [.int (w.length : Nat), .ref b]) → H b = some (.tup (nmV w)) → EsAt H es ws → EsAt H (e :: es) (w :: ws)
theorem EsAt.same {H H' : Hp} (s : Same H H') : ∀ {es : List Addr} {ws : List (List Nat)}, EsAt H es ws → EsAt H' es ws
  | _, _, .nil => .nil
  | _, _, .cons e b t => .cons (s _ _ e) (s _ _ b) (t.same s)
theorem EsAt.put {H : Hp} {x : Addr} {xs ys : List V} (e0 : H x = some (.lst xs)) : ∀ {es : List Addr} {ws : List (List Nat)}, EsAt H es ws → EsAt (upd H x (.lst ys)) es ws
  | _, _, .nil => .nil
  | _, _, .cons e b t => .cons (by rw [upd_ne (fun z => by rw [z, e0] at e; cases e)]; exact e) (by rw [upd_ne (fun z => by rw [z, e0] at b; cases b)]; exact b) (t.put e0)
theorem EsAt.snoc {H : Hp} {e b : Addr} {w : List Nat} (e1 : H e = some (.tup [.int (w.length : Nat), .ref b])) (b1 : H b = some (.tup (nmV w))) : ∀ {es : List Addr} {ws : List (List Nat)}, EsAt H es ws → EsAt H (es ++ [e]) (ws ++ [w])
  | _, _, .nil => .cons e1 b1 .nil
  | _, _, .cons e' b' t => .cons e' b' (t.snoc e1 b1)
theorem EsAt.len {H : Hp} : ∀ {es : List Addr} {ws : List (List Nat)}, EsAt H es ws → es.length = ws.length
  | _, _, .nil => rfl
  | _, _, .cons _ _ t => by rw [List.length_cons, List.length_cons, t.len]
theorem EsAt.at_ {H : Hp} : ∀ {es : List Addr} {ws : List (List Nat)} {i : Nat} {e : Addr}, EsAt H es ws → es[i]? = some e → ∃ w b, ws[i]? = some w ∧ H e = some (.tup [.int (w.length : Nat), .ref b]) ∧ H b = some (.tup (nmV w))
  | _, _, i, _, .nil, e => by simp at e
  | _, _, 0, _, .cons h b _, e => by
    cases e
    exact ⟨_, _, rfl, h, b⟩
  | _, _, i + 1, _, .cons _ _ t, e => t.at_ (i := i) e
theorem nm_dp {K : PySem.W.Frag} {H : Hp} : ∀ {w : List Nat}, DpAll K H (nmV w) (nmD w)
  | [] => .nil
  | _ :: w => .cons (.str _) (nm_dp (w := w))
theorem EsAt.dp {K : PySem.W.Frag} {H : Hp} : ∀ {es : List Addr} {ws : List (List Nat)}, EsAt H es ws → DpAll K H (es.map V.ref) (ws.map entD)
  | _, _, .nil => .nil
  | _, _, .cons e b t => .cons (.tup (SqT.of e) (.cons (.int _) (.cons (.tup (SqT.of b) nm_dp) .nil))) t.dp
theorem nm_dep : ∀ {w : List Nat}, PyData.depthAll (nmD w) = 0
  | [] => rfl
  | _ :: w => by
    show max (PyData.depth (.str _)) (PyData.depthAll (nmD w)) = 0
    rw [nm_dep (w := w)]
    rfl
theorem ent_dep {w : List Nat} : (entD w).depth ≤ 2 := by
  unfold entD
  simp only [PyData.depth, PyData.depthAll, nm_dep]
  omega
theorem ents_dep : ∀ {ws : List (List Nat)}, PyData.depthAll (ws.map entD) ≤ 2
  | [] => by simp [PyData.depthAll]
  | w :: ws => by
    have h1 := ent_dep (w := w)
    have h2 := ents_dep (ws := ws)
    show max (entD w).depth (PyData.depthAll (ws.map entD)) ≤ 2
    omega
theorem ent_inj {v w : List Nat} (h1 : lt7 v) (h2 : lt7 w) (e : entD v = entD w) : v = w := by
  unfold entD at e
  injection e with e
  injection e with e1 e
  injection e with e2 e
  injection e2 with e2
  have : ∀ {v w : List Nat}, lt7 v → lt7 w → nmD v = nmD w → v = w := fun {v} => by
    induction v with
    | nil => intro w _ _ e; cases w with | nil => rfl | cons _ _ => cases e
    | cons x v ih =>
      intro w h1 h2 e
      cases w with
      | nil => cases e
      | cons y w =>
        injection e with a b
        injection a with a
        rw [nm_inj (h1 x List.mem_cons_self) (h2 y List.mem_cons_self) a, ih (fun n hn => h1 n (List.mem_cons_of_mem _ hn)) (fun n hn => h2 n (List.mem_cons_of_mem _ hn)) b]
  exact this h1 h2 e2
theorem walk_us {us : List Nat} {adj : Nat → List Nat} (G : Gr us adj) : ∀ {r : List Nat} {x : Nat}, G11.Wk adj x r → ∀ y ∈ r, y ∈ us
  | [], _, _, _, h => absurd h List.not_mem_nil
  | z :: r, x, ⟨h1, h2⟩, y, hy => by
    rcases List.mem_cons.mp hy with rfl | hy
    · exact (G.cl _ _ h1).2
    · exact walk_us G h2 y hy
theorem cl_us {us : List Nat} {adj : Nat → List Nat} (G : Gr us adj) {w : List Nat} (h : Clw adj w) : ∀ y ∈ w, y ∈ us := by
  match w, h with
  | x :: r, h =>
    intro y hy
    rcases List.mem_cons.mp hy with rfl | hy
    · exact (G.cl _ _ h.2).2
    · exact walk_us G h.1 y hy
theorem Gr.ns {us : List Nat} {adj : Nat → List Nat} (G : Gr us adj) : ∀ x y, y ∈ adj x → x ∈ ascN us ∧ y ∈ ascN us := fun x y h => ⟨(asc_mem G.l7).mpr (G.cl x y h).1, (asc_mem G.l7).mpr (G.cl x y h).2⟩
theorem Gr.alen {us : List Nat} {adj : Nat → List Nat} (G : Gr us adj) : (ascN us).length = us.length := (asc_perm G.nd G.l7).length_eq
theorem rings_snoc {adj sa : Nat → List Nat} {k : Nat} {ns : List Nat} {i n : Nat} (h : ns[i]? = some n) : ringsOf adj sa k (ns.take (i + 1)) = ringsOf adj sa k (ns.take i) ++ ((bfs adj sa n k [[n]] [n]).getD none).toList := by
  unfold G11.ringsOf
  rw [List.take_add_one, h, List.filterMap_append]
  cases e : (bfs adj sa n k [[n]] [n]).getD none <;> simp [e]
def spSr (K : PySem.W.Frag) : Sp := fun vs H Q _ => ∃ (u : Addr) (us : List Nat) (adj : Nat → List Nat) (ad : Nat → Addr), vs = [.ref u] ∧ UD K H u us adj ad ∧ Gr us adj ∧ (∃ w, Clw adj w) ∧ ∀ H' p w, Same H H' → H' p = some (.tup (nmV w)) → Due adj w → Q (.ref p) H'
section
variable {P : Program} {w0 : World} {K : PySem.W.Frag} {mg : Str → Option Value} {base : Heap}
theorem ok_sr {f : Addr} {fd : FuncData} (F : Fun K "shortest_ring" "shortest_ring" s_shortest_ring f fd) (B : Bn11 mg) (c_shortest_ring_from : Dq P w0 K mg base CX0 1 "shortest_ring_from" ["uses", "first"] (spSrf K)) : FnOk P w0 K mg base CX0 2 f fd ["uses"] (spSr K) := by
  refine F.ok sc_shortest_ring (fun vs H Q E h => ?_) (fun cdv A outer s H vs Q E hr h => ?_)
  · obtain ⟨u, us, adj, ad, rfl, _⟩ := h
    rfl
  · obtain ⟨u, us, adj, ad, rfl, U, G, hex, q⟩ := h
    refine ⟨_, (pss_cons (ps_set (i := 1) sc_shortest_ring.nd rfl (Or.inl rfl) (pe_lst pa_nil))
      (pss_cons (ps_for PassesOwn.never rfl (pi_list (pe_callB (call_sortedD rfl) (by rfl) B.sorted (by decide +kernel) (pa_cons (pv 0) pa_nil))) (pg_name (i := 2) sc_shortest_ring.nd rfl (Or.inl rfl)) (pss_cons (ps_set (i := 3) sc_shortest_ring.nd rfl (Or.inl rfl) (pe_q c_shortest_ring_from hr (by decide) (by rfl) (pa_cons (pv 0) (pa_cons (pv 2) pa_nil))))
      (pss_one (ps_if (pt_cmpR op_notN (pv 3) pe_non (nomark _)) (pss_one (ps_expr (pe_bm PySem.F.plainAttrs_list PySem.F.slot_list_append PySem.F.type_list_append mt_append (pv 1) (pa_cons (pe_tup (pa_cons (pe_callB call_len_seq (by rfl) B.len PySem.boot_len (pa_cons (pv 3) pa_nil)) (pa_cons (pv 3) pa_nil))) pa_nil)))) pss_nil))))
      (pss_cons (ps_asg (pe_callB (cr_minD rfl hr.units) (by rfl) B.min (by decide +kernel) (pa_cons (pv 1) pa_nil)) (pg_tup (by rfl) (pgs_cons (pg_name (i := 4) sc_shortest_ring.nd rfl (Or.inl rfl)) (pgs_cons (pg_name (i := 3) sc_shortest_ring.nd rfl (Or.inl rfl)) pgs_nil))))
      (pss_one (ps_ret (pv 3)))))), ?_⟩
    have hs63 := sizeLine_eq
    have few := G.few
    obtain ⟨r1, r2, r3⟩ := G11.ringsOf_due (sa_ok G) (k := us.length) (ns := ascN us) G.ns (Nat.le_of_eq G.alen)
    refine ⟨by simp, fun rg hrg => ?_⟩
    have s1 := Same.new (o := .lst []) hrg
    have U1 := U.same s1
    refine ⟨_, rfl, u, _, us.map nm, rfl, .inl U1.e, U1.keys, by rw [List.length_map]; omega, fun ys a hpm hso ha => ?_⟩
    obtain rfl := sort_nm G.nd G.l7 hpm hso
    rw [← nmV_str]
    have s2 : Same H (upd (upd H rg (.lst [])) a (.lst (nmV (ascN us)))) := s1.trans (Same.new ha)
    have e2 : (upd (upd H rg (.lst [])) a (.lst (nmV (ascN us)))) rg = some (.lst (([] : List Addr).map V.ref)) := Same.new ha _ _ upd_same
    have ea2 : (upd (upd H rg (.lst [])) a (.lst (nmV (ascN us)))) a = some (.lst (nmV (ascN us))) := upd_same
    generalize upd (upd H rg (.lst [])) a (.lst (nmV (ascN us))) = H2 at s2 e2 ea2
    have nar : a ≠ rg := (ne_of_none (by exact upd_same) ha).symm
    refine ⟨a, rfl, ⟨_, SqL.of ea2⟩, for_it (walk_list (xs := nmV (ascN us))) (fun i σ H' => ∃ (es : List Addr) (y2 y3 : Option V), σ = [some (.ref u), some (.ref rg), y2, y3, none] ∧ Same H H' ∧ H' a = some (.lst (nmV (ascN us))) ∧ H' rg = some (.lst (es.map V.ref)) ∧ EsAt H' es (ringsOf adj (fun n => ascN (adj n)) us.length ((ascN us).take i)))
      ⟨[], _, _, rfl, s2, ea2, e2, .nil⟩ (fun i σ H' _ h => by obtain ⟨_, _, _, _, _, e, _⟩ := h; exact SqL.of e) ?_ ?_⟩
    · rintro i v σ H3 H4 hi ⟨es, y2, y3, rfl, s3, ea3, e3, E3⟩ ⟨rfl, hv⟩
      obtain ⟨n, hn, rfl⟩ := nmV_at hv
      have nu : n ∈ us := (asc_mem G.l7).mp (List.mem_of_getElem? hn)
      have U3 := U.same s3
      obtain ⟨r, er⟩ : ∃ r, bfs adj (fun n => ascN (adj n)) n us.length [[n]] [n] = some r := by
        rcases G11.bfs_all (sa_ok G) (ns := ascN us) (k := us.length) (fun x y h => (G.ns x y h).2) ((asc_mem G.l7).mpr nu) (Nat.le_of_eq G.alen) with ⟨_, e⟩ | ⟨w, _, e⟩
        · exact ⟨_, e⟩
        · exact ⟨_, e⟩
      have sn := rings_snoc (adj := adj) (sa := fun n => ascN (adj n)) (k := us.length) hn
      rw [er] at sn
      refine ⟨_, rfl, _, rfl, u, us, adj, ad, n, rfl, U3, G, nu, r, er, ?_⟩
      match r, sn with
      | none, sn =>
        intro H5 s5
        refine ⟨_, rfl, rfl, _, rfl, iteFd rfl ⟨es, _, _, rfl, s3.trans s5, s5 _ _ ea3, s5 _ _ e3, ?_⟩⟩
        rw [sn]
        simpa using E3.same s5
      | some w, sn =>
        intro H5 b s5 eb
        refine ⟨_, rfl, rfl, _, rfl, iteTd rfl ?_⟩
        have E5 := E3.same s5
        have e5 := s5 _ _ e3
        have ln : es.length ≤ 6 := by
          have h1 := E3.len
          have : (ringsOf adj (fun n => ascN (adj n)) us.length ((ascN us).take i)).length ≤ ((ascN us).take i).length := List.length_filterMap_le ..
          rw [List.length_take, G.alen] at this
          omega
        refine ⟨_, rfl, .inl ⟨rfl, _, SqL.of e5⟩, _, rfl, b, _, rfl, .inr (SqT.of eb), _, rfl, ⟨by show 2 ≤ sizeLine; omega, fun t ht => ?_⟩⟩
        have s6 := Same.new (o := .tup [.int ((nmV w).length : Nat), .ref b]) ht
        have et : (upd H5 t (.tup [.int ((nmV w).length : Nat), .ref b])) t = some (.tup [.int (w.length : Nat), .ref b]) := by rw [upd_same, nmV_len]
        have E6 := E5.same s6
        have e6 := s6 _ _ e5
        have a6 := s6 _ _ (s5 _ _ ea3)
        have b6 := s6 _ _ eb
        have s06 := (s3.trans s5).trans s6
        generalize upd H5 t (.tup [.int ((nmV w).length : Nat), .ref b]) = H6 at s6 et E6 e6 a6 b6 s06
        refine ⟨rg, _, _, rfl, rfl, e6, by rw [List.length_map]; omega, es ++ [t], _, _, rfl, Same.put s06 hrg, ?_, by rw [upd_same, List.map_append]; rfl, ?_⟩
        · rw [upd_ne nar]
          exact a6
        · rw [sn]
          refine (E6.put e6).snoc (b := b) ?_ ?_
          · rw [upd_ne (fun z => by rw [z, e6] at et; cases et)]
            exact et
          · rw [upd_ne (fun z => by rw [z, e6] at b6; cases b6)]
            exact b6
    · rintro σ H3 ⟨es, y2, y3, rfl, s3, ea3, e3, E3⟩
      rw [nmV_len, List.take_length] at E3
      obtain ⟨W, eW⟩ : ∃ W, W = ringsOf adj (fun n => ascN (adj n)) us.length (ascN us) := ⟨_, rfl⟩
      rw [← eW] at E3 r1 r2 r3
      have l7 : ∀ v ∈ W, lt7 v := fun v hv n hn => G.l7 n (cl_us G (r1 v hv) n hn)
      match W, E3, r1, r2, r3, l7 with
      | [], _, _, r2, _, _ => exact absurd rfl (r2 hex)
      | w :: ws, E3, r1, r2, r3, l7 =>
        obtain ⟨m1, m2⟩ := minW_ok (l7 w List.mem_cons_self) (fun v hv => l7 v (List.mem_cons_of_mem _ hv))
        have du := r3 _ m1 m2
        have dd := ents_dep (ws := w :: ws)
        refine ⟨_, rfl, rg, es.map V.ref, entD w, ws.map entD, rfl, SqL.of e3, E3.dp, ⟨fun x hx y hy => ?_, fun x hx => ?_⟩, Nat.le_trans dd (by decide), fun i v hv hd => ?_⟩
        · obtain ⟨x', _, rfl⟩ := List.mem_map.mp (show x ∈ (w :: ws).map entD from hx)
          obtain ⟨y', _, rfl⟩ := List.mem_map.mp (show y ∈ (w :: ws).map entD from hy)
          unfold entD
          simp only [alike, alikeAll, Bool.and_true, Bool.true_and]
          exact alike_nm
        · obtain ⟨x', _, rfl⟩ := List.mem_map.mp (show x ∈ (w :: ws).map entD from hx)
          intro z
          unfold entD at z
          cases z
        · rw [List.getElem?_map] at hv
          obtain ⟨e, he, rfl⟩ := Option.map_eq_some_iff.mp hv
          obtain ⟨v, b, hvW, ee, eb⟩ := E3.at_ he
          rw [min_ent] at hd
          have hd2 : ((w :: ws).map entD)[i]? = some (entD (minW w ws)) := hd
          rw [List.getElem?_map, hvW] at hd2
          have hv7 := l7 v (List.mem_of_getElem? hvW)
          obtain rfl := ent_inj hv7 (l7 _ m1) (Option.some.inj hd2)
          exact ⟨e, _, rfl, SqT.of ee, rfl, _, _, rfl, _, _, rfl, ⟨rfl, _, rfl, q H3 b _ s3 eb du⟩⟩
end
end SA

set_option Elab.async false
set_option linter.all false
set_option maxRecDepth 100000
set_option maxHeartbeats 4000000
namespace SA
open PySem PySem.Spec PyProof.Rows L2
open G11 (Rc pass)
/-- all but one object is kept -/
def Kp (H H' : Hp) (u : Addr) : Prop := ∀ p o, H p = some o → p ≠ u → H' p = some o
theorem Kp.same {H H' H2 : Hp} {u : Addr} (k : Kp H H' u) (s : Same H' H2) : Kp H H2 u := fun p o h n => s _ _ (k p o h n)
theorem Kp.sqT {K : PySem.W.Frag} {H H' : Hp} {u a : Addr} {xs : List V} {kvs : List (Key × V)} (k : Kp H H' u) (e : H u = some (.dK kvs)) (h : SqT K H a xs) : SqT K H' a xs := by
  rcases h with (h | ⟨o, h⟩) | h
  · exact .inl (.inl (k _ _ h fun z => by rw [z, e] at h; cases h))
  · exact .inl (.inr ⟨o, k _ _ h fun z => by rw [z, e] at h; cases h⟩)
  · exact .inr h
theorem Kp.put {H H' : Hp} {u m : Addr} {o : HO} (k : Kp H H' u) (h : H m = none) : Kp H (upd H' m o) u := fun p o' e n => by
  rw [upd_ne (fun z => by rw [z, h] at e; cases e)]
  exact k p o' e n
theorem Kp.open_ {H H' : Hp} {u : Addr} {o : HO} (k : Kp H H' u) (h : H u = some o) : Same H (upd H' u o) := fun p o' e => by
  by_cases z : p = u
  · subst z
    rw [upd_same, ← e, h]
  · rw [upd_ne z]
    exact k p o' e z
theorem met_old {met : List Nat} {n : Nat} (h : n ∈ met) : putK (metK met) (Sum.inr (nm n)) (.bl true) = metK met := by
  have h1 : (metK met).any (fun kv => decide (kv.1 = (Sum.inr (nm n) : Key))) = true := by
    unfold metK
    rw [List.any_map, List.any_eq_true]
    exact ⟨n, h, by simp⟩
  unfold putK
  rw [if_pos h1]
  unfold metK
  rw [List.map_map]
  apply List.map_congr_left
  intro m _
  simp
theorem met_keys (met : List Nat) : (metK met).map (·.1) = (met.map nm).map Sum.inr := by
  unfold metK
  rw [List.map_map, List.map_map]
  rfl
def spUbu (K : PySem.W.Frag) : Sp := fun vs H Q _ => ∃ (u : Addr) (us : List Nat) (adj : Nat → List Nat) (ad : Nat → Addr) (n0 : Nat), vs = [.ref u, .str (nm n0)] ∧ UD K H u us adj ad ∧ Gr us adj ∧ n0 ∈ us ∧ ∀ H' p F, Same H H' → H' p = some (.tup (nmV ((ascN F).filter fun k => !decide (k = n0)))) → F.Nodup → (∀ x ∈ F, x ∈ us) → (∀ x, x ∈ F ↔ Rc adj us n0 x) → Q (.ref p) H'
section
variable {P : Program} {w0 : World} {K : PySem.W.Frag} {mg : Str → Option Value} {base : Heap}
theorem ok_ubu {f : Addr} {fd : FuncData} (F : Fun K "users_by_uses" "users_by_uses" s_users_by_uses f fd) (B : Bn11 mg) : FnOk P w0 K mg base CX0 1 f fd ["uses", "name"] (spUbu K) := by
  refine F.ok sc_users_by_uses (fun vs H Q E h => ?_) (fun cdv A outer s H vs Q E hr h => ?_)
  · obtain ⟨u, us, adj, ad, f, rfl, _⟩ := h
    rfl
  · obtain ⟨u, us, adj, ad, n0, rfl, U, G, hn0, q⟩ := h
    refine ⟨_, (pss_cons (ps_set (i := 2) sc_users_by_uses.nd rfl (Or.inr rfl) (pe_disp (pps_cons (pv 1) pe_bl pps_nil) (by rfl) (by rfl) (fun z => by cases z) (by decide)))
      (pss_cons (ps_set (i := 3) sc_users_by_uses.nd rfl (Or.inl rfl) pe_int)
      (pss_cons (ps_while PassesOwn.never (pt_cmpR op_lt (pv 3) (pe_callB call_lenD (by rfl) B.len PySem.boot_len (pa_cons (pv 2) pa_nil)) (nomark _)) (pss_cons (ps_set (i := 3) sc_users_by_uses.nd rfl (Or.inl rfl) (pe_callB call_lenD (by rfl) B.len PySem.boot_len (pa_cons (pv 2) pa_nil)))
      (pss_one (ps_lock (ps_for PassesOwn.never rfl (pi_keys (pv 0)) (pg_name (i := 4) sc_users_by_uses.nd rfl (Or.inl rfl)) (pss_one (ps_if (pt_val (pe_callB (cr_anyK (K := K) rfl rfl) (by rfl) B.any (by decide +kernel) (pa_cons (pe_lc (own := [("other", 5)]) (g := (gName 5)) (tt := tYes) (by rfl) sc_users_by_uses.nd (pi_tup (pe_dget (hu_of hr) (pv 0) (pv 4) (fun _ _ => rfl))) (blkOk_by (N := n_users_by_uses) (sc := defScope s_users_by_uses) (by decide +kernel)) (fun _ _ _ _ _ => (pg_name (i := 5) sc_users_by_uses.nd rfl (Or.inl rfl))) (fun _ _ _ _ _ => pts_nil) (fun _ _ _ _ _ => (pe_cmp (pc_din (hu_of hr) (pv 5) (pv 2))))) pa_nil))) (pss_one (ps_dput (hu_of hr) (pv 2) (pv 4) pe_bl rfl)) pss_nil)))))))
      (pss_one (ps_ret (pe_callTy call_tuple_of (by rfl) B.tuple (by decide +kernel) (pa_cons (pe_lc (own := [("user", 4)]) (g := (gName 4)) (tt := _) (by rfl) sc_users_by_uses.nd (pi_list (pe_callB (call_sortedD rfl) (by rfl) B.sorted (by decide +kernel) (pa_cons (pv 2) pa_nil))) (blkOk_by (N := n_users_by_uses) (sc := defScope s_users_by_uses) (by decide +kernel)) (fun _ _ _ _ _ => (pg_name (i := 4) sc_users_by_uses.nd rfl (Or.inl rfl))) (fun _ _ _ _ _ => (pts_one (pt_cmpR op_ne (pv 4) (pv 1) (nomark _)))) (fun _ _ _ _ _ => (pv 4))) pa_nil))))))), ?_⟩
    have hs63 := sizeLine_eq
    have few := G.few
    have f7 := G.l7 n0 hn0
    intro m hm
    refine ⟨_, rfl, upd_same, [(Sum.inr (nm n0), .bl true)], rfl, by simp, ?_⟩
    have e3 : upd (upd H m (.dK [])) m (.dK (mergeK [] [((Sum.inr (nm n0) : Key), V.bl true)])) = upd H m (.dK (metK [n0])) := upd_upd
    rw [e3]
    refine ⟨fun k σ H' => ∃ (fo : List Nat) (z : Nat) (y4 y5 : Option V), σ = [some (.ref u), some (.str (nm n0)), some (.ref m), some (.int (z : Nat)), y4, y5] ∧ Same H H' ∧ H' m = some (.dK (metK fo)) ∧ fo.Nodup ∧ (∀ x ∈ fo, x ∈ us) ∧ n0 ∈ fo ∧ (∀ x ∈ fo, Rc adj us n0 x) ∧ z ≤ fo.length ∧ k + z = us.length ∧ (z = fo.length → ∀ v ∈ us, (∃ o ∈ adj v, o ∈ fo) → v ∈ fo),
      ⟨us.length, [n0], 0, none, none, rfl, Same.new hm, upd_same, by simp, fun x h => by rw [List.mem_singleton.mp h]; exact hn0, by simp, fun x h => by rw [List.mem_singleton.mp h]; exact .here, by simp, rfl, fun z => by simp at z⟩, ?_⟩
    rintro k σ H2 ⟨fo, z, y4, y5, rfl, s2, em, nd, sub, h0, rc, le, hk, cl⟩
    have fl := G11.nodup_sub nd sub
    have fo7 : lt7 fo := fun x h => G.l7 x (sub x h)
    refine ⟨_, rfl, _, rfl, m, _, rfl, em, _, _, rfl, rfl, _, rfl, ?_⟩
    rw [show ((metK fo).length : Int) = (fo.length : Nat) by unfold metK; rw [List.length_map]]
    by_cases hz : z < fo.length
    · refine iteTd (by simp; omega) ⟨fun σ' H' => ∃ m', m' < k ∧ _, fun _ _ h => h, ?_⟩
      refine ⟨_, rfl, m, _, rfl, em, ?_⟩
      rw [show ((metK fo).length : Int) = (fo.length : Nat) by unfold metK; rw [List.length_map]]
      have U2 := U.same s2
      have hmu : u ≠ m := ne_of_none U.e hm
      refine ⟨u, _, U2.e, by trivial, fun od => ⟨_, rfl, u, od, rfl, .inl ⟨_, upd_same, for_it walk_keys (fun i σ H' => ∃ (fi : List Nat) (y4 : Option V), σ = [some (.ref u), some (.str (nm n0)), some (.ref m), some (.int (fo.length : Nat)), y4, y5] ∧ Kp H H' u ∧ H' u = some (.frz od (.dK (us.map fun n => ((Sum.inr (nm n) : Key), V.ref (ad n))))) ∧ H' m = some (.dK (metK fi)) ∧ pass adj (us.drop i) fi = pass adj us fo ∧ fi.Nodup ∧ (∀ x ∈ fi, x ∈ us))
        ⟨fo, _, rfl, fun p o e n => by rw [upd_ne n]; exact s2 _ _ e, upd_same, by rw [upd_ne hmu.symm]; exact em, rfl, nd, sub⟩ (fun i σ H' _ h => by obtain ⟨_, _, _, _, e, _⟩ := h; exact e) ?_ ?_⟩⟩⟩
      · rintro i v σ H3 H4 hi ⟨fi, y4, rfl, kp, eu, em3, ep, ndi, subi⟩ ⟨rfl, kk, vv, hk2, rfl⟩
        rw [List.getElem?_map] at hk2
        obtain ⟨n, hn, e⟩ := Option.map_eq_some_iff.mp hk2
        injection e with e4 e5
        subst e4 e5
        have nu := List.mem_of_getElem? hn
        have n7 := G.l7 n nu
        have fi7 : lt7 fi := fun x h => G.l7 x (subi x h)
        have fil := G11.nodup_sub ndi subi
        rw [drop_at hn, G11.pass] at ep
        have gd : DGet H4 u (.str (nm n)) (some (.ref (ad n))) := by
          have := ud_val (us := us) (ad := ad) G.nd G.l7 n7
          rw [if_pos nu] at this
          exact .inl ⟨_, (Sum.inr (nm n) : Key), .inr ⟨od, eu⟩, rfl, this.symm⟩
        have tn := kp.sqT U.e (U.t n nu)
        refine ⟨_, rfl, _, rfl, u, _, rfl, gd, ad n, rfl, ⟨_, tn⟩, fun D3 hD3 => lc_tup (K := K) (a := ad n) (xs := nmV (adj n)) (fun j H' => Same H4 H' ∧ H' D3 = some (.lst (((adj n).take j).map fun o => V.bl (decide (o ∈ fi))))) ⟨Same.new hD3, upd_same⟩ (fun j H' _ e => SqT.same tn e.1) ?_ ?_⟩
        · rintro j w H6 hw ⟨s6, e6⟩
          obtain ⟨o, ho, rfl⟩ := nmV_at hw
          have o7 := G.l n o (List.mem_of_getElem? ho)
          have dg := DGet.k (k := (Sum.inr (nm o) : Key)) (s6 _ _ em3)
          rw [met_val fi7 o7] at dg
          refine ⟨rfl, yes ⟨_, rfl, _, rfl, m, _, rfl, dg, ?_⟩⟩
          have tail : ∃ acc, H6 D3 = some (.lst acc) ∧ acc.length < sizeLine ∧ Same H4 (upd H6 D3 (.lst (acc ++ [V.bl (decide (o ∈ fi))]))) ∧ upd H6 D3 (.lst (acc ++ [V.bl (decide (o ∈ fi))])) D3 = some (.lst (((adj n).take (j + 1)).map fun o => V.bl (decide (o ∈ fi)))) := by
            refine ⟨_, e6, ?_, Same.upd' s6 hD3, ?_⟩
            · rw [List.length_map, List.length_take]
              have := G.len n
              omega
            · rw [upd_same, List.take_add_one, ho, List.map_append]
              rfl
          by_cases hin : o ∈ fi
          · rw [decide_eq_true hin] at tail
            rw [if_pos hin]
            exact tail
          · rw [decide_eq_false hin] at tail
            rw [if_neg hin]
            exact tail
        · rintro H6 ⟨s6, e6⟩
          rw [nmV_len, List.take_length] at e6
          refine ⟨D3, ((adj n).map fun o => decide (o ∈ fi)), rfl, ?_, ?_⟩
          · rw [List.map_map]
            exact SqL.of e6
          · refine ⟨_, rfl, ?_⟩
            have ea : (((adj n).map fun o => decide (o ∈ fi)).any id) = (adj n).any fun o => decide (o ∈ fi) := by rw [List.any_map]; rfl
            have em6 := s6 _ _ em3
            have eu6 := s6 _ _ eu
            have kp6 := kp.same s6
            by_cases ha : ((adj n).any fun o => decide (o ∈ fi)) = true
            · refine iteTd (by first | exact ha | (rw [ea]; exact ha)) ?_
              refine ⟨_, rfl, _, rfl, m, _, rfl, DPut.k (k := (Sum.inr (nm n) : Key)) em6 (by unfold metK; rw [List.length_map]; omega), ?_⟩
              by_cases hf : n ∈ fi
              · rw [met_old hf]
                refine ⟨fi, _, rfl, kp6.put hm, ?_, upd_same, by rw [← ep]; simp [hf], ndi, subi⟩
                rw [upd_ne hmu]
                exact eu6
              · rw [met_put fi7 n7 hf]
                refine ⟨fi ++ [n], _, rfl, kp6.put hm, ?_, upd_same, by rw [← ep, ha]; simp [hf], ?_, fun x hx => ?_⟩
                · rw [upd_ne hmu]
                  exact eu6
                · rw [List.nodup_append]
                  exact ⟨ndi, List.nodup_cons.mpr ⟨List.not_mem_nil, List.nodup_nil⟩, fun a ha b hb z => hf (by rw [← List.mem_singleton.mp hb, ← z]; exact ha)⟩
                · rcases List.mem_append.mp hx with hx | hx
                  · exact subi x hx
                  · rw [List.mem_singleton.mp hx]
                    exact nu
            · refine iteFd (by first | exact Bool.eq_false_iff.mpr ha | (rw [ea]; exact Bool.eq_false_iff.mpr ha)) ?_
              exact ⟨fi, _, rfl, kp6, eu6, em6, by rw [← ep, Bool.eq_false_iff.mpr ha]; simp, ndi, subi⟩
      · rintro σ H3 ⟨fi, y4, rfl, kp, eu, em3, ep, ndi, subi⟩
        rw [List.length_map, List.drop_length, G11.pass] at ep
        refine ⟨eu, us.length - fo.length, by omega, fi, fo.length, _, _, rfl, kp.open_ U.e, ?_, ndi, subi, ?_, ?_, ?_, ?_, fun e => ?_⟩
        · rw [upd_ne hmu.symm]
          exact em3
        · obtain ⟨⟨t, h1⟩, _⟩ := G11.pass_sub (adj := adj) (us := us) (f := fo)
          rw [ep, h1]
          exact List.mem_append_left _ h0
        · rw [ep]
          exact G11.pass_rc (fun _ h => h) rc
        · obtain ⟨⟨t, h1⟩, _⟩ := G11.pass_sub (adj := adj) (us := us) (f := fo)
          rw [ep, h1, List.length_append]
          omega
        · omega
        · rw [ep] at e ⊢
          obtain ⟨h1, h2⟩ := G11.pass_same e.symm
          rw [h1]
          exact h2
    · refine iteFd (by simp; omega) ?_
      have cl := cl (by omega)
      refine ⟨_, rfl, m, _, fo.map nm, rfl, .inl em, met_keys fo, by rw [List.length_map]; omega, fun ys a hpm hso ha => ?_⟩
      obtain rfl := sort_nm nd fo7 hpm hso
      rw [← nmV_str]
      have s3 := s2.trans (Same.new (o := .lst (nmV (ascN fo))) ha)
      refine ⟨a, rfl, ⟨_, SqL.of upd_same⟩, fun D hD => lc_list (K := K) (a := a) (xs := nmV (ascN fo)) (fun i H' => Same (upd H2 a (.lst (nmV (ascN fo)))) H' ∧ H' D = some (.lst (nmV (((ascN fo).take i).filter fun n => !decide (n = n0))))) ⟨Same.new hD, upd_same⟩ (fun i H' _ e => SqL.of (e.1 _ _ upd_same)) ?_ ?_⟩
      · rintro i v H5 hv ⟨s5, e5⟩
        obtain ⟨n, hn, rfl⟩ := nmV_at hv
        have n7 := asc_lt fo n (List.mem_of_getElem? hn)
        refine ⟨rfl, _, rfl, _, rfl, rfl, _, rfl, ?_⟩
        have hb : (!decide (V.str (nm n) = V.str (nm n0))) = !decide (n = n0) := by
          by_cases z : n = n0
          · simp [z]
          · have : nm n ≠ nm n0 := fun y => z (nm_inj n7 f7 y)
            simp [z, this]
        exact filt_step (f := fun k => !decide (k = n0)) hb hn hD s5 e5 (by have := (asc_perm nd fo7).length_eq; omega)
      · rintro H5 ⟨s5, e5⟩
        rw [nmV_len, List.take_length] at e5
        refine ⟨D, nmV ((ascN fo).filter fun k => !decide (k = n0)), rfl, .inl ⟨SqL.of e5, fun l hl => ?_⟩⟩
        have s6 := (s3.trans s5).trans (Same.new (o := .tup (nmV ((ascN fo).filter fun k => !decide (k = n0)))) hl)
        exact q _ l fo s6 upd_same nd sub (G11.closed_rc h0 rc cl)
end
end SA

set_option Elab.async false
set_option linter.all false
set_option maxRecDepth 100000
set_option maxHeartbeats 4000000
/-! ### d.values() as a value, and list of it -/
namespace SA
open PySem PySem.Spec PyProof.Rows L2
/-- the view of d's values -/
def VwO (d r : Addr) : HO := .ext fun h => h.IsValuesView r d
def tVals (td : TE) : TE := fun σ H Q => td σ H fun v H' => ∃ d kvs, v = .ref d ∧ H' d = some (.dK kvs) ∧ ∀ r, H' r = none → Q (.ref r) (upd H' r (VwO d r))
theorem pe_vals {X : Cx} {e : Expr} {td : TE} {apos cpos : Pos} (he : PE X e td) (hbase : attributeBase e "values" X.env (eval e X.env) = eval e X.env := by rfl) (hline : (apos.endLine == cpos.line) = true := by rfl) : PE X (.Call (.Attribute e "values" apos) [] [] cpos) (tVals td) := by
  refine ⟨fun pins s σ H Q I h => ?_⟩
  refine wpAny_Call_method (T := "dict") (id := "dict.values") hbase rfl hline F.plainAttrs_dict F.slot_dict_values F.type_dict_values (thn (he.run pins s σ H _ I h) fun u s1 ⟨x, H1, I1, rx, d, kvs, ex, hd, q⟩ => ?_)
  subst ex
  obtain rfl : u = Value.ref d := rx
  obtain ⟨z, lo, vs, rk, hd2⟩ := (show ObjOk X.prog X.w H1 s1.heap d (.dK kvs) from I1.hok d _ hd)
  refine ⟨hd2.typeIs, hd2.mapOf.noDict, ?_⟩
  have hv : (s1.heap.push { cls := .type "dict_values", data := .fields #[.ref d] }).IsValuesView s1.heap.objs.size d := ⟨_, Heap.get?_push_size _ rfl, rfl, rfl⟩
  have I2 : Inv X pins σ (upd H1 s1.heap.objs.size (VwO d s1.heap.objs.size)) { s1 with heap := s1.heap.push { cls := .type "dict_values", data := .fields #[.ref d] } } := I1.laid (t' := s1.toks) (fun b ob q => Heap.get?_push_of_some _ q) (Nat.le_refl _) (show ObjOk X.prog X.w _ _ _ (VwO d s1.heap.objs.size) from ⟨hv, ⟨_, Heap.get?_push_size _ rfl⟩, fun h1 h2 hi hk => by
    obtain ⟨o, e, r⟩ := hi
    exact ⟨o, hk o e, r⟩⟩)
  show wpAny _ _ (callWith cpos (.builtin "dict.values") [.ref d] [] []) _ X.xe s1
  refine method_meetsIn F.slot_dict_values F.entry_dict_values rfl (PySem.evalArgs_none ⟨rfl, hd2.typeIs, F.args_dict_values_1 _, _, meets_dict_values (mixKind X.prog X.w) d lo, ⟨vs, hd2⟩, ?_⟩)
  exact ⟨.ref s1.heap.objs.size, _, I2, rfl, q _ (I1.hok.fresh (Nat.le_refl _))⟩
def rListV : List V → Hp → VK → Prop := fun xs H Q => ∃ r d kvs, xs = [.ref r] ∧ H r = some (VwO d r) ∧ H d = some (.dK kvs) ∧ ∀ q, H q = none → Q (.ref q) (upd H q (.lst (kvs.map (·.2))))
theorem call_list_vals {X : Cx} (hc : X.calm = true) : CallR X (.type "list") rListV := by
  intro pins s σ H xs us Q I r h
  obtain ⟨p, d, kvs, e, hr, hk, q⟩ := h
  subst e
  obtain ⟨u, eu, rx⟩ := vals1 r
  subst eu
  obtain rfl : u = Value.ref p := rx
  obtain ⟨hv, _, _⟩ := (show ObjOk X.prog X.w H s.heap p (VwO d p) from I.hok p _ hr)
  obtain ⟨z, lo, vs, rk, hd⟩ := (show ObjOk X.prog X.w H s.heap d (.dK kvs) from I.hok d _ hk)
  obtain ⟨ep, hat⟩ := hd.dictAt
  have hl : kvs.length = vs.length := Paired.length rk
  refine PySem.W.kdl_call (PySem.W.kdl_values (r := p) (knd := mixKind X.prog X.w) (kvs := vs) (ep := ep)) (I.ok.hd hc) ⟨hv, hat⟩ (by rw [← hl]; exact z) fun h' tk acc' c' hkeep hS hacc => ?_
  refine ⟨.ref s.heap.objs.size, upd H s.heap.objs.size (.lst (kvs.map (·.2))), I.laid hkeep (Nat.le_refl _) (show ObjOk X.prog X.w _ _ _ (.lst (kvs.map (·.2))) from ⟨?_, acc'.toList, c', ?_, ?_⟩), rfl, q _ (I.hok.fresh (Nat.le_refl _))⟩
  · rw [List.length_map]; exact z
  · have el : acc'.toList.length = acc'.size := by simp
    refine vals_of_at (by rw [List.length_map, el, hacc.1, hl]) fun j x w h1 h2 => ?_
    obtain ⟨k, hky⟩ := hacc.2 j w (by rw [← Array.getElem?_toList]; exact h2)
    rw [List.getElem?_map] at h1
    obtain ⟨kv, h3, rfl⟩ := Option.map_eq_some_iff.mp h1
    obtain ⟨u, hu, ru⟩ := kv_get rk (show kvs[j]? = some (kv.1, kv.2) from h3)
    rw [hky] at hu
    cases hu
    exact ru
  · rw [Array.toArray_toList]; exact hS
end SA

set_option Elab.async false
set_option linter.all false
set_option maxRecDepth 100000
set_option maxHeartbeats 4000000
namespace SA
open PySem PySem.Spec PyProof.Rows L2 T02
theorem kitLT {K : PySem.W.Frag} {H : Hp} {x : V} {t : String} (hk : Kd K H x t) : PySem.W.kitAny K (.type t) [.type "list", .type "tuple"] = some (decide (t = "list") || decide (t = "tuple")) := by
  have k : ∀ {a b : Bool}, PySem.W.kitOne K (.type t) (.type "list") = some a → PySem.W.kitOne K (.type t) (.type "tuple") = some b → PySem.W.kitAny K (.type t) [.type "list", .type "tuple"] = some (a || b) := by
    intro a b h1 h2
    unfold PySem.W.kitAny
    rw [h1]
    cases a with
    | true => rfl
    | false =>
      unfold PySem.W.kitAny
      rw [h2]
      cases b <;> rfl
  cases hk <;> first
    | exact k (kit_ty (by decide +kernel)) (kit_ty (by decide +kernel))
def spIsList (K : PySem.W.Frag) : Sp := fun vs H Q _ => ∃ (x : V) (t : String), vs = [x] ∧ ∀ H', Same H H' → Kd K H' x t ∧ Q (.bl (decide (t = "list") || decide (t = "tuple"))) H'
/-- a right unit: its name, what it uses, where the tuple of these lies -/
structure ItU (K : PySem.W.Frag) (H : Hp) (x : V) (z : Str) (ys : List Str) (b : Addr) : Prop where
  o : ∃ a c d, x = .ref a ∧ H a = some (.tup [.str "unit", .str z, .ref b, c, d])
  b : SqT K H b (ys.map V.str)
  d : ∃ d, Dn anyA H x d ∧ Ok DD d ∧ isUnit d = true
def BadIt (H : Hp) (x : V) : Prop := ∃ d, Dn anyA H x d ∧ Ok DD d ∧ isUnit d = false
theorem ItU.same {K : PySem.W.Frag} {H H' : Hp} {x : V} {z : Str} {ys : List Str} {b : Addr} (h : ItU K H x z ys b) (s : Same H H') : ItU K H' x z ys b := by
  obtain ⟨⟨a, c, d, e, h1⟩, h2, D, h3, h4⟩ := h
  exact ⟨⟨a, c, d, e, s _ _ h1⟩, SqT.same h2 s, D, h3.same s, h4⟩
theorem BadIt.same {H H' : Hp} {x : V} (h : BadIt H x) (s : Same H H') : BadIt H' x := by
  obtain ⟨D, h3, h4⟩ := h
  exact ⟨D, h3.same s, h4⟩
abbrev UT : Type := Str × List Str × Addr
def kU (us : List UT) : List (Key × V) := us.map fun u => ((Sum.inr u.1 : Key), V.ref u.2.2)
abbrev nU (us : List UT) : List Str := us.map (·.1)
theorem kU_val {us : List UT} {z : Str} : (valV (kU us) (Sum.inr z)).isSome = decide (z ∈ nU us) := by
  unfold valV kU
  induction us with
  | nil => rfl
  | cons u us ih =>
    rw [List.map_cons, List.find?_cons]
    by_cases e : u.1 = z
    · rw [decide_eq_true (show ((Sum.inr u.1 : Key)) = Sum.inr z by rw [e])]
      simp [e]
    · rw [decide_eq_false (show ¬ ((Sum.inr u.1 : Key)) = Sum.inr z from fun q => e (Sum.inr.inj q))]
      have : (z ∈ nU (u :: us)) = (z ∈ nU us) := by
        simp [show ¬ z = u.1 from fun q => e q.symm]
      simp only [this]
      exact ih
theorem kU_in {H : Hp} {p : Addr} {us : List UT} {z : Str} (e : H p = some (.dK (kU us))) : (z ∈ nU us → ∃ v, DGet H p (.str z) (some v)) ∧ (z ∉ nU us → DGet H p (.str z) none) := by
  have d := DGet.k (k := (Sum.inr z : Key)) e
  have v := kU_val (us := us) (z := z)
  refine ⟨fun h => ?_, fun h => ?_⟩
  · rw [decide_eq_true h] at v
    obtain ⟨x, hx⟩ := Option.isSome_iff_exists.mp v
    rw [hx] at d
    exact ⟨x, d⟩
  · rw [decide_eq_false h] at v
    have : valV (kU us) (Sum.inr z) = none := by
      cases q : valV (kU us) (Sum.inr z) with
      | none => rfl
      | some x => rw [q] at v; cases v
    rw [this] at d
    exact d
theorem kU_put {us : List UT} {u : UT} (h : u.1 ∉ nU us) : putK (kU us) (Sum.inr u.1) (.ref u.2.2) = kU (us ++ [u]) := by
  unfold putK
  rw [if_neg ?_]
  · unfold kU
    rw [List.map_append]
    rfl
  · intro z
    obtain ⟨kv, hk, e⟩ := List.any_eq_true.mp z
    obtain ⟨m, hm, rfl⟩ := List.mem_map.mp hk
    exact h (List.mem_map.mpr ⟨m, hm, Sum.inr.inj (of_decide_eq_true e)⟩)
def spChkL (K : PySem.W.Frag) (BU NU : Addr) : Sp := fun vs H Q E => ∃ x, vs = [x] ∧
  ((∃ d, Dn anyA H x d ∧ kindD d ≠ "list" ∧ kindD d ≠ "tuple" ∧ RaiseF BU "at" .non H E) ∨
   (∃ a, x = .ref a ∧ (H a = some (.lst []) ∨ H a = some (.tup [])) ∧ RaiseF BU "at" .non H E) ∨
   (∃ (a : Addr) (xs : List V) (us : List UT), x = .ref a ∧ H a = some (.lst xs) ∧ xs.length ≤ 100 ∧ xs ≠ [] ∧ (nU us).Nodup ∧ (∀ (i : Nat) (u : UT), us[i]? = some u → ∃ x, xs[i]? = some x ∧ ItU K H x u.1 u.2.1 u.2.2) ∧
     ((∃ x, xs[us.length]? = some x ∧ (BadIt H x ∨ ∃ z ys b, ItU K H x z ys b ∧ z ∈ nU us) ∧ RaiseF BU "at" (.int (us.length : Nat)) H E) ∨
      (xs.length = us.length ∧ (∀ u ∈ us, ∀ y ∈ u.2.1, y ∉ nU us → RaiseF NU "name" (.str y) H E) ∧ ((∀ u ∈ us, ∀ y ∈ u.2.1, y ∈ nU us) → ∀ H' p, Same H H' → H p = none → H' p = some (.dK (kU us)) → Q (.ref p) H')))))
def spChkT (K : PySem.W.Frag) (BU NU : Addr) : Sp := fun vs H Q E => ∃ x, vs = [x] ∧
  ((∃ d, Dn anyA H x d ∧ kindD d ≠ "list" ∧ kindD d ≠ "tuple" ∧ RaiseF BU "at" .non H E) ∨
   (∃ a, x = .ref a ∧ (H a = some (.lst []) ∨ H a = some (.tup [])) ∧ RaiseF BU "at" .non H E) ∨
   (∃ (a : Addr) (xs : List V) (us : List UT), x = .ref a ∧ H a = some (.tup xs) ∧ xs.length ≤ 100 ∧ xs ≠ [] ∧ (nU us).Nodup ∧ (∀ (i : Nat) (u : UT), us[i]? = some u → ∃ x, xs[i]? = some x ∧ ItU K H x u.1 u.2.1 u.2.2) ∧
     ((∃ x, xs[us.length]? = some x ∧ (BadIt H x ∨ ∃ z ys b, ItU K H x z ys b ∧ z ∈ nU us) ∧ RaiseF BU "at" (.int (us.length : Nat)) H E) ∨
      (xs.length = us.length ∧ (∀ u ∈ us, ∀ y ∈ u.2.1, y ∉ nU us → RaiseF NU "name" (.str y) H E) ∧ ((∀ u ∈ us, ∀ y ∈ u.2.1, y ∈ nU us) → ∀ H' p, Same H H' → H p = none → H' p = some (.dK (kU us)) → Q (.ref p) H')))))
section
variable {P : Program} {w0 : World} {K : PySem.W.Frag} {mg : Str → Option Value} {base : Heap} {BU NU fI fN : Addr} {fdI fdN : FuncData}
theorem okI_BadUnits {f : Addr} {fd : FuncData} {C : Addr} (F : Fun K "__init__" "BadUnits.__init__" s_BadUnits___init__ f fd) (T : Own24 K C f ["at"]) : FnOk P w0 K mg base CX0 1 f fd ["self", "at"] (spInit1 C "at") := by
  refine F.ok sc_BadUnits___init__ (fun vs H Q E h => ?_) (fun cdv A outer s H vs Q E hr h => ?_)
  · obtain ⟨a, x, rfl, _⟩ := h
    rfl
  · obtain ⟨a, x, rfl, ha, k⟩ := h
    refine ⟨_, pss_one (ps_ost (pv 0) (pv 1)), ?_⟩
    exact ⟨x, rfl, .ref a, rfl, a, C, rfl, T.oex, T.no _ (by simp), .inl ⟨ha, fun dx hd ne => k dx _ hd ne upd_same (by rw [upd_ne ne, upd_same]) fun b o e hb => by rw [upd_ne hb, upd_ne (ne_of_none e hd)]; exact e⟩⟩
theorem okI_NoUnit {f : Addr} {fd : FuncData} {C : Addr} (F : Fun K "__init__" "NoUnit.__init__" s_NoUnit___init__ f fd) (T : Own24 K C f ["name"]) : FnOk P w0 K mg base CX0 1 f fd ["self", "name"] (spInit1 C "name") := by
  refine F.ok sc_NoUnit___init__ (fun vs H Q E h => ?_) (fun cdv A outer s H vs Q E hr h => ?_)
  · obtain ⟨a, x, rfl, _⟩ := h
    rfl
  · obtain ⟨a, x, rfl, ha, k⟩ := h
    refine ⟨_, pss_one (ps_ost (pv 0) (pv 1)), ?_⟩
    exact ⟨x, rfl, .ref a, rfl, a, C, rfl, T.oex, T.no _ (by simp), .inl ⟨ha, fun dx hd ne => k dx _ hd ne upd_same (by rw [upd_ne ne, upd_same]) fun b o e hb => by rw [upd_ne hb, upd_ne (ne_of_none e hd)]; exact e⟩⟩
theorem okI_UsesRing {f : Addr} {fd : FuncData} {C : Addr} (F : Fun K "__init__" "UsesRing.__init__" s_UsesRing___init__ f fd) (T : Own24 K C f ["ring"]) : FnOk P w0 K mg base CX0 1 f fd ["self", "ring"] (spInit1 C "ring") := by
  refine F.ok sc_UsesRing___init__ (fun vs H Q E h => ?_) (fun cdv A outer s H vs Q E hr h => ?_)
  · obtain ⟨a, x, rfl, _⟩ := h
    rfl
  · obtain ⟨a, x, rfl, ha, k⟩ := h
    refine ⟨_, pss_one (ps_ost (pv 0) (pv 1)), ?_⟩
    exact ⟨x, rfl, .ref a, rfl, a, C, rfl, T.oex, T.no _ (by simp), .inl ⟨ha, fun dx hd ne => k dx _ hd ne upd_same (by rw [upd_ne ne, upd_same]) fun b o e hb => by rw [upd_ne hb, upd_ne (ne_of_none e hd)]; exact e⟩⟩
theorem ok_is_list {f : Addr} {fd : FuncData} (F : Fun K "is_list" "is_list" s_is_list f fd) (B : Bn11 mg) : FnOk P w0 K mg base CX0 1 f fd ["thing"] (spIsList K) := by
  refine F.ok sc_is_list (fun vs H Q E h => ?_) (fun cdv A outer s H vs Q E hr h => ?_)
  · obtain ⟨x, t, rfl, _⟩ := h
    rfl
  · obtain ⟨x, t, rfl, q⟩ := h
    refine ⟨_, (pss_one (ps_ret (pe_callB call_isiT (by rfl) B.isinstance (by decide +kernel) (pa_cons (pv 0) (pa_cons (pe_tup (pa_cons (pe_bltn (v := .ty "list") (by rfl) B.list (by decide +kernel) rfl) (pa_cons (pe_bltn (v := .ty "tuple") (by rfl) B.tuple (by decide +kernel) rfl) pa_nil))) pa_nil))))), ?_⟩
    refine ⟨_, rfl, (by show 2 ≤ sizeLine; decide), fun p hp => ?_⟩
    obtain ⟨hk2, q2⟩ := q _ (Same.new hp (o := .tup [.ty "list", .ty "tuple"]))
    exact ⟨x, p, _, .type t, [.type "list", .type "tuple"], _, rfl, upd_same, .cons (.ty _) (.cons (.ty _) .nil), hk2.ty, kitLT hk2, q2⟩
theorem ok_chkL {f : Addr} {fd : FuncData} (F : Fun K "_checked_uses" "_checked_uses" s__checked_uses f fd) (B : Bn11 mg) (OB : Cl1 P w0 K mg base "BadUnits" "at" BU fI fdI) (ON : Cl1 P w0 K mg base "NoUnit" "name" NU fN fdN) (c_is_list : Dq P w0 K mg base CX0 1 "is_list" ["thing"] (spIsList K))
    (c_is_unit : Dq P w0 K mg base CX0 (LE DD + 2) "is_unit" ["thing"] (spJ (Ok DD) isUnit)) :
    FnOk P w0 K mg base (L2.CX P w0) (LE DD + 3) f fd ["units"] (spChkL K BU NU) := by
  refine F.okX sc__checked_uses (fun vs H Q E h => ?_) (fun cdv A outer s H vs Q E hr hh => ?_)
  · obtain ⟨x, rfl, _⟩ := h
    rfl
  · obtain ⟨x, rfl, hh⟩ := hh
    refine ⟨_, (pss_cons (ps_if (PW.pt (pw_or (pt_not (pt_val (pe_q c_is_list hr (by decide) (by rfl) (pa_cons (pv 0) pa_nil)))) (pw_or1 (pt_cmpR op_eq (pe_callB call_len_seq (by rfl) B.len PySem.boot_len (pa_cons (pv 0) pa_nil)) pe_int (nomark _))))) (pss_one (ps_raise rfl (takes_of rfl rfl rfl rfl) (pmk_oex OB.o.oex OB.o.init OB.o.fn OB.G (hr.mono (by decide)) OB.b .nil pass0 (by rfl) OB.g (pa_cons pe_non pa_nil)))) pss_nil)
      (pss_cons (ps_set (i := 1) sc__checked_uses.nd rfl (Or.inl rfl) pe_dnewK)
      (pss_cons (ps_for (passes_of rfl) rfl (pi_enum (by rfl) B.enumerate (pa_cons (pv 0) pa_nil)) (pg_tup (by rfl) (pgs_cons (pg_name (i := 2) sc__checked_uses.nd rfl (Or.inl rfl)) (pgs_cons (pg_name (i := 3) sc__checked_uses.nd rfl (Or.inl rfl)) pgs_nil))) (pss_cons (ps_if (PW.pt (pw_or (pt_not (pt_val (pe_q c_is_unit hr (by decide) (by rfl) (pa_cons (pv 3) pa_nil)))) (pw_or1 (pt_cmp (pc_din (hu_of hr) (pe_ix ix_tup (pv 3) pe_int (fun _ _ => rfl)) (pv 1)))))) (pss_one (ps_raise rfl (takes_of rfl rfl rfl rfl) (pmk_oex OB.o.oex OB.o.init OB.o.fn OB.G (hr.mono (by decide)) OB.b .nil pass0 (by rfl) OB.g (pa_cons (pv 2) pa_nil)))) pss_nil)
      (pss_one (ps_dput (hu_of hr) (pv 1) (pe_ix ix_tup (pv 3) pe_int (fun _ _ => rfl)) (pe_ix ix_tup (pv 3) pe_int (fun _ _ => rfl)) rfl))))
      (pss_cons (ps_for (passes_of rfl) rfl (pi_list (pe_callTy (call_list_vals rfl) (by rfl) B.list (by decide +kernel) (pa_cons (pe_vals (pv 1)) pa_nil))) (pg_name (i := 4) sc__checked_uses.nd rfl (Or.inl rfl)) (pss_one (ps_for (passes_of rfl) rfl (pi_tup (pv 4)) (pg_name (i := 5) sc__checked_uses.nd rfl (Or.inl rfl)) (pss_one (ps_if (pt_cmp (pc_dnotin (hu_of hr) (pv 5) (pv 1))) (pss_one (ps_raise rfl (takes_of rfl rfl rfl rfl) (pmk_oex ON.o.oex ON.o.init ON.o.fn ON.G (hr.mono (by decide)) ON.b .nil pass0 (by rfl) ON.g (pa_cons (pv 5) pa_nil)))) pss_nil)))))
      (pss_one (ps_ret (pv 1))))))), ?_⟩
    have hs63 := sizeLine_eq
    rcases hh with ⟨dd, hk, n1, n2, q⟩ | ⟨a, rfl, ea, q⟩ | ⟨a, xs, us, rfl, ea, hl, hne, nd, pre, hh⟩
    · refine ⟨_, rfl, x, _, rfl, fun H1 s1 => ⟨(hk.same s1).kd, _, rfl, iteTd ?_ (iteT (raiseF (fun R r => r) (q.of s1)))⟩⟩
      rw [decide_eq_false n1, decide_eq_false n2]
      rfl
    · rcases ea with ea | ea
      · refine ⟨_, rfl, .ref a, "list", rfl, fun H1 s1 => ⟨.lst (.base (.lst (s1 _ _ ea))), _, rfl, iteFd (by decide) ⟨_, rfl, a, _, rfl, .inl (SqL.of (s1 _ _ ea)), rfl, _, rfl, iteT (raiseF (fun R r => r) (q.of s1))⟩⟩⟩
      · refine ⟨_, rfl, .ref a, "tuple", rfl, fun H1 s1 => ⟨.tup (.base (.tup (s1 _ _ ea))), _, rfl, iteFd (by decide) ⟨_, rfl, a, _, rfl, .inr (SqT.of (s1 _ _ ea)), rfl, _, rfl, iteT (raiseF (fun R r => r) (q.of s1))⟩⟩⟩
    · refine ⟨_, rfl, .ref a, "list", rfl, fun H1 s1 => ⟨.lst (.base (.lst (s1 _ _ ea))), _, rfl, iteFd (by decide) ⟨_, rfl, a, _, rfl, .inl (SqL.of (s1 _ _ ea)), rfl, _, rfl, ?_⟩⟩⟩
      have hxl : 0 < xs.length := List.length_pos_iff.mpr hne
      rw [decide_eq_false (show ¬ V.int ((xs.length : Nat) : Int) = V.int 0 from fun z => by injection z; omega)]
      refine iteFd rfl fun D hD => ?_
      have s2 : Same H1 (upd H1 D (.dK [])) := Same.new hD
      have hD0 := Same.gone s1 hD
      have e2 : (upd H1 D (.dK [])) D = some (.dK (kU (us.take 0))) := upd_same
      generalize upd H1 D (.dK []) = H2 at s2 e2
      have ulen : us.length ≤ xs.length := by
        cases e : us.getLast? with
        | none => rw [List.getLast?_eq_none_iff.mp e]; exact Nat.zero_le _
        | some u =>
          rw [List.getLast?_eq_getElem?] at e
          obtain ⟨x, hx, _⟩ := pre _ u e
          have := (List.getElem?_eq_some_iff.mp hx).1
          omega
      refine ⟨_, rfl, a, xs, rfl, SqL.of (s2 _ _ (s1 _ _ ea)), for_it walk_enum (fun i σ H' => (∃ y2 y3, σ = [some (.ref a), some (.ref D), y2, y3, none, none]) ∧ Same H1 H' ∧ i ≤ us.length ∧ H' D = some (.dK (kU (us.take i)))) ⟨⟨_, _, rfl⟩, s2, Nat.zero_le _, e2⟩ (fun i σ H' _ z => SqL.of (z.2.1 _ _ (s1 _ _ ea))) ?_ ?_⟩
      · rintro i v σ H' H'' hi ⟨⟨y2, y3, rfl⟩, s3, hiu, t3⟩ ⟨T, y, x', rfl, hT, rfl, hy, hxi⟩
        obtain rfl : y = .int (i : Nat) := (Option.some.inj hy).symm
        have s4 : Same H' (upd H' T (.tup [.int (i : Nat), x'])) := Same.new hT
        have t4 := s4 _ _ t3
        have s14 : Same H (upd H' T (.tup [.int (i : Nat), x'])) := (s1.trans s3).trans s4
        refine ⟨T, _, rfl, SqT.of upd_same, rfl, _, _, rfl, _, _, rfl, rfl, ?_⟩
        generalize upd H' T (.tup [.int (i : Nat), x']) = H4 at s4 t4 s14
        rcases Nat.lt_or_ge i us.length with hlt | hge
        · obtain ⟨u, hu⟩ : ∃ u, us[i]? = some u := ⟨_, List.getElem?_eq_getElem hlt⟩
          obtain ⟨x, hx, iu⟩ := pre i u hu
          obtain rfl : x = x' := Option.some.inj (hx.symm.trans hxi)
          obtain ⟨⟨a', c, d, rfl, ho⟩, hb, dd, hd, hok, hun⟩ := iu.same s14
          refine ⟨_, rfl, _, dd, rfl, hd, hok, fun H5 s5 => ⟨_, rfl, iteFd (by rw [hun]; rfl) ?_⟩⟩
          have ho5 := s5 _ _ ho
          have t5 := s5 _ _ t4
          have fresh : u.1 ∉ nU (us.take i) := fun z => by
            have e : nU us = nU (us.take i) ++ u.1 :: nU (us.drop (i + 1)) := by
              have h1 : us = us.take i ++ u :: us.drop (i + 1) := by
                rw [← drop_at hu, List.take_append_drop]
              have h2 : nU us = nU (us.take i ++ u :: us.drop (i + 1)) := congrArg nU h1
              rw [h2]
              simp [nU]
            rw [e, List.nodup_append] at nd
            exact nd.2.2 _ z _ List.mem_cons_self rfl
          refine ⟨_, rfl, a', _, 1, _, rfl, rfl, SqT.of ho5, atI_nat (j := 1) rfl, _, rfl, D, _, rfl, (kU_in t5).2 fresh, _, rfl, iteFd rfl ?_⟩
          refine ⟨_, rfl, a', _, 2, _, rfl, rfl, SqT.of ho5, atI_nat (j := 2) rfl, _, rfl, _, rfl, a', _, 1, _, rfl, rfl, SqT.of ho5, atI_nat (j := 1) rfl, D, _, rfl, DPut.k (k := (Sum.inr u.1 : Key)) t5 (by unfold kU; rw [List.length_map, List.length_take]; omega), ?_⟩
          rw [kU_put fresh]
          refine ⟨⟨_, _, rfl⟩, Same.upd' ((s3.trans s4).trans s5) hD, hlt, ?_⟩
          rw [upd_same, List.take_add_one, hu]
          rfl
        · obtain rfl : i = us.length := Nat.le_antisymm hiu hge
          rcases hh with ⟨x, hx, hb, q⟩ | ⟨hl2, _⟩
          · obtain rfl : x = x' := Option.some.inj (hx.symm.trans hxi)
            rw [List.take_length] at t4
            rcases hb with hb | ⟨z, ys, b, iu, hz⟩
            · obtain ⟨dd, hd, hok, hun⟩ := hb.same s14
              exact ⟨_, rfl, _, dd, rfl, hd, hok, fun H5 s5 => ⟨_, rfl, iteTd (by rw [hun]; rfl) (iteT (raiseF (fun R r => ⟨_, rfl, r⟩) (q.of (s14.trans s5))))⟩⟩
            · obtain ⟨⟨a', c, d, rfl, ho⟩, hb, dd, hd, hok, hun⟩ := iu.same s14
              refine ⟨_, rfl, _, dd, rfl, hd, hok, fun H5 s5 => ⟨_, rfl, iteFd (by rw [hun]; rfl) ?_⟩⟩
              obtain ⟨v, hv⟩ := (kU_in (s5 _ _ t4)).1 hz
              exact ⟨_, rfl, a', _, 1, _, rfl, rfl, SqT.of (s5 _ _ ho), atI_nat (j := 1) rfl, _, rfl, D, _, rfl, hv, _, rfl, iteTd rfl (raiseF (fun R r => ⟨_, rfl, r⟩) (q.of (s14.trans s5)))⟩
          · omega
      · rintro σ H3 ⟨⟨y2, y3, rfl⟩, s3, hiu, t3⟩
        have hl2 : xs.length = us.length := by omega
        rcases hh with ⟨x, hx, _⟩ | ⟨_, q1, q2⟩
        · have := (List.getElem?_eq_some_iff.mp hx).1
          omega
        · rw [hl2, List.take_length] at t3
          refine ⟨_, rfl, D, _, rfl, t3, fun r hr2 => ?_⟩
          have s4 := Same.new (o := VwO D r) hr2
          refine ⟨r, D, kU us, rfl, upd_same, s4 _ _ t3, fun L hL => ?_⟩
          have s5 := s4.trans (Same.new (o := .lst ((kU us).map (·.2))) hL)
          have t5 := s5 _ _ t3
          have e5 : (upd (upd H3 r (VwO D r)) L (.lst ((kU us).map (·.2)))) L = some (.lst (us.map fun u => V.ref u.2.2)) := by
            rw [upd_same]
            unfold kU
            rw [List.map_map]
            rfl
          generalize upd (upd H3 r (VwO D r)) L (.lst ((kU us).map (·.2))) = H5 at s5 t5 e5
          have s05 := (s1.trans s3).trans s5
          refine ⟨L, rfl, ⟨_, SqL.of e5⟩, for_it (walk_list (xs := us.map fun u => V.ref u.2.2)) (fun i σ H' => (∃ y4 y5, σ = [some (.ref a), some (.ref D), y2, y3, y4, y5]) ∧ Same H5 H' ∧ ∀ j u, j < i → us[j]? = some u → ∀ y ∈ u.2.1, y ∈ nU us) ⟨⟨_, _, rfl⟩, Same.refl _, fun j u h => absurd h (Nat.not_lt_zero _)⟩ (fun i σ H' _ z => SqL.of (z.2.1 _ _ e5)) ?_ ?_⟩
          · rintro i v σ H6 H7 hi ⟨⟨y4, y5, rfl⟩, s6, kn⟩ ⟨rfl, hv⟩
            rw [List.getElem?_map] at hv
            obtain ⟨u, hu, rfl⟩ := Option.map_eq_some_iff.mp hv
            obtain ⟨x, hx, iu⟩ := pre i u hu
            have hum := List.mem_of_getElem? hu
            have tb := (iu.same (s05.trans s6)).b
            refine ⟨_, rfl, u.2.2, rfl, ⟨_, tb⟩, for_it (walk_tup (xs := u.2.1.map V.str)) (fun j σ H' => (∃ y5, σ = [some (.ref a), some (.ref D), y2, y3, some (.ref u.2.2), y5]) ∧ Same H5 H' ∧ ∀ k y, k < j → u.2.1[k]? = some y → y ∈ nU us) ⟨⟨_, rfl⟩, s6, fun j u h => absurd h (Nat.not_lt_zero _)⟩ (fun j σ H' _ z => (iu.same (s05.trans z.2.1)).b) ?_ ?_⟩
            · rintro j v σ H8 H9 hj ⟨⟨y5, rfl⟩, s8, kn2⟩ ⟨rfl, hv⟩
              rw [List.getElem?_map] at hv
              obtain ⟨y, hy, rfl⟩ := Option.map_eq_some_iff.mp hv
              have hym := List.mem_of_getElem? hy
              have t8 := s8 _ _ t5
              by_cases hin : y ∈ nU us
              · obtain ⟨v, hv⟩ := (kU_in t8).1 hin
                refine ⟨_, rfl, _, rfl, D, _, rfl, hv, _, rfl, iteFd rfl ⟨⟨_, rfl⟩, s8, fun k y2 hk e => ?_⟩⟩
                rcases Nat.lt_or_ge k j with h | h
                · exact kn2 k y2 h e
                · obtain rfl : k = j := by omega
                  obtain rfl : y = y2 := Option.some.inj (hy.symm.trans e)
                  exact hin
              · exact ⟨_, rfl, _, rfl, D, _, rfl, (kU_in t8).2 hin, _, rfl, iteTd rfl (raiseF (fun R r => ⟨_, rfl, r⟩) ((q1 u hum y hym hin).of (s05.trans s8)))⟩
            · rintro σ H8 ⟨⟨y5, rfl⟩, s8, kn2⟩
              rw [List.length_map] at kn2
              refine ⟨⟨_, _, rfl⟩, s8, fun k w hk e y hy => ?_⟩
              rcases Nat.lt_or_ge k i with h | h
              · exact kn k w h e y hy
              · obtain rfl : k = i := by omega
                obtain rfl : u = w := Option.some.inj (hu.symm.trans e)
                obtain ⟨m, hm⟩ := List.getElem?_of_mem hy
                exact kn2 m y (List.getElem?_eq_some_iff.mp hm).1 hm
          · rintro σ H6 ⟨⟨y4, y5, rfl⟩, s6, kn⟩
            rw [List.length_map] at kn
            refine ⟨_, rfl, q2 (fun u hu y hy => ?_) H6 D (s05.trans s6) hD0 (s6 _ _ t5)⟩
            obtain ⟨m, hm⟩ := List.getElem?_of_mem hu
            exact kn m u (List.getElem?_eq_some_iff.mp hm).1 hm y hy
theorem ok_chkT {f : Addr} {fd : FuncData} (F : Fun K "_checked_uses" "_checked_uses" s__checked_uses f fd) (B : Bn11 mg) (OB : Cl1 P w0 K mg base "BadUnits" "at" BU fI fdI) (ON : Cl1 P w0 K mg base "NoUnit" "name" NU fN fdN) (c_is_list : Dq P w0 K mg base CX0 1 "is_list" ["thing"] (spIsList K))
    (c_is_unit : Dq P w0 K mg base CX0 (LE DD + 2) "is_unit" ["thing"] (spJ (Ok DD) isUnit)) :
    FnOk P w0 K mg base (L2.CX P w0) (LE DD + 3) f fd ["units"] (spChkT K BU NU) := by
  refine F.okX sc__checked_uses (fun vs H Q E h => ?_) (fun cdv A outer s H vs Q E hr hh => ?_)
  · obtain ⟨x, rfl, _⟩ := h
    rfl
  · obtain ⟨x, rfl, hh⟩ := hh
    refine ⟨_, (pss_cons (ps_if (PW.pt (pw_or (pt_not (pt_val (pe_q c_is_list hr (by decide) (by rfl) (pa_cons (pv 0) pa_nil)))) (pw_or1 (pt_cmpR op_eq (pe_callB call_len_seq (by rfl) B.len PySem.boot_len (pa_cons (pv 0) pa_nil)) pe_int (nomark _))))) (pss_one (ps_raise rfl (takes_of rfl rfl rfl rfl) (pmk_oex OB.o.oex OB.o.init OB.o.fn OB.G (hr.mono (by decide)) OB.b .nil pass0 (by rfl) OB.g (pa_cons pe_non pa_nil)))) pss_nil)
      (pss_cons (ps_set (i := 1) sc__checked_uses.nd rfl (Or.inl rfl) pe_dnewK)
      (pss_cons (ps_for (passes_of rfl) rfl (pi_enumT (by rfl) B.enumerate (pa_cons (pv 0) pa_nil)) (pg_tup (by rfl) (pgs_cons (pg_name (i := 2) sc__checked_uses.nd rfl (Or.inl rfl)) (pgs_cons (pg_name (i := 3) sc__checked_uses.nd rfl (Or.inl rfl)) pgs_nil))) (pss_cons (ps_if (PW.pt (pw_or (pt_not (pt_val (pe_q c_is_unit hr (by decide) (by rfl) (pa_cons (pv 3) pa_nil)))) (pw_or1 (pt_cmp (pc_din (hu_of hr) (pe_ix ix_tup (pv 3) pe_int (fun _ _ => rfl)) (pv 1)))))) (pss_one (ps_raise rfl (takes_of rfl rfl rfl rfl) (pmk_oex OB.o.oex OB.o.init OB.o.fn OB.G (hr.mono (by decide)) OB.b .nil pass0 (by rfl) OB.g (pa_cons (pv 2) pa_nil)))) pss_nil)
      (pss_one (ps_dput (hu_of hr) (pv 1) (pe_ix ix_tup (pv 3) pe_int (fun _ _ => rfl)) (pe_ix ix_tup (pv 3) pe_int (fun _ _ => rfl)) rfl))))
      (pss_cons (ps_for (passes_of rfl) rfl (pi_list (pe_callTy (call_list_vals rfl) (by rfl) B.list (by decide +kernel) (pa_cons (pe_vals (pv 1)) pa_nil))) (pg_name (i := 4) sc__checked_uses.nd rfl (Or.inl rfl)) (pss_one (ps_for (passes_of rfl) rfl (pi_tup (pv 4)) (pg_name (i := 5) sc__checked_uses.nd rfl (Or.inl rfl)) (pss_one (ps_if (pt_cmp (pc_dnotin (hu_of hr) (pv 5) (pv 1))) (pss_one (ps_raise rfl (takes_of rfl rfl rfl rfl) (pmk_oex ON.o.oex ON.o.init ON.o.fn ON.G (hr.mono (by decide)) ON.b .nil pass0 (by rfl) ON.g (pa_cons (pv 5) pa_nil)))) pss_nil)))))
      (pss_one (ps_ret (pv 1))))))), ?_⟩
    have hs63 := sizeLine_eq
    rcases hh with ⟨dd, hk, n1, n2, q⟩ | ⟨a, rfl, ea, q⟩ | ⟨a, xs, us, rfl, ea, hl, hne, nd, pre, hh⟩
    · refine ⟨_, rfl, x, _, rfl, fun H1 s1 => ⟨(hk.same s1).kd, _, rfl, iteTd ?_ (iteT (raiseF (fun R r => r) (q.of s1)))⟩⟩
      rw [decide_eq_false n1, decide_eq_false n2]
      rfl
    · rcases ea with ea | ea
      · refine ⟨_, rfl, .ref a, "list", rfl, fun H1 s1 => ⟨.lst (.base (.lst (s1 _ _ ea))), _, rfl, iteFd (by decide) ⟨_, rfl, a, _, rfl, .inl (SqL.of (s1 _ _ ea)), rfl, _, rfl, iteT (raiseF (fun R r => r) (q.of s1))⟩⟩⟩
      · refine ⟨_, rfl, .ref a, "tuple", rfl, fun H1 s1 => ⟨.tup (.base (.tup (s1 _ _ ea))), _, rfl, iteFd (by decide) ⟨_, rfl, a, _, rfl, .inr (SqT.of (s1 _ _ ea)), rfl, _, rfl, iteT (raiseF (fun R r => r) (q.of s1))⟩⟩⟩
    · refine ⟨_, rfl, .ref a, "tuple", rfl, fun H1 s1 => ⟨.tup (.base (.tup (s1 _ _ ea))), _, rfl, iteFd (by decide) ⟨_, rfl, a, _, rfl, .inr (SqT.of (s1 _ _ ea)), rfl, _, rfl, ?_⟩⟩⟩
      have hxl : 0 < xs.length := List.length_pos_iff.mpr hne
      rw [decide_eq_false (show ¬ V.int ((xs.length : Nat) : Int) = V.int 0 from fun z => by injection z; omega)]
      refine iteFd rfl fun D hD => ?_
      have s2 : Same H1 (upd H1 D (.dK [])) := Same.new hD
      have hD0 := Same.gone s1 hD
      have e2 : (upd H1 D (.dK [])) D = some (.dK (kU (us.take 0))) := upd_same
      generalize upd H1 D (.dK []) = H2 at s2 e2
      have ulen : us.length ≤ xs.length := by
        cases e : us.getLast? with
        | none => rw [List.getLast?_eq_none_iff.mp e]; exact Nat.zero_le _
        | some u =>
          rw [List.getLast?_eq_getElem?] at e
          obtain ⟨x, hx, _⟩ := pre _ u e
          have := (List.getElem?_eq_some_iff.mp hx).1
          omega
      refine ⟨_, rfl, a, xs, rfl, SqT.of (s2 _ _ (s1 _ _ ea)), for_it walk_enumT (fun i σ H' => (∃ y2 y3, σ = [some (.ref a), some (.ref D), y2, y3, none, none]) ∧ Same H1 H' ∧ i ≤ us.length ∧ H' D = some (.dK (kU (us.take i)))) ⟨⟨_, _, rfl⟩, s2, Nat.zero_le _, e2⟩ (fun i σ H' _ z => SqT.of (z.2.1 _ _ (s1 _ _ ea))) ?_ ?_⟩
      · rintro i v σ H' H'' hi ⟨⟨y2, y3, rfl⟩, s3, hiu, t3⟩ ⟨T, y, x', rfl, hT, rfl, hy, hxi⟩
        obtain rfl : y = .int (i : Nat) := (Option.some.inj hy).symm
        have s4 : Same H' (upd H' T (.tup [.int (i : Nat), x'])) := Same.new hT
        have t4 := s4 _ _ t3
        have s14 : Same H (upd H' T (.tup [.int (i : Nat), x'])) := (s1.trans s3).trans s4
        refine ⟨T, _, rfl, SqT.of upd_same, rfl, _, _, rfl, _, _, rfl, rfl, ?_⟩
        generalize upd H' T (.tup [.int (i : Nat), x']) = H4 at s4 t4 s14
        rcases Nat.lt_or_ge i us.length with hlt | hge
        · obtain ⟨u, hu⟩ : ∃ u, us[i]? = some u := ⟨_, List.getElem?_eq_getElem hlt⟩
          obtain ⟨x, hx, iu⟩ := pre i u hu
          obtain rfl : x = x' := Option.some.inj (hx.symm.trans hxi)
          obtain ⟨⟨a', c, d, rfl, ho⟩, hb, dd, hd, hok, hun⟩ := iu.same s14
          refine ⟨_, rfl, _, dd, rfl, hd, hok, fun H5 s5 => ⟨_, rfl, iteFd (by rw [hun]; rfl) ?_⟩⟩
          have ho5 := s5 _ _ ho
          have t5 := s5 _ _ t4
          have fresh : u.1 ∉ nU (us.take i) := fun z => by
            have e : nU us = nU (us.take i) ++ u.1 :: nU (us.drop (i + 1)) := by
              have h1 : us = us.take i ++ u :: us.drop (i + 1) := by
                rw [← drop_at hu, List.take_append_drop]
              have h2 : nU us = nU (us.take i ++ u :: us.drop (i + 1)) := congrArg nU h1
              rw [h2]
              simp [nU]
            rw [e, List.nodup_append] at nd
            exact nd.2.2 _ z _ List.mem_cons_self rfl
          refine ⟨_, rfl, a', _, 1, _, rfl, rfl, SqT.of ho5, atI_nat (j := 1) rfl, _, rfl, D, _, rfl, (kU_in t5).2 fresh, _, rfl, iteFd rfl ?_⟩
          refine ⟨_, rfl, a', _, 2, _, rfl, rfl, SqT.of ho5, atI_nat (j := 2) rfl, _, rfl, _, rfl, a', _, 1, _, rfl, rfl, SqT.of ho5, atI_nat (j := 1) rfl, D, _, rfl, DPut.k (k := (Sum.inr u.1 : Key)) t5 (by unfold kU; rw [List.length_map, List.length_take]; omega), ?_⟩
          rw [kU_put fresh]
          refine ⟨⟨_, _, rfl⟩, Same.upd' ((s3.trans s4).trans s5) hD, hlt, ?_⟩
          rw [upd_same, List.take_add_one, hu]
          rfl
        · obtain rfl : i = us.length := Nat.le_antisymm hiu hge
          rcases hh with ⟨x, hx, hb, q⟩ | ⟨hl2, _⟩
          · obtain rfl : x = x' := Option.some.inj (hx.symm.trans hxi)
            rw [List.take_length] at t4
            rcases hb with hb | ⟨z, ys, b, iu, hz⟩
            · obtain ⟨dd, hd, hok, hun⟩ := hb.same s14
              exact ⟨_, rfl, _, dd, rfl, hd, hok, fun H5 s5 => ⟨_, rfl, iteTd (by rw [hun]; rfl) (iteT (raiseF (fun R r => ⟨_, rfl, r⟩) (q.of (s14.trans s5))))⟩⟩
            · obtain ⟨⟨a', c, d, rfl, ho⟩, hb, dd, hd, hok, hun⟩ := iu.same s14
              refine ⟨_, rfl, _, dd, rfl, hd, hok, fun H5 s5 => ⟨_, rfl, iteFd (by rw [hun]; rfl) ?_⟩⟩
              obtain ⟨v, hv⟩ := (kU_in (s5 _ _ t4)).1 hz
              exact ⟨_, rfl, a', _, 1, _, rfl, rfl, SqT.of (s5 _ _ ho), atI_nat (j := 1) rfl, _, rfl, D, _, rfl, hv, _, rfl, iteTd rfl (raiseF (fun R r => ⟨_, rfl, r⟩) (q.of (s14.trans s5)))⟩
          · omega
      · rintro σ H3 ⟨⟨y2, y3, rfl⟩, s3, hiu, t3⟩
        have hl2 : xs.length = us.length := by omega
        rcases hh with ⟨x, hx, _⟩ | ⟨_, q1, q2⟩
        · have := (List.getElem?_eq_some_iff.mp hx).1
          omega
        · rw [hl2, List.take_length] at t3
          refine ⟨_, rfl, D, _, rfl, t3, fun r hr2 => ?_⟩
          have s4 := Same.new (o := VwO D r) hr2
          refine ⟨r, D, kU us, rfl, upd_same, s4 _ _ t3, fun L hL => ?_⟩
          have s5 := s4.trans (Same.new (o := .lst ((kU us).map (·.2))) hL)
          have t5 := s5 _ _ t3
          have e5 : (upd (upd H3 r (VwO D r)) L (.lst ((kU us).map (·.2)))) L = some (.lst (us.map fun u => V.ref u.2.2)) := by
            rw [upd_same]
            unfold kU
            rw [List.map_map]
            rfl
          generalize upd (upd H3 r (VwO D r)) L (.lst ((kU us).map (·.2))) = H5 at s5 t5 e5
          have s05 := (s1.trans s3).trans s5
          refine ⟨L, rfl, ⟨_, SqL.of e5⟩, for_it (walk_list (xs := us.map fun u => V.ref u.2.2)) (fun i σ H' => (∃ y4 y5, σ = [some (.ref a), some (.ref D), y2, y3, y4, y5]) ∧ Same H5 H' ∧ ∀ j u, j < i → us[j]? = some u → ∀ y ∈ u.2.1, y ∈ nU us) ⟨⟨_, _, rfl⟩, Same.refl _, fun j u h => absurd h (Nat.not_lt_zero _)⟩ (fun i σ H' _ z => SqL.of (z.2.1 _ _ e5)) ?_ ?_⟩
          · rintro i v σ H6 H7 hi ⟨⟨y4, y5, rfl⟩, s6, kn⟩ ⟨rfl, hv⟩
            rw [List.getElem?_map] at hv
            obtain ⟨u, hu, rfl⟩ := Option.map_eq_some_iff.mp hv
            obtain ⟨x, hx, iu⟩ := pre i u hu
            have hum := List.mem_of_getElem? hu
            have tb := (iu.same (s05.trans s6)).b
            refine ⟨_, rfl, u.2.2, rfl, ⟨_, tb⟩, for_it (walk_tup (xs := u.2.1.map V.str)) (fun j σ H' => (∃ y5, σ = [some (.ref a), some (.ref D), y2, y3, some (.ref u.2.2), y5]) ∧ Same H5 H' ∧ ∀ k y, k < j → u.2.1[k]? = some y → y ∈ nU us) ⟨⟨_, rfl⟩, s6, fun j u h => absurd h (Nat.not_lt_zero _)⟩ (fun j σ H' _ z => (iu.same (s05.trans z.2.1)).b) ?_ ?_⟩
            · rintro j v σ H8 H9 hj ⟨⟨y5, rfl⟩, s8, kn2⟩ ⟨rfl, hv⟩
              rw [List.getElem?_map] at hv
              obtain ⟨y, hy, rfl⟩ := Option.map_eq_some_iff.mp hv
              have hym := List.mem_of_getElem? hy
              have t8 := s8 _ _ t5
              by_cases hin : y ∈ nU us
              · obtain ⟨v, hv⟩ := (kU_in t8).1 hin
                refine ⟨_, rfl, _, rfl, D, _, rfl, hv, _, rfl, iteFd rfl ⟨⟨_, rfl⟩, s8, fun k y2 hk e => ?_⟩⟩
                rcases Nat.lt_or_ge k j with h | h
                · exact kn2 k y2 h e
                · obtain rfl : k = j := by omega
                  obtain rfl : y = y2 := Option.some.inj (hy.symm.trans e)
                  exact hin
              · exact ⟨_, rfl, _, rfl, D, _, rfl, (kU_in t8).2 hin, _, rfl, iteTd rfl (raiseF (fun R r => ⟨_, rfl, r⟩) ((q1 u hum y hym hin).of (s05.trans s8)))⟩
            · rintro σ H8 ⟨⟨y5, rfl⟩, s8, kn2⟩
              rw [List.length_map] at kn2
              refine ⟨⟨_, _, rfl⟩, s8, fun k w hk e y hy => ?_⟩
              rcases Nat.lt_or_ge k i with h | h
              · exact kn k w h e y hy
              · obtain rfl : k = i := by omega
                obtain rfl : u = w := Option.some.inj (hu.symm.trans e)
                obtain ⟨m, hm⟩ := List.getElem?_of_mem hy
                exact kn2 m y (List.getElem?_eq_some_iff.mp hm).1 hm
          · rintro σ H6 ⟨⟨y4, y5, rfl⟩, s6, kn⟩
            rw [List.length_map] at kn
            refine ⟨_, rfl, q2 (fun u hu y hy => ?_) H6 D (s05.trans s6) hD0 (s6 _ _ t5)⟩
            obtain ⟨m, hm⟩ := List.getElem?_of_mem hu
            exact kn m u (List.getElem?_eq_some_iff.mp hm).1 hm y hy
end
end SA

set_option Elab.async false
set_option linter.all false
set_option maxRecDepth 100000
set_option maxHeartbeats 4000000
namespace SA
open PySem PySem.Spec PyProof.Rows L2 T02
open G11 (Clw Due ordGo Rc)
section
variable {X : Cx}
/-- x not in a list of texts -/
theorem op_notInSL (hu : X.A.units + 64 < cLine) : OpR X (compareOp .NotIn) (fun x y H Q => ∃ d a zs, Dn anyA H x d ∧ y = .ref a ∧ SqL X.K H a (zs.map V.str) ∧ Q (.bl (!isIn zs d)) H) := by
  intro pins s σ H x y v u Q I rx ry h
  obtain ⟨d, a, zs, hd, rfl, hz, q⟩ := h
  obtain rfl : u = .ref a := ry
  obtain ⟨its, r1, p1, _⟩ := I.list hz
  refine SeqAt.notIn_listAt (fun u => match u with | .str z _ => isS z d | _ => false) p1.isList (fun y hy => ?_) ⟨.bl (!isIn zs d), H, I, ?_, q⟩
  · obtain ⟨z, t, _, rfl⟩ := vals_strs r1 (by simpa using hy)
    exact str_eqAt I (show X.A.units + 1 < cLine by omega) hd rx z t
  · show Value.bool _ = .bool _
    rw [← any_strs d r1]
    simp <;> rfl
theorem op_notInSLK {K : PySem.W.Frag} (hK : X.K = K) (hu : X.A.units + 64 < cLine) : OpR X (compareOp .NotIn) (fun x y H Q => ∃ d a zs, Dn anyA H x d ∧ y = .ref a ∧ SqL K H a (zs.map V.str) ∧ Q (.bl (!isIn zs d)) H) := hK ▸ op_notInSL hu
end
/-- from the raising of such an error, its argument worked out on the way -/
theorem raiseG {C : Addr} {fl : Str} {te : TE} {G : V → Hp → Prop} {σ : L2.St} {H1 : Hp} {E : XK} (ht : ∀ R : V → Hp → Prop, (∀ x H2, G x H2 → R x H2) → te σ H1 R) (hb : ∀ x H2, G x H2 → RaiseF C fl x H2 E) : tMkO C (spInit1 C fl) [] (tCons te tNil) σ H1 fun cls d H' => E cls d H' := by
  refine ht _ fun x H2 g => ⟨(by show 1 ≤ 1000; decide), fun a ha => ⟨a, x, rfl, upd_same, fun dx H' hdx ne e1 e2 kp => ⟨rfl, dx, _, e1, e2, ?_, ?_⟩⟩⟩
  · rw [upd_ne ne] at hdx
    exact hdx
  · have hdx : H2 dx = none := by
      rw [upd_ne ne] at hdx
      exact hdx
    refine hb x H2 g dx _ (fun b o e => ?_) hdx upd_same
    have nb := ne_of_none e ha
    rw [upd_ne (ne_of_none e hdx), L2.del_ne nb]
    exact kp b o (by rw [upd_ne nb]; exact e) nb
theorem ordGo_full {adj : Nat → List Nat} {ns : List Nat} (hns : ∀ x y, y ∈ adj x → y ∈ ns) (no : ¬ ∃ w, Clw adj w) (nd : ns.Nodup) : ∀ {k : Nat} {f : List Nat}, G11.OrdOk adj ns f → f.length + k = ns.length → (ordGo adj ns k f).length = ns.length
  | 0, f, _, h => h
  | k + 1, f, ok, h => by
    have hlt : ∃ n ∈ ns, n ∉ f := by
      apply Classical.byContradiction
      intro z
      have sub : ∀ n ∈ ns, n ∈ f := fun n hn => Classical.byContradiction fun q => z ⟨n, hn, q⟩
      have := G11.nodup_sub nd sub
      omega
    match e : G11.rdy adj ns f with
    | [] => exact absurd e (G11.ord_goes hns no hlt)
    | x :: t =>
      rw [ordGo_cons e]
      exact ordGo_full hns no nd (ok.more (by rw [e]; exact List.mem_cons_self)) (by rw [List.length_append, List.length_cons, List.length_nil]; omega)
/-- all are in order just if there is no ring -/
theorem ord_iff {us : List Nat} {adj : Nat → List Nat} (G : Gr us adj) : (ordGo adj (ascN us) (ascN us).length []).length ≤ us.length ∧ ((ordGo adj (ascN us) (ascN us).length []).length < us.length ↔ ∃ w, Clw adj w) := by
  have nd := G11.pw_nodup (asc_inc us)
  have ok0 : G11.OrdOk adj (ascN us) [] := ⟨List.nodup_nil, fun _ h => absurd h List.not_mem_nil, fun a x b e => by simp at e⟩
  have ok := G11.ordGo_ok (k := (ascN us).length) ok0
  have le := Nat.le_trans (G11.nodup_sub ok.nd ok.sub) (Nat.le_of_eq G.alen)
  have al := G.alen
  refine ⟨le, fun h => ?_, fun h => ?_⟩
  · apply Classical.byContradiction
    intro no
    have := ordGo_full (k := (ascN us).length) (fun x y z => (G.ns x y z).2) no nd ok0 (by simp)
    omega
  · apply Classical.byContradiction
    intro hge
    have pm := perm_of_sub ok.nd ok.sub (by omega)
    obtain ⟨w, hw⟩ := h
    match w, hw with
    | x :: r, hw => exact G11.ord_ring ok ⟨x, r, hw, fun y hy => (asc_mem G.l7).mpr (cl_us G (w := x :: r) hw y hy)⟩ fun n hn => pm.symm.mem_iff.mp hn
def uU (ns : List Nat) (adj : Nat → List Nat) (ad : Nat → Addr) : List UT := ns.map fun n => (nm n, (adj n).map nm, ad n)
theorem uU_names {ns : List Nat} {adj : Nat → List Nat} {ad : Nat → Addr} : nU (uU ns adj ad) = ns.map nm := by
  unfold uU nU
  rw [List.map_map]
  rfl
theorem uU_k {ns : List Nat} {adj : Nat → List Nat} {ad : Nat → Addr} : kU (uU ns adj ad) = ns.map fun n => ((Sum.inr (nm n) : Key), V.ref (ad n)) := by
  unfold uU kU
  rw [List.map_map]
  rfl
theorem nm_in {ns : List Nat} (h7 : lt7 ns) {y : Nat} (hy : y < 7) : nm y ∈ ns.map nm ↔ y ∈ ns := by
  refine ⟨fun h => ?_, fun h => List.mem_map.mpr ⟨y, h, rfl⟩⟩
  obtain ⟨k, hk, e⟩ := List.mem_map.mp h
  exact nm_inj (h7 k hk) hy e ▸ hk
theorem nm7_in {ns : List Nat} (h7 : lt7 ns) : nm 7 ∉ ns.map nm := by
  intro h
  obtain ⟨k, hk, e⟩ := List.mem_map.mp h
  have : ∀ k, k < 7 → nm k ≠ nm 7 := by decide +kernel
  exact this k (h7 k hk) e
/-- what is asked of units and told of them -/
def ChkL (K : PySem.W.Frag) (BU NU : Addr) (x : V) (H : Hp) (E : XK) (good : List Nat → (Nat → List Nat) → (Nat → Addr) → Prop) : Prop :=
  (∃ d, Dn anyA H x d ∧ kindD d ≠ "list" ∧ kindD d ≠ "tuple" ∧ RaiseF BU "at" .non H E) ∨
  (∃ a, x = .ref a ∧ (H a = some (.lst []) ∨ H a = some (.tup [])) ∧ RaiseF BU "at" .non H E) ∨
  (∃ (a : Addr) (xs : List V) (ns : List Nat) (adj : Nat → List Nat) (ad : Nat → Addr), x = .ref a ∧ H a = some (.lst xs) ∧ xs.length ≤ 100 ∧ xs ≠ [] ∧ ns.Nodup ∧ lt7 ns ∧ (∀ (i n : Nat), ns[i]? = some n → ∃ x, xs[i]? = some x ∧ ItU K H x (nm n) ((adj n).map nm) (ad n)) ∧
    ((∃ x, xs[ns.length]? = some x ∧ (BadIt H x ∨ ∃ n ∈ ns, ∃ ys b, ItU K H x (nm n) ys b) ∧ RaiseF BU "at" (.int (ns.length : Nat)) H E) ∨
     (xs.length = ns.length ∧ (∃ n ∈ ns, 7 ∈ adj n) ∧ (∀ n ∈ ns, ∀ y ∈ adj n, y = 7 ∨ y ∈ ns) ∧ RaiseF NU "name" (.str (nm 7)) H E) ∨
     (xs.length = ns.length ∧ Gr ns adj ∧ good ns adj ad)))
theorem ChkL.chk {K : PySem.W.Frag} {BU NU : Addr} {x : V} {H : Hp} {Q : VK} {E : XK} {good : List Nat → (Nat → List Nat) → (Nat → Addr) → Prop} (h : ChkL K BU NU x H E good) (hg : ∀ ns adj ad, good ns adj ad → Gr ns adj → ∀ H' p, Same H H' → UD K H' p ns adj ad → Q (.ref p) H') : spChkL K BU NU [x] H Q E := by
  refine ⟨x, rfl, ?_⟩
  rcases h with h | h | ⟨a, xs, ns, adj, ad, rfl, ea, hl, hne, nd, h7, pre, h⟩
  · exact .inl h
  · exact .inr (.inl h)
  · refine .inr (.inr ⟨a, xs, uU ns adj ad, rfl, ea, hl, hne, ?_, fun i u hu => ?_, ?_⟩)
    · rw [uU_names]
      exact nd_map nd h7
    · unfold uU at hu
      rw [List.getElem?_map] at hu
      obtain ⟨n, hn, rfl⟩ := Option.map_eq_some_iff.mp hu
      exact pre i n hn
    · have ul : (uU ns adj ad).length = ns.length := List.length_map _
      rw [ul, uU_names]
      have mem : ∀ {u}, u ∈ uU ns adj ad → ∃ n ∈ ns, u = (nm n, (adj n).map nm, ad n) := fun h => by
        obtain ⟨n, hn, e⟩ := List.mem_map.mp h
        exact ⟨n, hn, e.symm⟩
      rcases h with ⟨x, hx, hb, q⟩ | ⟨el, ⟨n, hn, h7n⟩, hk, q⟩ | ⟨el, G, g⟩
      · refine .inl ⟨x, hx, ?_, q⟩
        rcases hb with hb | ⟨n, hn, ys, b, hb⟩
        · exact .inl hb
        · exact .inr ⟨_, ys, b, hb, List.mem_map.mpr ⟨n, hn, rfl⟩⟩
      · refine .inr ⟨el, fun u hu y hy hno => ?_, fun hall => ?_⟩
        · obtain ⟨m, hm, rfl⟩ := mem hu
          obtain ⟨k, hk2, rfl⟩ := List.mem_map.mp hy
          rcases hk m hm k hk2 with rfl | hkn
          · exact q
          · exact absurd (List.mem_map.mpr ⟨k, hkn, rfl⟩) hno
        · exact absurd (hall _ (List.mem_map.mpr ⟨n, hn, rfl⟩) _ (List.mem_map.mpr ⟨7, h7n, rfl⟩)) (nm7_in h7)
      · refine .inr ⟨el, fun u hu y hy hno => ?_, fun _ H' p s hp e => ?_⟩
        · obtain ⟨m, hm, rfl⟩ := mem hu
          obtain ⟨k, hk2, rfl⟩ := List.mem_map.mp hy
          exact absurd (List.mem_map.mpr ⟨k, (G.cl _ _ hk2).2, rfl⟩) hno
        · refine hg ns adj ad g G H' p s ⟨?_, fun n hn => ?_⟩
          · rw [e, uU_k]
          · obtain ⟨i, hi⟩ := List.getElem?_of_mem hn
            obtain ⟨x, _, iu⟩ := pre i n hi
            rw [nmV_str]
            exact SqT.same iu.b s
def spOfL (K : PySem.W.Frag) (BU NU UR : Addr) : Sp := fun vs H Q E => ∃ x, vs = [x] ∧ ChkL K BU NU x H E fun ns adj ad =>
  ((∃ w, Clw adj w) → ∀ H' d p w, Same H H' → H d = none → H' d = some (.xd [("ring", .ref p)]) → H' p = some (.tup (nmV w)) → Due adj w → E (.ref UR) (some d) H') ∧
  ((¬ ∃ w, Clw adj w) → ∀ H' p, Same H H' → H' p = some (.tup (nmV (ordGo adj (ascN ns) (ascN ns).length []))) → Q (.ref p) H')
/-- what is asked of units and told of them -/
def ChkT (K : PySem.W.Frag) (BU NU : Addr) (x : V) (H : Hp) (E : XK) (good : List Nat → (Nat → List Nat) → (Nat → Addr) → Prop) : Prop :=
  (∃ d, Dn anyA H x d ∧ kindD d ≠ "list" ∧ kindD d ≠ "tuple" ∧ RaiseF BU "at" .non H E) ∨
  (∃ a, x = .ref a ∧ (H a = some (.lst []) ∨ H a = some (.tup [])) ∧ RaiseF BU "at" .non H E) ∨
  (∃ (a : Addr) (xs : List V) (ns : List Nat) (adj : Nat → List Nat) (ad : Nat → Addr), x = .ref a ∧ H a = some (.tup xs) ∧ xs.length ≤ 100 ∧ xs ≠ [] ∧ ns.Nodup ∧ lt7 ns ∧ (∀ (i n : Nat), ns[i]? = some n → ∃ x, xs[i]? = some x ∧ ItU K H x (nm n) ((adj n).map nm) (ad n)) ∧
    ((∃ x, xs[ns.length]? = some x ∧ (BadIt H x ∨ ∃ n ∈ ns, ∃ ys b, ItU K H x (nm n) ys b) ∧ RaiseF BU "at" (.int (ns.length : Nat)) H E) ∨
     (xs.length = ns.length ∧ (∃ n ∈ ns, 7 ∈ adj n) ∧ (∀ n ∈ ns, ∀ y ∈ adj n, y = 7 ∨ y ∈ ns) ∧ RaiseF NU "name" (.str (nm 7)) H E) ∨
     (xs.length = ns.length ∧ Gr ns adj ∧ good ns adj ad)))
theorem ChkT.chk {K : PySem.W.Frag} {BU NU : Addr} {x : V} {H : Hp} {Q : VK} {E : XK} {good : List Nat → (Nat → List Nat) → (Nat → Addr) → Prop} (h : ChkT K BU NU x H E good) (hg : ∀ ns adj ad, good ns adj ad → Gr ns adj → ∀ H' p, Same H H' → UD K H' p ns adj ad → Q (.ref p) H') : spChkT K BU NU [x] H Q E := by
  refine ⟨x, rfl, ?_⟩
  rcases h with h | h | ⟨a, xs, ns, adj, ad, rfl, ea, hl, hne, nd, h7, pre, h⟩
  · exact .inl h
  · exact .inr (.inl h)
  · refine .inr (.inr ⟨a, xs, uU ns adj ad, rfl, ea, hl, hne, ?_, fun i u hu => ?_, ?_⟩)
    · rw [uU_names]
      exact nd_map nd h7
    · unfold uU at hu
      rw [List.getElem?_map] at hu
      obtain ⟨n, hn, rfl⟩ := Option.map_eq_some_iff.mp hu
      exact pre i n hn
    · have ul : (uU ns adj ad).length = ns.length := List.length_map _
      rw [ul, uU_names]
      have mem : ∀ {u}, u ∈ uU ns adj ad → ∃ n ∈ ns, u = (nm n, (adj n).map nm, ad n) := fun h => by
        obtain ⟨n, hn, e⟩ := List.mem_map.mp h
        exact ⟨n, hn, e.symm⟩
      rcases h with ⟨x, hx, hb, q⟩ | ⟨el, ⟨n, hn, h7n⟩, hk, q⟩ | ⟨el, G, g⟩
      · refine .inl ⟨x, hx, ?_, q⟩
        rcases hb with hb | ⟨n, hn, ys, b, hb⟩
        · exact .inl hb
        · exact .inr ⟨_, ys, b, hb, List.mem_map.mpr ⟨n, hn, rfl⟩⟩
      · refine .inr ⟨el, fun u hu y hy hno => ?_, fun hall => ?_⟩
        · obtain ⟨m, hm, rfl⟩ := mem hu
          obtain ⟨k, hk2, rfl⟩ := List.mem_map.mp hy
          rcases hk m hm k hk2 with rfl | hkn
          · exact q
          · exact absurd (List.mem_map.mpr ⟨k, hkn, rfl⟩) hno
        · exact absurd (hall _ (List.mem_map.mpr ⟨n, hn, rfl⟩) _ (List.mem_map.mpr ⟨7, h7n, rfl⟩)) (nm7_in h7)
      · refine .inr ⟨el, fun u hu y hy hno => ?_, fun _ H' p s hp e => ?_⟩
        · obtain ⟨m, hm, rfl⟩ := mem hu
          obtain ⟨k, hk2, rfl⟩ := List.mem_map.mp hy
          exact absurd (List.mem_map.mpr ⟨k, (G.cl _ _ hk2).2, rfl⟩) hno
        · refine hg ns adj ad g G H' p s ⟨?_, fun n hn => ?_⟩
          · rw [e, uU_k]
          · obtain ⟨i, hi⟩ := List.getElem?_of_mem hn
            obtain ⟨x, _, iu⟩ := pre i n hi
            rw [nmV_str]
            exact SqT.same iu.b s
def spOfT (K : PySem.W.Frag) (BU NU UR : Addr) : Sp := fun vs H Q E => ∃ x, vs = [x] ∧ ChkT K BU NU x H E fun ns adj ad =>
  ((∃ w, Clw adj w) → ∀ H' d p w, Same H H' → H d = none → H' d = some (.xd [("ring", .ref p)]) → H' p = some (.tup (nmV w)) → Due adj w → E (.ref UR) (some d) H') ∧
  ((¬ ∃ w, Clw adj w) → ∀ H' p, Same H H' → H' p = some (.tup (nmV (ordGo adj (ascN ns) (ascN ns).length []))) → Q (.ref p) H')
def spUsr (K : PySem.W.Frag) (BU NU : Addr) : Sp := fun vs H Q E => ∃ x y, vs = [x, y] ∧ ChkL K BU NU x H E fun ns adj ad => ∃ d, Dn anyA H y d ∧
  (((∀ n ∈ ns, isS (nm n) d = false) ∧ RaiseF NU "name" y H E) ∨
   (∃ n ∈ ns, y = .str (nm n) ∧ ∀ H' p F, Same H H' → H' p = some (.tup (nmV ((ascN F).filter fun k => !decide (k = n)))) → F.Nodup → (∀ x ∈ F, x ∈ ns) → (∀ x, x ∈ F ↔ Rc adj ns n x) → Q (.ref p) H'))
section
variable {P : Program} {w0 : World} {K : PySem.W.Frag} {mg : Str → Option Value} {base : Heap} {BU NU UR fI fN fR : Addr} {fdI fdN fdR : FuncData}
theorem ok_ofL {f : Addr} {fd : FuncData} (F : Fun K "order_of" "order_of" s_order_of f fd) (B : Bn11 mg) (OU : Cl1 P w0 K mg base "UsesRing" "ring" UR fR fdR) (c__checked_uses : Dq P w0 K mg base (L2.CX P w0) (LE DD + 3) "_checked_uses" ["units"] (spChkL K BU NU))
    (c_order_by_uses : Dq P w0 K mg base CX0 1 "order_by_uses" ["uses"] (spOrd K)) (c_shortest_ring : Dq P w0 K mg base CX0 2 "shortest_ring" ["uses"] (spSr K)) :
    FnOk P w0 K mg base (L2.CX P w0) (LE DD + 4) f fd ["units"] (spOfL K BU NU UR) := by
  obtain ⟨spC, hspC⟩ : ∃ s, s = spChkL K BU NU := ⟨_, rfl⟩
  rw [← hspC] at c__checked_uses
  refine F.okX sc_order_of (fun vs H Q E h => ?_) (fun cdv A outer s H vs Q E hr hh => ?_)
  · obtain ⟨x, rfl, _⟩ := h
    rfl
  · obtain ⟨x, rfl, hh⟩ := hh
    refine ⟨_, (pss_cons (ps_set (i := 1) sc_order_of.nd rfl (Or.inl rfl) (pe_qX c__checked_uses hr (by decide) (by rfl) (passes_call (takes_of rfl rfl rfl rfl) fun _ _ _ _ h => h) (pa_cons (pv 0) pa_nil)))
      (pss_cons (ps_set (i := 2) sc_order_of.nd rfl (Or.inl rfl) (pe_q c_order_by_uses hr (by decide) (by rfl) (pa_cons (pv 1) pa_nil)))
      (pss_cons (ps_if (pt_cmpR op_lt (pe_callB call_len_seq (by rfl) B.len PySem.boot_len (pa_cons (pv 2) pa_nil)) (pe_callB call_lenD (by rfl) B.len PySem.boot_len (pa_cons (pv 1) pa_nil)) (nomark _)) (pss_one (ps_raise rfl (takes_of rfl rfl rfl rfl) (pmk_oex OU.o.oex OU.o.init OU.o.fn OU.G (hr.mono (by decide)) OU.b .nil pass0 (by rfl) OU.g (pa_cons (pe_q c_shortest_ring hr (by decide) (by rfl) (pa_cons (pv 1) pa_nil)) pa_nil)))) pss_nil)
      (pss_one (ps_ret (pv 2)))))), ?_⟩
    refine ⟨_, rfl, ?_⟩
    show spC [x] H _ _
    rw [hspC]
    refine hh.chk fun ns adj ad ⟨g1, g2⟩ G H1 p s1 U => ?_
    have hs63 := sizeLine_eq
    refine ⟨_, rfl, p, ns, adj, ad, rfl, U, G, fun H2 o s2 ho eo => ?_⟩
    obtain ⟨i1, i2⟩ := ord_iff G
    generalize ordGo adj (ascN ns) (ascN ns).length [] = fo at i1 i2 eo g2
    have U2 := U.same s2
    refine ⟨_, rfl, o, _, rfl, .inr (SqT.of eo), _, rfl, p, _, rfl, U2.e, _, _, rfl, rfl, _, rfl, ?_⟩
    rw [List.length_map, nmV_len]
    by_cases hlt : fo.length < ns.length
    · refine iteTd (by simp; omega) (raiseG (G := fun v H3 => ∃ b w, v = .ref b ∧ Same H2 H3 ∧ H3 b = some (.tup (nmV w)) ∧ Due adj w) (fun R hR => ?_) ?_)
      · exact ⟨_, rfl, p, ns, adj, ad, rfl, U2, G, i2.mp hlt, fun H3 b w s3 eb du => hR _ _ ⟨b, w, rfl, s3, eb, du⟩⟩
      · rintro v H3 ⟨b, w, rfl, s3, eb, du⟩ d H4 s4 hd ed
        have s03 := (s1.trans s2).trans s3
        exact g1 (i2.mp hlt) H4 d b w (s03.trans s4) (Same.gone s03 hd) ed (s4 _ _ eb) du
    · refine iteFd (by simp; omega) ⟨_, rfl, g2 (fun z => hlt (i2.mpr z)) H2 o (s1.trans s2) eo⟩
theorem ok_ofT {f : Addr} {fd : FuncData} (F : Fun K "order_of" "order_of" s_order_of f fd) (B : Bn11 mg) (OU : Cl1 P w0 K mg base "UsesRing" "ring" UR fR fdR) (c__checked_uses : Dq P w0 K mg base (L2.CX P w0) (LE DD + 3) "_checked_uses" ["units"] (spChkT K BU NU))
    (c_order_by_uses : Dq P w0 K mg base CX0 1 "order_by_uses" ["uses"] (spOrd K)) (c_shortest_ring : Dq P w0 K mg base CX0 2 "shortest_ring" ["uses"] (spSr K)) :
    FnOk P w0 K mg base (L2.CX P w0) (LE DD + 4) f fd ["units"] (spOfT K BU NU UR) := by
  obtain ⟨spC, hspC⟩ : ∃ s, s = spChkT K BU NU := ⟨_, rfl⟩
  rw [← hspC] at c__checked_uses
  refine F.okX sc_order_of (fun vs H Q E h => ?_) (fun cdv A outer s H vs Q E hr hh => ?_)
  · obtain ⟨x, rfl, _⟩ := h
    rfl
  · obtain ⟨x, rfl, hh⟩ := hh
    refine ⟨_, (pss_cons (ps_set (i := 1) sc_order_of.nd rfl (Or.inl rfl) (pe_qX c__checked_uses hr (by decide) (by rfl) (passes_call (takes_of rfl rfl rfl rfl) fun _ _ _ _ h => h) (pa_cons (pv 0) pa_nil)))
      (pss_cons (ps_set (i := 2) sc_order_of.nd rfl (Or.inl rfl) (pe_q c_order_by_uses hr (by decide) (by rfl) (pa_cons (pv 1) pa_nil)))
      (pss_cons (ps_if (pt_cmpR op_lt (pe_callB call_len_seq (by rfl) B.len PySem.boot_len (pa_cons (pv 2) pa_nil)) (pe_callB call_lenD (by rfl) B.len PySem.boot_len (pa_cons (pv 1) pa_nil)) (nomark _)) (pss_one (ps_raise rfl (takes_of rfl rfl rfl rfl) (pmk_oex OU.o.oex OU.o.init OU.o.fn OU.G (hr.mono (by decide)) OU.b .nil pass0 (by rfl) OU.g (pa_cons (pe_q c_shortest_ring hr (by decide) (by rfl) (pa_cons (pv 1) pa_nil)) pa_nil)))) pss_nil)
      (pss_one (ps_ret (pv 2)))))), ?_⟩
    refine ⟨_, rfl, ?_⟩
    show spC [x] H _ _
    rw [hspC]
    refine hh.chk fun ns adj ad ⟨g1, g2⟩ G H1 p s1 U => ?_
    have hs63 := sizeLine_eq
    refine ⟨_, rfl, p, ns, adj, ad, rfl, U, G, fun H2 o s2 ho eo => ?_⟩
    obtain ⟨i1, i2⟩ := ord_iff G
    generalize ordGo adj (ascN ns) (ascN ns).length [] = fo at i1 i2 eo g2
    have U2 := U.same s2
    refine ⟨_, rfl, o, _, rfl, .inr (SqT.of eo), _, rfl, p, _, rfl, U2.e, _, _, rfl, rfl, _, rfl, ?_⟩
    rw [List.length_map, nmV_len]
    by_cases hlt : fo.length < ns.length
    · refine iteTd (by simp; omega) (raiseG (G := fun v H3 => ∃ b w, v = .ref b ∧ Same H2 H3 ∧ H3 b = some (.tup (nmV w)) ∧ Due adj w) (fun R hR => ?_) ?_)
      · exact ⟨_, rfl, p, ns, adj, ad, rfl, U2, G, i2.mp hlt, fun H3 b w s3 eb du => hR _ _ ⟨b, w, rfl, s3, eb, du⟩⟩
      · rintro v H3 ⟨b, w, rfl, s3, eb, du⟩ d H4 s4 hd ed
        have s03 := (s1.trans s2).trans s3
        exact g1 (i2.mp hlt) H4 d b w (s03.trans s4) (Same.gone s03 hd) ed (s4 _ _ eb) du
    · refine iteFd (by simp; omega) ⟨_, rfl, g2 (fun z => hlt (i2.mpr z)) H2 o (s1.trans s2) eo⟩
theorem ok_users_of {f : Addr} {fd : FuncData} (F : Fun K "users_of" "users_of" s_users_of f fd) (B : Bn11 mg) (ON : Cl1 P w0 K mg base "NoUnit" "name" NU fN fdN) (c__checked_uses : Dq P w0 K mg base (L2.CX P w0) (LE DD + 3) "_checked_uses" ["units"] (spChkL K BU NU))
    (c_users_by_uses : Dq P w0 K mg base CX0 1 "users_by_uses" ["uses", "name"] (spUbu K)) :
    FnOk P w0 K mg base (L2.CX P w0) (LE DD + 4) f fd ["units", "name"] (spUsr K BU NU) := by
  obtain ⟨spC, hspC⟩ : ∃ s, s = spChkL K BU NU := ⟨_, rfl⟩
  rw [← hspC] at c__checked_uses
  refine F.okX sc_users_of (fun vs H Q E h => ?_) (fun cdv A outer s H vs Q E hr hh => ?_)
  · obtain ⟨x, y, rfl, _⟩ := h
    rfl
  · obtain ⟨x, y, rfl, hh⟩ := hh
    refine ⟨_, (pss_cons (ps_set (i := 2) sc_users_of.nd rfl (Or.inl rfl) (pe_qX c__checked_uses hr (by decide) (by rfl) (passes_call (takes_of rfl rfl rfl rfl) fun _ _ _ _ h => h) (pa_cons (pv 0) pa_nil)))
      (pss_cons (ps_if (pt_cmpR (op_notInSLK (K := K) rfl hr.units) (pv 1) (pe_callTy (call_list_dK rfl) (by rfl) B.list (by decide +kernel) (pa_cons (pv 2) pa_nil)) (by rfl)) (pss_one (ps_raise rfl (takes_of rfl rfl rfl rfl) (pmk_oex ON.o.oex ON.o.init ON.o.fn ON.G (hr.mono (by decide)) ON.b .nil pass0 (by rfl) ON.g (pa_cons (pv 1) pa_nil)))) pss_nil)
      (pss_one (ps_ret (pe_q c_users_by_uses hr (by decide) (by rfl) (pa_cons (pv 2) (pa_cons (pv 1) pa_nil))))))), ?_⟩
    refine ⟨_, rfl, ?_⟩
    show spC [x] H _ _
    rw [hspC]
    refine hh.chk fun ns adj ad ⟨d, hd, g⟩ G H1 p s1 U => ?_
    have hs63 := sizeLine_eq
    refine ⟨_, rfl, _, rfl, p, _, rfl, U.e, fun l hl => ?_⟩
    have s2 := Same.new (o := .lst ((ns.map fun n => ((Sum.inr (nm n) : Key), V.ref (ad n))).map fun kv => kV kv.1)) hl
    have el : (upd H1 l (.lst ((ns.map fun n => ((Sum.inr (nm n) : Key), V.ref (ad n))).map fun kv => kV kv.1))) l = some (.lst ((ns.map nm).map V.str)) := by
      rw [upd_same, List.map_map, List.map_map]
      rfl
    generalize upd H1 l (.lst ((ns.map fun n => ((Sum.inr (nm n) : Key), V.ref (ad n))).map fun kv => kV kv.1)) = H2 at s2 el
    have U2 := U.same s2
    have s02 := s1.trans s2
    refine ⟨d, l, ns.map nm, hd.same s02, rfl, SqL.of el, _, rfl, ?_⟩
    rcases g with ⟨no, q⟩ | ⟨n, hn, rfl, q⟩
    · refine iteTd ?_ (raiseF (fun R r => ⟨_, rfl, r⟩) (q.of s02))
      unfold isIn
      rw [List.any_map, Bool.not_eq_true', List.any_eq_false]
      intro n hn z
      rw [show ((fun z => isS z d) ∘ nm) n = isS (nm n) d from rfl, no n hn] at z
      cases z
    · refine iteFd ?_ ⟨_, rfl, _, rfl, p, ns, adj, ad, n, rfl, U2, G, hn, fun H3 b F s3 eb nd sub rc => q H3 b F (s02.trans s3) eb nd sub rc⟩
      cases hd with
      | str _ =>
        unfold isIn
        rw [List.any_map, Bool.not_eq_false', List.any_eq_true]
        exact ⟨n, hn, (by show decide (nm n = nm n) = true; simp)⟩
end
end SA

set_option Elab.async false
set_option linter.all false
set_option maxRecDepth 100000
set_option maxHeartbeats 4000000
namespace SA
open PySem PySem.Spec PyProof.Rows L2
open G11 (WayOk wts)
theorem op_ne_nilLK {X : Cx} {K : PySem.W.Frag} (hK : X.K = K) (hu : X.A.units + 64 < cLine) : OpR X (compareOp .NotEq) (fun x y H Q => ∃ (a b : Addr) (xs : List V), x = .ref a ∧ y = .ref b ∧ SqL K H a xs ∧ SqL K H b [] ∧ Q (.bl (!xs.isEmpty)) H) := hK ▸ op_ne_nilL hu
/-- rings found, and ways in line -/
structure RgAt (H H' : Hp) (fo li : Addr) (fas las : List Addr) (f l : List (List Nat)) : Prop where
  s : Same H H'
  hf : H fo = none
  hl : H li = none
  ef : H' fo = some (.lst (fas.map V.ref))
  wf : WsAt H' fas f
  el : H' li = some (.lst (las.map V.ref))
  wl : WsAt H' las l
  ne : fo ≠ li
theorem RgAt.same {H H' H2 : Hp} {fo li : Addr} {fas las : List Addr} {f l : List (List Nat)} (h : RgAt H H' fo li fas las f l) (k : Same H' H2) : RgAt H H2 fo li fas las f l := ⟨h.s.trans k, h.hf, h.hl, k _ _ h.ef, h.wf.same k, k _ _ h.el, h.wl.same k, h.ne⟩
theorem RgAt.pushF {H H' : Hp} {fo li a : Addr} {fas las : List Addr} {f l : List (List Nat)} {w : List Nat} (h : RgAt H H' fo li fas las f l) (e : H' a = some (.tup (nmV w))) : RgAt H (upd H' fo (.lst (fas.map V.ref ++ [.ref a]))) fo li (fas ++ [a]) las (f ++ [w]) l :=
  ⟨Same.put h.s h.hf, h.hf, h.hl, by rw [upd_same, List.map_append]; rfl, (h.wf.put h.ef (fun _ z => nomatch z)).snoc (by rw [upd_ne (fun z => by rw [z, h.ef] at e; cases e)]; exact e), by rw [upd_ne h.ne.symm]; exact h.el, h.wl.put h.ef (fun _ z => nomatch z), h.ne⟩
theorem RgAt.pushL {H H' : Hp} {fo li a : Addr} {fas las : List Addr} {f l : List (List Nat)} {w : List Nat} (h : RgAt H H' fo li fas las f l) (e : H' a = some (.tup (nmV w))) : RgAt H (upd H' li (.lst (las.map V.ref ++ [.ref a]))) fo li fas (las ++ [a]) f (l ++ [w]) :=
  ⟨Same.put h.s h.hl, h.hf, h.hl, by rw [upd_ne h.ne]; exact h.ef, h.wf.put h.el (fun _ z => nomatch z), by rw [upd_same, List.map_append]; rfl, (h.wl.put h.el (fun _ z => nomatch z)).snoc (by rw [upd_ne (fun z => by rw [z, h.el] at e; cases e)]; exact e), h.ne⟩
theorem RgAt.pop {H H' : Hp} {fo li a : Addr} {fas las : List Addr} {f l : List (List Nat)} {w : List Nat} (h : RgAt H H' fo li fas (a :: las) f (w :: l)) : RgAt H (upd H' li (.lst (las.map V.ref))) fo li fas las f l ∧ upd H' li (.lst (las.map V.ref)) a = some (.tup (nmV w)) := by
  match h.wl with
  | .cons e t => exact ⟨⟨Same.put h.s h.hl, h.hf, h.hl, by rw [upd_ne h.ne]; exact h.ef, h.wf.put h.el (fun _ z => nomatch z), upd_same, t.put h.el (fun _ z => nomatch z), h.ne⟩, by rw [upd_ne (fun z => by rw [z, h.el] at e; cases e)]; exact e⟩
theorem at_first {w : List Nat} (h : w ≠ []) : atI (nmV w) 0 = some (.str (nm (w.headD 0))) := by
  cases w with
  | nil => exact absurd rfl h
  | cons x r => exact atI_nat (j := 0) rfl
theorem nm_lt {i j : Nat} (hi : i < 7) (hj : j < 7) : decide ((nm i).cps.toList < (nm j).cps.toList) = decide (i < j) := by
  have h2 : ∀ i, i < 7 → ∀ j, j < 7 → decide ((nm i).cps.toList < (nm j).cps.toList) = decide (i < j) := by decide +kernel
  exact h2 i hi j hj
theorem nm_dec {i j : Nat} (hi : i < 7) (hj : j < 7) : decide (V.str (nm i) = V.str (nm j)) = decide (i = j) := by
  rw [decide_eq_decide]
  exact ⟨fun z => nm_inj hi hj (V.str.inj z), fun z => by rw [z]⟩
theorem T_le : ∀ {m k : Nat}, m ≤ k → G11.T m ≤ G11.T k
  | 0, k, _ => G11.T_pos k
  | m + 1, 0, h => by omega
  | m + 1, k + 1, h => by
    have ih := T_le (m := m) (k := k) (by omega)
    unfold G11.T
    have := Nat.mul_le_mul h ih
    omega
theorem wts_ones {N : Nat} (hN : N ≤ 6) : ∀ {l : List Nat}, wts N (l.map fun n => [n]) ≤ l.length * 326
  | [] => by simp [wts]
  | x :: l => by
    have ih := wts_ones hN (l := l)
    have h : G11.T (N - 1) ≤ 326 := Nat.le_trans (T_le (m := N - 1) (k := 5) (by omega)) (by decide)
    have e : wts N ((x :: l).map fun n => [n]) = G11.T (N - 1) + wts N (l.map fun n => [n]) := by simp [wts]
    rw [e, List.length_cons]
    omega
def spRng (K : PySem.W.Frag) : Sp := fun vs H Q _ => ∃ (u : Addr) (us : List Nat) (adj : Nat → List Nat) (ad : Nat → Addr), vs = [.ref u] ∧ UD K H u us adj ad ∧ Gr us adj ∧ ∀ H' p as F, Same H H' → H' p = some (.lst (as.map V.ref)) → WsAt H' as F → F.length ≤ 2000 → (∃ k, G11.line adj k ((ascN us).map fun n => [n]) [] = some F) → Q (.ref p) H'
section
variable {P : Program} {w0 : World} {K : PySem.W.Frag} {mg : Str → Option Value} {base : Heap}
theorem ok_rng {f : Addr} {fd : FuncData} (F : Fun K "_law_rings" "_law_rings" s__law_rings f fd) (B : Bn11 mg) : FnOk P w0 K mg base CX0 1 f fd ["uses"] (spRng K) := by
  refine F.ok sc__law_rings (fun vs H Q E h => ?_) (fun cdv A outer s H vs Q E hr h => ?_)
  · obtain ⟨u, us, adj, ad, rfl, _⟩ := h
    rfl
  · obtain ⟨u, us, adj, ad, rfl, U, G, q⟩ := h
    refine ⟨_, (pss_cons (ps_par (i := 1) (j := 2) rfl sc__law_rings.nd rfl rfl (by decide) rfl rfl (pa_cons (pe_lst pa_nil) (pa_cons (pe_lc (own := [("name", 5)]) (g := (gName 5)) (tt := tYes) (by rfl) sc__law_rings.nd (pi_list (pe_callB (call_sortedD rfl) (by rfl) B.sorted (by decide +kernel) (pa_cons (pv 0) pa_nil))) (blkOk_by (N := n__law_rings) (sc := defScope s__law_rings) (by decide +kernel)) (fun _ _ _ _ _ => (pg_name (i := 5) sc__law_rings.nd rfl (Or.inl rfl))) (fun _ _ _ _ _ => pts_nil) (fun _ _ _ _ _ => (pe_tup (pa_cons (pv 5) pa_nil)))) pa_nil)) rfl)
      (pss_cons (ps_while PassesOwn.never (pt_cmpR (op_ne_nilLK (K := K) rfl hr.units) (pv 2) (pe_lst pa_nil) (nomark _)) (pss_cons (ps_set (i := 3) sc__law_rings.nd rfl (Or.inl rfl) (pe_bm PySem.F.plainAttrs_list PySem.F.slot_list_pop PySem.F.type_list_pop mt_popAt (pv 2) (pa_cons pe_int pa_nil)))
      (pss_one (ps_for PassesOwn.never rfl (pi_tup (pe_dget (hu_of hr) (pv 0) (pe_ix ix_tup (pv 3) (pe_un un_neg pe_int) (fun _ _ => rfl)) (fun _ _ => rfl))) (pg_name (i := 4) sc__law_rings.nd rfl (Or.inl rfl)) (pss_one (ps_if (pt_cmpR op_eq (pv 4) (pe_ix ix_tup (pv 3) pe_int (fun _ _ => rfl)) (nomark _)) (pss_one (ps_expr (pe_bm PySem.F.plainAttrs_list PySem.F.slot_list_append PySem.F.type_list_append mt_append (pv 1) (pa_cons (pv 3) pa_nil)))) (pss_one (ps_if (PW.pt (pw_and (pt_cmpR (op_notIn_seqK (K := K) rfl) (pv 4) (pv 3) (by rfl)) (pw_and1 (pt_cmpR op_gt_str (pv 4) (pe_ix ix_tup (pv 3) pe_int (fun _ _ => rfl)) (nomark _))))) (pss_one (ps_expr (pe_bm PySem.F.plainAttrs_list PySem.F.slot_list_append PySem.F.type_list_append mt_append (pv 2) (pa_cons (pe_op op_catT (pv 3) (pe_tup (pa_cons (pv 4) pa_nil))) pa_nil)))) pss_nil))))))))
      (pss_one (ps_ret (pv 1))))), ?_⟩
    have hs63 := sizeLine_eq
    have few := G.few
    refine ⟨by simp, fun fo hfo => ?_⟩
    have s1 := Same.new (o := .lst []) hfo
    have U1 := U.same s1
    refine ⟨_, rfl, u, _, us.map nm, rfl, .inl U1.e, U1.keys, by rw [List.length_map]; omega, fun ys a hpm hso ha => ?_⟩
    obtain rfl := sort_nm G.nd G.l7 hpm hso
    rw [← nmV_str]
    have s2 : Same H (upd (upd H fo (.lst [])) a (.lst (nmV (ascN us)))) := s1.trans (Same.new ha)
    have e2 : (upd (upd H fo (.lst [])) a (.lst (nmV (ascN us)))) fo = some (.lst (([] : List Addr).map V.ref)) := Same.new ha _ _ upd_same
    have ea2 : (upd (upd H fo (.lst [])) a (.lst (nmV (ascN us)))) a = some (.lst (nmV (ascN us))) := upd_same
    generalize upd (upd H fo (.lst [])) a (.lst (nmV (ascN us))) = H2 at s2 e2 ea2
    refine ⟨a, rfl, ⟨_, SqL.of ea2⟩, fun li hli => lc_list (K := K) (a := a) (xs := nmV (ascN us)) (fun i H' => ∃ las, RgAt H H' fo li [] las [] (((ascN us).take i).map fun n => [n]) ∧ H' a = some (.lst (nmV (ascN us)))) ?_ (fun i H' _ e => by obtain ⟨_, _, e⟩ := e; exact SqL.of e) ?_ ?_⟩
    · exact ⟨[], ⟨s2.trans (Same.new hli), hfo, Same.gone s2 hli, Same.new hli _ _ e2, .nil, upd_same, .nil, ne_of_none e2 hli⟩, Same.new hli _ _ ea2⟩
    · rintro i v H3 hv ⟨las, R, ea3⟩
      obtain ⟨n, hn, rfl⟩ := nmV_at hv
      refine ⟨rfl, yes ⟨_, rfl, by show 1 ≤ sizeLine; omega, fun t ht => ?_⟩⟩
      have R4 := R.same (Same.new (o := .tup [.str (nm n)]) ht)
      have e4 : (upd H3 t (.tup [.str (nm n)])) t = some (.tup (nmV [n])) := upd_same
      have ea4 := Same.new (o := .tup [.str (nm n)]) ht _ _ ea3
      generalize upd H3 t (.tup [.str (nm n)]) = H4 at R4 e4 ea4
      have lll := R4.wl.len
      rw [List.length_map, List.length_take] at lll
      have al := G.alen
      refine ⟨_, R4.el, by rw [List.length_map]; omega, las ++ [t], ?_, ?_⟩
      · have := R4.pushL e4
        rw [List.take_add_one, hn, List.map_append]
        exact this
      · rw [upd_ne (ne_of_none ea2 hli)]
        exact ea4
    · rintro H3 ⟨las, R, ea3⟩
      rw [nmV_len, List.take_length] at R
      refine ⟨_, _, rfl, ?_⟩
      obtain ⟨F0, hF0⟩ := G11.line_ends (adj := adj) (ns := ascN us) G.an (fun x y z => (G.ns x y z).2) (k := 1956) (ws := (ascN us).map fun n => [n]) (f := []) (fun w hw => by
        obtain ⟨n, hn, rfl⟩ := List.mem_map.mp hw
        exact ⟨by simp, by simp, fun x hx => by rw [List.mem_singleton.mp hx]; exact hn⟩) (Nat.le_trans (wts_ones (by rw [G.alen]; exact few)) (by rw [G.alen]; omega))
      have w0 : wts (ascN us).length ((ascN us).map fun n => [n]) ≤ 1956 := Nat.le_trans (wts_ones (by rw [G.alen]; exact few)) (by rw [G.alen]; omega)
      refine ⟨fun k σ H' => ∃ (ws f : List (List Nat)) (las fas : List Addr) (y3 y4 : Option V), σ = [some (.ref u), some (.ref fo), some (.ref li), y3, y4, none] ∧ RgAt H H' fo li fas las f ws ∧ (∀ w ∈ ws, WayOk (ascN us) w) ∧ wts (ascN us).length ws ≤ k ∧ f.length + k ≤ 1956 ∧ G11.line adj k ws f = some F0, ⟨1956, _, [], las, [], _, _, rfl, R, fun w hw => by
        obtain ⟨n, hn, rfl⟩ := List.mem_map.mp hw
        exact ⟨by simp, by simp, fun x hx => by rw [List.mem_singleton.mp hx]; exact hn⟩, w0, by simp, hF0⟩, ?_⟩
      rintro k σ H4 ⟨ws, f, las, fas, y3, y4, rfl, R4, wok, hw, hk, el⟩
      refine ⟨_, rfl, (by show 0 ≤ sizeLine; omega), fun z hz => ?_⟩
      have R5 := R4.same (Same.new (o := .lst []) hz)
      have ez : (upd H4 z (.lst [])) z = some (.lst []) := upd_same
      generalize upd H4 z (.lst []) = H5 at R5 ez
      refine ⟨li, z, _, rfl, rfl, SqL.of R5.el, SqL.of ez, _, rfl, ?_⟩
      have hl := R5.wl.len
      match ws, las, R5, hl, wok, hw, el with
      | [], [], R5, _, _, _, el =>
        refine iteFd rfl ⟨_, rfl, q H5 fo fas f R5.s R5.ef R5.wf (by omega) ⟨1956, ?_⟩⟩
        have : F0 = f := by cases k <;> (simp [G11.line] at el; exact el.symm)
        rw [← this]
        exact hF0
      | w :: ws, a :: las, R5, hl, wok, hw, el =>
        have hpos : 1 ≤ k := by
          have := G11.wts_len (N := (ascN us).length) (ws := w :: ws)
          rw [List.length_cons] at this
          omega
        obtain ⟨k, rfl⟩ : ∃ k', k = k' + 1 := ⟨k - 1, by omega⟩
        refine iteTd rfl ⟨fun σ' H' => ∃ m', m' < k + 1 ∧ _, fun _ _ h => h, ?_⟩
        obtain ⟨R6, ea6⟩ := R5.pop
        rw [G11.line] at el
        have wk := wok w List.mem_cons_self
        have wsk : ∀ v ∈ ws, WayOk (ascN us) v := fun v hv => wok v (List.mem_cons_of_mem _ hv)
        have wne := wk.1
        have xu : w.getLastD 0 ∈ us := (asc_mem G.l7).mp (wk.2.2 _ (by
          cases w with
          | nil => exact absurd rfl wne
          | cons x r => rw [List.getLastD_cons]; cases r with
            | nil => simp
            | cons y r => rw [List.getLastD_cons]; exact List.mem_cons_of_mem _ (by have := List.getLast_mem (l := y :: r) (by simp); rw [List.getLast_eq_getLastD] at this; simpa [List.getLastD_cons] using this)))
        have hu : w.headD 0 ∈ us := (asc_mem G.l7).mp (wk.2.2 _ (by
          cases w with
          | nil => exact absurd rfl wne
          | cons x r => exact List.mem_cons_self))
        have h7 := G.l7 _ hu
        have w7 : lt7 w := fun x hx => asc_lt us x (wk.2.2 x hx)
        have wl6 : w.length ≤ 6 := Nat.le_trans (G11.nodup_sub wk.2.1 wk.2.2) (by rw [G.alen]; exact few)
        obtain ⟨c1, c2, c3⟩ := G11.look_small wk (G.an (w.getLastD 0)) (fun g hg => (G.ns _ _ hg).2) (f := f) (l := ws) wsk
        refine ⟨_, rfl, .inl ⟨rfl, _, SqL.of R5.el⟩, li, _, 0, 0, _, rfl, rfl, R5.el, by decide, by decide, by simp [seqIndex?], rfl, ?_⟩
        refine ⟨_, rfl, _, rfl, 1, rfl, a, _, -1, _, rfl, rfl, SqT.of ea6, at_last wne, u, _, rfl, (U.same R6.s).get G xu, ad (w.getLastD 0), rfl, ⟨_, (U.same R6.s).t _ xu⟩, for_it (walk_tup (xs := nmV (adj (w.getLastD 0)))) (fun j σ H' => ∃ (f2 l2 : List (List Nat)) (las2 fas2 : List Addr) (y4 : Option V), σ = [some (.ref u), some (.ref fo), some (.ref li), some (.ref a), y4, none] ∧ RgAt H H' fo li fas2 las2 f2 l2 ∧ H' a = some (.tup (nmV w)) ∧ l2.length ≤ ws.length + j ∧ f2.length ≤ f.length + j ∧ G11.look w ((adj (w.getLastD 0)).drop j) (f2, l2) = G11.look w (adj (w.getLastD 0)) (f, ws))
          ⟨f, ws, las, fas, _, rfl, R6, ea6, Nat.le_refl _, Nat.le_refl _, rfl⟩ (fun j σ H' _ h => by obtain ⟨_, _, _, _, _, _, S, _⟩ := h; exact (U.same S.s).t _ xu) ?_ ?_⟩
        · rintro j v σ H7 H8 hj ⟨f2, l2, las2, fas2, y4, rfl, R7, ea7, ll, lf, el2⟩ ⟨rfl, hv⟩
          obtain ⟨g, hg, rfl⟩ := nmV_at hv
          have ga : g ∈ adj (w.getLastD 0) := List.mem_of_getElem? hg
          have g7 := G.l _ g ga
          have aw := G.len (w.getLastD 0)
          have jl := (List.getElem?_eq_some_iff.mp hg).1
          have wl := R7.wl.len
          have wf := R7.wf.len
          rw [drop_at hg, G11.look] at el2
          have big : ws.length ≤ 1956 := by
            have := G11.wts_len (N := (ascN us).length) (ws := w :: ws)
            rw [List.length_cons] at this
            omega
          refine ⟨_, rfl, _, rfl, a, _, 0, _, rfl, rfl, SqT.of ea7, at_first wne, rfl, _, rfl, ?_⟩
          rw [nm_dec g7 h7]
          by_cases h1 : g = w.headD 0
          · rw [if_pos h1] at el2
            refine iteTd (decide_eq_true h1) ⟨_, rfl, .inl ⟨rfl, _, SqL.of R7.ef⟩, _, rfl, fo, _, _, rfl, rfl, R7.ef, by rw [List.length_map]; omega, ?_⟩
            refine ⟨f2 ++ [w], l2, las2, fas2 ++ [a], _, rfl, R7.pushF ea7, ?_, by omega, by simp; omega, el2⟩
            rw [upd_ne (fun z => by have := R7.ef; rw [← z, ea7] at this; cases this)]
            exact ea7
          · rw [if_neg h1] at el2
            refine iteFd (decide_eq_false h1) ?_
            show tIfS _ _ _ _ _ _
            unfold tIfS
            refine and_both (decide (g ∉ w)) (decide (w.headD 0 < g)) (fun R hR => ⟨_, rfl, _, rfl, a, _, rfl, .inr (SqT.of ea7), rfl, flatN _, _, rfl, ?_⟩) (fun R hR => ⟨_, rfl, _, rfl, a, _, 0, _, rfl, rfl, SqT.of ea7, at_first wne, _, _, rfl, rfl, _, rfl, ?_⟩) ?_
            · rw [inN g7 w7]
              have e : decide (g ∉ w) = !decide (g ∈ w) := by simp
              rw [e] at hR
              exact hR
            · rw [nm_lt h7 g7]
              exact hR
            · by_cases h2 : g ∉ w ∧ w.headD 0 < g
              · rw [if_pos h2] at el2
                refine iteTd (by rw [decide_eq_true h2.1, decide_eq_true h2.2]; rfl) ⟨_, rfl, .inl ⟨rfl, _, SqL.of R7.el⟩, _, rfl, _, rfl, (by show 1 ≤ sizeLine; omega), fun t ht => ⟨a, t, nmV w, [.str (nm g)], rfl, rfl, SqT.of (Same.new ht _ _ ea7), SqT.of upd_same, ?_, ?_, (fun z => by cases z), fun _ p hp => ?_⟩⟩
                · cases w with
                  | nil => exact absurd rfl wne
                  | cons _ _ => intro z; cases z
                · rw [nmV_len, List.length_cons, List.length_nil]
                  omega
                · have R8 := (R7.same (Same.new (o := .tup [.str (nm g)]) ht)).same (Same.new (o := .tup (nmV w ++ [.str (nm g)])) hp)
                  have e8 : (upd (upd H8 t (.tup [.str (nm g)])) p (.tup (nmV w ++ [.str (nm g)]))) p = some (.tup (nmV (w ++ [g]))) := by rw [upd_same, nmV_app]; rfl
                  have ea8 := Same.new (o := .tup (nmV w ++ [.str (nm g)])) hp _ _ (Same.new (o := .tup [.str (nm g)]) ht _ _ ea7)
                  generalize upd (upd H8 t (.tup [.str (nm g)])) p (.tup (nmV w ++ [.str (nm g)])) = H9 at R8 e8 ea8
                  refine ⟨li, _, _, rfl, rfl, R8.el, by rw [List.length_map]; omega, ?_⟩
                  refine ⟨f2, l2 ++ [w ++ [g]], las2 ++ [p], fas2, _, rfl, R8.pushL e8, ?_, by simp; omega, by omega, el2⟩
                  rw [upd_ne (fun z => by have := R8.el; rw [← z, ea8] at this; cases this)]
                  exact ea8
              · rw [if_neg h2] at el2
                refine iteFd ?_ ⟨f2, l2, las2, fas2, _, rfl, R7, ea7, by omega, by omega, el2⟩
                by_cases h3 : g ∉ w
                · have h4 : ¬ w.headD 0 < g := fun z => h2 ⟨h3, z⟩
                  rw [decide_eq_false h4, Bool.and_false]
                · rw [decide_eq_false h3, Bool.false_and]
        · rintro σ H7 ⟨f2, l2, las2, fas2, y4, rfl, R7, ea7, ll, lf, el2⟩
          rw [nmV_len, List.drop_length] at el2
          have e1 : (f2, l2) = G11.look w (adj (w.getLastD 0)) (f, ws) := el2
          rw [← e1] at c1 c2 c3 el
          dsimp only at c1 c2 c3 el
          exact ⟨k, Nat.lt_succ_self k, l2, f2, las2, fas2, _, _, rfl, R7, c1, by omega, by omega, el⟩
end
end SA

set_option Elab.async false
set_option linter.all false
set_option maxRecDepth 100000
set_option maxHeartbeats 4000000
namespace SA
open PySem PySem.Spec PyProof.Rows L2
open G11 (ordGo rdy Clw Rc)
def scO2 : Scope := { kind := ScopeKind.function, names := [(".0", NameKind.local), ("name", NameKind.local), ("found", NameKind.cell), ("uses", NameKind.cell)], isGenerator := false, isCoroutine := false }
/-- one turn of [1 for x in l if ..] -/
theorem filt_one {f : Nat → Bool} {H0 H3 : Hp} {D : Addr} {l : List Nat} {i n : Nat} {b : Bool} (hb : b = f n) (hn : l[i]? = some n) (hD : H0 D = none) (s : Same H0 H3) (e : H3 D = some (.lst (((l.take i).filter f).map fun _ => V.int 1))) (sz : l.length < 1000) :
    if b = true then (∃ acc, H3 D = some (.lst acc) ∧ acc.length < sizeLine ∧ Same H0 (upd H3 D (.lst (acc ++ [V.int 1]))) ∧ upd H3 D (.lst (acc ++ [V.int 1])) D = some (.lst (((l.take (i + 1)).filter f).map fun _ => V.int 1)))
    else Same H0 H3 ∧ H3 D = some (.lst (((l.take (i + 1)).filter f).map fun _ => V.int 1)) := by
  subst hb
  rw [filt_snoc f hn]
  cases h : f n with
  | true =>
    refine iteTd rfl ⟨_, e, ?_, Same.upd' s hD, ?_⟩
    · have := List.length_filter_le f (l.take i)
      have h2 := sizeLine_eq
      rw [List.length_map]
      rw [List.length_take] at this
      omega
    · rw [upd_same, List.map_append]
      rfl
  | false =>
    refine iteFd rfl ⟨s, ?_⟩
    rw [e]
    simp
theorem filt_all {l fs : List Nat} : ((l.filter fun o => decide (o ∉ fs)).map fun _ => V.int 1).isEmpty = l.all fun o => decide (o ∈ fs) := by
  rw [Bool.eq_iff_iff, List.isEmpty_iff, List.map_eq_nil_iff, List.filter_eq_nil_iff, List.all_eq_true]
  simp
def spLOrd (K : PySem.W.Frag) : Sp := fun vs H Q _ => ∃ (u : Addr) (us : List Nat) (adj : Nat → List Nat) (ad : Nat → Addr), vs = [.ref u] ∧ UD K H u us adj ad ∧ Gr us adj ∧ (¬ ∃ w, Clw adj w) ∧ ∀ H' p, Same H H' → H' p = some (.tup (nmV (ordGo adj (ascN us) (ascN us).length []))) → Q (.ref p) H'
section
variable {P : Program} {w0 : World} {K : PySem.W.Frag} {mg : Str → Option Value} {base : Heap}
theorem ok_lord {f : Addr} {fd : FuncData} (F : Fun K "_law_order" "_law_order" s__law_order f fd) (B : Bn11 mg) : FnOk P w0 K mg base CX0 1 f fd ["uses"] (spLOrd K) := by
  refine F.ok sc__law_order (fun vs H Q E h => ?_) (fun cdv A outer s H vs Q E hr h => ?_)
  · obtain ⟨u, us, adj, ad, rfl, _⟩ := h
    rfl
  · obtain ⟨u, us, adj, ad, rfl, U, G, no, q⟩ := h
    refine ⟨_, (pss_cons (ps_set (i := 1) sc__law_order.nd rfl (Or.inr rfl) (pe_lst pa_nil))
      (pss_cons (ps_while PassesOwn.never (pt_cmpR op_lt (pe_callB call_len_seq (by rfl) B.len PySem.boot_len (pa_cons (pv 1) pa_nil)) (pe_callB call_lenD (by rfl) B.len PySem.boot_len (pa_cons (pv 0) pa_nil)) (nomark _)) (pss_cons (ps_lock (ps_setLc (i := 2) (own := [("name", 3)]) (g := (gName 3)) (tt := _) (by rfl) sc__law_order.nd rfl rfl (sw_true rfl rfl rfl (by decide +kernel)) (pi_keys (pv 0)) (blkOk_by (N := n__law_order) (sc := defScope s__law_order) (by decide +kernel)) (fun _ _ _ _ _ => (pg_name (i := 3) sc__law_order.nd rfl (Or.inl rfl))) (fun _ _ _ _ _ => (pts_one (PW.pt (pw_and (pt_cmpR (op_notIn_seqK (K := K) rfl) (pv 3) (pv 1) (by rfl)) (pw_and1 (pt_cmpR (op_eq_nilLK (K := K) rfl hr.units) (pe_lc (own := [("goal", 4)]) (g := (gName 4)) (tt := _) (by rfl) sc__law_order.nd (pi_tupK (K := K) rfl (pe_dget (hu_of hr) (pv 0) (pv 3) (fun _ _ => rfl))) (blkOk_by (N := n__law_order) (sc := scO2) (by decide +kernel)) (fun _ _ _ _ _ => (pg_name (i := 4) sc__law_order.nd rfl (Or.inl rfl))) (fun _ _ _ _ _ => (pts_one (pt_cmpR (op_notIn_seqK (K := K) rfl) (pv 4) (pv 1) (by rfl)))) (fun _ _ _ _ _ => pe_int)) (pe_lst pa_nil) (nomark _))))))) (fun _ _ _ _ _ => (pv 3))))
      (pss_one (ps_expr (pe_bm PySem.F.plainAttrs_list PySem.F.slot_list_append PySem.F.type_list_append mt_append (pv 1) (pa_cons (pe_ix ix_list (pe_callB cr_sortedS (by rfl) B.sorted (by decide +kernel) (pa_cons (pv 2) pa_nil)) pe_int (fun _ _ => rfl)) pa_nil))))))
      (pss_one (ps_ret (pe_callTy call_tuple_of (by rfl) B.tuple (by decide +kernel) (pa_cons (pv 1) pa_nil)))))), ?_⟩
    have hs63 := sizeLine_eq
    have few := G.few
    refine ⟨by simp, fun fo hfo => ?_⟩
    have s1 := Same.new (o := .lst []) hfo
    have e1 : (upd H fo (.lst [])) fo = some (.lst (nmV [])) := upd_same
    generalize upd H fo (.lst []) = H1 at s1 e1
    have hcl : ∀ x y, y ∈ adj x → y ∈ ascN us := fun x y z => (G.ns x y z).2
    refine ⟨fun k σ H' => ∃ (f : List Nat) (y2 : Option V), σ = [some (.ref u), some (.ref fo), y2, none, none] ∧ Same H H' ∧ H' fo = some (.lst (nmV f)) ∧ f.length + k = (ascN us).length ∧ G11.OrdOk adj (ascN us) f ∧ ordGo adj (ascN us) k f = ordGo adj (ascN us) (ascN us).length [],
      ⟨(ascN us).length, [], _, rfl, s1, e1, by simp, ⟨List.nodup_nil, fun _ h => absurd h List.not_mem_nil, fun a x b e => by simp at e⟩, rfl⟩, ?_⟩
    rintro k σ H2 ⟨fs, y2, rfl, s2, e2, hk, ok, eq⟩
    have U2 := U.same s2
    have al := G.alen
    have f7 : lt7 fs := fun n hn => asc_lt us n (ok.sub n hn)
    refine ⟨_, rfl, fo, _, rfl, .inl (SqL.of e2), _, rfl, u, _, rfl, U2.e, _, _, rfl, rfl, _, rfl, ?_⟩
    rw [List.length_map, nmV_len]
    match k, hk, eq with
    | 0, hk, eq =>
      refine iteFd (by simp; omega) ⟨_, rfl, fo, nmV fs, rfl, .inl ⟨SqL.of e2, fun l hl => ?_⟩⟩
      refine q _ l (Same.put s2 (Same.gone s2 hl)) ?_
      rw [upd_same, ← eq]
      rfl
    | k + 1, hk, eq =>
      refine iteTd (by simp; omega) ⟨fun σ' H' => ∃ m', m' < k + 1 ∧ _, fun _ _ h => h, ?_⟩
      have huf : u ≠ fo := ne_of_none U.e hfo
      refine ⟨u, _, U2.e, by trivial, fun od => ?_⟩
      have kp : Kp H (upd H2 u (.frz od (.dK (us.map fun n => ((Sum.inr (nm n) : Key), V.ref (ad n)))))) u := fun p o e n => by rw [upd_ne n]; exact s2 _ _ e
      have eu : (upd H2 u (.frz od (.dK (us.map fun n => ((Sum.inr (nm n) : Key), V.ref (ad n)))))) u = some (.frz od (.dK (us.map fun n => ((Sum.inr (nm n) : Key), V.ref (ad n))))) := upd_same
      have ef : (upd H2 u (.frz od (.dK (us.map fun n => ((Sum.inr (nm n) : Key), V.ref (ad n)))))) fo = some (.lst (nmV fs)) := by rw [upd_ne huf.symm]; exact e2
      generalize upd H2 u (.frz od (.dK (us.map fun n => ((Sum.inr (nm n) : Key), V.ref (ad n))))) = HL at kp eu ef
      have kv : ∀ {i : Nat} {ky : Key} {vl : V}, (us.map fun n => ((Sum.inr (nm n) : Key), V.ref (ad n)))[i]? = some (ky, vl) → ∃ n, us[i]? = some n ∧ ky = Sum.inr (nm n) ∧ vl = .ref (ad n) := fun h => by
        rw [List.getElem?_map] at h
        obtain ⟨n, hn, e⟩ := Option.map_eq_some_iff.mp h
        injection e with e4 e5
        exact ⟨n, hn, e4.symm, e5.symm⟩
      refine ⟨_, rfl, u, od, rfl, .inl ⟨_, eu, fun D hD => lc_it walk_keys (fun i H' => Same HL H' ∧ H' D = some (.lst (nmV ((us.take i).filter fun n => decide (n ∉ fs) && (adj n).all fun o => decide (o ∈ fs))))) ⟨Same.new hD, upd_same⟩ (fun i H' _ e => e.1 _ _ eu) ?_ ?_⟩⟩
      · rintro i v H3 H4 hi ⟨s3, e3⟩ ⟨rfl, ky, vl, hky, rfl⟩
        obtain ⟨n, hn, rfl, rfl⟩ := kv hky
        have nu := List.mem_of_getElem? hn
        have n7 := G.l7 n nu
        have ef3 := s3 _ _ ef
        have eu3 := s3 _ _ eu
        refine ⟨rfl, _, rfl, _, rfl, fo, _, rfl, .inl (SqL.of ef3), rfl, flatN _, _, rfl, ?_⟩
        rw [show inV (kV (Sum.inr (nm n))) (nmV fs) = decide (n ∈ fs) from inN n7 f7]
        by_cases hin : n ∈ fs
        · refine iteFd (by simp [hin]) ?_
          exact filt_step (b := false) (f := fun n => decide (n ∉ fs) && (adj n).all fun o => decide (o ∈ fs)) (by simp [hin]) hn hD s3 e3 (by omega)
        · refine iteTd (by simp [hin]) ?_
          have gd : DGet H4 u (.str (nm n)) (some (.ref (ad n))) := by
            have := ud_val (us := us) (ad := ad) G.nd G.l7 n7
            rw [if_pos nu] at this
            exact .inl ⟨_, (Sum.inr (nm n) : Key), .inr ⟨od, eu3⟩, rfl, this.symm⟩
          have tn := (kp.same s3).sqT U.e (U.t n nu)
          refine ⟨_, rfl, _, rfl, u, _, rfl, gd, ad n, rfl, ⟨_, tn⟩, fun D2 hD2 => lc_tup (K := K) (a := ad n) (xs := nmV (adj n)) (fun j H' => Same H4 H' ∧ H' D2 = some (.lst ((((adj n).take j).filter fun o => decide (o ∉ fs)).map fun _ => V.int 1))) ⟨Same.new hD2, upd_same⟩ (fun j H' _ e => SqT.same tn e.1) ?_ ?_⟩
          · rintro j w H6 hw ⟨s6, e6⟩
            obtain ⟨o, ho, rfl⟩ := nmV_at hw
            have o7 := G.l n o (List.mem_of_getElem? ho)
            refine ⟨rfl, _, rfl, _, rfl, fo, _, rfl, .inl (SqL.of (s6 _ _ ef3)), rfl, flatN _, _, rfl, ?_⟩
            rw [inN o7 f7]
            exact filt_one (f := fun o => decide (o ∉ fs)) (by simp) ho hD2 s6 e6 (by have := G.len n; omega)
          · rintro H6 ⟨s6, e6⟩
            rw [nmV_len, List.take_length] at e6
            refine ⟨by simp, fun z hz => ⟨D2, z, _, rfl, rfl, SqL.of ((Same.new hz) _ _ e6), SqL.of upd_same, _, rfl, ?_⟩⟩
            rw [filt_all]
            exact filt_step (f := fun n => decide (n ∉ fs) && (adj n).all fun o => decide (o ∈ fs)) (by simp [hin]) hn hD ((s3.trans s6).trans (Same.new hz)) ((Same.new hz) _ _ (s6 _ _ e3)) (by omega)
      · rintro H3 ⟨s3, e3⟩
        rw [List.length_map, List.take_length] at e3
        refine ⟨s3 _ _ eu, ?_⟩
        have s4 := (kp.same s3).open_ U.e
        have Du : D ≠ u := (ne_of_none eu hD).symm
        have Df : fo ≠ D := ne_of_none ef hD
        have e4 : (upd H3 u (.dK (us.map fun n => ((Sum.inr (nm n) : Key), V.ref (ad n))))) fo = some (.lst (nmV fs)) := by rw [upd_ne huf.symm]; exact s3 _ _ ef
        have d4 : (upd H3 u (.dK (us.map fun n => ((Sum.inr (nm n) : Key), V.ref (ad n))))) D = some (.lst (nmV (us.filter fun n => decide (n ∉ fs) && (adj n).all fun o => decide (o ∈ fs)))) := by rw [upd_ne Du]; exact e3
        generalize upd H3 u (.dK (us.map fun n => ((Sum.inr (nm n) : Key), V.ref (ad n)))) = H4 at s4 e4 d4
        have er : ascN (us.filter fun n => decide (n ∉ fs) && (adj n).all fun o => decide (o ∈ fs)) = rdy adj (ascN us) fs := by
          refine asc_eq (asc_inc _) ((asc_inc us).filter _) fun n => ?_
          have h1 : lt7 (us.filter fun n => decide (n ∉ fs) && (adj n).all fun o => decide (o ∈ fs)) := fun x hx => G.l7 x (List.mem_filter.mp hx).1
          rw [asc_mem h1]
          unfold G11.rdy
          rw [List.mem_filter, List.mem_filter, asc_mem G.l7]
        have hlt : ∃ n ∈ ascN us, n ∉ fs := by
          apply Classical.byContradiction
          intro z
          have sub : ∀ n ∈ ascN us, n ∈ fs := fun n hn => Classical.byContradiction fun q => z ⟨n, hn, q⟩
          have := G11.nodup_sub (G11.pw_nodup (asc_inc us)) sub
          omega
        have fnd := G.nd.filter (p := fun n => decide (n ∉ fs) && (adj n).all fun o => decide (o ∈ fs))
        have fl7 : lt7 (us.filter fun n => decide (n ∉ fs) && (adj n).all fun o => decide (o ∈ fs)) := fun x hx => G.l7 x (List.mem_filter.mp hx).1
        have fll := List.length_filter_le (fun n => decide (n ∉ fs) && (adj n).all fun o => decide (o ∈ fs)) us
        have goes := G11.ord_goes hcl no hlt
        generalize us.filter (fun n => decide (n ∉ fs) && (adj n).all fun o => decide (o ∈ fs)) = fr at d4 er fnd fl7 fll
        match hR : rdy adj (ascN us) fs, goes with
        | x :: t, _ =>
          have hx : x ∈ rdy adj (ascN us) fs := by rw [hR]; exact List.mem_cons_self
          rw [hR] at er
          have flen := G11.nodup_sub ok.nd ok.sub
          refine ⟨_, rfl, .inl ⟨rfl, _, SqL.of e4⟩, _, rfl, D, fr.map nm, rfl, by rw [← nmV_str]; exact SqL.of d4, by rw [List.length_map]; omega, fun ys p hpm hso hp => ?_⟩
          obtain rfl := sort_nm fnd fl7 hpm hso
          rw [er]
          have s5 := Same.new (o := .lst (((x :: t).map nm).map V.str)) hp
          refine ⟨p, _, 0, _, rfl, rfl, SqL.of upd_same, atI_nat (j := 0) rfl, fo, _, _, rfl, rfl, s5 _ _ e4, by rw [nmV_len]; omega, ?_⟩
          refine ⟨k, Nat.lt_succ_self k, fs ++ [x], _, rfl, Same.put (s4.trans s5) hfo, by rw [upd_same, nmV_app]; rfl, by rw [List.length_append, List.length_cons, List.length_nil]; omega, ok.more hx, ?_⟩
          rw [← eq, ordGo_cons hR]
end
end SA

set_option Elab.async false
set_option linter.all false
set_option maxRecDepth 100000
set_option maxHeartbeats 4000000
namespace SA
open PySem PySem.Spec PyProof.Rows L2
open G11 (Rc stepL goL)
theorem call_lenDR {X : Cx} : CallR X (.builtin "len") (fun xs H Q => ∃ a kvs, xs = [V.ref a] ∧ Rd H a (.dK kvs) ∧ Q (.int kvs.length) H) := by
  intro pins s σ H xs us Q I r h
  obtain ⟨a, kvs, rfl, ha, q⟩ := h
  obtain ⟨u, rfl, ru⟩ := vals1 r
  cases ru
  exact d_len I ha fun t s' I' => ⟨.int kvs.length, H, I', ⟨t, rfl⟩, q⟩
def scO3 : Scope := { kind := ScopeKind.function, names := [(".0", NameKind.local), ("one", NameKind.local), ("met", NameKind.cell), ("uses", NameKind.cell)], isGenerator := false, isCoroutine := false }
theorem filt_any {l fs : List Nat} : (!((l.filter fun o => decide (o ∈ fs)).map fun _ => V.int 1).isEmpty) = l.any fun o => decide (o ∈ fs) := by
  rw [Bool.eq_iff_iff, Bool.not_eq_true', Bool.eq_false_iff, ne_eq, List.isEmpty_iff, List.map_eq_nil_iff, List.filter_eq_nil_iff, List.any_eq_true]
  simp
/-- a dict of the units while it is walked -/
structure UDz (K : PySem.W.Frag) (H : Hp) (u : Addr) (od : Obj) (us : List Nat) (adj : Nat → List Nat) (ad : Nat → Addr) : Prop where
  e : H u = some (.frz od (.dK (us.map fun n => ((Sum.inr (nm n) : Key), V.ref (ad n)))))
  t : ∀ n ∈ us, SqT K H (ad n) (nmV (adj n))
theorem UDz.same {K : PySem.W.Frag} {H H' : Hp} {u : Addr} {od : Obj} {us : List Nat} {adj : Nat → List Nat} {ad : Nat → Addr} (U : UDz K H u od us adj ad) (s : Same H H') : UDz K H' u od us adj ad := ⟨s _ _ U.e, fun n hn => SqT.same (U.t n hn) s⟩
theorem UDz.get {K : PySem.W.Frag} {H : Hp} {u : Addr} {od : Obj} {us : List Nat} {adj : Nat → List Nat} {ad : Nat → Addr} (U : UDz K H u od us adj ad) (G : Gr us adj) {n : Nat} (nu : n ∈ us) : DGet H u (.str (nm n)) (some (.ref (ad n))) := by
  have := ud_val (us := us) (ad := ad) G.nd G.l7 (G.l7 n nu)
  rw [if_pos nu] at this
  exact .inl ⟨_, (Sum.inr (nm n) : Key), .inr ⟨od, U.e⟩, rfl, this.symm⟩
theorem ud_kv {us : List Nat} {ad : Nat → Addr} {i : Nat} {ky : Key} {vl : V} (h : (us.map fun n => ((Sum.inr (nm n) : Key), V.ref (ad n)))[i]? = some (ky, vl)) : ∃ n, us[i]? = some n ∧ ky = Sum.inr (nm n) ∧ vl = .ref (ad n) := by
  rw [List.getElem?_map] at h
  obtain ⟨n, hn, e⟩ := Option.map_eq_some_iff.mp h
  injection e with e4 e5
  exact ⟨n, hn, e4.symm, e5.symm⟩
theorem goL_succ {adj : Nat → List Nat} {us : List Nat} : ∀ {i : Nat} {met : List Nat}, goL adj us (i + 1) met = stepL adj us (goL adj us i met)
  | 0, _ => rfl
  | i + 1, met => by
    rw [goL, goL_succ (i := i)]
    rfl
theorem goL_sub {adj : Nat → List Nat} {us : List Nat} {n0 : Nat} (nu : us.Nodup) (h0 : n0 ∈ us) : ∀ i, (goL adj us i [n0]).Nodup ∧ (∀ x ∈ goL adj us i [n0], Rc adj us n0 x) ∧ (∀ x ∈ goL adj us i [n0], x ∈ us)
  | 0 => ⟨by simp [G11.goL], fun x h => by rw [List.mem_singleton.mp h]; exact .here, fun x h => by rw [List.mem_singleton.mp h]; exact h0⟩
  | i + 1 => by
    obtain ⟨a, b, c⟩ := goL_sub nu h0 i (adj := adj)
    rw [goL_succ]
    exact G11.stepL_ok nu a b c
theorem cutV_one {xs : List V} {x : V} : cutV (x :: xs) (some 1) none = xs := by
  unfold cutV HT.sIx
  simp
def spLCome (K : PySem.W.Frag) : Sp := fun vs H Q _ => ∃ (u : Addr) (od : Obj) (us : List Nat) (adj : Nat → List Nat) (ad : Nat → Addr) (n0 : Nat), vs = [.ref u, .str (nm n0)] ∧ UDz K H u od us adj ad ∧ Gr us adj ∧ n0 ∈ us ∧ ∀ H' p w, Same H H' → H' p = some (.tup (nmV w)) → w.Pairwise (· < ·) → (∀ x, x ∈ w ↔ x ≠ n0 ∧ Rc adj us n0 x) → Q (.ref p) H'
section
variable {P : Program} {w0 : World} {K : PySem.W.Frag} {mg : Str → Option Value} {base : Heap}
theorem ok_lcome {f : Addr} {fd : FuncData} (F : Fun K "_law_come" "_law_come" s__law_come f fd) (B : Bn11 mg) : FnOk P w0 K mg base CX0 1 f fd ["uses", "name"] (spLCome K) := by
  refine F.ok sc__law_come (fun vs H Q E h => ?_) (fun cdv A outer s H vs Q E hr h => ?_)
  · obtain ⟨u, od, us, adj, ad, n0, rfl, _⟩ := h
    rfl
  · obtain ⟨u, od, us, adj, ad, n0, rfl, U, G, hn0, q⟩ := h
    refine ⟨_, (pss_cons (ps_set (i := 2) sc__law_come.nd rfl (Or.inr rfl) (pe_lst (pa_cons (pv 1) pa_nil)))
      (pss_cons (ps_for PassesOwn.never rfl (pi_range1 (by rfl) B.range (pa_cons (pe_callB call_lenDR (by rfl) B.len PySem.boot_len (pa_cons (pv 0) pa_nil)) pa_nil)) (pg_name (i := 3) sc__law_come.nd rfl (Or.inl rfl)) (pss_one (ps_set (i := 2) sc__law_come.nd rfl (Or.inr rfl) (pe_op op_cat (pv 2) (pe_lc (own := [("one", 4)]) (g := (gName 4)) (tt := _) (by rfl) sc__law_come.nd (pi_keys (pv 0)) (blkOk_by (N := n__law_come) (sc := defScope s__law_come) (by decide +kernel)) (fun _ _ _ _ _ => (pg_name (i := 4) sc__law_come.nd rfl (Or.inl rfl))) (fun _ _ _ _ _ => (pts_one (PW.pt (pw_and (pt_cmpR (op_notIn_seqK (K := K) rfl) (pv 4) (pv 2) (by rfl)) (pw_and1 (pt_cmpR (op_ne_nilLK (K := K) rfl hr.units) (pe_lc (own := [("goal", 5)]) (g := (gName 5)) (tt := _) (by rfl) sc__law_come.nd (pi_tupK (K := K) rfl (pe_dget (hu_of hr) (pv 0) (pv 4) (fun _ _ => rfl))) (blkOk_by (N := n__law_come) (sc := scO3) (by decide +kernel)) (fun _ _ _ _ _ => (pg_name (i := 5) sc__law_come.nd rfl (Or.inl rfl))) (fun _ _ _ _ _ => (pts_one (pt_cmpR (op_in_seqK (K := K) rfl) (pv 5) (pv 2) (by rfl)))) (fun _ _ _ _ _ => pe_int)) (pe_lst pa_nil) (nomark _))))))) (fun _ _ _ _ _ => (pv 4)))))))
      (pss_one (ps_ret (pe_callTy call_tuple_of (by rfl) B.tuple (by decide +kernel) (pa_cons (pe_callB cr_sortedS (by rfl) B.sorted (by decide +kernel) (pa_cons (pe_slice sl_list (pv 2) (po_some pe_int) po_none) pa_nil)) pa_nil)))))), ?_⟩
    have hs63 := sizeLine_eq
    have few := G.few
    refine ⟨_, rfl, by show 1 ≤ sizeLine; omega, fun m hm => ?_⟩
    have s1 := Same.new (o := .lst [.str (nm n0)]) hm
    have e1 : (upd H m (.lst [.str (nm n0)])) m = some (.lst (nmV [n0])) := upd_same
    generalize upd H m (.lst [.str (nm n0)]) = H1 at s1 e1
    have U1 := U.same s1
    refine ⟨_, rfl, u, _, rfl, .inr ⟨_, U1.e⟩, _, rfl, by rw [List.length_map]; omega, by rw [List.length_map]; exact Int.lt_of_le_of_lt (show (us.length : Int) ≤ 6 by omega) (by decide), ?_⟩
    rw [List.length_map, Int.toNat_natCast]
    refine for_range (lo := 0) (n := us.length) (fun i σ H' => ∃ (mi : Addr) (y3 : Option V), σ = [some (.ref u), some (.str (nm n0)), some (.ref mi), y3, none, none] ∧ Same H H' ∧ H' mi = some (.lst (nmV (goL adj us i [n0])))) ⟨m, _, rfl, s1, e1⟩ ?_ ?_
    · rintro i σ H2 hi ⟨mi, y3, rfl, s2, e2⟩
      obtain ⟨nd, _, sub⟩ := goL_sub (adj := adj) G.nd hn0 i
      have m7 : lt7 (goL adj us i [n0]) := fun x h => G.l7 x (sub x h)
      have ml := G11.nodup_sub nd sub
      rw [goL_succ]
      unfold G11.stepL
      generalize goL adj us i [n0] = met at e2 nd sub m7 ml
      have U2 := U.same s2
      refine ⟨_, rfl, _, rfl, u, od, rfl, .inl ⟨_, U2.e, fun D hD => lc_it walk_keys (fun j H' => Same H2 H' ∧ H' D = some (.lst (nmV ((us.take j).filter fun v => decide (v ∉ met) && (adj v).any fun o => decide (o ∈ met))))) ⟨Same.new hD, upd_same⟩ (fun j H' _ e => e.1 _ _ U2.e) ?_ ?_⟩⟩
      · rintro j v H3 H4 hj ⟨s3, e3⟩ ⟨rfl, ky, vl, hky, rfl⟩
        obtain ⟨n, hn, rfl, rfl⟩ := ud_kv hky
        have nu := List.mem_of_getElem? hn
        have n7 := G.l7 n nu
        have em3 := s3 _ _ e2
        have U3 := U2.same s3
        refine ⟨rfl, _, rfl, _, rfl, mi, _, rfl, .inl (SqL.of em3), rfl, flatN _, _, rfl, ?_⟩
        rw [show inV (kV (Sum.inr (nm n))) (nmV met) = decide (n ∈ met) from inN n7 m7]
        by_cases hin : n ∈ met
        · refine iteFd (by simp [hin]) ?_
          exact filt_step (b := false) (f := fun v => decide (v ∉ met) && (adj v).any fun o => decide (o ∈ met)) (by simp [hin]) hn hD s3 e3 (by omega)
        · refine iteTd (by simp [hin]) ?_
          refine ⟨_, rfl, _, rfl, u, _, rfl, U3.get G nu, ad n, rfl, ⟨_, U3.t n nu⟩, fun D2 hD2 => lc_tup (K := K) (a := ad n) (xs := nmV (adj n)) (fun j H' => Same H4 H' ∧ H' D2 = some (.lst ((((adj n).take j).filter fun o => decide (o ∈ met)).map fun _ => V.int 1))) ⟨Same.new hD2, upd_same⟩ (fun j H' _ e => SqT.same (U3.t n nu) e.1) ?_ ?_⟩
          · rintro j2 w H6 hw ⟨s6, e6⟩
            obtain ⟨o, ho, rfl⟩ := nmV_at hw
            have o7 := G.l n o (List.mem_of_getElem? ho)
            refine ⟨rfl, _, rfl, _, rfl, mi, _, rfl, .inl (SqL.of (s6 _ _ em3)), rfl, flatN _, _, rfl, ?_⟩
            rw [inN o7 m7]
            exact filt_one (f := fun o => decide (o ∈ met)) (by simp) ho hD2 s6 e6 (by have := G.len n; omega)
          · rintro H6 ⟨s6, e6⟩
            rw [nmV_len, List.take_length] at e6
            refine ⟨by simp, fun z hz => ⟨D2, z, _, rfl, rfl, SqL.of ((Same.new hz) _ _ e6), SqL.of upd_same, _, rfl, ?_⟩⟩
            rw [filt_any]
            exact filt_step (f := fun v => decide (v ∉ met) && (adj v).any fun o => decide (o ∈ met)) (by simp [hin]) hn hD ((s3.trans s6).trans (Same.new hz)) ((Same.new hz) _ _ (s6 _ _ e3)) (by omega)
      · rintro H3 ⟨s3, e3⟩
        rw [List.length_map, List.take_length] at e3
        have em3 := s3 _ _ e2
        have fl := List.length_filter_le (fun v => decide (v ∉ met) && (adj v).any fun o => decide (o ∈ met)) us
        refine ⟨mi, D, _, _, rfl, rfl, em3, e3, by rw [nmV_len, nmV_len]; omega, fun p hp => ⟨p, _, rfl, (s2.trans s3).trans (Same.new hp), ?_⟩⟩
        rw [upd_same, nmV_app]
    · rintro σ H2 ⟨mi, y3, rfl, s2, e2⟩
      obtain ⟨nd, ⟨t, et⟩, rc⟩ := G11.goL_ok (adj := adj) (us := us) (name := n0) G.nd (k := us.length) (met := [n0]) (by simp) (by simp) (fun x h => by rw [List.mem_singleton.mp h]; exact .here) (fun x h => by rw [List.mem_singleton.mp h]; exact hn0) (by simp)
      obtain ⟨_, _, sub⟩ := goL_sub (adj := adj) G.nd hn0 us.length
      rw [et] at e2 nd rc sub
      have tnd : t.Nodup := (List.nodup_cons.mp nd).2
      have tn0 : n0 ∉ t := (List.nodup_cons.mp nd).1
      have tsub : ∀ x ∈ t, x ∈ us := fun x h => sub x (List.mem_cons_of_mem _ h)
      have t7 : lt7 t := fun x h => G.l7 x (tsub x h)
      have tl := G11.nodup_sub tnd tsub
      refine ⟨_, rfl, ?_⟩

      refine ⟨1, rfl, ?_⟩
      show tNoPart _ _ _
      unfold tNoPart
      refine ⟨mi, _, rfl, SqL.of e2, fun c hc => ?_⟩
      have s3 := Same.new (o := .lst (cutV (nmV ([n0] ++ t)) (some 1) none)) hc
      have e3 : (upd H2 c (.lst (cutV (nmV ([n0] ++ t)) (some 1) none))) c = some (.lst ((t.map nm).map V.str)) := by
        rw [upd_same, ← nmV_str]
        exact congrArg (fun z => some (HO.lst z)) cutV_one
      refine ⟨c, t.map nm, rfl, SqL.of e3, by rw [List.length_map]; omega, fun ys p hpm hso hp => ?_⟩
      obtain rfl := sort_nm tnd t7 hpm hso
      rw [← nmV_str]
      refine ⟨p, _, rfl, .inl ⟨SqL.of upd_same, fun l hl => ?_⟩⟩
      refine q _ l (ascN t) (((s2.trans s3).trans (Same.new hp)).trans (Same.new hl)) upd_same (asc_inc t) fun x => ?_
      rw [asc_mem t7, ← rc x]
      refine ⟨fun h => ⟨fun z => tn0 (z ▸ h), List.mem_cons_of_mem _ h⟩, fun ⟨h1, h2⟩ => ?_⟩
      exact (List.mem_cons.mp h2).resolve_left h1
end
end SA

set_option Elab.async false
set_option linter.all false
set_option maxRecDepth 100000
set_option maxHeartbeats 4000000
namespace SA
open PySem PySem.Spec PyProof.Rows L2
theorem erase_perm {α : Type} : ∀ {l : List α} {j : Nat} (h : j < l.length), ([l[j]] ++ l.eraseIdx j).Perm l
  | a :: l, 0, _ => .refl _
  | a :: l, j + 1, h => by
    have ih := erase_perm (l := l) (j := j) (by simpa using h)
    simp only [List.getElem_cons_succ, List.eraseIdx_cons_succ]
    exact (List.Perm.swap _ _ _).trans (.cons a ih)
theorem seqIx {i : Int} {n k : Nat} (h : i = (k : Int)) (hk : k < n) : seqIndex? i n = some k := by
  subst h
  unfold seqIndex?
  have h1 : ¬ ((k : Int) < 0) := by omega
  simp only [h1, if_false]
  have h2 : (0 : Int) ≤ k := by omega
  have h3 : (k : Int) < n := by omega
  simp [h2, h3]
def spShufV : Sp := fun vs H Q _ => ∃ (d w c a : Addr) (n : Nat) (xs : List V), vs = [.ref d, .ref a] ∧ DrawAt H d w c n ∧ H a = some (.lst xs) ∧ xs.length ≤ 100 ∧ n < 2 ^ 39 ∧
  ∀ (p : Addr) (ys : List V) (H' : Hp), ys.Perm xs → DrawAt H' d w c (n + xs.length) → But2 d w H H' → H p = none → H' p = some (.lst ys) → Q (.ref p) H'
section
variable {P : Program} {w0 : World} {K : PySem.W.Frag} {mg : Str → Option Value} {base : Heap} 
theorem ok_shufV {f : Addr} {fd : FuncData} (F : Fun K "_law_shuffled" "_law_shuffled" s__law_shuffled f fd) (B : Bn11 mg) (c__law_take : Dq P w0 K mg base CX0 2 "_law_take" ["draw", "many"] spTake) :
    FnOk P w0 K mg base CX0 3 f fd ["draw", "some"] spShufV := by
  refine F.ok sc__law_shuffled (fun vs H Q E h => ?_) (fun cdv A outer s H vs Q E hr h => ?_)
  · obtain ⟨d, w, c, a, n, xs, rfl, _⟩ := h
    rfl
  · obtain ⟨d, w, c, a, n, xs, rfl, hD, ea, hl, hn, k⟩ := h
    refine ⟨_, (pss_cons (ps_par (i := 2) (j := 3) rfl sc__law_shuffled.nd rfl rfl (by decide) rfl rfl (pa_cons (pe_callTy call_list_of (by rfl) B.list (by decide +kernel) (pa_cons (pv 1) pa_nil)) (pa_cons (pe_lst pa_nil) pa_nil)) rfl)
      (pss_cons (ps_while PassesOwn.never (pt_cmpR (op_ne_nilL hr.units) (pv 2) (pe_lst pa_nil) (nomark _)) (pss_one (ps_expr (pe_bm PySem.F.plainAttrs_list PySem.F.slot_list_append PySem.F.type_list_append mt_append (pv 3) (pa_cons (pe_bm PySem.F.plainAttrs_list PySem.F.slot_list_pop PySem.F.type_list_pop mt_popAt (pv 2) (pa_cons (pe_q c__law_take hr (by decide) (by rfl) (pa_cons (pv 0) (pa_cons (pe_callB call_len_seq (by rfl) B.len PySem.boot_len (pa_cons (pv 2) pa_nil)) pa_nil))) pa_nil)) pa_nil)))))
      (pss_one (ps_ret (pv 3))))), ?_⟩
    refine ⟨_, rfl, a, _, rfl, .inl (SqL.of ea), fun l hl0 => ⟨(by show 0 ≤ sizeLine; decide), fun p hp => ⟨_, _, rfl, ?_⟩⟩⟩
    have kl := hD.knowD hl0
    have D1 := hD.new (o := .lst xs) hl0
    have kp := D1.knowD hp
    have D2 := D1.new (o := .lst []) hp
    have s2 : Same H (upd (upd H l (.lst xs)) p (.lst [])) := fun b o e => (Same.new hp) b o ((Same.new hl0) b o e)
    have lp : l ≠ p := ne_of_none (upd_same (H := H) (o := .lst xs)) hp
    have el : (upd (upd H l (.lst xs)) p (.lst [])) l = some (.lst xs) := (Same.new hp) _ _ upd_same
    have hp0 : H p = none := (Same.new hl0).free hp
    refine ⟨fun m σ H' => ∃ (ys zs : List V), σ = [some (.ref d), some (.ref a), some (.ref l), some (.ref p)] ∧ ys.length = m ∧ (zs ++ ys).Perm xs ∧ DrawAt H' d w c (n + zs.length) ∧ But2 d w H H' ∧ H' l = some (.lst ys) ∧ H' p = some (.lst zs),
      ⟨_, xs, [], rfl, rfl, .refl _, D2, fun b o e _ _ => s2 b o e, el, upd_same⟩, ?_⟩
    rintro m σ H3 ⟨ys, zs, rfl, lm, pm, D3, b3, e1, e2⟩
    have lall := pm.length_eq
    rw [List.length_append] at lall
    refine ⟨_, rfl, (by show 0 ≤ sizeLine; decide), fun q hq => ?_⟩
    have sq : Same H3 (upd H3 q (.lst [])) := Same.new hq
    have D4 := D3.new (o := .lst []) hq
    have b4 : But2 d w H (upd H3 q (.lst [])) := b3.new hq
    have e3 := sq _ _ e1
    have e4 := sq _ _ e2
    have eq0 : (upd H3 q (.lst [])) q = some (.lst []) := upd_same
    generalize upd H3 q (.lst []) = H4 at sq D4 b4 e3 e4 eq0
    refine ⟨l, q, ys, rfl, rfl, SqL.of e3, SqL.of eq0, _, rfl, ?_⟩
    cases ys with
    | nil =>
      refine iteF ⟨_, rfl, ?_⟩
      rw [List.append_nil] at pm
      exact k p zs H4 pm (D4.mono (by simp at lall; omega)) b4 hp0 e4
    | cons y ys =>
      refine iteT ⟨fun σ H' => ∃ (ys' zs' : List V), σ = [some (.ref d), some (.ref a), some (.ref l), some (.ref p)] ∧ ys'.length < m ∧ (zs' ++ ys').Perm xs ∧ DrawAt H' d w c (n + zs'.length) ∧ But2 d w H H' ∧ H' l = some (.lst ys') ∧ H' p = some (.lst zs'), ?_, ?_⟩
      · rintro σ H' ⟨ys', zs', rfl, lt, r⟩
        exact ⟨_, lt, ys', zs', rfl, rfl, r⟩
      · simp only [List.length_cons] at lm lall
        refine ⟨_, rfl, .inl ⟨rfl, _, SqL.of e4⟩, _, rfl, .inl ⟨rfl, _, SqL.of e3⟩, _, rfl, _, rfl, l, (y :: ys), rfl, .inl (SqL.of e3), d, w, c, n + zs.length, (y :: ys).length, rfl, D4, by omega, by simp only [List.length_cons]; omega, by simp only [List.length_cons]; omega, fun i H5 i0 i1 D5 b5 => ?_⟩
        obtain ⟨j, rfl⟩ := Int.eq_ofNat_of_zero_le i0
        have hj : j < (y :: ys).length := by omega
        have e5 := b5 _ _ e3 kl.1 kl.2.1
        have e6 := b5 _ _ e4 kp.1 kp.2.1
        refine ⟨l, (y :: ys), (j : Int), j, (y :: ys)[j], rfl, rfl, e5, by omega, ?_, seqIx rfl hj, List.getElem?_eq_getElem hj, p, zs, _, rfl, rfl, ?_, ?_, ?_⟩
        · have h63 : (1000 : Int) < 2 ^ 63 := by decide
          simp only [List.length_cons] at hj
          omega
        · rw [upd_ne lp.symm]
          exact e6
        · have := sizeLine_eq
          omega
        · have D6 : DrawAt (upd H5 l (.lst ((y :: ys).eraseIdx j))) d w c (n + zs.length + 1) := D5.upd kl.1 kl.2.1 kl.2.2
          have hlH : H l = none := hl0
          have b6 : But2 d w H (upd H5 l (.lst ((y :: ys).eraseIdx j))) := (b4.trans b5).mut hlH
          refine ⟨(y :: ys).eraseIdx j, zs ++ [(y :: ys)[j]], rfl, ?_, ?_, ?_, ?_, ?_, ?_⟩
          · rw [List.length_eraseIdx_of_lt hj]
            simp only [List.length_cons]
            omega
          · refine List.Perm.trans ?_ pm
            rw [List.append_assoc]
            refine List.Perm.append_left _ ?_
            exact erase_perm hj
          · rw [List.length_append]
            exact D6.upd kp.1 kp.2.1 kp.2.2
          · exact b6.mut hp0
          · rw [upd_ne lp, upd_same]
          · rw [upd_same]
/-- a drawn unit: its name, what it uses, where that lies -/
abbrev Row : Type := Nat × List Nat × Addr
inductive RowsAt (H : Hp) : List Addr → List Row → Prop
  | nil : RowsAt H [] []
  | cons {p : Addr} {r : Row} {ps : List Addr} {rs : List Row} : H p = some (.tup [.str (nm r.1), .ref r.2.2]) → H r.2.2 = some (.tup (nmV r.2.1)) → RowsAt H ps rs → RowsAt H (p :: ps) (r :: rs)
/-- all tuples are kept -/
def KpT (H H' : Hp) : Prop := ∀ b xs, H b = some (.tup xs) → H' b = some (.tup xs)
theorem Same.kpT {H H' : Hp} (s : Same H H') : KpT H H' := fun b xs e => s b _ e
theorem But2.kpT {H H' : Hp} {d w c : Addr} {n : Nat} (D : DrawAt H d w c n) (b : But2 d w H H') : KpT H H' := fun x xs e => by
  obtain ⟨⟨_, _, _, _, e1⟩, ⟨_, e2⟩, _⟩ := D
  exact b x _ e (fun z => by rw [z, e1] at e; cases e) (fun z => by rw [z, e2] at e; cases e)
theorem KpT.trans {H H1 H2 : Hp} (a : KpT H H1) (b : KpT H1 H2) : KpT H H2 := fun x xs e => b x xs (a x xs e)
theorem KpT.put {H : Hp} {x : Addr} {o o' : HO} (e0 : H x = some o) (ho : ∀ xs, o ≠ .tup xs) : KpT H (upd H x o') := fun b xs e => by
  rw [upd_ne (fun z => by rw [z, e0] at e; exact ho _ (Option.some.inj e))]
  exact e
theorem RowsAt.kp {H H' : Hp} (s : KpT H H') : ∀ {ps : List Addr} {rs : List Row}, RowsAt H ps rs → RowsAt H' ps rs
  | _, _, .nil => .nil
  | _, _, .cons e b t => .cons (s _ _ e) (s _ _ b) (t.kp s)
theorem RowsAt.snoc {H : Hp} {p : Addr} {r : Row} (e : H p = some (.tup [.str (nm r.1), .ref r.2.2])) (b : H r.2.2 = some (.tup (nmV r.2.1))) : ∀ {ps : List Addr} {rs : List Row}, RowsAt H ps rs → RowsAt H (ps ++ [p]) (rs ++ [r])
  | _, _, .nil => .cons e b .nil
  | _, _, .cons e' b' t => .cons e' b' (t.snoc e b)
theorem RowsAt.len {H : Hp} : ∀ {ps : List Addr} {rs : List Row}, RowsAt H ps rs → ps.length = rs.length
  | _, _, .nil => rfl
  | _, _, .cons _ _ t => by rw [List.length_cons, List.length_cons, t.len]
theorem RowsAt.at_ {H : Hp} : ∀ {ps : List Addr} {rs : List Row} {i : Nat} {p : Addr}, RowsAt H ps rs → ps[i]? = some p → ∃ r, rs[i]? = some r ∧ H p = some (.tup [.str (nm r.1), .ref r.2.2]) ∧ H r.2.2 = some (.tup (nmV r.2.1))
  | _, _, i, _, .nil, e => by simp at e
  | _, _, 0, _, .cons h b _, e => by
    cases e
    exact ⟨_, rfl, h, b⟩
  | _, _, i + 1, _, .cons _ _ t, e => t.at_ (i := i) e
/-- the trees of drawn units -/
structure TreeAt (H : Hp) (t : Addr) (r : Row) : Prop where
  o : ∃ c e, H t = some (.tup [.str "unit", .str (nm r.1), .ref r.2.2, .ref c, .ref e]) ∧ H c = some (.tup []) ∧ H e = some (.tup [])
  b : H r.2.2 = some (.tup (nmV r.2.1))
theorem TreeAt.kp {H H' : Hp} {t : Addr} {r : Row} (h : TreeAt H t r) (s : KpT H H') : TreeAt H' t r := by
  obtain ⟨⟨c, e, h1, h2, h3⟩, h4⟩ := h
  exact ⟨⟨c, e, s _ _ h1, s _ _ h2, s _ _ h3⟩, s _ _ h4⟩
inductive TreesAt (H : Hp) : List Addr → List Row → Prop
  | nil : TreesAt H [] []
  | cons {p : Addr} {r : Row} {ps : List Addr} {rs : List Row} : TreeAt H p r → TreesAt H ps rs → TreesAt H (p :: ps) (r :: rs)
theorem TreesAt.kp {H H' : Hp} (s : KpT H H') : ∀ {ps : List Addr} {rs : List Row}, TreesAt H ps rs → TreesAt H' ps rs
  | _, _, .nil => .nil
  | _, _, .cons e t => .cons (e.kp s) (t.kp s)
theorem TreesAt.snoc {H : Hp} {p : Addr} {r : Row} (e : TreeAt H p r) : ∀ {ps : List Addr} {rs : List Row}, TreesAt H ps rs → TreesAt H (ps ++ [p]) (rs ++ [r])
  | _, _, .nil => .cons e .nil
  | _, _, .cons e' t => .cons e' (t.snoc e)
theorem TreesAt.len {H : Hp} : ∀ {ps : List Addr} {rs : List Row}, TreesAt H ps rs → ps.length = rs.length
  | _, _, .nil => rfl
  | _, _, .cons _ t => by rw [List.length_cons, List.length_cons, t.len]
theorem TreesAt.at_ {H : Hp} : ∀ {ps : List Addr} {rs : List Row} {i : Nat} {r : Row}, TreesAt H ps rs → rs[i]? = some r → ∃ p, ps[i]? = some p ∧ TreeAt H p r
  | _, _, i, _, .nil, e => by simp at e
  | _, _, 0, _, .cons h _, e => by
    cases e
    exact ⟨_, rfl, h⟩
  | _, _, i + 1, _, .cons _ t, e => t.at_ (i := i) e
def spTrees (K : PySem.W.Frag) : Sp := fun vs H Q _ => ∃ (a : Addr) (pas : List Addr) (rows : List Row), vs = [.ref a] ∧ H a = some (.lst (pas.map V.ref)) ∧ RowsAt H pas rows ∧ rows.length ≤ 100 ∧ ∀ H' p ts, Same H H' → H p = none → H' p = some (.lst (ts.map V.ref)) → TreesAt H' ts rows → Q (.ref p) H'
theorem ok_trees {f : Addr} {fd : FuncData} (F : Fun K "_law_trees" "_law_trees" s__law_trees f fd) (B : Bn11 mg) : FnOk P w0 K mg base CX0 1 f fd ["pairs"] (spTrees K) := by
  refine F.ok sc__law_trees (fun vs H Q E h => ?_) (fun cdv A outer s H vs Q E hr h => ?_)
  · obtain ⟨a, pas, rows, rfl, _⟩ := h
    rfl
  · obtain ⟨a, pas, rows, rfl, ea, R, hl, q⟩ := h
    refine ⟨_, (pss_one (ps_ret (pe_lc (own := [("name", 1), ("uses", 2)]) (g := (gTup K 2 (gCons (gName 1) (gCons (gName 2) gNil)))) (tt := tYes) (by rfl) sc__law_trees.nd (pi_list (pv 0)) (blkOk_by (N := n__law_trees) (sc := defScope s__law_trees) (by decide +kernel)) (fun _ _ _ _ _ => (pg_tup (by rfl) (pgs_cons (pg_name (i := 1) sc__law_trees.nd rfl (Or.inl rfl)) (pgs_cons (pg_name (i := 2) sc__law_trees.nd rfl (Or.inl rfl)) pgs_nil)))) (fun _ _ _ _ _ => pts_nil) (fun _ _ _ _ _ => (pe_tup (pa_cons pe_str (pa_cons (pv 1) (pa_cons (pv 2) (pa_cons (pe_tup pa_nil) (pa_cons (pe_tup pa_nil) pa_nil)))))))))), ?_⟩
    have hs63 := sizeLine_eq
    refine ⟨_, rfl, a, rfl, ⟨_, SqL.of ea⟩, fun D hD => lc_list (K := K) (a := a) (xs := pas.map V.ref) (fun i H' => ∃ ts, Same H H' ∧ H' D = some (.lst (ts.map V.ref)) ∧ TreesAt H' ts (rows.take i)) ⟨[], Same.new hD, upd_same, .nil⟩ (fun i H' _ e => by obtain ⟨_, s, _⟩ := e; exact SqL.of (s _ _ ea)) ?_ ?_⟩
    · rintro i v H1 hv ⟨ts, s1, e1, T1⟩
      rw [List.getElem?_map] at hv
      obtain ⟨p, hp, rfl⟩ := Option.map_eq_some_iff.mp hv
      obtain ⟨r, hr2, ep, eb⟩ := R.at_ hp
      have hr3 := List.mem_of_getElem? hr2
      have lt := T1.len
      rw [List.length_take] at lt
      refine ⟨p, _, rfl, SqT.of (s1 _ _ ep), rfl, _, _, rfl, _, _, rfl, rfl, rfl, yes ?_⟩
      refine ⟨_, rfl, _, rfl, by show 0 ≤ sizeLine; omega, fun c hc => ⟨by show 0 ≤ sizeLine; omega, fun e he => ⟨by show 5 ≤ sizeLine; omega, fun t ht => ?_⟩⟩⟩
      have s2 : Same H1 (upd (upd (upd H1 c (.tup [])) e (.tup [])) t (.tup [.str "unit", .str (nm r.1), .ref r.2.2, .ref c, .ref e])) := ((Same.new hc).trans (Same.new he)).trans (Same.new ht)
      have T : TreeAt (upd (upd (upd H1 c (.tup [])) e (.tup [])) t (.tup [.str "unit", .str (nm r.1), .ref r.2.2, .ref c, .ref e])) t r := ⟨⟨c, e, upd_same, Same.new ht _ _ (Same.new he _ _ upd_same), Same.new ht _ _ upd_same⟩, s2 _ _ (s1 _ _ eb)⟩
      generalize upd (upd (upd H1 c (.tup [])) e (.tup [])) t (.tup [.str "unit", .str (nm r.1), .ref r.2.2, .ref c, .ref e]) = H2 at s2 T
      have k2 : KpT H2 (upd H2 D (.lst (ts.map V.ref ++ [.ref t]))) := KpT.put (s2 _ _ e1) (fun _ z => nomatch z)
      refine ⟨_, s2 _ _ e1, by rw [List.length_map]; omega, ts ++ [t], Same.upd' (s1.trans s2) hD, by rw [upd_same, List.map_append]; rfl, ?_⟩
      rw [List.take_add_one, hr2]
      exact ((T1.kp (Same.kpT s2)).kp k2).snoc (T.kp k2)
    · rintro H1 ⟨ts, s1, e1, T1⟩
      rw [List.length_map, R.len, List.take_length] at T1
      exact q H1 D ts s1 hD e1 T1
end
end SA

set_option Elab.async false
set_option linter.all false
set_option maxRecDepth 100000
set_option maxHeartbeats 4000000
namespace SA
open PySem PySem.Spec PyProof.Rows L2
theorem perm_map {α β : Type} {f : α → β} : ∀ {a b : List β}, a.Perm b → ∀ l : List α, b = l.map f → ∃ l' : List α, l'.Perm l ∧ a = l'.map f := by
  intro a b h
  induction h with
  | nil =>
    intro l e
    cases l with
    | nil => exact ⟨[], .refl _, rfl⟩
    | cons _ _ => cases e
  | cons x h ih =>
    intro l e
    cases l with
    | nil => cases e
    | cons y l =>
      injection e with e1 e2
      obtain ⟨l', p, e3⟩ := ih l e2
      exact ⟨y :: l', .cons y p, by rw [List.map_cons, e1, e3]⟩
  | swap x y t =>
    intro l e
    cases l with
    | nil => cases e
    | cons u l =>
      cases l with
      | nil => cases e
      | cons v l =>
        injection e with e1 e2
        injection e2 with e2 e3
        exact ⟨v :: u :: l, .swap _ _ _, by rw [List.map_cons, List.map_cons, e1, e2, e3]⟩
  | trans h1 h2 ih1 ih2 =>
    intro l e
    obtain ⟨l2, p2, e2⟩ := ih2 l e
    obtain ⟨l1, p1, e1⟩ := ih1 l2 e2
    exact ⟨l1, p1.trans p2, e1⟩
theorem sIx_at {n d k : Nat} (hk : k ≤ n) : HT.sIx n d (some (k : Int)) = k := by
  rw [HT.sIx_nat]
  omega
theorem cutV_to {xs : List V} {k : Nat} (hk : k ≤ xs.length) : cutV xs none (some (k : Int)) = xs.take k := by
  unfold cutV
  rw [sIx_at hk, HT.sIx_none]
  simp

def sevenN : List Nat := [0, 2, 3, 4, 6, 1, 5]
theorem seven_nm : ([.str "ab", .str "b", .str "bay", .str "c", .str "zz", .str "abc", .str "y"] : List V) = sevenN.map fun i => V.str (nm i) := rfl
theorem seven_ok : sevenN.Nodup ∧ sevenN.length = 7 ∧ ∀ x ∈ sevenN, x < 7 := by decide
/-- drawn rows: what holds of them -/
structure RowsOk (rows : List Row) : Prop where
  nd : (rows.map (·.1)).Nodup
  l7 : lt7 (rows.map (·.1))
  few : rows.length ≤ 6
  u : ∀ r ∈ rows, r.2.1.Nodup ∧ (∀ y ∈ r.2.1, y ∈ rows.map (·.1)) ∧ r.2.1.length ≤ 5
theorem sub_step {H5 H8 : Hp} {d w c D : Addr} {m : Nat} {sub ns : List Nat} {j o : Nat} {b : Bool} (D8 : DrawAt H8 d w c m) (b8 : But2 d w H5 H8) (e8 : H8 D = some (.lst (nmV sub))) (sl : sub.Sublist (ns.take j)) (ho : ns[j]? = some o) (hD : H5 D = none) (kD : D ≠ d ∧ D ≠ w ∧ D ≠ c) (sz : ns.length < 1000) :
    if b = true then (∃ v, (some (some (V.str (nm o))) : Option (Option V)) = some (some v) ∧ ∃ acc, H8 D = some (.lst acc) ∧ acc.length < sizeLine ∧ ∃ sub', DrawAt (upd H8 D (.lst (acc ++ [v]))) d w c m ∧ But2 d w H5 (upd H8 D (.lst (acc ++ [v]))) ∧ upd H8 D (.lst (acc ++ [v])) D = some (.lst (nmV sub')) ∧ sub'.Sublist (ns.take (j + 1)))
    else ∃ sub', DrawAt H8 d w c m ∧ But2 d w H5 H8 ∧ H8 D = some (.lst (nmV sub')) ∧ sub'.Sublist (ns.take (j + 1)) := by
  have e : ns.take (j + 1) = ns.take j ++ [o] := by rw [List.take_add_one, ho]; rfl
  cases b with
  | true =>
    refine iteTd rfl ⟨_, rfl, _, e8, ?_, sub ++ [o], D8.upd kD.1 kD.2.1 kD.2.2, b8.mut hD, by rw [upd_same, nmV_app]; rfl, ?_⟩
    · have := sl.length_le
      rw [List.length_take] at this
      have := sizeLine_eq
      rw [nmV_len]
      omega
    · rw [e]
      exact sl.append (List.Sublist.refl _)
  | false =>
    refine iteFd rfl ⟨sub, D8, b8, e8, ?_⟩
    rw [e]
    exact sl.trans (List.sublist_append_left _ _)
theorem cutV_5 {xs : List V} : cutV xs none (some 5) = xs.take 5 := by
  by_cases h : 5 ≤ xs.length
  · exact cutV_to (k := 5) h
  · unfold cutV
    have e : HT.sIx xs.length xs.length (some ((5 : Nat) : Int)) = xs.length := by
      rw [HT.sIx_nat]
      omega
    have e2 : HT.sIx xs.length xs.length (some (5 : Int)) = xs.length := e
    rw [e2, HT.sIx_none, List.drop_zero, List.take_of_length_le (by omega), List.take_of_length_le (by omega)]
theorem RowsAt.set {H : Hp} {p : Addr} {r : Row} (e : H p = some (.tup [.str (nm r.1), .ref r.2.2])) (b : H r.2.2 = some (.tup (nmV r.2.1))) : ∀ {ps : List Addr} {rs : List Row} (k : Nat), RowsAt H ps rs → RowsAt H (ps.set k p) (rs.set k r)
  | _, _, _, .nil => .nil
  | _, _, 0, .cons _ _ t => .cons e b t
  | _, _, k + 1, .cons e' b' t => .cons e' b' (t.set e b k)
theorem RowsAt.perm {H : Hp} {ps' ps : List Addr} (p : ps'.Perm ps) : ∀ {rs : List Row}, RowsAt H ps rs → ∃ rs' : List Row, rs'.Perm rs ∧ RowsAt H ps' rs' := by
  induction p with
  | nil => exact fun {rs} h => ⟨rs, .refl _, h⟩
  | cons x _ ih =>
    intro rs h
    match rs, h with
    | r :: rs, .cons e b t =>
      obtain ⟨rs', p', t'⟩ := ih t
      exact ⟨r :: rs', p'.cons r, .cons e b t'⟩
  | swap x y l =>
    intro rs h
    match rs, h with
    | r :: q :: rs, .cons e b (.cons e2 b2 t) => exact ⟨q :: r :: rs, List.Perm.swap _ _ _, .cons e2 b2 (.cons e b t)⟩
  | trans _ _ ih1 ih2 =>
    intro rs h
    obtain ⟨r2, p2, t2⟩ := ih2 h
    obtain ⟨r1, p1, t1⟩ := ih1 t2
    exact ⟨r1, p1.trans p2, t1⟩
theorem set_same {α : Type} : ∀ {l : List α} {k : Nat} {x : α}, l[k]? = some x → l.set k x = l
  | [], _, _, e => by simp at e
  | a :: l, 0, x, e => by
    cases e
    rfl
  | a :: l, k + 1, x, e => by
    rw [List.set_cons_succ, set_same (l := l) (k := k) e]
theorem tIf_either {tt : TT} {ta tb : TE} {σ : L2.St} {H : Hp} {Q : VK} (G : V → Hp → Prop) (h : ∀ R : VK, (∀ v H', G v H' → R v H') → tIf tt ta tb σ H R) (q : ∀ v H', G v H' → Q v H') : tIf tt ta tb σ H Q := h _ q
def spUnits : Sp := fun vs H Q _ => ∃ (d w c : Addr) (n : Nat), vs = [.ref d] ∧ DrawAt H d w c n ∧ n < 2 ^ 38 ∧
  ∀ (p : Addr) (pas : List Addr) (rows : List Row) (H' : Hp), RowsOk rows → rows ≠ [] → DrawAt H' d w c (n + 200) → But2 d w H H' → H p = none → H' p = some (.lst (pas.map V.ref)) → RowsAt H' pas rows → Q (.ref p) H'
section
variable {P : Program} {w0 : World} {K : PySem.W.Frag} {mg : Str → Option Value} {base : Heap}
theorem ok_units {f : Addr} {fd : FuncData} (F : Fun K "_law_units" "_law_units" s__law_units f fd) (B : Bn11 mg) (c__law_shuffled : Dq P w0 K mg base CX0 3 "_law_shuffled" ["draw", "some"] spShufV) (c__law_take : Dq P w0 K mg base CX0 2 "_law_take" ["draw", "many"] spTake) (c__law_pick : Dq P w0 K mg base CX0 3 "_law_pick" ["draw", "some"] (spPick K)) : FnOk P w0 K mg base CX0 4 f fd ["draw"] spUnits := by
  refine F.ok sc__law_units (fun vs H Q E h => ?_) (fun cdv A outer s H vs Q E hr hh => ?_)
  · obtain ⟨d, w, c, n, rfl, _⟩ := h
    rfl
  · obtain ⟨d, w, c, n, rfl, D0, hn, q⟩ := hh
    refine ⟨_, (Evl.pss_cut (ps_set (i := 1) sc__law_units.nd rfl (Or.inl rfl) (pe_slice sl_list (pe_q c__law_shuffled hr (by decide) (by rfl) (pa_cons (pv 0) (pa_cons (pe_lst (pa_cons pe_str (pa_cons pe_str (pa_cons pe_str (pa_cons pe_str (pa_cons pe_str (pa_cons pe_str (pa_cons pe_str pa_nil)))))))) pa_nil))) po_none (po_some (pe_op op_add pe_int (pe_q c__law_take hr (by decide) (by rfl) (pa_cons (pv 0) (pa_cons pe_int pa_nil)))))))
      (Evl.pss_cut (ps_asg (pe_tup (pa_cons (pe_lst pa_nil) (pa_cons (pe_q c__law_take hr (by decide) (by rfl) (pa_cons (pv 0) (pa_cons pe_int pa_nil))) pa_nil))) (pg_tup (by rfl) (pgs_cons (pg_name (i := 2) sc__law_units.nd rfl (Or.inl rfl)) (pgs_cons (pg_name (i := 3) sc__law_units.nd rfl (Or.inr rfl)) pgs_nil))))
      (Evl.pss_cut (ps_for PassesOwn.never rfl (pi_enum (by rfl) B.enumerate (pa_cons (pv 1) pa_nil)) (pg_tup (by rfl) (pgs_cons (pg_name (i := 4) sc__law_units.nd rfl (Or.inr rfl)) (pgs_cons (pg_name (i := 5) sc__law_units.nd rfl (Or.inl rfl)) pgs_nil))) (Evl.pss_cut (ps_setLc (i := 6) (own := [("k", 9), ("other", 10)]) (g := (gTup K 2 (gCons (gName 9) (gCons (gName 10) gNil)))) (tt := _) (by rfl) sc__law_units.nd rfl rfl (sw_true rfl rfl rfl (by decide +kernel)) (pi_enum (by rfl) B.enumerate (pa_cons (pv 1) pa_nil)) (blkOk_by (N := n__law_units) (sc := defScope s__law_units) (by decide +kernel)) (fun _ _ _ _ _ => (pg_tup (by rfl) (pgs_cons (pg_name (i := 9) sc__law_units.nd rfl (Or.inl rfl)) (pgs_cons (pg_name (i := 10) sc__law_units.nd rfl (Or.inl rfl)) pgs_nil)))) (fun _ _ _ _ _ => (pts_one (PW.pt (pw_or (pt_cmpR op_lt (pv 9) (pv 4) (nomark _)) (pw_or1 (PW.pt (pw_and (pt_cmpR op_eq (pv 3) pe_int (nomark _)) (pw_and1 (pt_cmpR op_eq (pe_q c__law_take hr (by decide) (by rfl) (pa_cons (pv 0) (pa_cons pe_int pa_nil))) pe_int (nomark _)))))))))) (fun _ _ _ _ _ => (pv 10)))
      (pss_one (ps_expr (pe_bm PySem.F.plainAttrs_list PySem.F.slot_list_append PySem.F.type_list_append mt_append (pv 2) (pa_cons (pe_tup (pa_cons (pv 5) (pa_cons (pe_callTy call_tuple_of (by rfl) B.tuple (by decide +kernel) (pa_cons (pe_slice sl_list (pe_lc (own := [("other", 10)]) (g := (gName 10)) (tt := _) (by rfl) sc__law_units.nd (pi_list (pe_q c__law_shuffled hr (by decide) (by rfl) (pa_cons (pv 0) (pa_cons (pv 6) pa_nil)))) (blkOk_by (N := n__law_units) (sc := defScope s__law_units) (by decide +kernel)) (fun _ _ _ _ _ => (pg_name (i := 10) sc__law_units.nd rfl (Or.inl rfl))) (fun _ _ _ _ _ => (pts_one (pt_cmpR op_eq (pe_q c__law_take hr (by decide) (by rfl) (pa_cons (pv 0) (pa_cons pe_int pa_nil))) pe_int (nomark _)))) (fun _ _ _ _ _ => (pv 10))) po_none (po_some pe_int)) pa_nil)) pa_nil))) pa_nil))))))
      (Evl.pss_cut (ps_if (pt_cmpR op_eq (pv 3) pe_int (nomark _)) (pss_cons (ps_asg (pe_tup (pa_cons (pe_q c__law_take hr (by decide) (by rfl) (pa_cons (pv 0) (pa_cons (pe_callB call_len_seq (by rfl) B.len PySem.boot_len (pa_cons (pv 2) pa_nil)) pa_nil))) (pa_cons (pe_q c__law_pick hr (by decide) (by rfl) (pa_cons (pv 0) (pa_cons (pv 1) pa_nil))) pa_nil))) (pg_tup (by rfl) (pgs_cons (pg_name (i := 4) sc__law_units.nd rfl (Or.inr rfl)) (pgs_cons (pg_name (i := 7) sc__law_units.nd rfl (Or.inl rfl)) pgs_nil))))
      (pss_cons (ps_asg (pe_ix ix_list (pv 2) (pv 4) (fun _ _ => rfl)) (pg_tup (by rfl) (pgs_cons (pg_name (i := 5) sc__law_units.nd rfl (Or.inl rfl)) (pgs_cons (pg_name (i := 8) sc__law_units.nd rfl (Or.inl rfl)) pgs_nil))))
      (pss_one (ps_asg (pe_tup (pa_cons (pv 5) (pa_cons (pe_ifExp (PW.pt (pw_or (pt_cmpR (op_in_seqK (K := K) rfl) (pv 7) (pv 8) (by rfl)) (pw_or1 (pt_cmpR op_gt (pe_callB call_len_seq (by rfl) B.len PySem.boot_len (pa_cons (pv 8) pa_nil)) pe_int (nomark _))))) (pv 8) (pe_op op_catA (pv 8) (pe_tup (pa_cons (pv 7) pa_nil)))) pa_nil))) (pg_sub (pv 2) (pv 4) set_list))))) pss_nil)
      (pss_one (ps_ret (pe_q c__law_shuffled hr (by decide) (by rfl) (pa_cons (pv 0) (pa_cons (pv 2) pa_nil))))))))), ?_⟩
    have big : (2 : Nat) ^ 38 + 1000 < 2 ^ 39 ∧ (2 : Nat) ^ 39 < 2 ^ 40 := by decide
    have hs63 := sizeLine_eq
    have sev := seven_ok
    -- the names
    refine ⟨fun σ H' => ∃ (na : Addr) (ns : List Nat), σ = [some (.ref d), some (.ref na), none, none, none, none, none, none, none, none, none] ∧ DrawAt H' d w c (n + 8) ∧ But2 d w H H' ∧ H na = none ∧ na ≠ d ∧ na ≠ w ∧ H' na = some (.lst (nmV ns)) ∧ ns.Nodup ∧ lt7 ns ∧ 1 ≤ ns.length ∧ ns.length ≤ 6, ?_, ?_⟩
    · refine ⟨_, rfl, by show 7 ≤ sizeLine; omega, fun D hD => ?_⟩
      have D1 := D0.new (o := .lst [.str "ab", .str "b", .str "bay", .str "c", .str "zz", .str "abc", .str "y"]) hD
      refine ⟨d, w, c, D, n, _, rfl, D1, upd_same, (by show 7 ≤ 100; decide), by omega, fun z ys H2 pz D2 b2 hz ez => ?_⟩
      obtain ⟨l', p', e'⟩ := perm_map (f := fun i => V.str (nm i)) pz sevenN seven_nm
      have kz := D1.knowD hz
      refine ⟨_, rfl, d, w, c, _, 6, rfl, D2, by show n + 7 < 2 ^ 40; omega, by decide, by decide, fun m H3 m0 m6 D3 b3 => ?_⟩
      obtain ⟨m, rfl⟩ := Int.eq_ofNat_of_zero_le m0
      have ez3 := b3 _ _ ez kz.1 kz.2.1
      refine ⟨_, _, rfl, rfl, _, rfl, z, _, rfl, SqL.of ez3, fun r hr => ?_⟩
      have kr := D3.knowD hr
      have hyl : ys.length = 7 := by rw [pz.length_eq]; rfl
      have bb : But2 d w H H3 := fun b o e h1 h2 => b3 b o (b2 b o ((Same.new hD) b o e) h1 h2) h1 h2
      have pnd : l'.Nodup := p'.nodup_iff.mpr sev.1
      have pl : l'.length = 7 := by rw [p'.length_eq]; exact sev.2.1
      refine ⟨r, l'.take (1 + m), rfl, D3.new hr, bb.new hr, bb.free hr kr.1 kr.2.1, kr.1, kr.2.1, ?_, pnd.sublist (List.take_sublist _ _), fun x hx => sev.2.2 x (p'.mem_iff.mp (List.mem_of_mem_take hx)), by rw [List.length_take]; omega, by rw [List.length_take]; omega⟩
      rw [upd_same, show (1 + (m : Int)) = ((1 + m : Nat) : Int) by omega, cutV_to (by omega), e', nmV, List.map_take]
    rintro σ H1 ⟨na, ns, rfl, D1, b1, hna, nad, naw, ena, nnd, n7, n1, n6⟩
    refine ⟨fun σ H' => ∃ (fo : Addr) (wy : Int), σ = [some (.ref d), some (.ref na), some (.ref fo), some (.int wy), none, none, none, none, none, none, none] ∧ DrawAt H' d w c (n + 9) ∧ But2 d w H H' ∧ H fo = none ∧ fo ≠ d ∧ fo ≠ w ∧ fo ≠ c ∧ fo ≠ na ∧ H' na = some (.lst (nmV ns)) ∧ H' fo = some (.lst []) ∧ 0 ≤ wy ∧ wy < 3, ?_, ?_⟩
    · refine ⟨by show 0 ≤ sizeLine; omega, fun fo hfo => ?_⟩
      have kf := D1.knowD hfo
      have D2 := D1.new (o := .lst []) hfo
      have b2 := b1.new (o := .lst []) hfo
      have e2 := Same.new (o := .lst []) hfo _ _ ena
      have ef : (upd H1 fo (.lst [])) fo = some (.lst []) := upd_same
      have fon : fo ≠ na := (ne_of_none ena hfo).symm
      have hfo0 := b1.free hfo kf.1 kf.2.1
      generalize upd H1 fo (.lst []) = H2 at D2 b2 e2 ef
      refine ⟨_, rfl, d, w, c, _, 3, rfl, D2, by show n + 8 < 2 ^ 40; omega, by decide, by decide, fun wy H3 w0 w3 D3 b3 => ⟨by show 2 ≤ sizeLine; omega, fun t ht => ?_⟩⟩
      have st := Same.new (o := .tup [.ref fo, .int wy]) ht
      refine ⟨t, _, rfl, SqT.of upd_same, rfl, _, _, rfl, _, _, rfl, rfl, ?_⟩
      exact ⟨fo, wy, rfl, D3.new ht, (b2.trans b3).new ht, hfo0, kf.1, kf.2.1, kf.2.2, fon, st _ _ (b3 _ _ e2 nad naw), st _ _ (b3 _ _ ef kf.1 kf.2.1), w0, w3⟩
    rintro σ H2 ⟨fo, wy, rfl, D2, b2, hfo, fod, fow, foc, fon, ena2, efo, wy0, wy3⟩
    -- each unit
    refine ⟨fun σ H' => ∃ (y4 y5 y6 : Option V) (rows : List Row) (pas : List Addr), σ = [some (.ref d), some (.ref na), some (.ref fo), some (.int wy), y4, y5, y6, none, none, none, none] ∧ DrawAt H' d w c (n + 9 + 18 * ns.length) ∧ But2 d w H H' ∧ H' na = some (.lst (nmV ns)) ∧ H' fo = some (.lst (pas.map V.ref)) ∧ RowsAt H' pas rows ∧ rows.map (·.1) = ns ∧ (∀ r ∈ rows, r.2.1.Nodup ∧ (∀ y ∈ r.2.1, y ∈ ns) ∧ r.2.1.length ≤ 5), ?_, ?_⟩
    · refine ⟨_, rfl, na, _, rfl, SqL.of ena2, for_it walk_enum (fun i σ H' => ∃ (y4 y5 y6 : Option V) (rows : List Row) (pas : List Addr), σ = [some (.ref d), some (.ref na), some (.ref fo), some (.int wy), y4, y5, y6, none, none, none, none] ∧ DrawAt H' d w c (n + 9 + 18 * i) ∧ But2 d w H H' ∧ H' na = some (.lst (nmV ns)) ∧ H' fo = some (.lst (pas.map V.ref)) ∧ RowsAt H' pas rows ∧ rows.map (·.1) = ns.take i ∧ (∀ r ∈ rows, r.2.1.Nodup ∧ (∀ y ∈ r.2.1, y ∈ ns) ∧ r.2.1.length ≤ 5)) ⟨none, none, none, [], [], rfl, D2, b2, ena2, efo, .nil, rfl, fun r h => absurd h List.not_mem_nil⟩ (fun i σ H' _ h => by obtain ⟨_, _, _, _, _, _, _, _, e, _⟩ := h; exact SqL.of e) ?_ ?_⟩
      · rintro i v σ H3 H4 hi ⟨y4, y5, y6, rows, pas, rfl, D3, b3, ena3, efo3, R3, er, ok3⟩ ⟨T, y, x', rfl, hT, rfl, hy, hxi⟩
        obtain rfl : y = .int (i : Nat) := (Option.some.inj hy).symm
        obtain ⟨nn, hnn, rfl⟩ := nmV_at hxi
        have hi6 : i < 6 := by have := (List.getElem?_eq_some_iff.mp hnn).1; omega
        have D4 := D3.new (o := .tup [.int (i : Nat), .str (nm nn)]) hT
        have b4 := b3.new (o := .tup [.int (i : Nat), .str (nm nn)]) hT
        have sT := Same.new (o := .tup [.int (i : Nat), .str (nm nn)]) hT
        have ena4 := sT _ _ ena3
        have efo4 := sT _ _ efo3
        have R4 := R3.kp (Same.kpT sT)
        refine ⟨T, _, rfl, SqT.of upd_same, rfl, _, _, rfl, _, _, rfl, rfl, ?_⟩
        generalize upd H3 T (.tup [.int (i : Nat), .str (nm nn)]) = H5 at D4 b4 ena4 efo4 R4
        refine ⟨fun σ H' => ∃ (sm : Addr) (sub : List Nat), σ = [some (.ref d), some (.ref na), some (.ref fo), some (.int wy), some (.int (i : Nat)), some (.str (nm nn)), some (.ref sm), none, none, none, none] ∧ DrawAt H' d w c (n + 9 + 18 * i + 6) ∧ But2 d w H H' ∧ H' na = some (.lst (nmV ns)) ∧ H' fo = some (.lst (pas.map V.ref)) ∧ RowsAt H' pas rows ∧ H' sm = some (.lst (nmV sub)) ∧ sub.Sublist ns, ?_, ?_⟩
        · refine ⟨_, rfl, na, _, rfl, SqL.of ena4, fun D hD => ?_⟩
          have kD := D4.knowD hD
          refine lc_it walk_enum (fun j H' => ∃ sub : List Nat, DrawAt H' d w c (n + 9 + 18 * i + j) ∧ But2 d w H5 H' ∧ H' D = some (.lst (nmV sub)) ∧ sub.Sublist (ns.take j)) ⟨[], D4.new hD, (But2.refl d w H5).new hD, upd_same, List.Sublist.refl _⟩ (fun j H' _ h => by obtain ⟨_, _, h, _⟩ := h; exact SqL.of (h _ _ ena4 nad naw)) ?_ ?_
          · rintro j v H6 H7 hj ⟨sub, D6, b6, e6, sl⟩ ⟨T2, y, x', rfl, hT2, rfl, hy, hxj⟩
            obtain rfl : y = .int (j : Nat) := (Option.some.inj hy).symm
            obtain ⟨o, ho, rfl⟩ := nmV_at hxj
            have D7 := D6.new (o := .tup [.int (j : Nat), .str (nm o)]) hT2
            have b7 := b6.new (o := .tup [.int (j : Nat), .str (nm o)]) hT2
            have e7 := Same.new (o := .tup [.int (j : Nat), .str (nm o)]) hT2 _ _ e6
            refine ⟨T2, _, rfl, SqT.of upd_same, rfl, _, _, rfl, _, _, rfl, rfl, rfl, ?_⟩
            generalize upd H6 T2 (.tup [.int (j : Nat), .str (nm o)]) = H7 at D7 b7 e7
            have jl := (List.getElem?_eq_some_iff.mp ho).1
            refine ⟨_, rfl, _, rfl, _, _, rfl, rfl, _, rfl, ?_⟩
            by_cases h1 : (j : Int) < (i : Nat)
            · refine iteTd (decide_eq_true h1) ?_
              exact sub_step (b := true) (D7.mono (by omega)) b7 e7 sl ho hD kD (by omega)
            · refine iteFd (decide_eq_false h1) ⟨_, rfl, rfl, _, rfl, ?_⟩
              by_cases h2 : V.int wy = V.int 0
              · refine iteTd (decide_eq_true h2) ⟨_, rfl, d, w, c, _, 3, rfl, D7, by omega, by decide, by decide, fun m H8 m0 m3 D8 b8 => ⟨rfl, _, rfl, ?_⟩⟩
                exact sub_step (D8.mono (by omega)) (b7.trans b8) (b8 _ _ e7 kD.1 kD.2.1) sl ho hD kD (by omega)
              · refine iteFd (decide_eq_false h2) ?_
                exact sub_step (b := false) (D7.mono (by omega)) b7 e7 sl ho hD kD (by omega)
          · rintro H6 ⟨sub, D6, b6, e6, sl⟩
            rw [nmV_len] at sl D6
            rw [List.take_length] at sl
            exact ⟨D, sub, rfl, D6.mono (by omega), b4.trans b6, b6 _ _ ena4 nad naw, b6 _ _ efo4 fod fow, R4.kp (But2.kpT D4 b6), e6, sl⟩
        rintro σ H6 ⟨sm, sub, rfl, D6, b6, ena6, efo6, R6, esm, sl⟩
        have subl := sl.length_le
        refine ⟨_, rfl, .inl ⟨rfl, _, SqL.of efo6⟩, _, rfl, _, rfl, _, rfl, d, w, c, sm, _, _, rfl, D6, esm, by rw [nmV_len]; omega, by omega, fun z ys H7 pz D7 b7 hz ez => ?_⟩
        obtain ⟨l', p', rfl⟩ := perm_map (f := fun i => V.str (nm i)) pz sub rfl
        have ez : H7 z = some (.lst (nmV l')) := ez
        have lnd : l'.Nodup := p'.nodup_iff.mpr (nnd.sublist sl)
        have ll : l'.length = sub.length := p'.length_eq
        have lsub : ∀ x ∈ l', x ∈ ns := fun x hx => sl.subset (p'.mem_iff.mp hx)
        have kz := D6.knowD hz
        rw [nmV_len] at D7
        refine ⟨z, rfl, ⟨_, SqL.of ez⟩, fun D hD => ?_⟩
        have kD := D7.knowD hD
        refine lc_list (K := K) (a := z) (xs := nmV l') (fun j H' => ∃ sb : List Nat, DrawAt H' d w c (n + 9 + 18 * i + 6 + sub.length + j) ∧ But2 d w H7 H' ∧ H' D = some (.lst (nmV sb)) ∧ sb.Sublist (l'.take j)) ⟨[], D7.new hD, (But2.refl d w H7).new hD, upd_same, List.Sublist.refl _⟩ (fun j H' _ h => by obtain ⟨_, _, h, _⟩ := h; exact SqL.of (h _ _ ez kz.1 kz.2.1)) ?_ ?_
        · rintro j v H8 hv ⟨sb, D8, b8, e8, sl8⟩
          obtain ⟨o, ho, rfl⟩ := nmV_at hv
          have jl := (List.getElem?_eq_some_iff.mp ho).1
          refine ⟨rfl, _, rfl, d, w, c, _, 2, rfl, D8, by omega, by decide, by decide, fun m H9 m0 m2 D9 b9 => ⟨rfl, _, rfl, ?_⟩⟩
          exact sub_step (D9.mono (by omega)) (b8.trans b9) (b9 _ _ e8 kD.1 kD.2.1) sl8 ho hD kD (by omega)
        · rintro H8 ⟨sb, D8, b8, e8, sl8⟩
          rw [nmV_len] at sl8 D8
          rw [List.take_length] at sl8
          refine ⟨5, rfl, ?_⟩
          refine ⟨D, _, rfl, SqL.of e8, fun p hp => ⟨p, _, rfl, .inl ⟨SqL.of upd_same, fun l hl => ⟨by show 2 ≤ sizeLine; omega, fun t ht => ?_⟩⟩⟩⟩
          rw [cutV_5, show (nmV sb).take 5 = nmV (sb.take 5) from (List.map_take ..).symm]
          rw [cutV_5, show (nmV sb).take 5 = nmV (sb.take 5) from (List.map_take ..).symm] at hl ht
          have D9 := D8.new (o := .lst (nmV (sb.take 5))) hp
          have b9 : But2 d w H (upd H8 p (.lst (nmV (sb.take 5)))) := ((b6.trans b7).trans b8).new hp
          have s9 := Same.new (o := .lst (nmV (sb.take 5))) hp
          have k9 : KpT H6 (upd H8 p (.lst (nmV (sb.take 5)))) := ((But2.kpT D6 b7).trans (But2.kpT D7 b8)).trans (Same.kpT s9)
          have ena9 := s9 _ _ (b8 _ _ (b7 _ _ ena6 nad naw) nad naw)
          have efo9 := s9 _ _ (b8 _ _ (b7 _ _ efo6 fod fow) fod fow)
          generalize upd H8 p (.lst (nmV (sb.take 5))) = H9 at D9 b9 s9 k9 ena9 efo9 hl ht
          have D10 := (D9.new (o := .tup (nmV (sb.take 5))) hl).new (o := .tup [.str (nm nn), .ref l]) ht
          have b10 := (b9.new (o := .tup (nmV (sb.take 5))) hl).new (o := .tup [.str (nm nn), .ref l]) ht
          have s10 : Same H9 (upd (upd H9 l (.tup (nmV (sb.take 5)))) t (.tup [.str (nm nn), .ref l])) := (Same.new hl).trans (Same.new ht)
          have el10 : (upd (upd H9 l (.tup (nmV (sb.take 5)))) t (.tup [.str (nm nn), .ref l])) l = some (.tup (nmV (sb.take 5))) := Same.new ht _ _ upd_same
          have et10 : (upd (upd H9 l (.tup (nmV (sb.take 5)))) t (.tup [.str (nm nn), .ref l])) t = some (.tup [.str (nm nn), .ref l]) := upd_same
          generalize upd (upd H9 l (.tup (nmV (sb.take 5)))) t (.tup [.str (nm nn), .ref l]) = H10 at D10 b10 s10 el10 et10
          have efo10 := s10 _ _ efo9
          have R10 := (R6.kp k9).kp (Same.kpT s10)
          have pl := R6.len
          have rl : rows.length = i := by
            have := congrArg List.length er
            rw [List.length_map, List.length_take] at this
            have := (List.getElem?_eq_some_iff.mp hnn).1
            omega
          refine ⟨fo, _, _, rfl, rfl, efo10, by rw [List.length_map]; omega, ?_⟩
          have kp11 : KpT H10 (upd H10 fo (.lst (pas.map V.ref ++ [.ref t]))) := KpT.put efo10 (fun _ z => nomatch z)
          refine ⟨_, _, _, rows ++ [(nn, sb.take 5, l)], pas ++ [t], rfl, (D10.upd fod fow foc).mono (by omega), b10.mut hfo, ?_, by rw [upd_same, List.map_append]; rfl, (R10.kp kp11).snoc (kp11 _ _ et10) (kp11 _ _ el10), ?_, fun r hr => ?_⟩
          · rw [upd_ne fon.symm]
            exact s10 _ _ ena9
          · rw [List.map_append, er, show ns.take (i + 1) = ns.take i ++ [nn] by rw [List.take_add_one, hnn]; rfl]
            rfl
          · rcases List.mem_append.mp hr with hr | hr
            · exact ok3 r hr
            · rw [List.mem_singleton.mp hr]
              have h5 : (sb.take 5).Sublist l' := (List.take_sublist _ _).trans sl8
              exact ⟨lnd.sublist h5, fun y hy => lsub y (h5.subset hy), by rw [List.length_take]; omega⟩
      · rintro σ H3 ⟨y4, y5, y6, rows, pas, rfl, D3, b3, ena3, efo3, R3, er, ok3⟩
        rw [nmV_len] at D3 er
        rw [List.take_length] at er
        exact ⟨y4, y5, y6, rows, pas, rfl, D3, b3, ena3, efo3, R3, er, ok3⟩
    rintro σ H3 ⟨y4, y5, y6, rows, pas, rfl, D3, b3, ena3, efo3, R3, er, ok3⟩
    have hrl : rows.length = ns.length := by have := congrArg List.length er; rwa [List.length_map] at this
    have pl := R3.len
    have hne : nmV ns ≠ [] := fun z => by
      have := congrArg List.length z
      rw [nmV_len] at this
      simp at this
      rw [this] at n1
      simp at n1
    refine ⟨fun σ H' => ∃ (σ' : L2.St) (rows : List Row) (pas : List Addr), σ = some (.ref d) :: some (.ref na) :: some (.ref fo) :: σ' ∧ DrawAt H' d w c (n + 150) ∧ But2 d w H H' ∧ H' fo = some (.lst (pas.map V.ref)) ∧ RowsAt H' pas rows ∧ rows.map (·.1) = ns ∧ (∀ r ∈ rows, r.2.1.Nodup ∧ (∀ y ∈ r.2.1, y ∈ ns) ∧ r.2.1.length ≤ 5), ?_, ?_⟩
    · refine ⟨_, rfl, rfl, _, rfl, ?_⟩
      by_cases hw1 : V.int wy = V.int 1
      · refine iteTd (decide_eq_true hw1) ?_
        refine ⟨_, rfl, _, rfl, fo, _, rfl, .inl (SqL.of efo3), d, w, c, _, _, rfl, D3, by omega, by rw [List.length_map]; omega, by rw [List.length_map]; exact Int.lt_of_le_of_lt (show (pas.length : Int) ≤ 6 by omega) (by decide), fun k H4 k0 k1 D4 b4 => ?_⟩
        rw [List.length_map] at k1
        obtain ⟨k, rfl⟩ := Int.eq_ofNat_of_zero_le k0
        have hk : k < pas.length := by omega
        have ena4 := b4 _ _ ena3 nad naw
        have efo4 := b4 _ _ efo3 fod fow
        have R4 := R3.kp (But2.kpT D3 b4)
        refine ⟨_, rfl, _, rfl, d, w, c, na, _, _, rfl, D4, by omega, nad, naw, SqL.of ena4, hne, by rw [nmV_len]; omega, fun x H5 hx D5 b5 => ⟨by show 2 ≤ sizeLine; omega, fun t ht => ?_⟩⟩
        obtain ⟨g, hg, rfl⟩ := List.mem_map.mp hx
        have g7 := n7 g hg
        have s6 := Same.new (o := .tup [.int (k : Nat), .str (nm g)]) ht
        have D6 := D5.new (o := .tup [.int (k : Nat), .str (nm g)]) ht
        have b6 : But2 d w H (upd H5 t (.tup [.int (k : Nat), .str (nm g)])) := ((b3.trans b4).trans b5).new ht
        have efo6 := s6 _ _ (b5 _ _ efo4 fod fow)
        have R6 := (R4.kp (But2.kpT D4 b5)).kp (Same.kpT s6)
        refine ⟨t, _, rfl, SqT.of upd_same, rfl, _, _, rfl, _, _, rfl, rfl, ?_⟩
        generalize upd H5 t (.tup [.int (k : Nat), .str (nm g)]) = H6 at D6 b6 efo6 R6
        have hp : pas[k]? = some pas[k] := List.getElem?_eq_getElem hk
        obtain ⟨r, hr2, ep, eb⟩ := R6.at_ hp
        have hrm := List.mem_of_getElem? hr2
        obtain ⟨rnd, rsub, r5⟩ := ok3 r hrm
        have r7 : lt7 r.2.1 := fun y hy => n7 y (rsub y hy)
        refine ⟨_, rfl, _, rfl, fo, _, _, _, rfl, rfl, SqL.of efo6, atI_nat (j := k) (by rw [List.getElem?_map, hp]; rfl), ?_⟩
        refine ⟨_, _, rfl, SqT.of ep, rfl, _, _, rfl, _, _, rfl, rfl, ?_⟩
        refine ⟨_, rfl, ?_⟩
        show tIf _ _ _ _ _ _
        refine tIf_either (fun v H' => ∃ (bq : Addr) (ys : List Nat), v = .ref bq ∧ Same H6 H' ∧ H' bq = some (.tup (nmV ys)) ∧ ys.Nodup ∧ (∀ y ∈ ys, y ∈ ns) ∧ ys.length ≤ 5) (fun R hR => ?_) ?_
        · show tOr _ _ _ _ _
          refine or_both (decide (g ∈ r.2.1)) (decide ((4 : Int) < ((nmV r.2.1).length : Nat))) (fun R hR => ⟨_, rfl, _, rfl, r.2.2, _, rfl, .inr (SqT.of eb), rfl, flatN _, _, rfl, by rw [inN g7 r7]; exact hR⟩) (fun R hR => ⟨_, rfl, r.2.2, _, rfl, .inr (SqT.of eb), _, _, rfl, rfl, _, rfl, hR⟩) ?_
          by_cases hc : (decide (g ∈ r.2.1) || decide ((4 : Int) < ((nmV r.2.1).length : Nat))) = true
          · refine iteTd hc ⟨_, rfl, hR _ _ ⟨r.2.2, r.2.1, rfl, Same.refl _, eb, rnd, rsub, r5⟩⟩
          · refine iteFd (Bool.eq_false_iff.mpr hc) ⟨_, rfl, _, rfl, by show 1 ≤ sizeLine; omega, fun o ho => ?_⟩
            have so := Same.new (o := .tup [.str (nm g)]) ho
            have eo : (upd H6 o (.tup [.str (nm g)])) o = some (.tup (nmV [g])) := upd_same
            have eb7 := so _ _ eb
            generalize upd H6 o (.tup [.str (nm g)]) = H7 at so eo eb7
            have hc1 : g ∉ r.2.1 := fun z => hc (by rw [decide_eq_true z]; rfl)
            have hc2 : r.2.1.length ≤ 4 := by
              apply Classical.byContradiction
              intro z
              refine hc ?_
              rw [decide_eq_true (show (4 : Int) < ((nmV r.2.1).length : Nat) by rw [nmV_len]; omega), Bool.or_true]
            refine ⟨r.2.2, o, _, _, rfl, rfl, SqT.of eb7, SqT.of eo, by rw [nmV_len, nmV_len]; simp; omega, fun z => hR _ _ ⟨o, [g], rfl, so, eo, by simp, fun y hy => by rw [List.mem_singleton.mp hy]; exact hg, by simp⟩, (fun _ z => by cases z), fun _ _ q hq => ?_⟩
            refine hR _ _ ⟨q, r.2.1 ++ [g], rfl, so.trans (Same.new hq), by rw [upd_same, nmV_app], ?_, fun y hy => ?_, by simp; omega⟩
            · rw [List.nodup_append]
              exact ⟨rnd, List.nodup_cons.mpr ⟨List.not_mem_nil, List.nodup_nil⟩, fun a ha b hb z => hc1 (by rw [← List.mem_singleton.mp hb, ← z]; exact ha)⟩
            · rcases List.mem_append.mp hy with hy | hy
              · exact rsub y hy
              · rw [List.mem_singleton.mp hy]
                exact hg
        · rintro v H7 ⟨bq, ys, rfl, s7, ebq, ynd, ysub, y5'⟩
          refine ⟨by show 2 ≤ sizeLine; omega, fun t2 ht2 => ?_⟩
          have s8 := s7.trans (Same.new (o := .tup [.str (nm r.1), .ref bq]) ht2)
          have D8 := (D6.same s7).new (o := .tup [.str (nm r.1), .ref bq]) ht2
          have b8 := (b6.trans (Same.but2 s7)).new (o := .tup [.str (nm r.1), .ref bq]) ht2
          have et8 : (upd H7 t2 (.tup [.str (nm r.1), .ref bq])) t2 = some (.tup [.str (nm r.1), .ref bq]) := upd_same
          have ebq8 := Same.new (o := .tup [.str (nm r.1), .ref bq]) ht2 _ _ ebq
          generalize upd H7 t2 (.tup [.str (nm r.1), .ref bq]) = H8 at s8 D8 b8 et8 ebq8
          have efo8 := s8 _ _ efo6
          have R8 := R6.kp (Same.kpT s8)
          have kp9 : KpT H8 (upd H8 fo (.lst ((pas.map V.ref).set k (.ref t2)))) := KpT.put efo8 (fun _ z => nomatch z)
          refine ⟨_, rfl, _, rfl, fo, _, _, k, rfl, rfl, efo8, ?_, ?_⟩
          · have hk2 : k < (pas.map V.ref).length := by rw [List.length_map]; exact hk
            unfold ixN
            simp
            omega
          · refine ⟨_, rows.set k (r.1, ys, bq), pas.set k t2, rfl, (D8.upd fod fow foc).mono (by omega), b8.mut hfo, by rw [upd_same, List.map_set], RowsAt.set (r := (r.1, ys, bq)) (kp9 _ _ et8) (kp9 _ _ ebq8) k (R8.kp kp9), ?_, fun q hq => ?_⟩
            · rw [List.map_set, set_same (by rw [List.getElem?_map, hr2]; rfl), er]
            · rcases List.mem_or_eq_of_mem_set hq with hq | rfl
              · exact ok3 q hq
              · exact ⟨ynd, ysub, y5'⟩
      · exact iteFd (decide_eq_false hw1) ⟨_, rows, pas, rfl, D3.mono (by omega), b3, efo3, R3, er, ok3⟩
    rintro σ H4 ⟨σ', rows, pas, rfl, D4, b4, efo4, R4, er, ok4⟩
    have hrl : rows.length = ns.length := by have := congrArg List.length er; rwa [List.length_map] at this
    have pl := R4.len
    refine ⟨_, rfl, _, rfl, d, w, c, fo, _, _, rfl, D4, efo4, by rw [List.length_map]; omega, by omega, fun z ys H5 pz D5 b5 hz ez => ?_⟩
    obtain ⟨pas', pp, rfl⟩ := perm_map (f := V.ref) pz pas rfl
    obtain ⟨rows', pr, R5⟩ := (R4.kp (But2.kpT D4 b5)).perm pp
    have kz := D4.knowD hz
    have pm := pr.map (·.1)
    rw [er] at pm
    rw [List.length_map] at D5
    refine q z pas' rows' H5 ⟨pm.nodup_iff.mpr nnd, fun x hx => n7 x (pm.mem_iff.mp hx), by rw [pr.length_eq]; omega, fun r hr => ?_⟩ (fun e => ?_) (D5.mono (by omega)) (b4.trans b5) (b4.free hz kz.1 kz.2.1) ez R5
    · obtain ⟨h1, h2, h3⟩ := ok4 r (pr.mem_iff.mp hr)
      exact ⟨h1, fun y hy => pm.mem_iff.mpr (h2 y hy), h3⟩
    · have := pr.length_eq
      rw [e] at this
      simp at this
      omega
end
end SA

set_option Elab.async false
set_option linter.all false
set_option maxRecDepth 100000
set_option maxHeartbeats 4000000
namespace SA
open PySem PySem.Spec PyProof.Rows L2
/-- what _law_caught makes of a call: the error that came out, or None -/
def TTc (K : PySem.W.Frag) (SE : Addr) : (XK → Hp → VK → Prop) → Hp → VK → Prop := fun tl H Q => tl (fun cls d H' => PySem.W.exmOne K cls (.ref SE) = some true ∧ ∀ a, H' a = none → Q (.ref a) (upd H' a (HX cls d a))) H (fun _ H' => ∃ v : V, (some (some V.non) : Option (Option V)) = some (some v) ∧ Q v H')
/-- the classes of errors -/
structure ErC (K : PySem.W.Frag) (mg : Str → Option Value) (SE BU NU UR : Addr) : Prop where
  gS : mg "StopError" = some (.ref SE)
  gB : mg "BadUnits" = some (.ref BU)
  gN : mg "NoUnit" = some (.ref NU)
  gR : mg "UsesRing" = some (.ref UR)
  xB : PySem.W.exmOne K (.ref BU) (.ref SE) = some true
  xN : PySem.W.exmOne K (.ref NU) (.ref SE) = some true
  xR : PySem.W.exmOne K (.ref UR) (.ref SE) = some true
  kB : PySem.W.kitOne K (.ref BU) (.ref BU) = some true
  kN : PySem.W.kitOne K (.ref NU) (.ref NU) = some true
  kR : PySem.W.kitOne K (.ref UR) (.ref UR) = some true
  cB : ExcC K BU
  cN : ExcC K NU
  cR : ExcC K UR
  qB : XfC K BU
  qN : XfC K NU
  qR : XfC K UR
  fB : PySem.W.findIn K (.ref BU) "at" = some none
  fN : PySem.W.findIn K (.ref NU) "name" = some none
  fR : PySem.W.findIn K (.ref UR) "ring" = some none
theorem caught_gives {X : Cx} {g SE BU NU UR : Addr} {cdg : Value} {q : Str} (EF : ErC X.K X.mg SE BU NU UR) : GivesV X n__law_caught "_law_caught" (defScope s__law_caught) g cdg (defBody s__law_caught) "work" q (TTc X.K SE) := by
  intro f c' o s H Q tl act hc hf h
  refine ⟨_, pss_cons (ps_set (i := 1) sc__law_caught.nd rfl (.inl rfl) pe_non) (pss_cons (ps_try_hold (i := 2) (X := (cxOf C8.CX0 X.prog X.w X.K X.mg X.base n__law_caught "_law_caught" (defScope s__law_caught) g cdg X.A X.stack s H C8.E0).nox) (c := .ref SE)
      (tb := fun W D σ H => σ[0]? = some (some (.ref f)) ∧ H c' = some (LamX.CodeO c' q) ∧ H f = some o ∧ ∃ E : XK, (∀ cls d H', E cls d H' → W cls d σ H') ∧ tl E H (fun _ H' => D.nx σ H'))
      rfl rfl rfl sc__law_caught.nd rfl rfl ⟨rfl, by decide, .inl EF.gS⟩ LamX.takes0 (fun W pn xe tk _ => pss_one (ps_expr (act W pn xe _ _ tk)))
      (fun a oe cls d pn _ _ => pss_one (ps_set (i := 1) sc__law_caught.nd rfl (.inl rfl) (pv 2))))
    (pss_one (ps_ret (pv 1)))), ?_⟩
  refine ⟨rfl, hc, hf, _, ?_, h⟩
  rintro cls d H' ⟨hx, q⟩
  refine ⟨true, hx, fun z => (nomatch z), fun _ _ a ha => ?_⟩
  exact ⟨_, rfl, _, rfl, q a ha⟩
end SA

set_option Elab.async false
set_option linter.all false
set_option maxRecDepth 100000
set_option maxHeartbeats 4000000
namespace SA
open PySem PySem.Spec PyProof.Rows L2 T02
theorem nm_name : ∀ {i : Nat}, i < 8 → isName (.str (nm i)) = true ∧ fineW 100 (.str (nm i)) = true := by
  have h : ∀ i, i < 8 → isName (.str (nm i)) = true ∧ fineW 100 (.str (nm i)) = true := by decide +kernel
  exact fun {_} hi => h _ hi
def lt8 (l : List Nat) : Prop := ∀ n ∈ l, n < 8
theorem nm_dn {n : Addr → Prop} {H : Hp} : ∀ {w : List Nat}, DnAll n H (nmV w) (nmD w)
  | [] => .nil
  | _ :: w => .cons (.str _) (nm_dn (w := w))
theorem nm_fine : ∀ {w : List Nat}, lt8 w → fineWAll 100 (nmD w) = true
  | [], _ => rfl
  | x :: w, h => by
    show (fineW 100 (.str (nm x)) && fineWAll 100 (nmD w)) = true
    rw [(nm_name (h x List.mem_cons_self)).2, nm_fine (w := w) fun y hy => h y (List.mem_cons_of_mem _ hy)]
    rfl
theorem nm_names {w : List Nat} (h : lt8 w) (h5 : w.length ≤ 5) : areNames 5 (.tuple (nmD w)) = true := by
  have e : (nmD w).length = w.length := List.length_map _
  show (decide (0 ≤ (nmD w).length ∧ (nmD w).length ≤ 5) && (nmD w).all isName) = true
  rw [decide_eq_true (by rw [e]; omega), Bool.true_and, List.all_eq_true]
  intro d hd
  obtain ⟨k, hk, rfl⟩ := List.mem_map.mp hd
  exact (nm_name (h k hk)).1
/-- a unit's tree as data -/
def unitD (n : Nat) (ys : List Nat) : PyData := .tuple [.str "unit", .str (nm n), .tuple (nmD ys), .tuple [], .tuple []]
theorem unit_is {n : Nat} {ys : List Nat} (hn : n < 8) (h : lt8 ys) (h5 : ys.length ≤ 5) : isUnit (unitD n ys) = true := by
  unfold unitD isUnit
  simp only [nm_names h h5, (nm_name hn).1]
  rfl
theorem unit_ok {n : Nat} {ys : List Nat} (hn : n < 8) (h : lt8 ys) (h5 : ys.length ≤ 5) : Ok DD (unitD n ys) := by
  have e : (nmD ys).length = ys.length := List.length_map _
  refine ⟨?_, ?_⟩
  · unfold unitD
    have h1 : fineW 100 (.tuple (nmD ys)) = true := by
      show (decide ((nmD ys).length ≤ 100) && fineWAll 100 (nmD ys)) = true
      rw [nm_fine h, decide_eq_true (by omega)]
      rfl
    have h2 : fineW 100 (.str (nm n)) = true := (nm_name hn).2
    have h3 : fineW 100 (.str "unit") = true := by decide +kernel
    simp only [fine, fineW, fineWAll] at h1 h2 h3 ⊢
    simp [h1, h2, h3]
  · unfold unitD
    simp only [PyData.depth, PyData.depthAll, nm_dep]
    decide
/-- a unit's tree in the heap -/
structure UnAt (H : Hp) (t : Addr) (n : Nat) (ys : List Nat) (b : Addr) : Prop where
  o : ∃ c e, H t = some (.tup [.str "unit", .str (nm n), .ref b, .ref c, .ref e]) ∧ H c = some (.tup []) ∧ H e = some (.tup [])
  b : H b = some (.tup (nmV ys))
theorem TreeAt.un {H : Hp} {t : Addr} {r : Row} (h : TreeAt H t r) : UnAt H t r.1 r.2.1 r.2.2 := ⟨h.o, h.b⟩
theorem UnAt.kp {H H' : Hp} {t b : Addr} {n : Nat} {ys : List Nat} (h : UnAt H t n ys b) (s : KpT H H') : UnAt H' t n ys b := by
  obtain ⟨⟨c, e, h1, h2, h3⟩, h4⟩ := h
  exact ⟨⟨c, e, s _ _ h1, s _ _ h2, s _ _ h3⟩, s _ _ h4⟩
theorem UnAt.dn {H : Hp} {t b : Addr} {n : Nat} {ys : List Nat} (h : UnAt H t n ys b) : Dn anyA H (.ref t) (unitD n ys) := by
  obtain ⟨⟨c, e, h1, h2, h3⟩, h4⟩ := h
  exact .tup trivial h1 (.cons (.str _) (.cons (.str _) (.cons (.tup trivial h4 nm_dn) (.cons (.tup trivial h2 .nil) (.cons (.tup trivial h3 .nil) .nil)))))
theorem UnAt.it {K : PySem.W.Frag} {H : Hp} {t b : Addr} {n : Nat} {ys : List Nat} (h : UnAt H t n ys b) (hn : n < 8) (h8 : lt8 ys) (h5 : ys.length ≤ 5) : ItU K H (.ref t) (nm n) (ys.map nm) b := by
  refine ⟨?_, ?_, _, h.dn, unit_ok hn h8 h5, unit_is hn h8 h5⟩
  · obtain ⟨⟨c, e, h1, _, _⟩, _⟩ := h
    exact ⟨t, _, _, rfl, h1⟩
  · rw [← nmV_str]
    exact SqT.of h.b
/-! #### drawn rows as functions -/
def adjR (rows : List Row) (n : Nat) : List Nat := ((rows.find? fun r => decide (r.1 = n)).map (·.2.1)).getD []
def adR (rows : List Row) (n : Nat) : Addr := ((rows.find? fun r => decide (r.1 = n)).map (·.2.2)).getD default
theorem find_row : ∀ {rows : List Row} {r : Row}, (rows.map (·.1)).Nodup → r ∈ rows → rows.find? (fun q => decide (q.1 = r.1)) = some r
  | [], _, _, h => absurd h List.not_mem_nil
  | q :: rows, r, nd, h => by
    rw [List.find?_cons]
    rw [List.map_cons, List.nodup_cons] at nd
    rcases List.mem_cons.mp h with rfl | h
    · rw [decide_eq_true rfl]
    · rw [decide_eq_false (show ¬ q.1 = r.1 from fun z => nd.1 (z ▸ List.mem_map.mpr ⟨r, h, rfl⟩))]
      exact find_row nd.2 h
theorem adjR_row {rows : List Row} {r : Row} (nd : (rows.map (·.1)).Nodup) (h : r ∈ rows) : adjR rows r.1 = r.2.1 ∧ adR rows r.1 = r.2.2 := by
  unfold adjR adR
  rw [find_row nd h]
  exact ⟨rfl, rfl⟩
theorem adjR_no {rows : List Row} {n : Nat} (h : n ∉ rows.map (·.1)) : adjR rows n = [] := by
  unfold adjR
  have : rows.find? (fun q => decide (q.1 = n)) = none := by
    rw [List.find?_eq_none]
    intro q hq z
    exact h (List.mem_map.mpr ⟨q, hq, of_decide_eq_true z⟩)
  rw [this]
  rfl
theorem RowsOk.gr {rows : List Row} (h : RowsOk rows) : Gr (rows.map (·.1)) (adjR rows) := by
  have two : ∀ n, n ∈ rows.map (·.1) ∨ adjR rows n = [] := fun n => by
    by_cases q : n ∈ rows.map (·.1)
    · exact .inl q
    · exact .inr (adjR_no q)
  refine ⟨h.nd, h.l7, by rw [List.length_map]; exact h.few, fun n => ?_, fun x y hy => ?_⟩
  · rcases two n with q | q
    · obtain ⟨r, hr, rfl⟩ := List.mem_map.mp q
      rw [(adjR_row h.nd hr).1]
      exact (h.u r hr).1
    · rw [q]
      exact List.nodup_nil
  · rcases two x with q | q
    · obtain ⟨r, hr, rfl⟩ := List.mem_map.mp q
      rw [(adjR_row h.nd hr).1] at hy
      exact ⟨q, (h.u r hr).2.1 y hy⟩
    · rw [q] at hy
      exact absurd hy List.not_mem_nil
theorem RowsOk.y7 {rows : List Row} (h : RowsOk rows) {r : Row} (hr : r ∈ rows) : lt8 r.2.1 := fun y hy => Nat.lt_succ_of_lt (h.l7 y ((h.u r hr).2.1 y hy))
theorem RowsOk.n7 {rows : List Row} (h : RowsOk rows) {r : Row} (hr : r ∈ rows) : r.1 < 7 := h.l7 _ (List.mem_map.mpr ⟨r, hr, rfl⟩)
/-- what _checked_uses asks of the trees of drawn rows -/
theorem TreesAt.pre {K : PySem.W.Frag} {H : Hp} {ts : List Addr} {rows : List Row} (T : TreesAt H ts rows) (ok : RowsOk rows) {i n : Nat} (hn : (rows.map (·.1))[i]? = some n) : ∃ x, (ts.map V.ref)[i]? = some x ∧ ItU K H x (nm n) ((adjR rows n).map nm) (adR rows n) := by
  rw [List.getElem?_map] at hn
  obtain ⟨r, hr, rfl⟩ := Option.map_eq_some_iff.mp hn
  obtain ⟨t, ht, hT⟩ := T.at_ hr
  have hm := List.mem_of_getElem? hr
  obtain ⟨e1, e2⟩ := adjR_row ok.nd hm
  refine ⟨.ref t, by rw [List.getElem?_map, ht]; rfl, ?_⟩
  rw [e1, e2]
  exact hT.un.it (Nat.lt_succ_of_lt (ok.n7 hm)) (ok.y7 hm) (ok.u r hm).2.2
/-- drawn units, told rightly -/
theorem TreesAt.chk {K : PySem.W.Frag} {BU NU : Addr} {H : Hp} {E : XK} {a : Addr} {ts : List Addr} {rows : List Row} {good : List Nat → (Nat → List Nat) → (Nat → Addr) → Prop} (T : TreesAt H ts rows) (ok : RowsOk rows) (hne : rows ≠ []) (ea : H a = some (.lst (ts.map V.ref))) (g : good (rows.map (·.1)) (adjR rows) (adR rows)) : ChkL K BU NU (.ref a) H E good := by
  have tl := T.len
  have few := ok.few
  refine .inr (.inr ⟨a, ts.map V.ref, rows.map (·.1), adjR rows, adR rows, rfl, ea, by rw [List.length_map]; omega, ?_, ok.nd, ok.l7, fun i n hn => T.pre ok hn, .inr (.inr ⟨by rw [List.length_map, List.length_map]; exact tl, ok.gr, g⟩)⟩)
  intro z
  have := congrArg List.length z
  rw [List.length_map, tl, List.length_nil] at this
  exact hne (List.length_eq_zero_iff.mp this)
theorem TreesAt.chkT {K : PySem.W.Frag} {BU NU : Addr} {H : Hp} {E : XK} {a : Addr} {ts : List Addr} {rows : List Row} {good : List Nat → (Nat → List Nat) → (Nat → Addr) → Prop} (T : TreesAt H ts rows) (ok : RowsOk rows) (hne : rows ≠ []) (ea : H a = some (.tup (ts.map V.ref))) (g : good (rows.map (·.1)) (adjR rows) (adR rows)) : ChkT K BU NU (.ref a) H E good := by
  have tl := T.len
  have few := ok.few
  refine .inr (.inr ⟨a, ts.map V.ref, rows.map (·.1), adjR rows, adR rows, rfl, ea, by rw [List.length_map]; omega, ?_, ok.nd, ok.l7, fun i n hn => T.pre ok hn, .inr (.inr ⟨by rw [List.length_map, List.length_map]; exact tl, ok.gr, g⟩)⟩)
  intro z
  have := congrArg List.length z
  rw [List.length_map, tl, List.length_nil] at this
  exact hne (List.length_eq_zero_iff.mp this)
end SA

set_option Elab.async false
set_option linter.all false
set_option maxRecDepth 100000
set_option maxHeartbeats 4000000
namespace SA
open PySem PySem.Spec PyProof.Rows L2 T02
theorem sl_tupAK {X : Cx} {K : PySem.W.Frag} (hK : X.K = K) : SlR X (rSlA K) := hK ▸ sl_tupA
theorem sl_listK {X : Cx} {K : PySem.W.Frag} (hK : X.K = K) : SlR X (rSlL K) := hK ▸ sl_list
theorem op_catTK {X : Cx} {K : PySem.W.Frag} (hK : X.K = K) : OpR X (binaryOp .Add) (rCatT K) := hK ▸ op_catT
/-! #### the lambdas of the text -/
def lam0 : Expr → LamD
  | .Lambda ps b sc _ => ⟨ps, b, sc⟩
  | e => ⟨⟨[], [], none, [], [], none, []⟩, e, defScope s_law⟩
def argOf : Expr → Expr
  | .Call _ (a :: _) _ _ => a
  | .List (a :: _) _ => a
  | e => e
def valOf : Stmt → Expr
  | .Assign _ v _ => v
  | .Expr v _ => v
  | _ => .Constant .none 0 ⟨0, 0, 0, 0⟩
def lamAt (b : List Stmt) (k : Nat) : LamD := lam0 (argOf (valOf (b.getD k (.Pass ⟨0, 0, 0, 0⟩))))
abbrev lR (k : Nat) : LamD := lamAt (defBody s__law_refused_right) k
theorem lams_ok : [2, 7, 8, 12, 13, 16].all (fun k => LamX.lamSB (defScope s__law_refused_right) (lR k).scope) = true := by decide +kernel
theorem lRok {k : Nat} (h : k ∈ [2, 7, 8, 12, 13, 16]) : LamX.LamS (defScope s__law_refused_right) (lR k).scope := LamX.lamS_by (List.all_eq_true.mp lams_ok k h)
/-- what is asked of each lambda -/
def LamOk (X : Cx) (k : Nat) (l : LamD × (XK → TE)) : Prop := LamX.LamS X.env.scope l.1.scope ∧ (∀ (q : Str) (cl : List (Str × Addr)) (pm cv ctv : Value), bindArgs (PySem.W.kla_fn "<lambda>" q l.1.params l.1.body l.1.scope cl pm cv ctv) ⟨[], []⟩ = pure []) ∧
      ∀ (A : Around) (outer : List Env) (s : Shared) (H : Hp) (E : XK) (f c' : Addr), Room k (A.deeper (LamX.lamEnv X l.1.scope s.heap.objs.size f c')) → PE (LamX.lamCx X A outer s H E l.1.scope f c') l.1.body (l.2 E)
def LamsOk (X : Cx) (k : Nat) (ls : List (LamD × (XK → TE))) : Prop := ∀ l ∈ ls, LamOk X k l
theorem one_lam {X : Cx} {k : Nat} {l : LamD × (XK → TE)} (h : LamOk X k l) : LamsOk X k [l] := fun x hx => List.mem_singleton.mp hx ▸ h
theorem two_lams {X : Cx} {k : Nat} {l m : LamD × (XK → TE)} (h : LamOk X k l) (h2 : LamOk X k m) : LamsOk X k [l, m] := fun x hx => by
  rcases List.mem_cons.mp hx with rfl | hx
  · exact h
  · exact List.mem_singleton.mp hx ▸ h2
/-- _law_caught(e), e one of the lambdas ls -/
theorem pe_caught {X : Cx} {fC SE BU NU UR : Addr} {fdC : FuncData} {k : Nat} {ls : List (LamD × (XK → TE))} {e : Expr} {te : TE} {p pos : Pos} (FC : Fun X.K "_law_caught" "_law_caught" s__law_caught fC fdC) (NC : Nm X.K X.mg "_law_caught" fC fdC ["work"]) (EF : ErC X.K X.mg SE BU NU UR)
    (hg : Gl X "_law_caught") (hr : Room (k + 2) X.A) (he : PE X e te) (hst : starEach [e] X.env = (false, eval e X.env) :: starEach [] X.env)
    (hl : LamsOk X k ls) (hpl : (backTo pos (starEach [e] X.env)).any (·.1) = false := by rfl) :
    PE X (.Call (.Name "_law_caught" p) [e] [] pos) (tCallV X ls (TTc X.K SE) te) := by
  obtain ⟨oc, od, kV, doc, pm, an, cdv, ct, osl, rfl, lkC, hcdC⟩ := FC.ex
  exact pe_callV (Ng := n__law_caught) hg NC.g NC.k lkC hcdC NC.b sc__law_caught rfl (.inl rfl) (caught_gives EF) hr he hst hl (by decide) (by decide) (by decide) hpl
end SA

set_option Elab.async false
set_option linter.all false
set_option maxRecDepth 100000
set_option maxHeartbeats 4000000
namespace SA
open PySem PySem.Spec PyProof.Rows L2 T02
/-- the first units are right, what stands behind them is none, or the first again -/
theorem TreesAt.bad {K : PySem.W.Frag} {BU NU : Addr} {H : Hp} {E : XK} {a : Addr} {ts : List Addr} {rows : List Row} {good : List Nat → (Nat → List Nat) → (Nat → Addr) → Prop} {k : Nat} {bad : V} {rest : List V} (T : TreesAt H ts rows) (ok : RowsOk rows) (hk : k ≤ ts.length)
    (ea : H a = some (.lst ((ts.take k).map V.ref ++ bad :: rest))) (hr : rest.length ≤ 50) (hb : BadIt H bad ∨ (1 ≤ k ∧ ∃ t0, ts[0]? = some t0 ∧ bad = .ref t0)) (rz : RaiseF BU "at" (.int (k : Nat)) H E) : ChkL K BU NU (.ref a) H E good := by
  have tl := T.len
  have few := ok.few
  have nl : ((rows.take k).map (·.1)).length = k := by rw [List.length_map, List.length_take]; omega
  have tk : ((ts.take k).map V.ref).length = k := by rw [List.length_map, List.length_take]; omega
  have sub : ((rows.take k).map (·.1)).Sublist (rows.map (·.1)) := (List.take_sublist k rows).map _
  refine .inr (.inr ⟨a, _, (rows.take k).map (·.1), adjR rows, adR rows, rfl, ea, ?_, ?_, ok.nd.sublist sub, fun x hx => ok.l7 x (sub.subset hx), fun i n hn => ?_, .inl ⟨bad, ?_, ?_, ?_⟩⟩)
  · rw [List.length_append, tk, List.length_cons]
    omega
  · intro z
    have := congrArg List.length z
    rw [List.length_append, List.length_cons, List.length_nil] at this
    omega
  · have hi : i < k := by
      have := (List.getElem?_eq_some_iff.mp hn).1
      omega
    have hn2 : (rows.map (·.1))[i]? = some n := by
      rw [List.getElem?_map] at hn ⊢
      rw [List.getElem?_take_of_lt hi] at hn
      exact hn
    obtain ⟨x, hx, iu⟩ := T.pre (K := K) ok hn2
    refine ⟨x, ?_, iu⟩
    rw [List.getElem?_append_left (by rw [tk]; exact hi), List.getElem?_map, List.getElem?_take_of_lt hi, ← List.getElem?_map]
    exact hx
  · rw [nl, List.getElem?_append_right (by rw [tk]; exact Nat.le_refl _), tk, Nat.sub_self]
    rfl
  · rcases hb with hb | ⟨h1, t0, ht0, rfl⟩
    · exact .inl hb
    · have hr0 : 0 < rows.length := by omega
      obtain ⟨r0, hr1⟩ : ∃ r0, rows[0]? = some r0 := ⟨_, List.getElem?_eq_getElem hr0⟩
      obtain ⟨t, ht, hT⟩ := T.at_ hr1
      obtain rfl : t0 = t := Option.some.inj (ht0.symm.trans ht)
      have hm := List.mem_of_getElem? hr1
      refine .inr ⟨r0.1, List.mem_map.mpr ⟨r0, List.mem_of_getElem? (i := 0) (by rw [List.getElem?_take_of_lt (by omega)]; exact hr1), rfl⟩, _, _, hT.un.it (Nat.lt_succ_of_lt (ok.n7 hm)) (ok.y7 hm) (ok.u r0 hm).2.2⟩
  · rw [nl]
    exact rz
/-- all units are right but that one's uses name what is none -/
theorem UnAt.unk {K : PySem.W.Frag} {BU NU : Addr} {H : Hp} {E : XK} {a : Addr} {ts : List Addr} {rows : List Row} {good : List Nat → (Nat → List Nat) → (Nat → Addr) → Prop} {xs : List V} {ys : List Nat} {j : Nat} {rj : Row} {tn bn : Addr} (T : TreesAt H ts rows) (ok : RowsOk rows) (hj : rows[j]? = some rj)
    (ea : H a = some (.lst ((ts.set j tn).map V.ref))) (hu : UnAt H tn rj.1 ys bn) (h8 : ∀ y ∈ ys, y = 7 ∨ y ∈ rows.map (·.1)) (h7 : 7 ∈ ys) (h5 : ys.length ≤ 5) (rz : RaiseF NU "name" (.str (nm 7)) H E) : ChkL K BU NU (.ref a) H E good := by
  have tl := T.len
  have few := ok.few
  have jl := (List.getElem?_eq_some_iff.mp hj).1
  have rjm := List.mem_of_getElem? hj
  have lt8' : lt8 ys := fun y hy => by
    rcases h8 y hy with rfl | q
    · decide
    · exact Nat.lt_succ_of_lt (ok.l7 y q)
  refine .inr (.inr ⟨a, _, rows.map (·.1), fun n => if n = rj.1 then ys else adjR rows n, fun n => if n = rj.1 then bn else adR rows n, rfl, ea, by rw [List.length_map, List.length_set]; omega, ?_, ok.nd, ok.l7, fun i n hn => ?_, .inr (.inl ⟨by rw [List.length_map, List.length_set, List.length_map]; exact tl, ⟨rj.1, List.mem_map.mpr ⟨rj, rjm, rfl⟩, by simp only [if_pos]; exact h7⟩, fun n hn y hy => ?_, rz⟩)⟩)
  · intro z
    have := congrArg List.length z
    rw [List.length_map, List.length_set, List.length_nil] at this
    omega
  · by_cases e : n = rj.1
    · subst e
      have hij : i = j := by
        have h2 : (rows.map (·.1))[j]? = some rj.1 := by rw [List.getElem?_map, hj]; rfl
        have il := (List.getElem?_eq_some_iff.mp hn).1
        exact (List.getElem?_inj il ok.nd).mp (hn.trans h2.symm)
      subst hij
      refine ⟨.ref tn, ?_, ?_⟩
      · rw [List.getElem?_map, List.getElem?_set_self (by omega)]
        rfl
      · simp only [if_pos]
        exact hu.it (Nat.lt_succ_of_lt (ok.n7 rjm)) lt8' h5
    · obtain ⟨x, hx, iu⟩ := T.pre (K := K) ok hn
      have hij : j ≠ i := fun z => by
        subst z
        rw [List.getElem?_map, hj] at hn
        exact e (Option.some.inj hn).symm
      refine ⟨x, ?_, by simp only [if_neg e]; exact iu⟩
      rw [List.getElem?_map, List.getElem?_set_ne hij, ← List.getElem?_map]
      exact hx
  · dsimp only at hy
    by_cases e : n = rj.1
    · rw [if_pos e] at hy
      exact h8 y hy
    · rw [if_neg e] at hy
      exact .inr (ok.gr.cl _ _ hy).2
end SA

set_option Elab.async false
set_option linter.all false
set_option maxRecDepth 100000
set_option maxHeartbeats 4000000
namespace SA
open PySem PySem.Spec PyProof.Rows L2 T02
theorem Fun.okGC {P : Program} {w : World} {K : PySem.W.Frag} {mg : Str → Option Value} {base : Heap} {x qual : Str} {st : Stmt} {f c : Addr} {fd : FuncData} {N ps : List Str} {k : Nat} {sp : Sp} (F : Fun K x qual st f fd) (hc : fd.code = .ref c) (S : FnScope N ps (defScope st)) (hl : ∀ vs H Q E, sp vs H Q E → vs.length = ps.length)
    (body : ∀ (A : Around) (outer : List Env) (s : Shared) (H : Hp) (vs : List V) (Q : VK) (E : XK), (A.deeper (envOfC qual (defScope st) s.heap.objs.size f (.ref c))).guards = some [] → Room k (A.deeper (envOfC qual (defScope st) s.heap.objs.size f (.ref c))) → sp vs H Q E →
      ∃ t, PSs (cxOf CX0 P w K mg base N qual (defScope st) f (.ref c) A outer s H E).nox (defBody st) t ∧ t { nx := fun _ H' => Q .non H', rt := Q } (L2.start N vs) H) : FnG P w K mg base (k + 1) f fd ps sp := by
  obtain ⟨oc, od, kV, doc, pm, an, cdv, ct, osl, rfl, lk, hcd⟩ := F.ex
  have ec : cdv = .ref c := hc
  subst ec
  refine ⟨hl, fun A outer s H args us vs Q E hg rm env hb r hs => ?_⟩
  refine LamX.run_ofS (k := k) (N := N) (ps := ps) (us := us) (vs := vs) (Q := Q) (E := E) lk hcd S rm env hb r (hl _ _ _ _ hs) fun rm' => ?_
  obtain ⟨t, h1, h2⟩ := body A outer s H vs Q E hg rm' hs
  exact ⟨t, h1.nox, h2⟩
/-! ### all but the draw and the tables of code stay -/
def ButT (d w : Addr) (H H' : Hp) : Prop := ∀ b o, H b = some o → b ≠ d → b ≠ w → (∀ ps, o ≠ .tbl ps) → H' b = some o
theorem ButT.trans {d w : Addr} {H H1 H2 : Hp} (a : ButT d w H H1) (b : ButT d w H1 H2) : ButT d w H H2 := fun x o e h1 h2 h3 => b x o (a x o e h1 h2 h3) h1 h2 h3
theorem But2.t {d w : Addr} {H H1 : Hp} (a : But2 d w H H1) : ButT d w H H1 := fun x o e h1 h2 _ => a x o e h1 h2
theorem ext_t {d w : Addr} {H H1 : Hp} (a : LamX.ExtN H H1) : ButT d w H H1 := fun x o e _ _ h => a x o e h
/-- the draw's own things are no tables -/
theorem DrawAt.ext {H H' : Hp} {d w c : Addr} {n : Nat} (h : DrawAt H d w c n) (s : LamX.ExtN H H') : DrawAt H' d w c n := by
  obtain ⟨⟨r, t, h1, h2, e1⟩, ⟨ws, e2⟩, ⟨cs, e3⟩, h4⟩ := h
  exact ⟨⟨r, t, h1, h2, s _ _ e1 (fun _ z => nomatch z)⟩, ⟨ws, s _ _ e2 (fun _ z => nomatch z)⟩, ⟨cs, s _ _ e3 (fun _ z => nomatch z)⟩, h4⟩
/-- a draw keeps the tables of code -/
theorem tabs_draw {T : List (Addr × Str)} {H H' : Hp} {d w c : Addr} {n : Nat} (t : LamX.Tabs T H) (D : DrawAt H d w c n) (b : But2 d w H H') : LamX.Tabs T H' := by
  obtain ⟨⟨r, tt, h1, h2, e1⟩, ⟨ws, e2⟩, _, _⟩ := D
  intro p hp
  obtain ⟨ps, k1, k2, k3⟩ := t p hp
  have kp : ∀ (a : Addr) (o : HO), H a = some o → (∀ kv, o ≠ .dK kv) → (∀ xs, o ≠ .lst xs) → H' a = some o := fun a o e n1 n2 => b a o e (fun z => by
    subst z
    rw [e1] at e
    cases e
    exact n1 _ rfl) (fun z => by
    subst z
    rw [e2] at e
    cases e
    exact n2 _ rfl)
  refine ⟨ps, kp _ _ k1 (fun _ z => nomatch z) (fun _ z => nomatch z), k2, fun pos cv hc => ?_⟩
  obtain ⟨cc, e, ec⟩ := k3 pos cv hc
  exact ⟨cc, e, kp _ _ ec (fun _ z => nomatch z) (fun _ z => nomatch z)⟩

def qRef : Str := (envOfC "_law_refused_right" (defScope s__law_refused_right) 0 0 .none).qual ++ "<lambda>"
def kwU {α : Type} : List α → List α → List α
  | [], [a, b] => [a, b]
  | _, _ => []
/-- what stands all along -/
structure RfAt (T : List (Addr × Str)) (H H' : Hp) (d w c a tr : Addr) (n : Nat) (pas ts : List Addr) (rows : List Row) : Prop where
  D : DrawAt H' d w c n
  b : ButT d w H H'
  t : LamX.Tabs T H'
  ad : a ≠ d
  aw : a ≠ w
  td : tr ≠ d
  tw : tr ≠ w
  ea : H' a = some (.lst (pas.map V.ref))
  R : RowsAt H' pas rows
  et : H' tr = some (.lst (ts.map V.ref))
  Tr : TreesAt H' ts rows
section
variable {T : List (Addr × Str)} {H H' H2 : Hp} {d w c a tr : Addr} {n m : Nat} {pas ts : List Addr} {rows : List Row}
theorem RfAt.same (h : RfAt T H H' d w c a tr n pas ts rows) (s : Same H' H2) : RfAt T H H2 d w c a tr n pas ts rows :=
  ⟨h.D.same s, h.b.trans (But2.t (Same.but2 s)), h.t.ext s, h.ad, h.aw, h.td, h.tw, s _ _ h.ea, h.R.kp (Same.kpT s), s _ _ h.et, h.Tr.kp (Same.kpT s)⟩
theorem RfAt.draw (h : RfAt T H H' d w c a tr n pas ts rows) (D : DrawAt H2 d w c m) (b : But2 d w H' H2) : RfAt T H H2 d w c a tr m pas ts rows :=
  ⟨D, h.b.trans (But2.t b), tabs_draw h.t h.D b, h.ad, h.aw, h.td, h.tw, b _ _ h.ea h.ad h.aw, h.R.kp (But2.kpT h.D b), b _ _ h.et h.td h.tw, h.Tr.kp (But2.kpT h.D b)⟩
theorem ext_kpT (e : LamX.ExtN H' H2) : KpT H' H2 := fun b xs h => e b _ h fun _ z => nomatch z
theorem RfAt.ext (h : RfAt T H H' d w c a tr n pas ts rows) (e : LamX.ExtN H' H2) (t : LamX.Tabs T H2) : RfAt T H H2 d w c a tr n pas ts rows :=
  ⟨h.D.ext e, h.b.trans (ext_t e), t, h.ad, h.aw, h.td, h.tw, e _ _ h.ea (fun _ z => nomatch z), h.R.kp (ext_kpT e), e _ _ h.et (fun _ z => nomatch z), h.Tr.kp (ext_kpT e)⟩
theorem RfAt.mono (h : RfAt T H H' d w c a tr n pas ts rows) (l : n ≤ m) : RfAt T H H' d w c a tr m pas ts rows := ⟨h.D.mono l, h.b, h.t, h.ad, h.aw, h.td, h.tw, h.ea, h.R, h.et, h.Tr⟩
end
/-- no list of units -/
def OddK (H : Hp) (x : V) : Prop := (∃ d, Dn anyA H x d ∧ kindD d ≠ "list" ∧ kindD d ≠ "tuple") ∨ ∃ a, x = .ref a ∧ (H a = some (.lst []) ∨ H a = some (.tup []))
theorem OddK.ext {H H' : Hp} {x : V} (h : OddK H x) (e : LamX.ExtN H H') : OddK H' x := by
  rcases h with ⟨d, h1, h2⟩ | ⟨a, rfl, h | h⟩
  · refine .inl ⟨d, ?_, h2⟩
    refine Dn.rec (motive_1 := fun v d _ => Dn anyA H' v d) (motive_2 := fun vs ds _ => DnAll anyA H' vs ds) .non .bl .int .str (fun h1 h2 _ ih => .lst h1 (e _ _ h2 fun _ z => nomatch z) ih) (fun h1 h2 _ ih => .tup h1 (e _ _ h2 fun _ z => nomatch z) ih) (fun h1 h2 => .dct h1 (e _ _ h2 fun _ z => nomatch z)) .nil (fun _ _ a b => .cons a b) h1
  · exact .inr ⟨a, rfl, .inl (e _ _ h fun _ z => nomatch z)⟩
  · exact .inr ⟨a, rfl, .inr (e _ _ h fun _ z => nomatch z)⟩
/-- neither the draw's dict nor its list -/
def offA (d w : Addr) : Addr → Prop := fun b => b ≠ d ∧ b ≠ w
theorem ButT.dnO {d w : Addr} {H H' : Hp} (b : ButT d w H H') {v : V} {x : PyData} (h : Dn (offA d w) H v x) : Dn (offA d w) H' v x := by
  refine Dn.rec (motive_1 := fun v x _ => Dn (offA d w) H' v x) (motive_2 := fun vs ds _ => DnAll (offA d w) H' vs ds) .non .bl .int .str (fun h1 h2 _ ih => .lst h1 (b _ _ h2 h1.1 h1.2 (fun _ z => nomatch z)) ih) (fun h1 h2 _ ih => .tup h1 (b _ _ h2 h1.1 h1.2 (fun _ z => nomatch z)) ih) (fun h1 h2 => .dct h1 (b _ _ h2 h1.1 h1.2 (fun _ z => nomatch z))) .nil (fun _ _ a b => .cons a b) h
def BadO (d w : Addr) (H : Hp) (x : V) : Prop := ∃ D, Dn (offA d w) H x D ∧ Ok DD D ∧ isUnit D = false
theorem BadO.but {d w : Addr} {H H' : Hp} {x : V} (h : BadO d w H x) (b : ButT d w H H') : BadO d w H' x := by
  obtain ⟨D, h1, h2⟩ := h
  exact ⟨D, b.dnO h1, h2⟩
theorem BadO.it {d w : Addr} {H : Hp} {x : V} (h : BadO d w H x) : BadIt H x := by
  obtain ⟨D, h1, h2, h3⟩ := h
  exact ⟨D, h1.any, h2, h3⟩
theorem Dn.keepM {n m : Addr → Prop} {H H' : Hp} (k : ∀ b o, n b → H b = some o → (∀ ps, o ≠ .tbl ps) → H' b = some o ∧ m b) {v : V} {x : PyData} (h : Dn n H v x) : Dn m H' v x := by
  refine Dn.rec (motive_1 := fun v x _ => Dn m H' v x) (motive_2 := fun vs ds _ => DnAll m H' vs ds) .non .bl .int .str (fun h1 h2 _ ih => ?_) (fun h1 h2 _ ih => ?_) (fun h1 h2 => ?_) .nil (fun _ _ a b => .cons a b) h
  · obtain ⟨e, q⟩ := k _ _ h1 h2 (fun _ z => nomatch z)
    exact .lst q e ih
  · obtain ⟨e, q⟩ := k _ _ h1 h2 (fun _ z => nomatch z)
    exact .tup q e ih
  · obtain ⟨e, q⟩ := k _ _ h1 h2 (fun _ z => nomatch z)
    exact .dct q e
/-- no unit, told by things that are none of the draw's, nor wk -/
def BadP (d w wk : Addr) (H : Hp) (x : V) : Prop := ∃ D, Dn (fun b => offA d w b ∧ b ≠ wk) H x D ∧ Ok DD D ∧ isUnit D = false
theorem BadO.fresh {d w wk : Addr} {H : Hp} {x : V} (h : BadO d w H x) (hn : H wk = none) : BadP d w wk H x := by
  obtain ⟨D, h1, h2⟩ := h
  exact ⟨D, h1.keepM fun b o nb e _ => ⟨e, nb, ne_of_none e hn⟩, h2⟩
theorem BadP.but {d w wk : Addr} {H H' : Hp} {x : V} (h : BadP d w wk H x) (b : ButT d w H H') : BadP d w wk H' x := by
  obtain ⟨D, h1, h2⟩ := h
  exact ⟨D, h1.keepM fun x o nb e nt => ⟨b x o e nb.1.1 nb.1.2 nt, nb⟩, h2⟩
theorem BadP.put {d w wk : Addr} {H : Hp} {x : V} {o : HO} (h : BadP d w wk H x) : BadP d w wk (upd H wk o) x := by
  obtain ⟨D, h1, h2⟩ := h
  exact ⟨D, h1.keepM fun x u nb e _ => ⟨by rw [upd_ne nb.2]; exact e, nb⟩, h2⟩
theorem BadP.it {d w wk : Addr} {H : Hp} {x : V} (h : BadP d w wk H x) : BadIt H x := by
  obtain ⟨D, h1, h2, h3⟩ := h
  exact ⟨D, h1.any, h2, h3⟩
theorem tup_off {H : Hp} {d w c b : Addr} {n : Nat} {xs : List V} (D : DrawAt H d w c n) (e : H b = some (.tup xs)) : offA d w b := by
  obtain ⟨⟨_, _, _, _, e1⟩, ⟨_, e2⟩, _⟩ := D
  exact ⟨fun z => (by rw [z, e1] at e; cases e), fun z => (by rw [z, e2] at e; cases e)⟩
/-- a unit's parts as data -/
def partsD (n : Nat) (ys : List Nat) : List PyData := [.str "unit", .str (nm n), .tuple (nmD ys), .tuple [], .tuple []]
theorem parts_fine {n : Nat} {ys : List Nat} (hn : n < 8) (h : lt8 ys) (h5 : ys.length ≤ 5) : fineWAll 100 (partsD n ys) = true ∧ PyData.depthAll (partsD n ys) ≤ 5 := by
  have e := (unit_ok hn h h5).1
  have e2 : fineW 100 (.tuple (partsD n ys)) = true := e
  simp only [fineW, Bool.and_eq_true] at e2
  refine ⟨e2.2, ?_⟩
  unfold partsD
  simp only [PyData.depth, PyData.depthAll, nm_dep]
  decide
theorem tabs_put {T : List (Addr × Str)} {H : Hp} {p : Addr} {xs ys : List V} (t : LamX.Tabs T H) (e : H p = some (.lst xs)) : LamX.Tabs T (upd H p (.lst ys)) := by
  intro q hq
  obtain ⟨ps, k1, k2, k3⟩ := t q hq
  refine ⟨ps, ?_, k2, fun pos cv hc => ?_⟩
  · rw [upd_ne (fun z => by rw [z, e] at k1; cases k1)]
    exact k1
  · obtain ⟨c0, e0, ec⟩ := k3 pos cv hc
    refine ⟨c0, e0, ?_⟩
    rw [upd_ne (fun z => by rw [z, e] at ec; cases ec)]
    exact ec
/-- nothing of the beginning stands there, but perhaps a table -/
def NewT (H : Hp) (p : Addr) : Prop := ∀ o, H p = some o → ∃ ps, o = .tbl ps
theorem ButT.newT {d w p : Addr} {H H' : Hp} (b : ButT d w H H') (hp : H' p = none) (pd : p ≠ d) (pw : p ≠ w) : NewT H p := fun o e => by
  apply Classical.byContradiction
  intro z
  have := b p o e pd pw (fun ps q => z ⟨ps, q⟩)
  rw [hp] at this
  cases this
theorem ButT.putN {d w p : Addr} {H H' : Hp} {o : HO} (b : ButT d w H H') (h : NewT H p) : ButT d w H (upd H' p o) := fun x u e h1 h2 h3 => by
  rw [upd_ne (fun z => by
    obtain ⟨ps, q⟩ := h u (z ▸ e)
    exact h3 ps q)]
  exact b x u e h1 h2 h3
/-- a list of one's own is written -/
theorem RfAt.put {T : List (Addr × Str)} {H H' : Hp} {d w c a tr p : Addr} {n : Nat} {pas ts : List Addr} {rows : List Row} {xs ys : List V} (h : RfAt T H H' d w c a tr n pas ts rows) (e : H' p = some (.lst xs)) (hn : NewT H p) (pd : p ≠ d) (pw : p ≠ w) (pc : p ≠ c) (pa : p ≠ a) (pt : p ≠ tr) : RfAt T H (upd H' p (.lst ys)) d w c a tr n pas ts rows :=
  ⟨h.D.upd pd pw pc, h.b.putN hn, tabs_put h.t e, h.ad, h.aw, h.td, h.tw, by rw [upd_ne pa.symm]; exact h.ea, h.R.kp (KpT.put e (fun _ z => nomatch z)), by rw [upd_ne pt.symm]; exact h.et, h.Tr.kp (KpT.put e (fun _ z => nomatch z))⟩
/-- a lambda of the def stands there -/
def LamAt (X : Cx) (H : Hp) (l : LamD) (g : Addr) : Prop := ∃ c', H g = some (LamO l (X.env.qual ++ "<lambda>") (l.cl X) g c') ∧ H c' = some (LamX.CodeO c' (X.env.qual ++ "<lambda>"))
theorem LamAt.ext {X : Cx} {H H' : Hp} {l : LamD} {g : Addr} (h : LamAt X H l g) (e : LamX.ExtN H H') : LamAt X H' l g := by
  obtain ⟨c', h1, h2⟩ := h
  exact ⟨c', e _ _ h1 (fun ps => lamO_net ps), e _ _ h2 LamX.codeO_ne⟩
theorem LamAt.same {X : Cx} {H H' : Hp} {l : LamD} {g : Addr} (h : LamAt X H l g) (e : Same H H') : LamAt X H' l g := by
  obtain ⟨c', h1, h2⟩ := h
  exact ⟨c', e _ _ h1, e _ _ h2⟩
theorem LamAt.put {X : Cx} {H : Hp} {l : LamD} {g p : Addr} {xs ys : List V} (h : LamAt X H l g) (e : H p = some (.lst xs)) : LamAt X (upd H p (.lst ys)) l g := by
  obtain ⟨c', h1, h2⟩ := h
  refine ⟨c', ?_, ?_⟩
  · rw [upd_ne (fun z => by rw [z, e] at h1; unfold LamO at h1; cases h1)]
    exact h1
  · rw [upd_ne (fun z => by rw [z, e] at h2; cases h2)]
    exact h2
theorem cutV_4 {xs : List V} : cutV xs none (some 4) = xs.take 4 := by
  by_cases h : 4 ≤ xs.length
  · exact cutV_to (k := 4) h
  · unfold cutV
    have e : HT.sIx xs.length xs.length (some ((4 : Nat) : Int)) = xs.length := by
      rw [HT.sIx_nat]
      omega
    have e2 : HT.sIx xs.length xs.length (some (4 : Int)) = xs.length := e
    rw [e2, HT.sIx_none, List.drop_zero, List.take_of_length_le (by omega), List.take_of_length_le (by omega)]
theorem tE_either {te : TE} {σ : L2.St} {H : Hp} {Q : VK} (G : V → Hp → Prop) (h : ∀ R : VK, (∀ v H', G v H' → R v H') → te σ H R) (q : ∀ v H', G v H' → Q v H') : te σ H Q := h _ q
theorem ttc_raise {K : PySem.W.Frag} {SE C : Addr} {tl : XK → Hp → VK → Prop} {H : Hp} {Q : VK} {fl : Str} {v : V} (hx : PySem.W.exmOne K (.ref C) (.ref SE) = some true) (ht : ∀ (E : XK) (Q' : VK), RaiseF C fl v H E → tl E H Q') (q : ∀ (H' : Hp) (dx y : Addr), Same H H' → H' dx = some (.xd [(fl, v)]) → H' y = none → Q (.ref y) (upd H' y (HX (.ref C) (some dx) y))) : TTc K SE tl H Q :=
  ht _ _ fun dx H' s _ e => ⟨hx, fun y hy => q H' dx y s e hy⟩
theorem cutV_from {xs : List V} {k : Nat} (hk : k ≤ xs.length) : cutV xs (some (k : Int)) none = xs.drop k := by
  unfold cutV
  rw [sIx_at hk, HT.sIx_none, List.take_of_length_le]
  rw [List.length_drop]
  exact Nat.le_refl _
def OddN (n : Nat) (H : Hp) (x : V) : Prop := (x = .str (nm 7) ∨ x = .non ∨ x = .int 5 ∨ x = .str "") ∨ ∃ p, x = .ref p ∧ H p = some (.tup [.str (nm n)])
theorem OddN.kp {n : Nat} {H H' : Hp} {x : V} (h : OddN n H x) (k : KpT H H') : OddN n H' x := h.imp id fun ⟨p, e, q⟩ => ⟨p, e, k _ _ q⟩
theorem nm_gd : ∀ {i : Nat}, i < 8 → Gd (.str (nm i)) := by
  have h : ∀ i, i < 8 → (nm i).length ≤ 1000 ∧ (nm i).cps.toList.all (fun c => decide (c < 128)) = true := by decide +kernel
  intro i hi
  obtain ⟨h1, h2⟩ := h i hi
  exact gd_str h1 fun c hc => of_decide_eq_true (List.all_eq_true.mp h2 c hc)
theorem OddN.dn {K : PySem.W.Frag} {n : Nat} {H : Hp} {x : V} (hn : n < 7) (h : OddN n H x) : ∃ D, Dn anyA H x D ∧ (∀ m, m < 7 → isS (nm m) D = false) ∧ Sh K H x D := by
  rcases h with (rfl | rfl | rfl | rfl) | ⟨p, rfl, e⟩
  · exact ⟨_, .str _, by decide +kernel, .str _, nm_gd (by decide)⟩
  · exact ⟨_, .non, fun _ _ => rfl, .non, gd_none⟩
  · exact ⟨_, .int 5, fun _ _ => rfl, .int 5, gd_int (by decide)⟩
  · exact ⟨_, .str _, by decide +kernel, .str _, gd_str (by decide) (by decide)⟩
  · refine ⟨.tuple [.str (nm n)], .tup trivial e (.cons (.str _) .nil), fun _ _ => rfl, .tup (SqT.of e) (.cons (.str _) .nil), ?_⟩
    have h : ∀ i, i < 7 → (PyData.tuple [.str (nm i)]).showable = true ∧ (PyData.tuple [.str (nm i)]).leavesShort 40 = true ∧ (PyData.tuple [.str (nm i)]).weight ≤ 10000 ∧ (PyData.tuple [.str (nm i)]).depth ≤ 60 := by decide +kernel
    obtain ⟨h1, h2, h3, h4⟩ := h n hn
    exact gd_of h1 h2 h3 h4
def spRef (T : List (Addr × Str)) : Sp := fun vs H Q _ => ∃ (d w c a : Addr) (n : Nat) (pas : List Addr) (rows : List Row), vs = [.ref d, .ref a] ∧ LamX.Tabs T H ∧ DrawAt H d w c n ∧ n < 2 ^ 38 ∧ H a = some (.lst (pas.map V.ref)) ∧ a ≠ d ∧ a ≠ w ∧ RowsAt H pas rows ∧ RowsOk rows ∧ rows ≠ [] ∧
  ∀ H', DrawAt H' d w c (n + 10) → ButT d w H H' → LamX.Tabs T H' → Q (.bl true) H'
section
variable {P : Program} {w0 : World} {K : PySem.W.Frag} {mg : Str → Option Value} {base : Heap} {SE BU NU UR : Addr}
theorem ok_refused {T : List (Addr × Str)} {f fC cc Pu : Addr} {fd fdC : FuncData} (F : Fun K "_law_refused_right" "_law_refused_right" s__law_refused_right f fd) (hc : fd.code = .ref cc) (TB : LamX.TabB base mg cc Pu) (hmT : (Pu, qRef) ∈ T) (hu2 : ∀ p ∈ T, p.1 = Pu → p.2 = qRef) (B : Bn11 mg) (SK : SysK K)
    (FC : Fun K "_law_caught" "_law_caught" s__law_caught fC fdC) (NC : Nm K mg "_law_caught" fC fdC ["work"]) (EF : ErC K mg SE BU NU UR)
    (c__law_take : Dq P w0 K mg base CX0 2 "_law_take" ["draw", "many"] spTake) (c__law_pick : Dq P w0 K mg base CX0 3 "_law_pick" ["draw", "some"] (spPick K)) (c__law_trees : Dq P w0 K mg base CX0 1 "_law_trees" ["pairs"] (spTrees K))
    (c_order_of : Dq P w0 K mg base (L2.CX P w0) (LE DD + 4) "order_of" ["units"] (spOfL K BU NU UR)) (c_users_of : Dq P w0 K mg base (L2.CX P w0) (LE DD + 4) "users_of" ["units", "name"] (spUsr K BU NU)) (k_users_of : Dk P w0 K mg base (L2.CX P w0) (LE DD + 4) "users_of" ["units", "name"] ["units", "name"] kwU (spUsr K BU NU)) :
    FnG P w0 K mg base (LE DD + 7) f fd ["draw", "pairs"] (spRef T) := by
  refine Fun.okGC F hc sc__law_refused_right (fun vs H Q E h => ?_) (fun A outer s H vs Q E hg hr h => ?_)
  · obtain ⟨d, w, c, a, n, pas, rows, rfl, _⟩ := h
    rfl
  · obtain ⟨d, w, c, a, n, pas, rows, rfl, hT, D0, hn, ea, ad, aw, R0, ok, hne, q⟩ := h
    refine ⟨_, (Evl.pss_cut (ps_set (i := 12) sc__law_refused_right.nd rfl (Or.inr rfl) (pe_q c__law_trees hr (by decide) (by rfl) (pa_cons (pv 1) pa_nil)))
      (Evl.pss_cut (ps_set (i := 10) sc__law_refused_right.nd rfl (Or.inr rfl) (pe_q c__law_pick hr (by decide) (by rfl) (pa_cons (pv 0) (pa_cons (pe_lst (pa_cons pe_non (pa_cons pe_int (pa_cons pe_str (pa_cons (pe_lst pa_nil) (pa_cons (pe_tup pa_nil) (pa_cons pe_dnewK (pa_cons (pe_ix ix_tup (pe_ix ix_list (pv 12) pe_int (fun _ _ => rfl)) pe_int (fun _ _ => rfl)) pa_nil)))))))) pa_nil))))
      (Evl.pss_cut (ps_set (i := 2) sc__law_refused_right.nd rfl (Or.inl rfl) (pe_caught (ls := [((lR 2), _)]) FC NC EF (by rfl) hr (pe_lamV (d := (lR 2)) rfl TB (by rfl) hmT hu2 rfl (lRok (k := 2) (by decide))) (by rfl) (one_lam ⟨(lRok (k := 2) (by decide)), fun _ _ _ _ _ => rfl, fun A' outer' s' H' E' f' c' hr' => (pe_qX (E := E') c_order_of hr' (by decide) (by rfl) (passes_call (takes_of rfl rfl rfl rfl) fun _ _ _ _ h => h) (pa_cons (pv 10) pa_nil))⟩)))
      (Evl.pss_cut (ps_if (PW.pt (pw_or (pt_not (pt_val (pe_callB call_isH (by rfl) B.isinstance (by decide +kernel) (pa_cons (pv 2) (pa_cons (pe_glob (v := .ref BU) (by rfl) EF.gB rfl) pa_nil))))) (pw_or1 (pt_cmpR op_notN (pe_hfld (pv 2)) pe_non (nomark _))))) (pss_one (ps_ret pe_bl)) pss_nil)
      (Evl.pss_cut (ps_set (i := 7) sc__law_refused_right.nd rfl (Or.inr rfl) (pe_q c__law_take hr (by decide) (by rfl) (pa_cons (pv 0) (pa_cons (pe_op op_add (pe_callB call_len_seq (by rfl) B.len PySem.boot_len (pa_cons (pv 12) pa_nil)) pe_int) pa_nil))))
      (Evl.pss_cut (ps_set (i := 3) sc__law_refused_right.nd rfl (Or.inl rfl) (pe_lst (pa_cons pe_non (pa_cons pe_int (pa_cons (pe_tup pa_nil) (pa_cons (pe_callTy call_list_of (by rfl) B.list (by decide +kernel) (pa_cons (pe_ix ix_list (pv 12) pe_int (fun _ _ => rfl)) pa_nil)) (pa_cons (pe_slice sl_tup (pe_ix ix_list (pv 12) pe_int (fun _ _ => rfl)) po_none (po_some pe_int)) (pa_cons (pe_tup (pa_cons pe_str (pa_cons pe_str (pa_cons (pe_tup pa_nil) (pa_cons (pe_tup pa_nil) (pa_cons (pe_tup pa_nil) pa_nil)))))) (pa_cons (pe_tup (pa_cons pe_str (pa_cons pe_str (pa_cons (pe_lst (pa_cons pe_str pa_nil)) (pa_cons (pe_tup pa_nil) (pa_cons (pe_tup pa_nil) pa_nil)))))) pa_nil)))))))))
      (Evl.pss_cut (ps_set (i := 8) sc__law_refused_right.nd rfl (Or.inr rfl) (pe_ifExp (PW.pt (pw_or (pt_cmpR op_eq (pv 7) pe_int (nomark _)) (pw_or1 (pt_cmpR op_eq (pe_q c__law_take hr (by decide) (by rfl) (pa_cons (pv 0) (pa_cons pe_int pa_nil))) pe_int (nomark _))))) (pe_q c__law_pick hr (by decide) (by rfl) (pa_cons (pv 0) (pa_cons (pv 3) pa_nil))) (pe_ix ix_list (pv 12) pe_int (fun _ _ => rfl))))
      (Evl.pss_cut (ps_set (i := 4) sc__law_refused_right.nd rfl (Or.inl rfl) (pe_lst (pa_cons (pe_lamV (d := (lR 7)) rfl TB (by rfl) hmT hu2 rfl (lRok (k := 7) (by decide))) pa_nil)))
      (Evl.pss_cut (ps_expr (pe_bm PySem.F.plainAttrs_list PySem.F.slot_list_append PySem.F.type_list_append mt_append (pv 4) (pa_cons (pe_lamV (d := (lR 8)) rfl TB (by rfl) hmT hu2 rfl (lRok (k := 8) (by decide))) pa_nil)))
      (Evl.pss_cut (ps_for PassesOwn.never rfl (pi_list (pv 4)) (pg_name (i := 5) sc__law_refused_right.nd rfl (Or.inl rfl)) (pss_cons (ps_set (i := 2) sc__law_refused_right.nd rfl (Or.inl rfl) (pe_caught (ls := [((lR 7), _), ((lR 8), _)]) FC NC EF (by rfl) hr (pv 5) (by rfl) (two_lams ⟨(lRok (k := 7) (by decide)), fun _ _ _ _ _ => rfl, fun A' outer' s' H' E' f' c' hr' => (pe_qX (E := E') c_order_of hr' (by decide) (by rfl) (passes_call (takes_of rfl rfl rfl rfl) fun _ _ _ _ h => h) (pa_cons (pe_op op_cat (pe_op op_cat (pe_slice (sl_listK (K := K) rfl) (pv 12) po_none (po_some (pv 7))) (pe_lst (pa_cons (pv 8) pa_nil))) (pe_slice (sl_listK (K := K) rfl) (pv 12) (po_some (pv 7)) po_none)) pa_nil))⟩ ⟨(lRok (k := 8) (by decide)), fun _ _ _ _ _ => rfl, fun A' outer' s' H' E' f' c' hr' => (pe_qX (E := E') c_users_of hr' (by decide) (by rfl) (passes_call (takes_of rfl rfl rfl rfl) fun _ _ _ _ h => h) (pa_cons (pe_op op_cat (pe_slice (sl_listK (K := K) rfl) (pv 12) po_none (po_some (pv 7))) (pe_lst (pa_cons (pv 8) pa_nil))) (pa_cons pe_int pa_nil)))⟩)))
      (pss_one (ps_if (PW.pt (pw_or (pt_not (pt_val (pe_callB call_isH (by rfl) B.isinstance (by decide +kernel) (pa_cons (pv 2) (pa_cons (pe_glob (v := .ref BU) (by rfl) EF.gB rfl) pa_nil))))) (pw_or1 (pt_cmpR op_ne (pe_hfld (pv 2)) (pv 7) (nomark _))))) (pss_one (ps_ret pe_bl)) pss_nil))))
      (Evl.pss_cut (ps_asg (pe_ix ix_list (pv 1) (pe_op op_sub (pv 7) pe_int) (fun _ _ => rfl)) (pg_tup (by rfl) (pgs_cons (pg_name (i := 9) sc__law_refused_right.nd rfl (Or.inr rfl)) (pgs_cons (pg_name (i := 6) sc__law_refused_right.nd rfl (Or.inr rfl)) pgs_nil))))
      (Evl.pss_cut (ps_set (i := 11) sc__law_refused_right.nd rfl (Or.inr rfl) (pe_lc (own := [("tree", 13)]) (g := (gName 13)) (tt := tYes) (by rfl) sc__law_refused_right.nd (pi_list (pv 12)) (blkOk_by (N := n__law_refused_right) (sc := defScope s__law_refused_right) (by decide +kernel)) (fun _ _ _ _ _ => (pg_name (i := 13) sc__law_refused_right.nd rfl (Or.inl rfl))) (fun _ _ _ _ _ => pts_nil) (fun _ _ _ _ _ => (pe_ifExp (pt_cmpR op_ne (pe_ix (ix_tupK (K := K) rfl) (pv 13) pe_int (fun _ _ => rfl)) (pv 9) (nomark _)) (pv 13) (pe_tup (pa_cons pe_str (pa_cons (pv 9) (pa_cons (pe_op (op_catTK (K := K) rfl) (pe_tup (pa_cons pe_str pa_nil)) (pe_slice (sl_tupAK (K := K) rfl) (pv 6) po_none (po_some pe_int))) (pa_cons (pe_tup pa_nil) (pa_cons (pe_tup pa_nil) pa_nil))))))))))
      (Evl.pss_cut (ps_set (i := 4) sc__law_refused_right.nd rfl (Or.inl rfl) (pe_lst (pa_cons (pe_lamV (d := (lR 12)) rfl TB (by rfl) hmT hu2 rfl (lRok (k := 12) (by decide))) pa_nil)))
      (Evl.pss_cut (ps_expr (pe_bm PySem.F.plainAttrs_list PySem.F.slot_list_append PySem.F.type_list_append mt_append (pv 4) (pa_cons (pe_lamV (d := (lR 13)) rfl TB (by rfl) hmT hu2 rfl (lRok (k := 13) (by decide))) pa_nil)))
      (Evl.pss_cut (ps_for PassesOwn.never rfl (pi_list (pv 4)) (pg_name (i := 5) sc__law_refused_right.nd rfl (Or.inl rfl)) (pss_cons (ps_set (i := 2) sc__law_refused_right.nd rfl (Or.inl rfl) (pe_caught (ls := [((lR 12), _), ((lR 13), _)]) FC NC EF (by rfl) hr (pv 5) (by rfl) (two_lams ⟨(lRok (k := 12) (by decide)), fun _ _ _ _ _ => rfl, fun A' outer' s' H' E' f' c' hr' => (pe_qX (E := E') c_order_of hr' (by decide) (by rfl) (passes_call (takes_of rfl rfl rfl rfl) fun _ _ _ _ h => h) (pa_cons (pv 11) pa_nil))⟩ ⟨(lRok (k := 13) (by decide)), fun _ _ _ _ _ => rfl, fun A' outer' s' H' E' f' c' hr' => (pe_qK0 (E := E') k_users_of hr' (by decide) (by rfl) (passes_call (takes_of rfl rfl rfl rfl) fun _ _ _ _ h => h) (pk_cons (pv 11) (pk_cons (pv 9) pk_nil)))⟩)))
      (pss_one (ps_if (PW.pt (pw_or (pt_not (pt_val (pe_callB call_isH (by rfl) B.isinstance (by decide +kernel) (pa_cons (pv 2) (pa_cons (pe_glob (v := .ref NU) (by rfl) EF.gN rfl) pa_nil))))) (pw_or1 (pt_cmpR op_ne (pe_hfld (pv 2)) pe_str (nomark _))))) (pss_one (ps_ret pe_bl)) pss_nil))))
      (Evl.pss_cut (ps_set (i := 10) sc__law_refused_right.nd rfl (Or.inr rfl) (pe_q c__law_pick hr (by decide) (by rfl) (pa_cons (pv 0) (pa_cons (pe_lst (pa_cons pe_str (pa_cons pe_non (pa_cons pe_int (pa_cons (pe_tup (pa_cons (pv 9) pa_nil)) (pa_cons pe_str pa_nil)))))) pa_nil))))
      (Evl.pss_cut (ps_set (i := 2) sc__law_refused_right.nd rfl (Or.inl rfl) (pe_caught (ls := [((lR 16), _)]) FC NC EF (by rfl) hr (pe_lamV (d := (lR 16)) rfl TB (by rfl) hmT hu2 rfl (lRok (k := 16) (by decide))) (by rfl) (one_lam ⟨(lRok (k := 16) (by decide)), fun _ _ _ _ _ => rfl, fun A' outer' s' H' E' f' c' hr' => (pe_qX (E := E') c_users_of hr' (by decide) (by rfl) (passes_call (takes_of rfl rfl rfl rfl) fun _ _ _ _ h => h) (pa_cons (pv 12) (pa_cons (pv 10) pa_nil)))⟩)))
      (pss_one (ps_ret (pe_and (pe_callB call_isH (by rfl) B.isinstance (by decide +kernel) (pa_cons (pv 2) (pa_cons (pe_glob (v := .ref NU) (by rfl) EF.gN rfl) pa_nil))) (pe_one (pe_cmpR op_eq (pe_callB (call_reprA SK hg hr.units) (by rfl) B.repr (by decide +kernel) (pa_cons (pe_hfld (pv 2)) pa_nil)) (pe_callB (call_reprA SK hg hr.units) (by rfl) B.repr (by decide +kernel) (pa_cons (pv 10) pa_nil)) (nomark _))))))))))))))))))))))), ?_⟩
    have hs63 := sizeLine_eq
    have few := ok.few
    have big : (2 : Nat) ^ 38 + 1000 < 2 ^ 39 ∧ (2 : Nat) ^ 39 < 2 ^ 40 := by decide
    -- the trees
    refine ⟨fun σ H' => ∃ (tr : Addr) (ts : List Addr), σ = [some (.ref d), some (.ref a), none, none, none, none, none, none, none, none, none, none, some (.ref tr), none] ∧ RfAt T H H' d w c a tr n pas ts rows, ?_, ?_⟩
    · refine ⟨_, rfl, a, pas, rows, rfl, ea, R0, by omega, fun H1 tr ts s1 htr etr Tr => ⟨tr, ts, rfl, D0.same s1, But2.t (Same.but2 s1), hT.ext s1, ad, aw, (D0.knowD htr).1, (D0.knowD htr).2.1, s1 _ _ ea, R0.kp (Same.kpT s1), etr, Tr⟩⟩
    rintro σ H1 ⟨tr, ts, rfl, F1⟩
    -- what is no list
    refine ⟨fun σ H' => ∃ (x : V), σ = [some (.ref d), some (.ref a), none, none, none, none, none, none, none, none, some x, none, some (.ref tr), none] ∧ RfAt T H H' d w c a tr (n + 1) pas ts rows ∧ OddK H' x, ?_, ?_⟩
    · obtain ⟨r0, rs, t0, ts', er0, et0, T0⟩ : ∃ r0 rs t0 ts', rows = r0 :: rs ∧ ts = t0 :: ts' ∧ TreeAt H1 t0 r0 := by
        have h := F1.Tr
        match rows, ts, h, hne with
        | r0 :: rs, t0 :: ts', .cons h _, _ => exact ⟨r0, rs, t0, ts', rfl, rfl, h⟩
      obtain ⟨⟨c0, e0, ho0, _, _⟩, _⟩ := T0
      refine ⟨_, rfl, by show 0 ≤ sizeLine; omega, fun p1 hp1 => ⟨by show 0 ≤ sizeLine; omega, fun p2 hp2 p3 hp3 => ?_⟩⟩
      have s1 : Same H1 (upd (upd (upd H1 p1 (.lst [])) p2 (.tup [])) p3 (.dK [])) := ((Same.new hp1).trans (Same.new hp2)).trans (Same.new hp3)
      have e1 : (upd (upd (upd H1 p1 (.lst [])) p2 (.tup [])) p3 (.dK [])) p1 = some (.lst []) := Same.new hp3 _ _ (Same.new hp2 _ _ upd_same)
      have e2 : (upd (upd (upd H1 p1 (.lst [])) p2 (.tup [])) p3 (.dK [])) p2 = some (.tup []) := Same.new hp3 _ _ upd_same
      have e3 : (upd (upd (upd H1 p1 (.lst [])) p2 (.tup [])) p3 (.dK [])) p3 = some (.dK []) := upd_same
      have k1 := F1.D.knowD hp1
      have k3 := ((F1.D.same (Same.new (o := .lst []) hp1)).same (Same.new (o := .tup []) hp2)).knowD hp3
      generalize upd (upd (upd H1 p1 (.lst [])) p2 (.tup [])) p3 (.dK []) = H2 at s1 e1 e2 e3
      have F2 := F1.same s1
      have et2 : H2 tr = some (.lst ((t0 :: ts').map V.ref)) := by rw [← et0]; exact F2.et
      refine ⟨_, rfl, tr, _, 0, _, rfl, rfl, SqL.of et2, atI_nat (j := 0) rfl, t0, _, 1, _, rfl, rfl, SqT.of (s1 _ _ ho0), atI_nat (j := 1) rfl, by show 7 ≤ sizeLine; omega, fun L hL => ?_⟩
      have sL := Same.new (o := .lst [.non, .int 5, .str "ab", .ref p1, .ref p2, .ref p3, .str (nm r0.1)]) hL
      have F3 := F2.same sL
      have kL := F2.D.knowD hL
      refine ⟨d, w, c, L, n, _, rfl, F3.D, by omega, kL.1, kL.2.1, SqL.of upd_same, by simp, by simp, fun x H' hx D' b' => ⟨x, rfl, F3.draw D' b', ?_⟩⟩
      have f1 := b' _ _ (sL _ _ e1) k1.1 k1.2.1
      have f3 := b' _ _ (sL _ _ e3) k3.1 k3.2.1
      have f2 := But2.kpT F3.D b' _ _ (sL _ _ e2)
      simp only [List.mem_cons, List.not_mem_nil, or_false] at hx
      rcases hx with rfl | rfl | rfl | rfl | rfl | rfl | rfl
      · exact .inl ⟨_, .non, by decide, by decide⟩
      · exact .inl ⟨_, .int _, by decide, by decide⟩
      · exact .inl ⟨_, .str _, by decide, by decide⟩
      · exact .inr ⟨_, rfl, .inl f1⟩
      · exact .inr ⟨_, rfl, .inr f2⟩
      · exact .inl ⟨_, .dct trivial f3, by decide, by decide⟩
      · exact .inl ⟨.str (nm r0.1), .str _, (show ("str" : String) ≠ "list" by decide), (show ("str" : String) ≠ "tuple" by decide)⟩
    rintro σ H2 ⟨odd, rfl, F2, hodd⟩
    -- the error that it makes
    refine ⟨fun σ H' => ∃ (e dx : Addr), σ = [some (.ref d), some (.ref a), some (.ref e), none, none, none, none, none, none, none, some odd, none, some (.ref tr), none] ∧ RfAt T H H' d w c a tr (n + 1) pas ts rows ∧ H' e = some (HX (.ref BU) (some dx) e) ∧ H' dx = some (.xd [("at", .non)]), ?_, ?_⟩
    · refine ⟨F2.t, fun g c' H3 e3 T3 hg eg ec => ⟨_, List.mem_singleton.mpr rfl, g, c', rfl, eg, ec, ?_⟩⟩
      have F3 := F2.ext e3 T3
      have o3 := hodd.ext e3
      refine ⟨_, rfl, ?_⟩
      have rz : RaiseF BU "at" .non H3 (fun cls dd H' => PySem.W.exmOne K cls (.ref SE) = some true ∧ ∀ y, H' y = none → ∃ e dx, ([some (.ref d), some (.ref a), some (.ref y), none, none, none, none, none, none, none, some odd, none, some (.ref tr), none] : L2.St) = [some (.ref d), some (.ref a), some (.ref e), none, none, none, none, none, none, none, some odd, none, some (.ref tr), none] ∧ RfAt T H (upd H' y (HX cls dd y)) d w c a tr (n + 1) pas ts rows ∧ (upd H' y (HX cls dd y)) e = some (HX (.ref BU) (some dx) e) ∧ (upd H' y (HX cls dd y)) dx = some (.xd [("at", .non)])) := by
        intro dx H4 s4 hdx edx
        refine ⟨EF.xB, fun y hy => ⟨y, dx, rfl, (F3.same s4).same (Same.new hy), upd_same, Same.new hy _ _ edx⟩⟩
      rcases o3 with ⟨dd, h1, h2, h3⟩ | ⟨z, rfl, h⟩
      · exact ⟨odd, rfl, .inl ⟨dd, h1, h2, h3, rz⟩⟩
      · exact ⟨_, rfl, .inr (.inl ⟨z, rfl, h, rz⟩)⟩
    rintro σ H3 ⟨e1, dx1, rfl, F3, ee, edx⟩
    refine ⟨fun σ H' => σ = [some (.ref d), some (.ref a), some (.ref e1), none, none, none, none, none, none, none, some odd, none, some (.ref tr), none] ∧ RfAt T H H' d w c a tr (n + 1) pas ts rows, ?_, ?_⟩
    · refine ⟨_, rfl, e1, BU, some dx1, _, _, true, rfl, .own BU, ee, (fun dx z => by cases z; exact ⟨_, edx⟩), EF.cB, EF.kB, _, rfl, iteFd rfl ?_⟩
      exact ⟨_, rfl, e1, BU, dx1, _, _, rfl, ee, edx, EF.qB, EF.fB, rfl, rfl, _, rfl, iteFd rfl ⟨rfl, F3⟩⟩
    rintro σ H4 ⟨rfl, F4⟩
    -- at
    refine ⟨fun σ H' => ∃ (k : Nat), σ = [some (.ref d), some (.ref a), some (.ref e1), none, none, none, none, some (.int (k : Nat)), none, none, some odd, none, some (.ref tr), none] ∧ RfAt T H H' d w c a tr (n + 2) pas ts rows ∧ k ≤ ts.length, ?_, ?_⟩
    · have tl := F4.Tr.len
      refine ⟨_, rfl, _, rfl, tr, _, rfl, .inl (SqL.of F4.et), _, _, rfl, rfl, d, w, c, _, _, rfl, F4.D, by omega, by rw [List.length_map]; omega, by rw [List.length_map]; exact Int.lt_of_le_of_lt (show (ts.length : Int) + 1 ≤ 7 by omega) (by decide), fun k H5 k0 k1 D5 b5 => ?_⟩
      obtain ⟨k, rfl⟩ := Int.eq_ofNat_of_zero_le k0
      rw [List.length_map] at k1
      exact ⟨k, rfl, F4.draw D5 b5, by omega⟩
    rintro σ H5 ⟨k, rfl, F5, hk⟩
    -- what is no unit
    refine ⟨fun σ H' => ∃ (L : Addr) (xs : List V), σ = [some (.ref d), some (.ref a), some (.ref e1), some (.ref L), none, none, none, some (.int (k : Nat)), none, none, some odd, none, some (.ref tr), none] ∧ RfAt T H H' d w c a tr (n + 2) pas ts rows ∧ L ≠ d ∧ L ≠ w ∧ H' L = some (.lst xs) ∧ xs ≠ [] ∧ xs.length ≤ 7 ∧ ∀ x ∈ xs, BadO d w H' x, ?_, ?_⟩
    · obtain ⟨r0, rs, t0, ts', er0, et0, T0⟩ : ∃ r0 rs t0 ts', rows = r0 :: rs ∧ ts = t0 :: ts' ∧ TreeAt H5 t0 r0 := by
        have h := F5.Tr
        match rows, ts, h, hne with
        | r0 :: rs, t0 :: ts', .cons h _, _ => exact ⟨r0, rs, t0, ts', rfl, rfl, h⟩
      have hr0 : r0 ∈ rows := by rw [er0]; exact List.mem_cons_self
      obtain ⟨⟨c0, e0, ho0, hc0, he0⟩, hb0⟩ := T0
      have pd : DnAll (offA d w) H5 [.str "unit", .str (nm r0.1), .ref r0.2.2, .ref c0, .ref e0] (partsD r0.1 r0.2.1) := .cons (.str _) (.cons (.str _) (.cons (.tup (tup_off F5.D hb0) hb0 nm_dn) (.cons (.tup (tup_off F5.D hc0) hc0 .nil) (.cons (.tup (tup_off F5.D he0) he0 .nil) .nil))))
      obtain ⟨pf, pdep⟩ := parts_fine (Nat.lt_succ_of_lt (ok.n7 hr0)) (ok.y7 hr0) (ok.u r0 hr0).2.2
      have q0 := Same.refl H5
      refine ⟨by show 0 ≤ sizeLine; omega, fun p1 hp1 => ?_⟩
      have sp1 := Same.new (o := .tup []) hp1
      have ep1 : (upd H5 p1 (.tup [])) p1 = some (.tup []) := upd_same
      have kp1 := (F5.same q0).D.knowD hp1
      have q1 := q0.trans sp1
      generalize upd H5 p1 (.tup []) = G0 at sp1 ep1 q1
      refine ⟨_, rfl, tr, _, 0, _, rfl, rfl, SqL.of (q1 _ _ F5.et), atI_nat (j := 0) (by rw [et0]; rfl), t0, _, rfl, .inr (SqT.of (q1 _ _ ho0)), fun p2 hp2 => ?_⟩
      have sp2 := Same.new (o := .lst [.str "unit", .str (nm r0.1), .ref r0.2.2, .ref c0, .ref e0]) hp2
      have ep2 : (upd G0 p2 (.lst [.str "unit", .str (nm r0.1), .ref r0.2.2, .ref c0, .ref e0])) p2 = some (.lst [.str "unit", .str (nm r0.1), .ref r0.2.2, .ref c0, .ref e0]) := upd_same
      have kp2 := (F5.same q1).D.knowD hp2
      have q2 := q1.trans sp2
      generalize upd G0 p2 (.lst [.str "unit", .str (nm r0.1), .ref r0.2.2, .ref c0, .ref e0]) = G1 at sp2 ep2 q2
      refine ⟨_, rfl, tr, _, 0, _, rfl, rfl, SqL.of (q2 _ _ F5.et), atI_nat (j := 0) (by rw [et0]; rfl), 4, rfl, t0, _, rfl, SqT.of (q2 _ _ ho0), (show ¬ (HT.sIx 5 0 none = 0 ∧ HT.sIx 5 5 (some 4) = 5) by decide), fun p3 hp3 => ?_⟩
      rw [show cutV [.str "unit", .str (nm r0.1), .ref r0.2.2, .ref c0, .ref e0] none (some 4) = [.str "unit", .str (nm r0.1), .ref r0.2.2, .ref c0] from rfl]
      have sp3 := Same.new (o := .tup [.str "unit", .str (nm r0.1), .ref r0.2.2, .ref c0]) hp3
      have ep3 : (upd G1 p3 (.tup [.str "unit", .str (nm r0.1), .ref r0.2.2, .ref c0])) p3 = some (.tup [.str "unit", .str (nm r0.1), .ref r0.2.2, .ref c0]) := upd_same
      have kp3 := (F5.same q2).D.knowD hp3
      have q3 := q2.trans sp3
      generalize upd G1 p3 (.tup [.str "unit", .str (nm r0.1), .ref r0.2.2, .ref c0]) = G2 at sp3 ep3 q3
      refine ⟨by show 0 ≤ sizeLine; omega, fun p4 hp4 => ?_⟩
      have sp4 := Same.new (o := .tup []) hp4
      have ep4 : (upd G2 p4 (.tup [])) p4 = some (.tup []) := upd_same
      have kp4 := (F5.same q3).D.knowD hp4
      have q4 := q3.trans sp4
      generalize upd G2 p4 (.tup []) = G3 at sp4 ep4 q4
      refine ⟨by show 0 ≤ sizeLine; omega, fun p5 hp5 => ?_⟩
      have sp5 := Same.new (o := .tup []) hp5
      have ep5 : (upd G3 p5 (.tup [])) p5 = some (.tup []) := upd_same
      have kp5 := (F5.same q4).D.knowD hp5
      have q5 := q4.trans sp5
      generalize upd G3 p5 (.tup []) = G4 at sp5 ep5 q5
      refine ⟨by show 0 ≤ sizeLine; omega, fun p6 hp6 => ?_⟩
      have sp6 := Same.new (o := .tup []) hp6
      have ep6 : (upd G4 p6 (.tup [])) p6 = some (.tup []) := upd_same
      have kp6 := (F5.same q5).D.knowD hp6
      have q6 := q5.trans sp6
      generalize upd G4 p6 (.tup []) = G5 at sp6 ep6 q6
      refine ⟨by show 5 ≤ sizeLine; omega, fun p7 hp7 => ?_⟩
      have sp7 := Same.new (o := .tup [.str "unit", .str "if", .ref p4, .ref p5, .ref p6]) hp7
      have ep7 : (upd G5 p7 (.tup [.str "unit", .str "if", .ref p4, .ref p5, .ref p6])) p7 = some (.tup [.str "unit", .str "if", .ref p4, .ref p5, .ref p6]) := upd_same
      have kp7 := (F5.same q6).D.knowD hp7
      have q7 := q6.trans sp7
      generalize upd G5 p7 (.tup [.str "unit", .str "if", .ref p4, .ref p5, .ref p6]) = G6 at sp7 ep7 q7
      refine ⟨by show 1 ≤ sizeLine; omega, fun p8 hp8 => ?_⟩
      have sp8 := Same.new (o := .lst [.str "ab"]) hp8
      have ep8 : (upd G6 p8 (.lst [.str "ab"])) p8 = some (.lst [.str "ab"]) := upd_same
      have kp8 := (F5.same q7).D.knowD hp8
      have q8 := q7.trans sp8
      generalize upd G6 p8 (.lst [.str "ab"]) = G7 at sp8 ep8 q8
      refine ⟨by show 0 ≤ sizeLine; omega, fun p9 hp9 => ?_⟩
      have sp9 := Same.new (o := .tup []) hp9
      have ep9 : (upd G7 p9 (.tup [])) p9 = some (.tup []) := upd_same
      have kp9 := (F5.same q8).D.knowD hp9
      have q9 := q8.trans sp9
      generalize upd G7 p9 (.tup []) = G8 at sp9 ep9 q9
      refine ⟨by show 0 ≤ sizeLine; omega, fun pa hpa => ?_⟩
      have spa := Same.new (o := .tup []) hpa
      have epa : (upd G8 pa (.tup [])) pa = some (.tup []) := upd_same
      have kpa := (F5.same q9).D.knowD hpa
      have q10 := q9.trans spa
      generalize upd G8 pa (.tup []) = G9 at spa epa q10
      refine ⟨by show 5 ≤ sizeLine; omega, fun pb hpb => ?_⟩
      have spb := Same.new (o := .tup [.str "unit", .str "x", .ref p8, .ref p9, .ref pa]) hpb
      have epb : (upd G9 pb (.tup [.str "unit", .str "x", .ref p8, .ref p9, .ref pa])) pb = some (.tup [.str "unit", .str "x", .ref p8, .ref p9, .ref pa]) := upd_same
      have kpb := (F5.same q10).D.knowD hpb
      have q11 := q10.trans spb
      generalize upd G9 pb (.tup [.str "unit", .str "x", .ref p8, .ref p9, .ref pa]) = G10 at spb epb q11
      refine ⟨by show 7 ≤ sizeLine; omega, fun L hL => ?_⟩
      have sL := Same.new (o := .lst [.non, .int 5, .ref p1, .ref p2, .ref p3, .ref p7, .ref pb]) hL
      have eL : (upd G10 L (.lst [.non, .int 5, .ref p1, .ref p2, .ref p3, .ref p7, .ref pb])) L = some (.lst [.non, .int 5, .ref p1, .ref p2, .ref p3, .ref p7, .ref pb]) := upd_same
      have kL := (F5.same q11).D.knowD hL
      have q12 := q11.trans sL
      generalize upd G10 L (.lst [.non, .int 5, .ref p1, .ref p2, .ref p3, .ref p7, .ref pb]) = G11 at sL eL q12
      have fp1 := (sL _ _ (spb _ _ (spa _ _ (sp9 _ _ (sp8 _ _ (sp7 _ _ (sp6 _ _ (sp5 _ _ (sp4 _ _ (sp3 _ _ (sp2 _ _ ep1)))))))))))
      have fp2 := (sL _ _ (spb _ _ (spa _ _ (sp9 _ _ (sp8 _ _ (sp7 _ _ (sp6 _ _ (sp5 _ _ (sp4 _ _ (sp3 _ _ ep2))))))))))
      have fp3 := (sL _ _ (spb _ _ (spa _ _ (sp9 _ _ (sp8 _ _ (sp7 _ _ (sp6 _ _ (sp5 _ _ (sp4 _ _ ep3)))))))))
      have fp4 := (sL _ _ (spb _ _ (spa _ _ (sp9 _ _ (sp8 _ _ (sp7 _ _ (sp6 _ _ (sp5 _ _ ep4))))))))
      have fp5 := (sL _ _ (spb _ _ (spa _ _ (sp9 _ _ (sp8 _ _ (sp7 _ _ (sp6 _ _ ep5)))))))
      have fp6 := (sL _ _ (spb _ _ (spa _ _ (sp9 _ _ (sp8 _ _ (sp7 _ _ ep6))))))
      have fp7 := (sL _ _ (spb _ _ (spa _ _ (sp9 _ _ (sp8 _ _ ep7)))))
      have fp8 := (sL _ _ (spb _ _ (spa _ _ (sp9 _ _ ep8))))
      have fp9 := (sL _ _ (spb _ _ (spa _ _ ep9)))
      have fpa := (sL _ _ (spb _ _ epa))
      have fpb := (sL _ _ epb)
      refine ⟨L, _, rfl, F5.same q12, kL.1, kL.2.1, eL, by simp, by simp, fun x hx => ?_⟩
      have pd2 := pd.same q12
      have oo : ∀ {p : Addr}, (p ≠ d ∧ p ≠ w ∧ p ≠ c) → offA d w p := fun h => ⟨h.1, h.2.1⟩
      simp only [List.mem_cons, List.not_mem_nil, or_false] at hx
      rcases hx with rfl | rfl | rfl | rfl | rfl | rfl | rfl
      · exact ⟨_, .non, ⟨by decide +kernel, by decide⟩, rfl⟩
      · exact ⟨_, .int 5, ⟨by decide +kernel, by decide⟩, rfl⟩
      · exact ⟨_, .tup (oo kp1) fp1 .nil, ⟨by decide +kernel, by decide⟩, rfl⟩
      · refine ⟨.list (partsD r0.1 r0.2.1), .lst (oo kp2) fp2 pd2, ⟨?_, ?_⟩, rfl⟩
        · show fineW 100 (.list (partsD r0.1 r0.2.1)) = true
          simp only [fineW, pf, Bool.and_true]
          rfl
        · simp only [PyData.depth]
          have : DD = 50 := rfl
          omega
      · refine ⟨.tuple [.str "unit", .str (nm r0.1), .tuple (nmD r0.2.1), .tuple []], .tup (oo kp3) fp3 ?_, ⟨?_, ?_⟩, rfl⟩
        · match pd2 with
          | .cons h1 (.cons h2 (.cons h3 (.cons h4 _))) => exact .cons h1 (.cons h2 (.cons h3 (.cons h4 .nil)))
        · unfold partsD at pf
          show fineW 100 (.tuple [.str "unit", .str (nm r0.1), .tuple (nmD r0.2.1), .tuple []]) = true
          simp only [fineW, fineWAll, Bool.and_eq_true] at pf ⊢
          refine ⟨rfl, pf.1, pf.2.1, pf.2.2.1, pf.2.2.2.1, trivial⟩
        · simp only [PyData.depth, PyData.depthAll, nm_dep]
          decide
      · exact ⟨_, .tup (oo kp7) fp7 (.cons (.str _) (.cons (.str _) (.cons (.tup (oo kp4) fp4 .nil) (.cons (.tup (oo kp5) fp5 .nil) (.cons (.tup (oo kp6) fp6 .nil) .nil))))), ⟨by decide +kernel, by decide⟩, by decide +kernel⟩
      · exact ⟨_, .tup (oo kpb) fpb (.cons (.str _) (.cons (.str _) (.cons (.lst (oo kp8) fp8 (.cons (.str _) .nil)) (.cons (.tup (oo kp9) fp9 .nil) (.cons (.tup (oo kpa) fpa .nil) .nil))))), ⟨by decide +kernel, by decide⟩, by decide +kernel⟩
    rintro σ H6 ⟨L, xs, rfl, F6, Ld, Lw, eL, xne, xl, hbad⟩
    refine ⟨fun σ H' => ∃ (x : V), σ = [some (.ref d), some (.ref a), some (.ref e1), some (.ref L), none, none, none, some (.int (k : Nat)), some x, none, some odd, none, some (.ref tr), none] ∧ RfAt T H H' d w c a tr (n + 4) pas ts rows ∧ (BadO d w H' x ∨ (1 ≤ k ∧ ∃ t0, ts[0]? = some t0 ∧ x = .ref t0)), ?_, ?_⟩
    · show tIf _ _ _ _ _ _
      refine tIf_either (fun v H' => RfAt T H H' d w c a tr (n + 4) pas ts rows ∧ (BadO d w H' v ∨ (1 ≤ k ∧ ∃ t0, ts[0]? = some t0 ∧ v = .ref t0))) (fun R hR => ?_) (fun v H' ⟨h1, h2⟩ => ⟨v, rfl, h1, h2⟩)
      have hs7 : xs.length < 2 ^ 29 := Nat.lt_of_le_of_lt xl (by decide)
      refine ⟨_, rfl, rfl, _, rfl, ?_⟩
      by_cases hk0 : V.int (k : Nat) = V.int 0
      · refine iteTd (decide_eq_true hk0) (iteTd rfl ?_)
        exact ⟨_, rfl, _, rfl, d, w, c, L, _, xs, rfl, F6.D, by omega, Ld, Lw, SqL.of eL, xne, hs7, fun x H' hx D b => hR x H' ⟨(F6.draw D b).mono (by omega), .inl ((hbad x hx).but (But2.t b))⟩⟩
      · have k1 : 1 ≤ k := by
          apply Classical.byContradiction
          intro z
          exact hk0 (by rw [show k = 0 by omega]; rfl)
        refine iteFd (decide_eq_false hk0) ⟨_, rfl, d, w, c, _, 2, rfl, F6.D, by omega, by decide, by decide, fun m H7 m0 m2 D7 b7 => ⟨rfl, _, rfl, ?_⟩⟩
        have F7 := F6.draw D7 b7
        by_cases hm : V.int m = V.int 0
        · refine iteTd (decide_eq_true hm) ?_
          exact ⟨_, rfl, _, rfl, d, w, c, L, _, xs, rfl, F7.D, by omega, Ld, Lw, SqL.of (b7 _ _ eL Ld Lw), xne, hs7, fun x H' hx D b => hR x H' ⟨(F7.draw D b).mono (by omega), .inl (((hbad x hx).but (But2.t b7)).but (But2.t b))⟩⟩
        · refine iteFd (decide_eq_false hm) ?_
          obtain ⟨t0, ht0⟩ : ∃ t0, ts[0]? = some t0 := ⟨_, List.getElem?_eq_getElem (by omega)⟩
          exact ⟨_, rfl, tr, _, 0, _, rfl, rfl, SqL.of F7.et, atI_nat (j := 0) (by rw [List.getElem?_map, ht0]; rfl), hR _ H7 ⟨F7.mono (by omega), .inr ⟨k1, t0, ht0, rfl⟩⟩⟩
    rintro σ H7 ⟨bad, rfl, F7, hb7⟩
    have bdm : ∀ {G1 G2 : Hp} {x : V}, (BadO d w G1 x ∨ (1 ≤ k ∧ ∃ t0, ts[0]? = some t0 ∧ x = .ref t0)) → ButT d w G1 G2 → (BadO d w G2 x ∨ (1 ≤ k ∧ ∃ t0, ts[0]? = some t0 ∧ x = .ref t0)) := fun h b => h.imp (fun z => z.but b) id
    -- two calls
    refine ⟨fun σ H' => ∃ (wk g7 : Addr), σ = [some (.ref d), some (.ref a), some (.ref e1), some (.ref L), some (.ref wk), none, none, some (.int (k : Nat)), some bad, none, some odd, none, some (.ref tr), none] ∧ RfAt T H H' d w c a tr (n + 4) pas ts rows ∧ (BadP d w wk H' bad ∨ (1 ≤ k ∧ ∃ t0, ts[0]? = some t0 ∧ bad = .ref t0)) ∧ NewT H wk ∧ wk ≠ d ∧ wk ≠ w ∧ wk ≠ c ∧ wk ≠ a ∧ wk ≠ tr ∧ H' wk = some (.lst [.ref g7]) ∧ LamAt (cxOf CX0 P w0 K mg base n__law_refused_right "_law_refused_right" (defScope s__law_refused_right) f (.ref cc) A outer s H E).nox H' (lR 7) g7, ?_, ?_⟩
    · refine ⟨F7.t, fun g c' H8 e8 T8 hg eg ec => ⟨by show 1 ≤ sizeLine; omega, fun wk hwk => ?_⟩⟩
      have F8 := F7.ext e8 T8
      have sw := Same.new (o := .lst [.ref g]) hwk
      have kw := F8.D.knowD hwk
      exact ⟨wk, g, rfl, F8.same sw, (bdm hb7 (ext_t e8)).imp (fun z => (z.fresh hwk).but (But2.t (Same.but2 sw))) id, F8.b.newT hwk kw.1 kw.2.1, kw.1, kw.2.1, kw.2.2, (ne_of_none F8.ea hwk).symm, (ne_of_none F8.et hwk).symm, upd_same, LamAt.same ⟨c', eg, ec⟩ sw⟩
    rintro σ H8 ⟨wk, g7, rfl, F8, hb8, hwk, wkd, wkw, wkc, wka, wkt, ewk, l7⟩
    refine ⟨fun σ H' => ∃ (g8 : Addr), σ = [some (.ref d), some (.ref a), some (.ref e1), some (.ref L), some (.ref wk), none, none, some (.int (k : Nat)), some bad, none, some odd, none, some (.ref tr), none] ∧ RfAt T H H' d w c a tr (n + 4) pas ts rows ∧ (BadP d w wk H' bad ∨ (1 ≤ k ∧ ∃ t0, ts[0]? = some t0 ∧ bad = .ref t0)) ∧ H' wk = some (.lst [.ref g7, .ref g8]) ∧ LamAt (cxOf CX0 P w0 K mg base n__law_refused_right "_law_refused_right" (defScope s__law_refused_right) f (.ref cc) A outer s H E).nox H' (lR 7) g7 ∧ LamAt (cxOf CX0 P w0 K mg base n__law_refused_right "_law_refused_right" (defScope s__law_refused_right) f (.ref cc) A outer s H E).nox H' (lR 8) g8, ?_, ?_⟩
    · refine ⟨_, rfl, .inl ⟨rfl, _, SqL.of ewk⟩, F8.t, fun g c' H9 e9 T9 hg eg ec => ?_⟩
      have ewk9 := e9 _ _ ewk (fun _ z => nomatch z)
      have F9 := F8.ext e9 T9
      refine ⟨wk, _, _, rfl, rfl, ewk9, by show 1 < sizeLine; omega, g, rfl, F9.put ewk9 hwk wkd wkw wkc wka wkt, hb8.imp (fun z => (z.but (ext_t e9)).put) id, upd_same, LamAt.put (l7.ext e9) ewk9, LamAt.put ⟨c', eg, ec⟩ ewk9⟩
    rintro σ H9 ⟨g8, rfl, F9, hb9, ewk9, l7, l8⟩
    refine ⟨fun σ H' => ∃ (er : V) (wo : Option V), σ = [some (.ref d), some (.ref a), some er, some (.ref L), some (.ref wk), wo, none, some (.int (k : Nat)), some bad, none, some odd, none, some (.ref tr), none] ∧ RfAt T H H' d w c a tr (n + 4) pas ts rows, ?_, ?_⟩
    · refine ⟨_, rfl, wk, rfl, ⟨_, SqL.of ewk9⟩, for_it (walk_list (xs := [.ref g7, .ref g8])) (fun i σ H' => ∃ (er : V) (wo : Option V), σ = [some (.ref d), some (.ref a), some er, some (.ref L), some (.ref wk), wo, none, some (.int (k : Nat)), some bad, none, some odd, none, some (.ref tr), none] ∧ RfAt T H H' d w c a tr (n + 4) pas ts rows ∧ (BadP d w wk H' bad ∨ (1 ≤ k ∧ ∃ t0, ts[0]? = some t0 ∧ bad = .ref t0)) ∧ H' wk = some (.lst [.ref g7, .ref g8]) ∧ LamAt (cxOf CX0 P w0 K mg base n__law_refused_right "_law_refused_right" (defScope s__law_refused_right) f (.ref cc) A outer s H E).nox H' (lR 7) g7 ∧ LamAt (cxOf CX0 P w0 K mg base n__law_refused_right "_law_refused_right" (defScope s__law_refused_right) f (.ref cc) A outer s H E).nox H' (lR 8) g8) ⟨_, _, rfl, F9, hb9, ewk9, l7, l8⟩ (fun i σ H' _ h => by obtain ⟨_, _, _, _, _, e, _⟩ := h; exact SqL.of e) ?_ ?_⟩
      · rintro i v σ G0 G1 hi ⟨er, wo, rfl, F, hb, ewk, m7, m8⟩ ⟨rfl, hv⟩
        have tl := F.Tr.len
        match i, hv with
        | 0, hv =>
          obtain rfl : V.ref g7 = v := Option.some.inj hv
          obtain ⟨c7, h7, h7c⟩ := m7
          have m7 : LamAt (cxOf CX0 P w0 K mg base n__law_refused_right "_law_refused_right" (defScope s__law_refused_right) f (.ref cc) A outer s H E).nox G1 (lR 7) g7 := ⟨c7, h7, h7c⟩
          refine ⟨_, rfl, (lR 7, _), List.mem_cons_self, g7, c7, rfl, h7, h7c, ttc_raise (fl := "at") (v := .int (k : Nat)) EF.xB (fun E' Q' rz => ?_) (fun G4 dx y s4 edx hy => ?_)⟩
          · refine ⟨_, rfl, ?_⟩
            show tNoPart _ _ _
            unfold tNoPart
            refine ⟨_, rfl, k, rfl, tr, _, rfl, SqL.of F.et, fun s1 hs1 => ?_⟩
            rw [cutV_to (by rw [List.length_map]; exact hk), ← List.map_take]
            refine ⟨_, rfl, by show 1 ≤ sizeLine; omega, fun s2 hs2 => ?_⟩
            have q2 := (Same.new (o := .lst ((ts.take k).map V.ref)) hs1).trans (Same.new (o := .lst [bad]) hs2)
            have f1 : (upd (upd G1 s1 (.lst ((ts.take k).map V.ref))) s2 (.lst [bad])) s1 = some (.lst ((ts.take k).map V.ref)) := Same.new hs2 _ _ upd_same
            have f2 : (upd (upd G1 s1 (.lst ((ts.take k).map V.ref))) s2 (.lst [bad])) s2 = some (.lst [bad]) := upd_same
            generalize upd (upd G1 s1 (.lst ((ts.take k).map V.ref))) s2 (.lst [bad]) = G2 at q2 f1 f2
            refine ⟨s1, s2, _, _, rfl, rfl, f1, f2, by rw [List.length_map, List.length_take]; simp; omega, fun s3 hs3 => ?_⟩
            have q3 := q2.trans (Same.new (o := .lst ((ts.take k).map V.ref ++ [bad])) hs3)
            have f3 : (upd G2 s3 (.lst ((ts.take k).map V.ref ++ [bad]))) s3 = some (.lst ((ts.take k).map V.ref ++ [bad])) := upd_same
            generalize upd G2 s3 (.lst ((ts.take k).map V.ref ++ [bad])) = G3 at q3 f3
            refine ⟨_, rfl, _, rfl, k, rfl, ?_⟩
            refine ⟨tr, _, rfl, SqL.of (q3 _ _ F.et), fun s4 hs4 => ?_⟩
            rw [cutV_from (by rw [List.length_map]; exact hk), ← List.map_drop]
            have q4 := q3.trans (Same.new (o := .lst ((ts.drop k).map V.ref)) hs4)
            have f4 := Same.new (o := .lst ((ts.drop k).map V.ref)) hs4 _ _ f3
            have g4 : (upd G3 s4 (.lst ((ts.drop k).map V.ref))) s4 = some (.lst ((ts.drop k).map V.ref)) := upd_same
            generalize upd G3 s4 (.lst ((ts.drop k).map V.ref)) = G4 at q4 f4 g4
            refine ⟨s3, s4, _, _, rfl, rfl, f4, g4, by simp; omega, fun s5 hs5 => ?_⟩
            have q5 := q4.trans (Same.new (o := .lst (((ts.take k).map V.ref ++ [bad]) ++ (ts.drop k).map V.ref)) hs5)
            refine ⟨.ref s5, rfl, TreesAt.bad (k := k) (bad := bad) (rest := (ts.drop k).map V.ref) ((F.same q5).Tr) ok hk (by rw [upd_same, List.append_assoc]; rfl) (by simp; omega) ?_ (rz.of q5)⟩
            exact (hb.imp (fun z => (z.but (But2.t (Same.but2 q5))).it) id)
          · refine ⟨_, rfl, y, BU, some dx, _, _, true, rfl, .own BU, upd_same, (fun z e => by cases e; exact ⟨_, Same.new hy _ _ edx⟩), EF.cB, EF.kB, _, rfl, iteFd rfl ?_⟩
            have sy := s4.trans (Same.new (o := HX (.ref BU) (some dx) y) hy)
            refine ⟨_, rfl, y, BU, dx, _, _, rfl, upd_same, Same.new hy _ _ edx, EF.qB, EF.fB, rfl, _, rfl, rfl, _, rfl, iteFd (by simp) ⟨_, _, rfl, F.same sy, hb.imp (fun z => z.but (But2.t (Same.but2 sy))) id, sy _ _ ewk, LamAt.same m7 sy, LamAt.same m8 sy⟩⟩
        | 1, hv =>
          obtain rfl : V.ref g8 = v := Option.some.inj hv
          obtain ⟨c8, h8, h8c⟩ := m8
          have m8 : LamAt (cxOf CX0 P w0 K mg base n__law_refused_right "_law_refused_right" (defScope s__law_refused_right) f (.ref cc) A outer s H E).nox G1 (lR 8) g8 := ⟨c8, h8, h8c⟩
          refine ⟨_, rfl, (lR 8, _), List.mem_cons_of_mem _ List.mem_cons_self, g8, c8, rfl, h8, h8c, ttc_raise (fl := "at") (v := .int (k : Nat)) EF.xB (fun E' Q' rz => ?_) (fun G4 dx y s4 edx hy => ?_)⟩
          · refine ⟨_, rfl, ?_⟩
            show tNoPart _ _ _
            unfold tNoPart
            refine ⟨_, rfl, k, rfl, tr, _, rfl, SqL.of F.et, fun s1 hs1 => ?_⟩
            rw [cutV_to (by rw [List.length_map]; exact hk), ← List.map_take]
            refine ⟨_, rfl, by show 1 ≤ sizeLine; omega, fun s2 hs2 => ?_⟩
            have q2 := (Same.new (o := .lst ((ts.take k).map V.ref)) hs1).trans (Same.new (o := .lst [bad]) hs2)
            have f1 : (upd (upd G1 s1 (.lst ((ts.take k).map V.ref))) s2 (.lst [bad])) s1 = some (.lst ((ts.take k).map V.ref)) := Same.new hs2 _ _ upd_same
            have f2 : (upd (upd G1 s1 (.lst ((ts.take k).map V.ref))) s2 (.lst [bad])) s2 = some (.lst [bad]) := upd_same
            generalize upd (upd G1 s1 (.lst ((ts.take k).map V.ref))) s2 (.lst [bad]) = G2 at q2 f1 f2
            refine ⟨s1, s2, _, _, rfl, rfl, f1, f2, by rw [List.length_map, List.length_take]; simp; omega, fun s3 hs3 => ?_⟩
            have q3 := q2.trans (Same.new (o := .lst ((ts.take k).map V.ref ++ [bad])) hs3)
            have f3 : (upd G2 s3 (.lst ((ts.take k).map V.ref ++ [bad]))) s3 = some (.lst ((ts.take k).map V.ref ++ [bad])) := upd_same
            generalize upd G2 s3 (.lst ((ts.take k).map V.ref ++ [bad])) = G3 at q3 f3
            refine ⟨.ref s3, .int 5, rfl, TreesAt.bad (k := k) (bad := bad) (rest := []) ((F.same q3).Tr) ok hk (by rw [f3]) (by simp) ?_ (rz.of q3)⟩
            exact (hb.imp (fun z => (z.but (But2.t (Same.but2 q3))).it) id)
          · refine ⟨_, rfl, y, BU, some dx, _, _, true, rfl, .own BU, upd_same, (fun z e => by cases e; exact ⟨_, Same.new hy _ _ edx⟩), EF.cB, EF.kB, _, rfl, iteFd rfl ?_⟩
            have sy := s4.trans (Same.new (o := HX (.ref BU) (some dx) y) hy)
            refine ⟨_, rfl, y, BU, dx, _, _, rfl, upd_same, Same.new hy _ _ edx, EF.qB, EF.fB, rfl, _, rfl, rfl, _, rfl, iteFd (by simp) ⟨_, _, rfl, F.same sy, hb.imp (fun z => z.but (But2.t (Same.but2 sy))) id, sy _ _ ewk, LamAt.same m7 sy, LamAt.same m8 sy⟩⟩
      · rintro σ G0 ⟨er, wo, rfl, F, _⟩
        exact ⟨er, wo, rfl, F⟩
    rintro σ H10 ⟨er, wo, rfl, F10⟩
    -- one pair
    refine ⟨fun σ H' => ∃ (j : Nat) (rj : Row), σ = [some (.ref d), some (.ref a), some er, some (.ref L), some (.ref wk), wo, some (.ref rj.2.2), some (.int (k : Nat)), some bad, some (.str (nm rj.1)), some odd, none, some (.ref tr), none] ∧ RfAt T H H' d w c a tr (n + 4) pas ts rows ∧ rows[j]? = some rj, ?_, ?_⟩
    · have tl := F10.Tr.len
      have pl := F10.R.len
      obtain ⟨j, p, hp, hat⟩ : ∃ j p, pas[j]? = some p ∧ atI (pas.map V.ref) ((k : Int) - 1) = some (.ref p) := by
        have r0 : 0 < rows.length := List.length_pos_iff.mpr hne
        by_cases h0 : k = 0
        · subst h0
          refine ⟨pas.length - 1, pas[pas.length - 1], List.getElem?_eq_getElem (by omega), ?_⟩
          unfold atI ixN
          rw [List.length_map, if_neg (by omega), if_pos (by omega)]
          have e : (((0 : Nat) : Int) - 1 + (pas.length : Nat)).toNat = pas.length - 1 := by omega
          simp only [Option.bind_some]
          rw [e, List.getElem?_map, List.getElem?_eq_getElem (by omega)]
          rfl
        · refine ⟨k - 1, pas[k - 1], List.getElem?_eq_getElem (by omega), ?_⟩
          rw [show (k : Int) - 1 = ((k - 1 : Nat) : Int) by omega]
          exact atI_nat (by rw [List.getElem?_map, List.getElem?_eq_getElem (by omega)]; rfl)
      obtain ⟨rj, hj, ep, eb⟩ := F10.R.at_ hp
      exact ⟨_, rfl, _, rfl, _, _, rfl, rfl, a, _, _, _, rfl, rfl, SqL.of F10.ea, hat, p, _, rfl, SqT.of ep, rfl, _, _, rfl, _, _, rfl, rfl, j, rj, rfl, F10, hj⟩
    rintro σ H11 ⟨j, rj, rfl, F11, hj⟩
    have hjm := List.mem_of_getElem? hj
    have jl := (List.getElem?_eq_some_iff.mp hj).1
    obtain ⟨ynd, ysub, y5⟩ := ok.u rj hjm
    -- the units with a use of what is none
    refine ⟨fun σ H' => ∃ (so tn bn : Addr), σ = [some (.ref d), some (.ref a), some er, some (.ref L), some (.ref wk), wo, some (.ref rj.2.2), some (.int (k : Nat)), some bad, some (.str (nm rj.1)), some odd, some (.ref so), some (.ref tr), none] ∧ RfAt T H H' d w c a tr (n + 4) pas ts rows ∧ so ≠ d ∧ so ≠ w ∧ so ≠ c ∧ so ≠ a ∧ so ≠ tr ∧ H' so = some (.lst ((ts.set j tn).map V.ref)) ∧ UnAt H' tn rj.1 (7 :: rj.2.1.take 4) bn, ?_, ?_⟩
    · have tl := F11.Tr.len
      refine ⟨_, rfl, tr, rfl, ⟨_, SqL.of F11.et⟩, fun D hD => lc_list (K := K) (a := tr) (xs := ts.map V.ref) (fun i H' => ∃ us : List Addr, Same H11 H' ∧ H' D = some (.lst (us.map V.ref)) ∧ us.length = i ∧ (∀ m, m < i → m ≠ j → us[m]? = ts[m]?) ∧ (j < i → ∃ tn bn, us[j]? = some tn ∧ UnAt H' tn rj.1 (7 :: rj.2.1.take 4) bn)) ⟨[], Same.new hD, upd_same, rfl, fun m h => absurd h (Nat.not_lt_zero _), fun h => absurd h (Nat.not_lt_zero _)⟩ (fun i H' _ e => by obtain ⟨_, s, _⟩ := e; exact SqL.of (s _ _ F11.et)) ?_ ?_⟩
      · rintro i v G0 hv ⟨us, s0, e0, ul, um, uj⟩
        rw [List.getElem?_map] at hv
        obtain ⟨t, ht, rfl⟩ := Option.map_eq_some_iff.mp hv
        have il := (List.getElem?_eq_some_iff.mp ht).1
        obtain ⟨r, hr2⟩ : ∃ r, rows[i]? = some r := ⟨_, List.getElem?_eq_getElem (by omega)⟩
        obtain ⟨t', ht', hT⟩ := F11.Tr.at_ hr2
        obtain rfl : t = t' := Option.some.inj (ht.symm.trans ht')
        have hT0 := hT.kp (Same.kpT s0)
        obtain ⟨⟨c0, e0', ho, _, _⟩, _⟩ := hT0
        have hrm := List.mem_of_getElem? hr2
        refine ⟨rfl, yes ?_⟩
        show tIf _ _ _ _ _ _
        refine ⟨_, rfl, t, _, 1, _, rfl, rfl, SqT.of ho, atI_nat (j := 1) rfl, _, rfl, rfl, _, rfl, ?_⟩
        rw [nm_dec (ok.n7 hrm) (ok.n7 hjm)]
        have oldm : ∀ (t2 : Addr), ∀ m, m < i + 1 → m ≠ j → (m = i → t2 = t) → (us ++ [t2])[m]? = ts[m]? := fun t2 m hm hmj hti => by
          rcases Nat.lt_or_ge m i with h | h
          · rw [List.getElem?_append_left (by omega)]
            exact um m h hmj
          · obtain rfl : m = i := by omega
            rw [List.getElem?_append_right (by omega), ul, Nat.sub_self, ht, hti rfl]
            rfl
        by_cases he : r.1 = rj.1
        · have hij : i = j := by
            have h1 : (rows.map (·.1))[i]? = some r.1 := by rw [List.getElem?_map, hr2]; rfl
            have h2 : (rows.map (·.1))[j]? = some rj.1 := by rw [List.getElem?_map, hj]; rfl
            exact (List.getElem?_inj (by rw [List.length_map]; omega) ok.nd).mp (by rw [h1, h2, he])
          refine iteFd (by simp [he]) ?_
          have eb := (F11.Tr.at_ hj).elim fun _ z => z.2.b
          have eb0 := s0 _ _ eb
          refine ⟨_, rfl, ?_⟩
          refine tE_either (fun v H' => ∃ bn, v = .ref bn ∧ Same G0 H' ∧ H' bn = some (.tup (nmV (7 :: rj.2.1.take 4)))) (fun R hR => ?_) ?_
          · refine ⟨by show 1 ≤ sizeLine; omega, fun q1 hq1 => ?_⟩
            have s1 := Same.new (o := .tup [.str "notthere"]) hq1
            have f1 : (upd G0 q1 (.tup [.str "notthere"])) q1 = some (.tup (nmV [7])) := upd_same
            generalize upd G0 q1 (.tup [.str "notthere"]) = G1 at s1 f1
            have cat : ∀ (z : Addr) (G2 : Hp), Same G1 G2 → G2 z = some (.tup (nmV (rj.2.1.take 4))) → rCatT K (.ref q1) (.ref z) G2 R := fun z G2 s2 ez => by
              refine ⟨q1, z, _, _, rfl, rfl, SqT.of (s2 _ _ f1), SqT.of ez, (fun y => by cases y), by rw [nmV_len, nmV_len, List.length_take]; simp; omega, fun y => hR _ _ ⟨q1, rfl, s1.trans s2, ?_⟩, fun _ p hp => hR _ _ ⟨p, rfl, (s1.trans s2).trans (Same.new hp), ?_⟩⟩
              · have : rj.2.1.take 4 = [] := by
                  have := congrArg List.length y
                  rw [nmV_len] at this
                  exact List.length_eq_zero_iff.mp this
                rw [this]
                exact s2 _ _ f1
              · rw [upd_same]
                rfl
            refine ⟨_, rfl, 4, rfl, rj.2.2, _, rfl, SqT.of (s1 _ _ eb0), fun wh => ?_, fun _ p hp => ?_⟩
            · have h4 : rj.2.1.length ≤ 4 := by
                have h2 : HT.sIx (nmV rj.2.1).length (nmV rj.2.1).length (some ((4 : Nat) : Int)) = (nmV rj.2.1).length := wh.2
                rw [HT.sIx_nat, nmV_len] at h2
                omega
              exact cat _ G1 (Same.refl _) (by rw [List.take_of_length_le h4]; exact s1 _ _ eb0)
            · refine cat p _ (Same.new hp) ?_
              rw [upd_same, cutV_4, show (nmV rj.2.1).take 4 = nmV (rj.2.1.take 4) from (List.map_take ..).symm]
          · rintro v G1 ⟨bn, rfl, s1, ebn⟩
            refine ⟨by show 0 ≤ sizeLine; omega, fun c1 hc1 => ⟨by show 0 ≤ sizeLine; omega, fun c2 hc2 => ⟨by show 5 ≤ sizeLine; omega, fun t2 ht2 => ?_⟩⟩⟩
            have s2 : Same G1 (upd (upd (upd G1 c1 (.tup [])) c2 (.tup [])) t2 (.tup [.str "unit", .str (nm rj.1), .ref bn, .ref c1, .ref c2])) := ((Same.new hc1).trans (Same.new hc2)).trans (Same.new ht2)
            have un2 : UnAt (upd (upd (upd G1 c1 (.tup [])) c2 (.tup [])) t2 (.tup [.str "unit", .str (nm rj.1), .ref bn, .ref c1, .ref c2])) t2 rj.1 (7 :: rj.2.1.take 4) bn := ⟨⟨c1, c2, upd_same, Same.new ht2 _ _ (Same.new hc2 _ _ upd_same), Same.new ht2 _ _ upd_same⟩, s2 _ _ ebn⟩
            generalize upd (upd (upd G1 c1 (.tup [])) c2 (.tup [])) t2 (.tup [.str "unit", .str (nm rj.1), .ref bn, .ref c1, .ref c2]) = G2 at s2 un2
            have e2 := s2 _ _ (s1 _ _ e0)
            have kp := KpT.put (o' := .lst (us.map V.ref ++ [.ref t2])) e2 (fun _ z => nomatch z)
            refine ⟨_, e2, by rw [List.length_map]; omega, us ++ [t2], Same.upd' ((s0.trans s1).trans s2) hD, by rw [upd_same, List.map_append]; rfl, by simp [ul], fun m hm hmj => oldm t2 m hm hmj fun z => absurd (z.trans hij) hmj, fun _ => ⟨t2, bn, ?_, un2.kp kp⟩⟩
            rw [← hij, List.getElem?_append_right (by omega), ul, Nat.sub_self]
            rfl
        · refine iteTd (by simp [he]) ⟨_, rfl, ?_⟩
          have kp := KpT.put (o' := .lst (us.map V.ref ++ [.ref t])) e0 (fun _ z => nomatch z)
          refine ⟨_, e0, by rw [List.length_map]; omega, us ++ [t], Same.upd' s0 hD, by rw [upd_same, List.map_append]; rfl, by simp [ul], fun m hm hmj => oldm t m hm hmj fun _ => rfl, fun hji => ?_⟩
          have hji2 : j < i := by
            rcases Nat.lt_or_ge j i with h | h
            · exact h
            · exfalso
              obtain rfl : j = i := by omega
              rw [hr2] at hj
              exact he (by rw [Option.some.inj hj])
          obtain ⟨tn, bn, hu, un⟩ := uj hji2
          exact ⟨tn, bn, by rw [List.getElem?_append_left (by omega)]; exact hu, un.kp kp⟩
      · rintro G0 ⟨us, s0, e0, ul, um, uj⟩
        rw [List.length_map] at ul um uj
        obtain ⟨tn, bn, hu, un⟩ := uj (by omega)
        have F := F11.same s0
        have kD := F11.D.knowD hD
        refine ⟨D, tn, bn, rfl, F, kD.1, kD.2.1, kD.2.2, (ne_of_none F11.ea hD).symm, (ne_of_none F11.et hD).symm, ?_, un⟩
        have : us = ts.set j tn := by
          refine List.ext_getElem? fun m => ?_
          by_cases hm : m = j
          · subst hm
            rw [hu, List.getElem?_set_self (by omega)]
          · rw [List.getElem?_set_ne (fun z => hm z.symm)]
            rcases Nat.lt_or_ge m ts.length with h | h
            · exact um m h hm
            · rw [List.getElem?_eq_none (by omega), List.getElem?_eq_none h]
        rw [← this]
        exact e0
    rintro σ H12 ⟨so, tn, bn, rfl, F12, sod, sow, soc, soa, sot, eso, un⟩
    have h5u : (7 :: rj.2.1.take 4).length ≤ 5 := by
      rw [List.length_cons, List.length_take]
      omega
    have h8u : ∀ y ∈ 7 :: rj.2.1.take 4, y = 7 ∨ y ∈ rows.map (·.1) := fun y hy => by
      rcases List.mem_cons.mp hy with rfl | hy
      · exact .inl rfl
      · exact .inr (ysub y (List.mem_of_mem_take hy))
    -- two calls again
    refine ⟨fun σ H' => ∃ (w2 g12 : Addr), σ = [some (.ref d), some (.ref a), some er, some (.ref L), some (.ref w2), wo, some (.ref rj.2.2), some (.int (k : Nat)), some bad, some (.str (nm rj.1)), some odd, some (.ref so), some (.ref tr), none] ∧ RfAt T H H' d w c a tr (n + 4) pas ts rows ∧ H' so = some (.lst ((ts.set j tn).map V.ref)) ∧ UnAt H' tn rj.1 (7 :: rj.2.1.take 4) bn ∧ NewT H w2 ∧ w2 ≠ d ∧ w2 ≠ w ∧ w2 ≠ c ∧ w2 ≠ a ∧ w2 ≠ tr ∧ w2 ≠ so ∧ H' w2 = some (.lst [.ref g12]) ∧ LamAt (cxOf CX0 P w0 K mg base n__law_refused_right "_law_refused_right" (defScope s__law_refused_right) f (.ref cc) A outer s H E).nox H' (lR 12) g12, ?_, ?_⟩
    · refine ⟨F12.t, fun g c' H13 e13 T13 hg eg ec => ⟨by show 1 ≤ sizeLine; omega, fun w2 hwk => ?_⟩⟩
      have F13 := F12.ext e13 T13
      have sw := Same.new (o := .lst [.ref g]) hwk
      have kw := F13.D.knowD hwk
      have eso2 := e13 _ _ eso (fun _ z => nomatch z)
      exact ⟨w2, g, rfl, F13.same sw, sw _ _ eso2, (un.kp (ext_kpT e13)).kp (Same.kpT sw), F13.b.newT hwk kw.1 kw.2.1, kw.1, kw.2.1, kw.2.2, (ne_of_none F13.ea hwk).symm, (ne_of_none F13.et hwk).symm, (ne_of_none eso2 hwk).symm, upd_same, LamAt.same ⟨c', eg, ec⟩ sw⟩
    rintro σ H13 ⟨w2, g12, rfl, F13, eso, un, hw2, w2d, w2w, w2c, w2a, w2t, w2s, ew2, l12⟩
    refine ⟨fun σ H' => ∃ (g13 : Addr), σ = [some (.ref d), some (.ref a), some er, some (.ref L), some (.ref w2), wo, some (.ref rj.2.2), some (.int (k : Nat)), some bad, some (.str (nm rj.1)), some odd, some (.ref so), some (.ref tr), none] ∧ RfAt T H H' d w c a tr (n + 4) pas ts rows ∧ H' so = some (.lst ((ts.set j tn).map V.ref)) ∧ UnAt H' tn rj.1 (7 :: rj.2.1.take 4) bn ∧ H' w2 = some (.lst [.ref g12, .ref g13]) ∧ LamAt (cxOf CX0 P w0 K mg base n__law_refused_right "_law_refused_right" (defScope s__law_refused_right) f (.ref cc) A outer s H E).nox H' (lR 12) g12 ∧ LamAt (cxOf CX0 P w0 K mg base n__law_refused_right "_law_refused_right" (defScope s__law_refused_right) f (.ref cc) A outer s H E).nox H' (lR 13) g13, ?_, ?_⟩
    · refine ⟨_, rfl, .inl ⟨rfl, _, SqL.of ew2⟩, F13.t, fun g c' H14 e14 T14 hg eg ec => ?_⟩
      have ew14 := e14 _ _ ew2 (fun _ z => nomatch z)
      have F14 := F13.ext e14 T14
      have eso2 := e14 _ _ eso (fun _ z => nomatch z)
      refine ⟨w2, _, _, rfl, rfl, ew14, by show 1 < sizeLine; omega, g, rfl, F14.put ew14 hw2 w2d w2w w2c w2a w2t, ?_, (un.kp (ext_kpT e14)).kp (KpT.put ew14 (fun _ z => nomatch z)), upd_same, LamAt.put (l12.ext e14) ew14, LamAt.put ⟨c', eg, ec⟩ ew14⟩
      rw [upd_ne w2s.symm]
      exact eso2
    rintro σ H14 ⟨g13, rfl, F14, eso, un, ew2, l12, l13⟩
    refine ⟨fun σ H' => ∃ (er : V) (wo : Option V), σ = [some (.ref d), some (.ref a), some er, some (.ref L), some (.ref w2), wo, some (.ref rj.2.2), some (.int (k : Nat)), some bad, some (.str (nm rj.1)), some odd, some (.ref so), some (.ref tr), none] ∧ RfAt T H H' d w c a tr (n + 4) pas ts rows, ?_, ?_⟩
    · refine ⟨_, rfl, w2, rfl, ⟨_, SqL.of ew2⟩, for_it (walk_list (xs := [.ref g12, .ref g13])) (fun i σ H' => ∃ (er : V) (wo : Option V), σ = [some (.ref d), some (.ref a), some er, some (.ref L), some (.ref w2), wo, some (.ref rj.2.2), some (.int (k : Nat)), some bad, some (.str (nm rj.1)), some odd, some (.ref so), some (.ref tr), none] ∧ RfAt T H H' d w c a tr (n + 4) pas ts rows ∧ H' so = some (.lst ((ts.set j tn).map V.ref)) ∧ UnAt H' tn rj.1 (7 :: rj.2.1.take 4) bn ∧ H' w2 = some (.lst [.ref g12, .ref g13]) ∧ LamAt (cxOf CX0 P w0 K mg base n__law_refused_right "_law_refused_right" (defScope s__law_refused_right) f (.ref cc) A outer s H E).nox H' (lR 12) g12 ∧ LamAt (cxOf CX0 P w0 K mg base n__law_refused_right "_law_refused_right" (defScope s__law_refused_right) f (.ref cc) A outer s H E).nox H' (lR 13) g13) ⟨_, _, rfl, F14, eso, un, ew2, l12, l13⟩ (fun i σ H' _ h => by obtain ⟨_, _, _, _, _, _, e, _⟩ := h; exact SqL.of e) ?_ ?_⟩
      · rintro i v σ G0 G1 hi ⟨er, wo, rfl, F, eso, un, ewk, m12, m13⟩ ⟨rfl, hv⟩
        match i, hv with
        | 0, hv =>
          obtain rfl : V.ref g12 = v := Option.some.inj hv
          obtain ⟨c7, h7, h7c⟩ := m12
          have m12 : LamAt (cxOf CX0 P w0 K mg base n__law_refused_right "_law_refused_right" (defScope s__law_refused_right) f (.ref cc) A outer s H E).nox G1 (lR 12) g12 := ⟨c7, h7, h7c⟩
          refine ⟨_, rfl, (lR 12, _), List.mem_cons_self, g12, c7, rfl, h7, h7c, ttc_raise (fl := "name") (v := .str (nm 7)) EF.xN (fun E' Q' rz => ?_) (fun G4 dx y s4 edx hy => ?_)⟩
          · exact ⟨_, rfl, .ref so, rfl, UnAt.unk (xs := []) F.Tr ok hj eso un h8u List.mem_cons_self h5u rz⟩
          · refine ⟨_, rfl, y, NU, some dx, _, _, true, rfl, .own NU, upd_same, (fun z e => by cases e; exact ⟨_, Same.new hy _ _ edx⟩), EF.cN, EF.kN, _, rfl, iteFd rfl ?_⟩
            have sy := s4.trans (Same.new (o := HX (.ref NU) (some dx) y) hy)
            refine ⟨_, rfl, y, NU, dx, _, _, rfl, upd_same, Same.new hy _ _ edx, EF.qN, EF.fN, rfl, rfl, _, rfl, iteFd (by decide +kernel) ⟨_, _, rfl, F.same sy, sy _ _ eso, un.kp (Same.kpT sy), sy _ _ ewk, LamAt.same m12 sy, LamAt.same m13 sy⟩⟩
        | 1, hv =>
          obtain rfl : V.ref g13 = v := Option.some.inj hv
          obtain ⟨c7, h7, h7c⟩ := m13
          have m13 : LamAt (cxOf CX0 P w0 K mg base n__law_refused_right "_law_refused_right" (defScope s__law_refused_right) f (.ref cc) A outer s H E).nox G1 (lR 13) g13 := ⟨c7, h7, h7c⟩
          refine ⟨_, rfl, (lR 13, _), List.mem_cons_of_mem _ List.mem_cons_self, g13, c7, rfl, h7, h7c, ttc_raise (fl := "name") (v := .str (nm 7)) EF.xN (fun E' Q' rz => ?_) (fun G4 dx y s4 edx hy => ?_)⟩
          · refine ⟨_, rfl, _, rfl, ?_⟩
            refine ⟨.ref so, .str (nm rj.1), rfl, UnAt.unk (xs := []) F.Tr ok hj eso un h8u List.mem_cons_self h5u rz⟩
          · refine ⟨_, rfl, y, NU, some dx, _, _, true, rfl, .own NU, upd_same, (fun z e => by cases e; exact ⟨_, Same.new hy _ _ edx⟩), EF.cN, EF.kN, _, rfl, iteFd rfl ?_⟩
            have sy := s4.trans (Same.new (o := HX (.ref NU) (some dx) y) hy)
            refine ⟨_, rfl, y, NU, dx, _, _, rfl, upd_same, Same.new hy _ _ edx, EF.qN, EF.fN, rfl, rfl, _, rfl, iteFd (by decide +kernel) ⟨_, _, rfl, F.same sy, sy _ _ eso, un.kp (Same.kpT sy), sy _ _ ewk, LamAt.same m12 sy, LamAt.same m13 sy⟩⟩
      · rintro σ G0 ⟨er, wo, rfl, F, _⟩
        exact ⟨er, wo, rfl, F⟩
    rintro σ H15 ⟨er, wo, rfl, F15⟩
    -- what is no name of a unit
    refine ⟨fun σ H' => ∃ (x : V), σ = [some (.ref d), some (.ref a), some er, some (.ref L), some (.ref w2), wo, some (.ref rj.2.2), some (.int (k : Nat)), some bad, some (.str (nm rj.1)), some x, some (.ref so), some (.ref tr), none] ∧ RfAt T H H' d w c a tr (n + 5) pas ts rows ∧ OddN rj.1 H' x, ?_, ?_⟩
    · refine ⟨_, rfl, _, rfl, by show 1 ≤ sizeLine; omega, fun p1 hp1 => ⟨by show 5 ≤ sizeLine; omega, fun L2 hL => ?_⟩⟩
      have s1 := Same.new (o := .tup [.str (nm rj.1)]) hp1
      have e1 : (upd H15 p1 (.tup [.str (nm rj.1)])) p1 = some (.tup [.str (nm rj.1)]) := upd_same
      have F16 := F15.same s1
      generalize upd H15 p1 (.tup [.str (nm rj.1)]) = H16 at s1 e1 F16 hL
      have sL := Same.new (o := .lst [.str "notthere", .non, .int 5, .ref p1, .str ""]) hL
      have F17 := F16.same sL
      have kL := F16.D.knowD hL
      refine ⟨d, w, c, L2, n + 4, _, rfl, F17.D, by omega, kL.1, kL.2.1, SqL.of upd_same, by simp, by simp, fun x H' hx D' b' => ⟨x, rfl, F17.draw D' b', ?_⟩⟩
      have f1 := But2.kpT F17.D b' _ _ (sL _ _ e1)
      simp only [List.mem_cons, List.not_mem_nil, or_false] at hx
      rcases hx with rfl | rfl | rfl | rfl | rfl
      · exact .inl (.inl rfl)
      · exact .inl (.inr (.inl rfl))
      · exact .inl (.inr (.inr (.inl rfl)))
      · exact .inr ⟨_, rfl, f1⟩
      · exact .inl (.inr (.inr (.inr rfl)))
    rintro σ H16 ⟨od2, rfl, F16, hod2⟩
    have hnm := ok.n7 hjm
    refine ⟨fun σ H' => ∃ (e dx : Addr), σ = [some (.ref d), some (.ref a), some (.ref e), some (.ref L), some (.ref w2), wo, some (.ref rj.2.2), some (.int (k : Nat)), some bad, some (.str (nm rj.1)), some od2, some (.ref so), some (.ref tr), none] ∧ RfAt T H H' d w c a tr (n + 5) pas ts rows ∧ H' e = some (HX (.ref NU) (some dx) e) ∧ H' dx = some (.xd [("name", od2)]) ∧ OddN rj.1 H' od2, ?_, ?_⟩
    · refine ⟨F16.t, fun g c' H17 e17 T17 hg eg ec => ⟨_, List.mem_singleton.mpr rfl, g, c', rfl, eg, ec, ?_⟩⟩
      have F17 := F16.ext e17 T17
      have o17 := hod2.kp (ext_kpT e17)
      refine ttc_raise (fl := "name") (v := od2) EF.xN (fun E' Q' rz => ?_) (fun G4 dx y s4 edx hy => ?_)
      · refine ⟨_, rfl, _, rfl, .ref tr, od2, rfl, F17.Tr.chk ok hne F17.et ?_⟩
        obtain ⟨D, h1, h2, h3⟩ := o17.dn (K := K) hnm
        exact ⟨D, h1, .inl ⟨fun m hm => h2 m (ok.l7 m hm), rz⟩⟩
      · have sy := s4.trans (Same.new (o := HX (.ref NU) (some dx) y) hy)
        exact ⟨y, dx, rfl, F17.same sy, upd_same, Same.new hy _ _ edx, o17.kp (Same.kpT sy)⟩
    rintro σ H17 ⟨e2, dx2, rfl, F17, ee2, edx2, o17⟩
    obtain ⟨D2, dn2, no2, sh2⟩ := o17.dn (K := K) hnm
    refine ⟨_, rfl, e2, NU, some dx2, _, _, true, rfl, .own NU, ee2, (fun z e => by cases e; exact ⟨_, edx2⟩), EF.cN, EF.kN, ?_⟩
    refine ⟨true, rfl, iteTd rfl ?_⟩
    refine ⟨_, rfl, e2, NU, dx2, _, _, rfl, ee2, edx2, EF.qN, EF.fN, rfl, _, D2, rfl, sh2.dx, sh2.gd.1, sh2.gd.2.1, sh2.gd.2.2, _, rfl, _, D2, rfl, sh2.dx, sh2.gd.1, sh2.gd.2.1, sh2.gd.2.2, ?_⟩
    have fin : Q (.bl true) H17 := q H17 (F17.D.mono (by omega)) F17.b F17.t
    show rEq (V.str D2.shown) (V.str D2.shown) H17 Q
    unfold rEq
    simp only [decide_true]
    exact ⟨rfl, fin⟩
end
end SA

set_option Elab.async false
set_option linter.all false
set_option maxRecDepth 100000
set_option maxHeartbeats 4000000
namespace SA
open PySem PySem.Spec PySem.W PyProof.Rows L2 T02
open G11 (Clw Due ordGo Rc Leq)
theorem merge_app : ∀ {more acc : List (Key × V)}, ((acc ++ more).map (·.1)).Nodup → mergeK acc more = acc ++ more
  | [], acc, _ => (List.append_nil acc).symm
  | kv :: more, acc, h => by
    have hn : (acc.any fun q => decide (q.fst = kv.1)) = false := by
      rw [List.any_eq_false]
      intro q hq z
      have e := of_decide_eq_true z
      rw [List.map_append, List.nodup_append] at h
      exact h.2.2 q.1 (List.mem_map.mpr ⟨q, hq, rfl⟩) kv.1 (List.mem_map.mpr ⟨kv, List.mem_cons_self, rfl⟩) e
    have e1 : mergeK acc (kv :: more) = mergeK (putK acc kv.1 kv.2) more := rfl
    have e2 : putK acc kv.1 kv.2 = acc ++ [kv] := by
      unfold putK
      rw [hn]
      rfl
    rw [e1, e2, merge_app (by rw [List.append_assoc]; exact h), List.append_assoc]
    rfl
theorem merge_nd {kvs : List (Key × V)} (h : (kvs.map (·.1)).Nodup) : mergeK [] kvs = kvs := merge_app (acc := []) h
theorem rows_paired {K : PySem.W.Frag} {H : Hp} : ∀ {pas : List Addr} {rows : List Row}, RowsAt H pas rows → Paired (fun p (kv : Key × V) => SqT K H p [kV kv.1, kv.2]) pas (rows.map fun r => ((Sum.inr (nm r.1) : Key), V.ref r.2.2))
  | _, _, .nil => .nil
  | _, _, .cons h _ t => .cons (SqT.of h) (rows_paired t)
theorem rows_keys {rows : List Row} (nd : (rows.map (·.1)).Nodup) : (rows.map fun r => ((Sum.inr (nm r.1) : Key), V.ref r.2.2)) = (rows.map (·.1)).map fun n => ((Sum.inr (nm n) : Key), V.ref (adR rows n)) := by
  rw [List.map_map]
  refine List.map_congr_left fun r hr => ?_
  show _ = ((Sum.inr (nm r.1) : Key), V.ref (adR rows r.1))
  rw [(adjR_row nd hr).2]
theorem rows_nd {rows : List Row} (nd : (rows.map (·.1)).Nodup) (h7 : lt7 (rows.map (·.1))) : ((rows.map fun r => ((Sum.inr (nm r.1) : Key), V.ref r.2.2)).map (·.1)).Nodup := by
  rw [List.map_map]
  have := nd_map nd h7
  rw [List.map_map] at this
  have e : ((fun x => x.1) ∘ fun r : Row => ((Sum.inr (nm r.1) : Key), V.ref r.2.2)) = (fun z : Str => (Sum.inr z : Key)) ∘ (nm ∘ fun x : Row => x.1) := rfl
  rw [e, ← List.map_map]
  exact this.map _ fun a b h q => h (Sum.inr.inj q)
theorem RowsAt.u {K : PySem.W.Frag} {H : Hp} : ∀ {pas : List Addr} {rows : List Row}, RowsAt H pas rows → ∀ r ∈ rows, H r.2.2 = some (.tup (nmV r.2.1))
  | _, _, .nil, _, h => absurd h List.not_mem_nil
  | _, _, .cons _ h t, r, hr => by
    rcases List.mem_cons.mp hr with rfl | hr
    · exact h
    · exact t.u (K := K) r hr
theorem RowsAt.ud {K : PySem.W.Frag} {H : Hp} {pas : List Addr} {rows : List Row} {u : Addr} (R : RowsAt H pas rows) (ok : RowsOk rows) (e : H u = some (.dK ((rows.map (·.1)).map fun n => ((Sum.inr (nm n) : Key), V.ref (adR rows n))))) : UD K H u (rows.map (·.1)) (adjR rows) (adR rows) := by
  refine ⟨e, fun n hn => ?_⟩
  obtain ⟨r, hr, rfl⟩ := List.mem_map.mp hn
  rw [(adjR_row ok.nd hr).1, (adjR_row ok.nd hr).2]
  exact SqT.of (R.u (K := K) r hr)
theorem UD.ext {K : PySem.W.Frag} {H H' : Hp} {u : Addr} {us : List Nat} {adj : Nat → List Nat} {ad : Nat → Addr} (U : UD K H u us adj ad) (s : LamX.ExtN H H') : UD K H' u us adj ad := by
  refine ⟨s _ _ U.e (fun _ z => nomatch z), fun n hn => ?_⟩
  rcases U.t n hn with (h | ⟨o, h⟩) | h
  · exact .inl (.inl (s _ _ h (fun _ z => nomatch z)))
  · exact .inl (.inr ⟨o, s _ _ h (fun _ z => nomatch z)⟩)
  · exact .inr h
theorem UD.put {K : PySem.W.Frag} {H : Hp} {u x : Addr} {xs ys : List V} {us : List Nat} {adj : Nat → List Nat} {ad : Nat → Addr} (U : UD K H u us adj ad) (e : H x = some (.lst xs)) : UD K (upd H x (.lst ys)) u us adj ad := by
  have up : ∀ {b : Addr} {o : HO}, H b = some o → o ≠ .lst xs → (upd H x (.lst ys)) b = some o := fun {b o} h n => by
    rw [upd_ne (fun z => n (by rw [z, e] at h; cases h; rfl))]
    exact h
  refine ⟨up U.e (fun z => nomatch z), fun n hn => ?_⟩
  rcases U.t n hn with (h | ⟨o, h⟩) | h
  · exact .inl (.inl (up h (fun z => nomatch z)))
  · exact .inl (.inr ⟨o, up h (fun z => nomatch z)⟩)
  · exact .inr h
/-! #### the other way round -/
theorem TreesAt.rev {H : Hp} : ∀ {ts : List Addr} {rows : List Row}, TreesAt H ts rows → TreesAt H ts.reverse rows.reverse
  | _, _, .nil => .nil
  | _, _, .cons a b => by
    rw [List.reverse_cons, List.reverse_cons]
    exact TreesAt.snoc a b.rev
theorem RowsOk.rev {rows : List Row} (h : RowsOk rows) : RowsOk rows.reverse := by
  have e : rows.reverse.map (·.1) = (rows.map (·.1)).reverse := List.map_reverse
  refine ⟨?_, ?_, by rw [List.length_reverse]; exact h.few, fun r hr => ?_⟩
  · rw [e]
    exact (List.reverse_perm _).nodup_iff.mpr h.nd
  · rw [e]
    exact fun n hn => h.l7 n (List.mem_reverse.mp hn)
  · obtain ⟨a, b, c⟩ := h.u r (List.mem_reverse.mp hr)
    refine ⟨a, fun y hy => ?_, c⟩
    rw [e]
    exact List.mem_reverse.mpr (b y hy)
theorem adjR_rev {rows : List Row} (h : RowsOk rows) : adjR rows.reverse = adjR rows := by
  funext n
  by_cases hn : n ∈ rows.map (·.1)
  · obtain ⟨r, hr, rfl⟩ := List.mem_map.mp hn
    rw [(adjR_row h.nd hr).1, (adjR_row h.rev.nd (List.mem_reverse.mpr hr)).1]
  · rw [adjR_no hn, adjR_no (rows := rows.reverse) fun z => hn (by rw [List.map_reverse] at z; exact List.mem_reverse.mp z)]
theorem names_rev {rows : List Row} : rows.reverse.map (·.1) = (rows.map (·.1)).reverse := List.map_reverse
theorem asc_rev {ns : List Nat} : ascN ns.reverse = ascN ns := by
  unfold ascN
  refine List.filter_congr fun i _ => ?_
  simp
theorem rc_rev {adj : Nat → List Nat} {ns : List Nat} {n x : Nat} : Rc adj ns.reverse n x ↔ Rc adj ns n x := by
  constructor
  · intro h
    induction h with
    | here => exact .here
    | step a b c d => exact .step (List.mem_reverse.mp a) b d
  · intro h
    induction h with
    | here => exact .here
    | step a b c d => exact .step (List.mem_reverse.mpr a) b d
theorem inc_ext : ∀ {l m : List Nat}, l.Pairwise (· < ·) → m.Pairwise (· < ·) → (∀ x, x ∈ l ↔ x ∈ m) → l = m
  | [], [], _, _, _ => rfl
  | [], y :: m, _, _, h => absurd ((h y).mpr List.mem_cons_self) List.not_mem_nil
  | x :: l, [], _, _, h => absurd ((h x).mp List.mem_cons_self) List.not_mem_nil
  | x :: l, y :: m, hl, hm, h => by
    rw [List.pairwise_cons] at hl hm
    have e : x = y := by
      rcases List.mem_cons.mp ((h x).mp List.mem_cons_self) with z | z
      · exact z
      · rcases List.mem_cons.mp ((h y).mpr List.mem_cons_self) with q | q
        · exact q.symm
        · have := hm.1 x z
          have := hl.1 y q
          omega
    subst e
    rw [inc_ext hl.2 hm.2 fun z => ?_]
    constructor
    · intro q
      rcases List.mem_cons.mp ((h z).mp (List.mem_cons_of_mem _ q)) with w | w
      · have := hl.1 z q
        omega
      · exact w
    · intro q
      rcases List.mem_cons.mp ((h z).mpr (List.mem_cons_of_mem _ q)) with w | w
      · have := hm.1 z q
        omega
      · exact w
/-! #### what is shown -/
theorem nm_leaf : ∀ {i : Nat}, i < 8 → (PyData.str (nm i)).leavesShort 40 = true ∧ (PyData.str (nm i)).weight ≤ 10 ∧ (PyData.str (nm i)).showable = true ∧ PySem.PyData.canLay0 (.str (nm i)) = true := by
  have h : ∀ i, i < 8 → (PyData.str (nm i)).leavesShort 40 = true ∧ (PyData.str (nm i)).weight ≤ 10 ∧ (PyData.str (nm i)).showable = true ∧ PySem.PyData.canLay0 (.str (nm i)) = true := by decide +kernel
  exact fun {i} hi => h i hi
theorem nm_all : ∀ {w : List Nat}, (∀ x ∈ w, x < 8) → PyData.leavesShortAll 40 (nmD w) = true ∧ PyData.weightAll (nmD w) ≤ 11 * w.length ∧ PyData.showableAll (nmD w) = true ∧ PySem.PyData.canLayAll0 (nmD w) = true
  | [], _ => ⟨rfl, Nat.le_refl _, rfl, rfl⟩
  | x :: w, h => by
    obtain ⟨a, b, c, d⟩ := nm_leaf (h x List.mem_cons_self)
    obtain ⟨a2, b2, c2, d2⟩ := nm_all (w := w) fun y hy => h y (List.mem_cons_of_mem _ hy)
    refine ⟨?_, ?_, ?_, ?_⟩
    · show PyData.leavesShortAll 40 (.str (nm x) :: nmD w) = true
      simp only [PyData.leavesShortAll, a, a2, Bool.and_self]
    · show PyData.weightAll (.str (nm x) :: nmD w) ≤ _
      simp only [PyData.weightAll, List.length_cons]
      omega
    · show PyData.showableAll (.str (nm x) :: nmD w) = true
      simp only [PyData.showableAll, c, c2, Bool.and_self]
    · show PySem.PyData.canLayAll0 (.str (nm x) :: nmD w) = true
      simp only [PyData.canLayAll0, d, d2, Bool.and_self]
theorem gd_nm {w : List Nat} (h : ∀ x ∈ w, x < 8) (hl : w.length ≤ 100) : Gd (.tuple (nmD w)) := by
  obtain ⟨a, b, c, _⟩ := nm_all h
  refine gd_of ?_ ?_ ?_ ?_
  · simp only [PyData.showable, c]
  · simp only [PyData.leavesShort, a]
  · simp only [PyData.weight]
    omega
  · simp only [PyData.depth, nm_dep]
    decide
theorem gd_two {w : List Nat} (h : ∀ x ∈ w, x < 8) (hl : w.length ≤ 100) : Gd (.list [.tuple (nmD w), .tuple (nmD w)]) := by
  obtain ⟨a, b, c, _⟩ := nm_all h
  refine gd_of ?_ ?_ ?_ ?_
  · simp only [PyData.showable, PyData.showableAll, c, Bool.and_self]
  · simp only [PyData.leavesShort, PyData.leavesShortAll, a, Bool.and_self]
  · simp only [PyData.weight, PyData.weightAll]
    omega
  · simp only [PyData.depth, PyData.depthAll, nm_dep]
    decide
theorem shaped_nm {w : List Nat} (h : ∀ x ∈ w, x < 8) : SeqAt.shaped (.tuple (nmD w)) = true ∧ SeqAt.shaped (.list [.tuple (nmD w)]) = true := by
  obtain ⟨_, _, _, d⟩ := nm_all h
  constructor
  · show (PyData.canLay0 _ && decide _) = true
    simp only [PyData.canLay0, d, PyData.depth, nm_dep]
    decide
  · show (PyData.canLay0 _ && decide _) = true
    simp only [PyData.canLay0, PyData.canLayAll0, d, PyData.depth, PyData.depthAll, nm_dep]
    decide
theorem dx_nm {K : PySem.W.Frag} {H : Hp} : ∀ {w : List Nat}, DxAll K H (nmV w) (nmD w)
  | [] => .nil
  | _ :: w => .cons (.str _) (dx_nm (w := w))
theorem dp_nm {K : PySem.W.Frag} {H : Hp} : ∀ {w : List Nat}, DpAll K H (nmV w) (nmD w)
  | [] => .nil
  | _ :: w => .cons (.str _) (dp_nm (w := w))
/-! #### the least of sorted things -/
theorem sorted_first {bs rest : List (V × PyData)} {x : V × PyData} (e : bs.mergeSort (dataLe false Prod.snd) = x :: rest) : x ∈ bs ∧ ∀ y ∈ bs, dataLt y.2 x.2 = false := by
  have TL : TotalLe (dataLe false (Prod.snd : V × PyData → PyData)) := sortLe_total _ _ _
  have pm := List.mergeSort_perm bs (dataLe false Prod.snd)
  have pw := List.pairwise_mergeSort TL.trans (fun a b => by rw [Bool.or_eq_true]; exact TL.total a b) bs
  rw [e] at pm pw
  rw [List.pairwise_cons] at pw
  refine ⟨pm.mem_iff.mp List.mem_cons_self, fun y hy => ?_⟩
  have le : dataLe false Prod.snd x y = true := by
    rcases List.mem_cons.mp (pm.mem_iff.mpr hy) with rfl | h
    · exact (TL.total y y).elim id id
    · exact pw.1 y h
  rw [dataLe_eq] at le
  simpa using le
end SA

set_option Elab.async false
set_option linter.all false
set_option maxRecDepth 100000
set_option maxHeartbeats 4000000
namespace SA
open PySem PySem.Spec PyProof.Rows L2 T02
open G11 (Clw Due ordGo Rc Leq)
theorem pe_bmK {X : Cx} {K : PySem.W.Frag} {o e : Expr} {es : List Expr} {to : TE} {t : TA} {name : Str} {apos cpos : Pos} {T id : String} {r : V → List V → Hp → VK → Prop} (hK : X.K = K) (h1 : PlainAttrs T) (h2 : Slot T name id) (h3 : typeOf (Value.builtin id) = pure (Value.type "method_descriptor")) (h4 : MtR X id r) (h5 : PE X o to) (h6 : PA X (e :: es) t)
    (h7 : attributeBase o name X.env (eval o X.env) = eval o X.env := by rfl) (h8 : (((((backTo cpos (starEach (e :: es) X.env)).all fun x => !x.fst) && (backToKw cpos (keywordEach [] X.env)).all fun x => x.fst.isSome) && decide (((e :: es).length + ([] : List Keyword).length + if ([] : List Keyword).isEmpty = true then 0 else 1) < 30)) = true) := by rfl) (h9 : (apos.endLine == cpos.line) = true := by rfl)
    (h10 : starEach (e :: es) X.env = (false, eval e X.env) :: starEach es X.env := by rfl) (h11 : (((backTo cpos (starEach es X.env)).any fun x => x.fst) = false) := by rfl) : PE X ((o.Attribute name apos).Call (e :: es) [] cpos) (tBM K T r to t) := hK ▸ pe_bm h1 h2 h3 h4 h5 h6 h7 h8 h9 h10 h11
theorem call_len_seqK {X : Cx} {K : PySem.W.Frag} (hK : X.K = K) : CallR X (.builtin "len") (fun xs H Q => ∃ p ys, xs = [V.ref p] ∧ (SqL K H p ys ∨ SqT K H p ys) ∧ Q (V.int (ys.length : Nat)) H) := hK ▸ call_len_seq
theorem lens_clw {us : List Nat} {adj : Nat → List Nat} (G : Gr us adj) {w : List Nat} (h : Due adj w) : w.length ≤ us.length := by
  match w, h with
  | x :: r, h => exact G11.nodup_sub h.simple fun y hy => cl_us G (w := x :: r) h.1 y hy
theorem ne_of_none' {H : Hp} {a b : Addr} {o q : HO} (h : H a = some o) (k : H b = some q) (n : o ≠ q) : a ≠ b := fun z => by
  rw [z, k] at h
  exact n (Option.some.inj h).symm
theorem WsAt.kpT {H H' : Hp} (s : KpT H H') : ∀ {as : List Addr} {ws : List (List Nat)}, WsAt H as ws → WsAt H' as ws
  | _, _, .nil => .nil
  | _, _, .cons e t => .cons (s _ _ e) (t.kpT s)
def forB : Stmt → List Stmt
  | .For _ _ b _ _ => b
  | _ => []
abbrev lL : LamD := lamAt (forB ((defBody s_law).getD 1 (.Pass ⟨0, 0, 0, 0⟩))) 3
theorem lLok : LamX.LamS (defScope s_law) lL.scope := LamX.lamS_by (by decide +kernel)
def qLaw : Str := (envOfC "law" (defScope s_law) 0 0 .none).qual ++ "<lambda>"
def kwO1 {α : Type} : List α → List α → List α
  | [], [a] => [a]
  | _, _ => []
def kwR {α : Type} : List α → List α → List α
  | [], [a, b] => [b, a]
  | _, _ => []
def spLawR (K : PySem.W.Frag) (T : List (Addr × Str)) : Sp := fun vs H Q _ => ∃ (a : Addr) (ns : List Int), vs = [.ref a] ∧ SqL K H a (ns.map V.int) ∧ ns.length ≤ 63 ∧ LamX.Tabs T H ∧ ∀ H', Q (.bl true) H'
theorem sqL_same {K : PySem.W.Frag} {H H' : Hp} {a : Addr} {xs : List V} (s : Same H H') (h : SqL K H a xs) : SqL K H' a xs := by
  rcases h with (h | ⟨o, h⟩) | h
  · exact .inl (.inl (s _ _ h))
  · exact .inl (.inr ⟨o, s _ _ h⟩)
  · exact .inr h
/-- what stands through a turn -/
structure LwAt (K : PySem.W.Frag) (T : List (Addr × Str)) (H0 H' : Hp) (d w c a tr u : Addr) (n : Nat) (pas ts : List Addr) (rows : List Row) : Prop where
  F : RfAt T H0 H' d w c a tr n pas ts rows
  ud : u ≠ d
  uw : u ≠ w
  U : UD K H' u (rows.map (·.1)) (adjR rows) (adR rows)
section
variable {K : PySem.W.Frag} {T : List (Addr × Str)} {H0 H' H2 : Hp} {d w c a tr u : Addr} {n : Nat} {pas ts : List Addr} {rows : List Row}
theorem LwAt.same (h : LwAt K T H0 H' d w c a tr u n pas ts rows) (s : Same H' H2) : LwAt K T H0 H2 d w c a tr u n pas ts rows := ⟨h.F.same s, h.ud, h.uw, h.U.same s⟩
theorem LwAt.ext (h : LwAt K T H0 H' d w c a tr u n pas ts rows) (e : LamX.ExtN H' H2) (t : LamX.Tabs T H2) : LwAt K T H0 H2 d w c a tr u n pas ts rows := ⟨h.F.ext e t, h.ud, h.uw, h.U.ext e⟩
end
section
variable {P : Program} {w0 : World} {K : PySem.W.Frag} {mg : Str → Option Value} {base : Heap} {SE BU NU UR : Addr}
theorem ok_law {T : List (Addr × Str)} {f fC cc Pu : Addr} {fd fdC : FuncData} (F : Fun K "law" "law" s_law f fd) (hc : fd.code = .ref cc) (TB : LamX.TabB base mg cc Pu) (hmT : (Pu, qLaw) ∈ T) (hu2 : ∀ p ∈ T, p.1 = Pu → p.2 = qLaw) (B : Bn11 mg) (SK : SysK K)
    (FC : Fun K "_law_caught" "_law_caught" s__law_caught fC fdC) (NC : Nm K mg "_law_caught" fC fdC ["work"]) (EF : ErC K mg SE BU NU UR)
    (c__law_begun : Dq P w0 K mg base CX0 1 "_law_begun" ["script"] (spBegun K)) (c__law_units : Dq P w0 K mg base CX0 4 "_law_units" ["draw"] spUnits) (c__law_trees : Dq P w0 K mg base CX0 1 "_law_trees" ["pairs"] (spTrees K)) (c__law_rings : Dq P w0 K mg base CX0 1 "_law_rings" ["uses"] (spRng K)) (c__law_order : Dq P w0 K mg base CX0 1 "_law_order" ["uses"] (spLOrd K)) (c__law_come : Dq P w0 K mg base CX0 1 "_law_come" ["uses", "name"] (spLCome K))
    (c_order_of : Dq P w0 K mg base (L2.CX P w0) (LE DD + 4) "order_of" ["units"] (spOfL K BU NU UR)) (k_order_of : Dk P w0 K mg base (L2.CX P w0) (LE DD + 4) "order_of" ["units"] ["units"] kwO1 (spOfT K BU NU UR)) (c_users_of : Dq P w0 K mg base (L2.CX P w0) (LE DD + 4) "users_of" ["units", "name"] (spUsr K BU NU)) (k_users_ofR : Dk P w0 K mg base (L2.CX P w0) (LE DD + 4) "users_of" ["units", "name"] ["name", "units"] kwR (spUsr K BU NU))
    (g__law_refused_right : Gq P w0 K mg base (LE DD + 7) "_law_refused_right" ["draw", "pairs"] (spRef T)) :
    FnG P w0 K mg base (LE DD + 8) f fd ["script"] (spLawR K T) := by
  refine Fun.okGC F hc sc_law (fun vs H Q E h => ?_) (fun A outer s H vs Q E hg hr h => ?_)
  · obtain ⟨a, ns, rfl, _⟩ := h
    rfl
  · obtain ⟨a, ns, rfl, hS, hn, hT, q⟩ := h
    refine ⟨_, (Evl.pss_cut (ps_set (i := 1) sc_law.nd rfl (Or.inl rfl) (pe_q c__law_begun hr (by decide) (by rfl) (pa_cons (pv 0) pa_nil)))
      (pss_cons (ps_for PassesOwn.never rfl (pi_range1 (by rfl) B.range (pa_cons (pe_op op_add pe_int (pe_callB (call_min2 rfl) (by rfl) B.min (by decide +kernel) (pa_cons (pe_callB call_len_seq (by rfl) B.len PySem.boot_len (pa_cons (pv 0) pa_nil)) (pa_cons pe_int pa_nil)))) pa_nil)) (pg_name (i := 2) sc_law.nd rfl (Or.inl rfl)) (Evl.pss_cut (ps_set (i := 3) sc_law.nd rfl (Or.inl rfl) (pe_q c__law_units hr (by decide) (by rfl) (pa_cons (pv 1) pa_nil)))
      (Evl.pss_cut (ps_asg (pe_tup (pa_cons (pe_callTy (call_dictP rfl) (by rfl) B.dict (by decide +kernel) (pa_cons (pv 3) pa_nil)) (pa_cons (pe_q c__law_trees hr (by decide) (by rfl) (pa_cons (pv 3) pa_nil)) pa_nil))) (pg_tup (by rfl) (pgs_cons (pg_name (i := 4) sc_law.nd rfl (Or.inl rfl)) (pgs_cons (pg_name (i := 11) sc_law.nd rfl (Or.inr rfl)) pgs_nil))))
      (Evl.pss_cut (ps_asg (pe_tup (pa_cons (pe_q c__law_rings hr (by decide) (by rfl) (pa_cons (pv 4) pa_nil)) (pa_cons (pe_lst pa_nil) pa_nil))) (pg_tup (by rfl) (pgs_cons (pg_name (i := 5) sc_law.nd rfl (Or.inl rfl)) (pgs_cons (pg_name (i := 10) sc_law.nd rfl (Or.inr rfl)) pgs_nil))))
      (Evl.pss_cut (ps_set (i := 6) sc_law.nd rfl (Or.inl rfl) (pe_caught (ls := [(lL, _)]) FC NC EF (by rfl) hr (pe_lamV (d := lL) rfl TB (by rfl) hmT hu2 rfl lLok) (by rfl) (one_lam ⟨lLok, fun _ _ _ _ _ => rfl, fun A' outer' s' H' E' f' c' hr' => (pe_bmK (K := K) rfl PySem.F.plainAttrs_list PySem.F.slot_list_append PySem.F.type_list_append mt_append (pv 10) (pa_cons (pe_qX (E := E') c_order_of hr' (by decide) (by rfl) (passes_call (takes_of rfl rfl rfl rfl) fun _ _ _ _ h => h) (pa_cons (pv 11) pa_nil)) pa_nil))⟩)))
      (Evl.pss_cut (ps_if (pt_cmpR (op_eq_nilL hr.units) (pv 5) (pe_lst pa_nil) (nomark _)) (pss_one (ps_if (PW.pt (pw_or (pt_cmpR op_notN (pv 6) pe_non (nomark _)) (pw_or (pt_cmpR (op_neD hr.units) (pv 10) (pe_lst (pa_cons (pe_q c__law_order hr (by decide) (by rfl) (pa_cons (pv 4) pa_nil)) pa_nil)) (nomark _)) (pw_or1 (pt_cmpR (op_neD hr.units) (pe_qK0 k_order_of hr (by decide) (by rfl) passN (pk_cons (pe_callTy call_tuple_of (by rfl) B.tuple (by decide +kernel) (pa_cons (pe_revL (pv 11)) pa_nil)) pk_nil)) (pe_ix ix_list (pv 10) pe_int (fun _ _ => rfl)) (nomark _)))))) (pss_one (ps_ret pe_bl)) pss_nil)) (pss_cons (ps_set (i := 7) sc_law.nd rfl (Or.inr rfl) (pe_callB (cr_min rfl) (by rfl) B.min (by decide +kernel) (pa_cons (pe_lc (own := [("ring", 12)]) (g := (gName 12)) (tt := tYes) (by rfl) sc_law.nd (pi_list (pv 5)) (blkOk_by (N := n_law) (sc := defScope s_law) (by decide +kernel)) (fun _ _ _ _ _ => (pg_name (i := 12) sc_law.nd rfl (Or.inl rfl))) (fun _ _ _ _ _ => pts_nil) (fun _ _ _ _ _ => (pe_callB (call_len_seqK (K := K) rfl) (by rfl) B.len PySem.boot_len (pa_cons (pv 12) pa_nil)))) pa_nil)))
      (pss_cons (ps_set (i := 8) sc_law.nd rfl (Or.inl rfl) (pe_ix ix_list (pe_callB (cr_sortD hr.units) (by rfl) B.sorted (by decide +kernel) (pa_cons (pe_lc (own := [("ring", 12)]) (g := (gName 12)) (tt := _) (by rfl) sc_law.nd (pi_list (pv 5)) (blkOk_by (N := n_law) (sc := defScope s_law) (by decide +kernel)) (fun _ _ _ _ _ => (pg_name (i := 12) sc_law.nd rfl (Or.inl rfl))) (fun _ _ _ _ _ => (pts_one (pt_cmpR op_eq (pe_callB (call_len_seqK (K := K) rfl) (by rfl) B.len PySem.boot_len (pa_cons (pv 12) pa_nil)) (pv 7) (nomark _)))) (fun _ _ _ _ _ => (pv 12))) pa_nil)) pe_int (fun _ _ => rfl)))
      (pss_one (ps_if (PW.pt (pw_or (pt_not (pt_val (pe_callB call_isH (by rfl) B.isinstance (by decide +kernel) (pa_cons (pv 6) (pa_cons (pe_glob (v := .ref UR) (by rfl) EF.gR rfl) pa_nil))))) (pw_or1 (pt_cmpR op_ne (pe_callB (call_reprA SK hg hr.units) (by rfl) B.repr (by decide +kernel) (pa_cons (pe_hfld (pv 6)) pa_nil)) (pe_callB (call_reprA SK hg hr.units) (by rfl) B.repr (by decide +kernel) (pa_cons (pv 8) pa_nil)) (nomark _))))) (pss_one (ps_ret pe_bl)) pss_nil)))))
      (Evl.pss_cut (ps_lock (ps_for PassesOwn.never rfl (pi_keys (pv 4)) (pg_name (i := 9) sc_law.nd rfl (Or.inl rfl)) (pss_one (ps_if (pt_cmpR op_ne (pe_callB (call_reprA SK hg hr.units) (by rfl) B.repr (by decide +kernel) (pa_cons (pe_lst (pa_cons (pe_qX c_users_of hr (by decide) (by rfl) passN (pa_cons (pv 11) (pa_cons (pv 9) pa_nil))) (pa_cons (pe_qK0 k_users_ofR hr (by decide) (by rfl) passN (pk_cons (pv 9) (pk_cons (pe_revL (pv 11)) pk_nil))) pa_nil))) pa_nil)) (pe_callB (call_reprA SK hg hr.units) (by rfl) B.repr (by decide +kernel) (pa_cons (pe_op op_rep (pe_lst (pa_cons (pe_q c__law_come hr (by decide) (by rfl) (pa_cons (pv 4) (pa_cons (pv 9) pa_nil))) pa_nil)) pe_int) pa_nil)) (nomark _)) (pss_one (ps_ret pe_bl)) pss_nil))))
      (pss_one (ps_if (pt_not (pt_val (pe_g g__law_refused_right hg hr (by decide) (by rfl) (pa_cons (pv 1) (pa_cons (pv 3) pa_nil))))) (pss_one (ps_ret pe_bl)) pss_nil)))))))))
      (pss_one (ps_ret pe_bl)))), ?_⟩
    have hs63 := sizeLine_eq
    refine ⟨fun σ H' => ∃ d w c, σ = [some (.ref a), some (.ref d), none, none, none, none, none, none, none, none, none, none, none] ∧ DrawAt H' d w c 0 ∧ LamX.Tabs T H' ∧ SqL K H' a (ns.map V.int), ?_, ?_⟩
    · refine ⟨_, rfl, a, ns, rfl, hS, hn, fun d w c H1 _ _ _ D1 s1 => ⟨d, w, c, rfl, D1, hT.ext s1, sqL_same s1 hS⟩⟩
    rintro σ H1 ⟨d, w, c, rfl, D1, T1, hS1⟩
    have lns : ((ns.map V.int).length : Int) ≤ 63 := by
      rw [List.length_map]
      omega
    refine ⟨_, rfl, a, _, rfl, .inl hS1, _, _, rfl, _, _, rfl, rfl, _, rfl, ?_, ?_, ?_⟩
    · split <;> omega
    · split <;> omega
    have hnt : ((3 : Int) + (if (8 : Int) < ((ns.map V.int).length : Int) then (8 : Int) else ((ns.map V.int).length : Int))).toNat ≤ 11 := by
      split <;> omega
    generalize ((3 : Int) + (if (8 : Int) < ((ns.map V.int).length : Int) then (8 : Int) else ((ns.map V.int).length : Int))).toNat = N at hnt ⊢
    refine for_range (lo := 0) (n := N) (fun i σ H' => ∃ y3 y4 y5 y6 y7 y8 y9 y10 y11 y12 y2, σ = [some (.ref a), some (.ref d), y2, y3, y4, y5, y6, y7, y8, y9, y10, y11, y12] ∧ DrawAt H' d w c (300 * i) ∧ LamX.Tabs T H') ⟨_, _, _, _, _, _, _, _, _, _, _, rfl, D1, T1⟩ ?_ ?_
    · rintro i σ H2 hi ⟨y3, y4, y5, y6, y7, y8, y9, y10, y11, y12, y2, rfl, D2, T2⟩
      have hi11 : i ≤ 10 := by omega
      have big : (300 * i + 1000 : Nat) < 2 ^ 38 := Nat.lt_of_le_of_lt (show 300 * i + 1000 ≤ 4000 by omega) (by decide)
      have ebi : ∀ z : Option V, z = z := fun _ => rfl
      refine ⟨fun σ H' => ∃ (pa : Addr) (pas : List Addr) (rows : List Row), σ = [some (.ref a), some (.ref d), some (.int (0 + (i : Int))), some (.ref pa), y4, y5, y6, y7, y8, y9, y10, y11, y12] ∧ RowsOk rows ∧ rows ≠ [] ∧ DrawAt H' d w c (300 * i + 200) ∧ LamX.Tabs T H' ∧ pa ≠ d ∧ pa ≠ w ∧ H' pa = some (.lst (pas.map V.ref)) ∧ RowsAt H' pas rows, ?_, ?_⟩
      · exact ⟨_, rfl, d, w, c, 300 * i, rfl, D2, by omega, fun p pas rows H3 ok hne D3 b3 hp ep R => ⟨p, pas, rows, rfl, ok, hne, D3, tabs_draw T2 D2 b3, (D2.knowD hp).1, (D2.knowD hp).2.1, ep, R⟩⟩
      rintro σ H3 ⟨pa, pas, rows, rfl, ok, hne, D3, T3, pad, paw, epa, R3⟩
      have G := ok.gr
      have few := ok.few
      refine ⟨fun σ H' => ∃ (u tr : Addr) (ts : List Addr), σ = [some (.ref a), some (.ref d), some (.int (0 + (i : Int))), some (.ref pa), some (.ref u), y5, y6, y7, y8, y9, y10, some (.ref tr), y12] ∧ LwAt K T H' H' d w c pa tr u (300 * i + 200) pas ts rows, ?_, ?_⟩
      · refine ⟨_, rfl, pa, pas, _, rfl, SqL.of epa, rows_paired R3, fun u hu => ?_⟩
        rw [merge_nd (rows_nd ok.nd ok.l7), rows_keys ok.nd]
        have su := Same.new (o := .dK ((rows.map (·.1)).map fun n => ((Sum.inr (nm n) : Key), V.ref (adR rows n)))) hu
        have eu : (upd H3 u (.dK ((rows.map (·.1)).map fun n => ((Sum.inr (nm n) : Key), V.ref (adR rows n))))) u = some (.dK ((rows.map (·.1)).map fun n => ((Sum.inr (nm n) : Key), V.ref (adR rows n)))) := upd_same
        have ku := D3.knowD hu
        generalize upd H3 u (.dK ((rows.map (·.1)).map fun n => ((Sum.inr (nm n) : Key), V.ref (adR rows n)))) = H4 at su eu
        have R4 := R3.kp (Same.kpT su)
        refine ⟨_, rfl, pa, pas, rows, rfl, su _ _ epa, R4, by omega, fun H5 tr ts s5 htr etr Tr => ⟨by show 2 ≤ sizeLine; omega, fun tp htp => ?_⟩⟩
        have s6 := s5.trans (Same.new (o := .tup [.ref u, .ref tr]) htp)
        have kt := (D3.same su).knowD htr
        have U6 := (R4.ud (K := K) ok eu).same s6
        have D6 := (D3.same su).same s6
        have T6 := (T3.ext su).ext s6
        have sx := Same.new (o := .tup [.ref u, .ref tr]) htp
        have L6 : LwAt K T (upd H5 tp (.tup [.ref u, .ref tr])) (upd H5 tp (.tup [.ref u, .ref tr])) d w c pa tr u (300 * i + 200) pas ts rows := ⟨⟨D6, fun _ _ e _ _ _ => e, T6, pad, paw, kt.1, kt.2.1, s6 _ _ (su _ _ epa), R4.kp (Same.kpT s6), sx _ _ etr, Tr.kp (Same.kpT sx)⟩, ku.1, ku.2.1, U6⟩
        exact ⟨tp, _, rfl, SqT.of upd_same, rfl, _, _, rfl, _, _, rfl, rfl, u, tr, ts, rfl, L6⟩
      rintro σ H5 ⟨u, tr, ts, rfl, L5⟩
      have tl := L5.F.Tr.len
      -- the law's rings
      refine ⟨fun σ H' => ∃ (rg to : Addr) (as : List Addr) (Fr : List (List Nat)), σ = [some (.ref a), some (.ref d), some (.int (0 + (i : Int))), some (.ref pa), some (.ref u), some (.ref rg), y6, y7, y8, y9, some (.ref to), some (.ref tr), y12] ∧ LwAt K T H5 H' d w c pa tr u (300 * i + 200) pas ts rows ∧ NewT H5 to ∧ to ≠ d ∧ to ≠ w ∧ to ≠ c ∧ to ≠ pa ∧ to ≠ tr ∧ to ≠ u ∧ to ≠ rg ∧ H' to = some (.lst []) ∧ H' rg = some (.lst (as.map V.ref)) ∧ WsAt H' as Fr ∧ Fr.length ≤ 2000 ∧ ∃ k, G11.line (adjR rows) k ((ascN (rows.map (·.1))).map fun n => [n]) [] = some Fr, ?_, ?_⟩
      · refine ⟨_, rfl, u, _, _, _, rfl, L5.U, G, fun H6 rg as Fr s6 erg W fl ln => ⟨by show 0 ≤ sizeLine; omega, fun to hto => ⟨by show 2 ≤ sizeLine; omega, fun tp htp => ?_⟩⟩⟩
        have L6 := L5.same s6
        have s7 := Same.new (o := .lst []) hto
        have s8 := Same.new (o := .tup [.ref rg, .ref to]) htp
        have kt := L6.F.D.knowD hto
        have nt : NewT H5 to := fun o e => absurd (s6 _ _ e) (by rw [hto]; exact fun z => nomatch z)
        exact ⟨tp, _, rfl, SqT.of upd_same, rfl, _, _, rfl, _, _, rfl, rfl, rg, to, as, Fr, rfl, (L6.same s7).same s8, nt, kt.1, kt.2.1, kt.2.2, (ne_of_none L6.F.ea hto).symm, (ne_of_none L6.F.et hto).symm, (ne_of_none L6.U.e hto).symm, (ne_of_none erg hto).symm, s8 _ _ upd_same, s8 _ _ (s7 _ _ erg), (W.same s7).same s8, fl, ln⟩
      rintro σ H6 ⟨rg, to, as, Fr, rfl, L6, nto, tod, tow, toc, toa, tot, tou, tor, eto, erg, W6, fl, k0, ln⟩
      obtain ⟨due1, due2, due3⟩ := G11.law_due (fun x y h => ⟨(asc_mem G.l7).mpr (G.cl x y h).1, (asc_mem G.l7).mpr (G.cl x y h).2⟩) ln
      -- the error
      refine ⟨fun σ H' => ∃ (er : V), σ = [some (.ref a), some (.ref d), some (.int (0 + (i : Int))), some (.ref pa), some (.ref u), some (.ref rg), some er, y7, y8, y9, some (.ref to), some (.ref tr), y12] ∧ LwAt K T H5 H' d w c pa tr u (300 * i + 200) pas ts rows ∧ H' rg = some (.lst (as.map V.ref)) ∧ WsAt H' as Fr ∧ (((∃ w, Clw (adjR rows) w) ∧ ∃ e dx p wk, er = .ref e ∧ H' e = some (HX (.ref UR) (some dx) e) ∧ H' dx = some (.xd [("ring", .ref p)]) ∧ H' p = some (.tup (nmV wk)) ∧ Due (adjR rows) wk) ∨ ((¬ ∃ w, Clw (adjR rows) w) ∧ er = .non ∧ ∃ p, H' to = some (.lst [.ref p]) ∧ H' p = some (.tup (nmV (ordGo (adjR rows) (ascN (rows.map (·.1))) (ascN (rows.map (·.1))).length []))))), ?_, ?_⟩
      · refine ⟨L6.F.t, fun g c' H7 e7 T7 hg eg ec => ⟨_, List.mem_singleton.mpr rfl, g, c', rfl, eg, ec, ?_⟩⟩
        have L7 := L6.ext e7 T7
        have eto7 := e7 _ _ eto (fun _ z => nomatch z)
        have erg7 := e7 _ _ erg (fun _ z => nomatch z)
        have W7 := W6.kpT (ext_kpT e7)
        refine ⟨.ref to, rfl, .inl ⟨rfl, _, SqL.of eto7⟩, .ref tr, rfl, .ref tr, rfl, L7.F.Tr.chk ok hne L7.F.et ⟨fun hc H8 dx p wk s8 hd ed ep du => ⟨EF.xR, fun y hy => ?_⟩, fun hc H8 p s8 ep => ?_⟩⟩
        · have sy := s8.trans (Same.new (o := HX (.ref UR) (some dx) y) hy)
          exact ⟨_, rfl, L7.same sy, sy _ _ erg7, W7.same sy, .inl ⟨hc, y, dx, p, wk, rfl, upd_same, Same.new hy _ _ ed, Same.new hy _ _ ep, du⟩⟩
        · have L8 := L7.same s8
          have eto8 := s8 _ _ eto7
          refine ⟨to, _, _, rfl, rfl, eto8, by show 0 < sizeLine; omega, _, rfl, _, rfl, ⟨L8.F.put eto8 nto tod tow toc toa tot, L8.ud, L8.uw, L8.U.put eto8⟩, ?_, (W7.same s8).put eto8 (fun _ z => nomatch z), .inr ⟨hc, rfl, p, upd_same, ?_⟩⟩
          · rw [upd_ne tor.symm]
            exact s8 _ _ erg7
          · rw [upd_ne (fun z => by rw [z, eto8] at ep; cases ep)]
            exact ep
      rintro σ H7 ⟨er, rfl, L7, erg, W7, ends⟩
      -- what is due
      refine ⟨fun σ H' => ∃ (z7 z8 z12 : Option V), σ = [some (.ref a), some (.ref d), some (.int (0 + (i : Int))), some (.ref pa), some (.ref u), some (.ref rg), some er, z7, z8, y9, some (.ref to), some (.ref tr), z12] ∧ LwAt K T H5 H' d w c pa tr u (300 * i + 200) pas ts rows, ?_, ?_⟩
      · refine ⟨_, rfl, by show 0 ≤ sizeLine; omega, fun q0 hq0 => ?_⟩
        have sq := Same.new (o := .lst []) hq0
        have eq0 : (upd H7 q0 (.lst [])) q0 = some (.lst []) := upd_same
        have L8 := L7.same sq
        have erg8 := sq _ _ erg
        have W8 := W7.same sq
        have asl := W8.len
        refine ⟨rg, q0, _, rfl, rfl, SqL.of erg8, SqL.of eq0, _, rfl, ?_⟩
        have lt7w : ∀ {w : List Nat}, Clw (adjR rows) w → lt7 w := fun {w} h x hx => G.l7 x (cl_us G (w := w) h x hx)
        rcases ends with ⟨hc, e, dx, p, wk, rfl, he, hdx, hp, du⟩ | ⟨hc, rfl, p, hto, hp⟩
        · have hF := due1 hc
          have hpos : 0 < Fr.length := List.length_pos_iff.mpr hF
          refine iteFd (by cases as with | nil => exact absurd asl (by simp only [List.length_nil]; omega) | cons _ _ => rfl) ?_
          generalize upd H7 q0 (.lst []) = H8 at sq eq0 L8 erg8 W8
          refine ⟨_, rfl, rg, rfl, ⟨_, SqL.of erg8⟩, fun D hD => lc_list (K := K) (a := rg) (xs := as.map V.ref) (fun i H' => Same H8 H' ∧ H' D = some (.lst (((Fr.take i).map fun w => ((w.length : Nat) : Int)).map V.int))) ⟨Same.new hD, upd_same⟩ (fun i H' _ e => SqL.of (e.1 _ _ erg8)) ?_ ?_⟩
          · rintro i v G0 hv ⟨s0, e0⟩
            rw [List.getElem?_map] at hv
            obtain ⟨b, hb, rfl⟩ := Option.map_eq_some_iff.mp hv
            obtain ⟨wv, hw, eb⟩ := W8.at_ hb
            refine ⟨rfl, yes ?_⟩
            have il := (List.getElem?_eq_some_iff.mp hw).1
            refine ⟨_, rfl, b, _, rfl, .inr (SqT.of (s0 _ _ eb)), _, e0, ?_, Same.upd' s0 hD, ?_⟩
            · rw [List.length_map, List.length_map, List.length_take]
              omega
            · rw [upd_same, List.take_add_one, hw, nmV_len]
              simp
          · rintro G0 ⟨s0, e0⟩
            rw [List.length_map, asl, List.take_length] at e0
            refine ⟨D, _, rfl, SqL.of e0, by rw [List.length_map]; exact hpos, fun m hm hle => ?_⟩
            obtain ⟨wm, hwm, rfl⟩ := List.mem_map.mp hm
            have erg9 := s0 _ _ erg8
            have W9 := W8.same s0
            refine ⟨_, rfl, rg, rfl, ⟨_, SqL.of erg9⟩, fun D2 hD2 => lc_list (K := K) (a := rg) (xs := as.map V.ref) (fun i H' => Same G0 H' ∧ ∃ ps : List (Addr × List Nat), H' D2 = some (.lst (ps.map fun p => V.ref p.1)) ∧ ps.length ≤ i ∧ (∀ p ∈ ps, G0 p.1 = some (.tup (nmV p.2)) ∧ p.2 ∈ Fr ∧ p.2.length = wm.length) ∧ ∀ (k : Nat) (w : List Nat), k < i → Fr[k]? = some w → w.length = wm.length → ∃ p ∈ ps, p.2 = w) ⟨Same.new hD2, [], upd_same, Nat.le_refl _, fun _ h => absurd h List.not_mem_nil, fun k w h => absurd h (Nat.not_lt_zero _)⟩ (fun i H' _ e => SqL.of (e.1 _ _ erg9)) ?_ ?_⟩
            · rintro i v G1 hv ⟨s1, ps, e1, pl, pin, pall⟩
              rw [List.getElem?_map] at hv
              obtain ⟨b, hb, rfl⟩ := Option.map_eq_some_iff.mp hv
              obtain ⟨wv, hw, eb⟩ := W9.at_ hb
              have il := (List.getElem?_eq_some_iff.mp hw).1
              refine ⟨rfl, _, rfl, b, _, rfl, .inr (SqT.of (s1 _ _ eb)), _, rfl, rfl, _, rfl, ?_⟩
              rw [nmV_len]
              by_cases hl : wv.length = wm.length
              · refine iteTd (by rw [hl]; exact decide_eq_true rfl) ⟨_, rfl, _, e1, by rw [List.length_map]; omega, Same.upd' s1 hD2, ps ++ [(b, wv)], by rw [upd_same, List.map_append]; rfl, by rw [List.length_append]; simp; omega, fun p hp => ?_, fun k w hk hkw hwl => ?_⟩
                · rcases List.mem_append.mp hp with h | h
                  · exact pin p h
                  · rw [List.mem_singleton.mp h]
                    exact ⟨eb, List.mem_of_getElem? hw, hl⟩
                · rcases Nat.lt_or_ge k i with h | h
                  · obtain ⟨p, hp, e⟩ := pall k w h hkw hwl
                    exact ⟨p, List.mem_append_left _ hp, e⟩
                  · obtain rfl : k = i := by omega
                    exact ⟨(b, wv), List.mem_append_right _ List.mem_cons_self, Option.some.inj (hw.symm.trans hkw)⟩
              · refine iteFd (decide_eq_false fun z => hl (by injection z with z; omega)) ⟨s1, ps, e1, by omega, pin, fun k w hk hkw hwl => ?_⟩
                rcases Nat.lt_or_ge k i with h | h
                · exact pall k w h hkw hwl
                · obtain rfl : k = i := by omega
                  exact absurd (by rw [Option.some.inj (hw.symm.trans hkw)]; exact hwl) hl
            · rintro G1 ⟨s1, ps, e1, pl, pin, pall⟩
              rw [List.length_map, asl] at pall
              obtain ⟨km, hkm⟩ := List.getElem?_of_mem hwm
              obtain ⟨p0, hp0, _⟩ := pall km wm (List.getElem?_eq_some_iff.mp hkm).1 hkm rfl
              have cw : ∀ p ∈ ps, Clw (adjR rows) p.2 := fun p hp => due2 _ (pin p hp).2.1
              refine ⟨D2, ps.map fun p => (V.ref p.1, PyData.tuple (nmD p.2)), rfl, SqL.of (by rw [e1, List.map_map]; rfl), fun b hb => ?_, ?_, ?_, fun q1 hq1 => ?_⟩
              · obtain ⟨p, hp, rfl⟩ := List.mem_map.mp hb
                exact ⟨.tup (SqT.of (s1 _ _ (pin p hp).1)) dp_nm, by simp only [PyData.depth, nm_dep]; decide⟩
              · rw [List.map_map]
                exact PySem.W.AllAlike.of fun _ _ => alike_tup
              · refine .inl fun d hd => ?_
                rw [List.map_map] at hd
                obtain ⟨p, hp, rfl⟩ := List.mem_map.mp hd
                have := cw p hp
                match e : p.2, this with
                | x :: r, _ => exact ⟨.str (nm x), nmD r, by show PyData.tuple (nmD p.2) = _; rw [e]; rfl⟩
              · obtain ⟨x, rest, ex⟩ : ∃ x rest, (ps.map fun p => (V.ref p.1, PyData.tuple (nmD p.2))).mergeSort (PySem.W.dataLe false Prod.snd) = x :: rest := by
                  cases h : (ps.map fun p => (V.ref p.1, PyData.tuple (nmD p.2))).mergeSort (PySem.W.dataLe false Prod.snd) with
                  | nil =>
                    have := congrArg List.length h
                    rw [List.length_mergeSort, List.length_map] at this
                    rw [List.length_eq_zero_iff.mp this] at hp0
                    exact absurd hp0 List.not_mem_nil
                  | cons x rest => exact ⟨x, rest, rfl⟩
                obtain ⟨hx, hmin⟩ := sorted_first ex
                obtain ⟨pp, hpp, rfl⟩ := List.mem_map.mp hx
                obtain ⟨ppe, ppF, ppl⟩ := pin pp hpp
                have dpp : Due (adjR rows) pp.2 := due3 pp.2 ppF fun w' hw' => by
                  have l1 : (wm.length : Int) ≤ w'.length := hle _ (List.mem_map.mpr ⟨w', hw', rfl⟩)
                  refine ⟨by omega, fun e => ?_⟩
                  obtain ⟨k', hk'⟩ := List.getElem?_of_mem hw'
                  obtain ⟨p', hp', rfl⟩ := pall k' w' (List.getElem?_eq_some_iff.mp hk').1 hk' (by omega)
                  have := hmin _ (List.mem_map.mpr ⟨p', hp', rfl⟩)
                  rw [tup_nm (lt7w (cw p' hp')) (lt7w (cw pp hpp)) e] at this
                  exact this
                obtain rfl : wk = pp.2 := du.uniq dpp
                have sq1 := Same.new (o := .lst (((ps.map fun p => (V.ref p.1, PyData.tuple (nmD p.2))).mergeSort (PySem.W.dataLe false Prod.snd)).map Prod.fst)) hq1
                have eq1 : (upd G1 q1 (.lst (((ps.map fun p => (V.ref p.1, PyData.tuple (nmD p.2))).mergeSort (PySem.W.dataLe false Prod.snd)).map Prod.fst))) q1 = some (.lst (((ps.map fun p => (V.ref p.1, PyData.tuple (nmD p.2))).mergeSort (PySem.W.dataLe false Prod.snd)).map Prod.fst)) := upd_same
                generalize upd G1 q1 (.lst (((ps.map fun p => (V.ref p.1, PyData.tuple (nmD p.2))).mergeSort (PySem.W.dataLe false Prod.snd)).map Prod.fst)) = G2 at sq1 eq1
                have sA := ((sq.trans s0).trans s1).trans sq1
                have he2 := sA _ _ he
                have hdx2 := sA _ _ hdx
                have hp2 := sA _ _ hp
                have ppe2 := sq1 _ _ (s1 _ _ ppe)
                have gd := gd_nm (w := pp.2) (fun x hx => Nat.lt_succ_of_lt (lt7w dpp.1 x hx)) (by have := lens_clw G dpp; rw [List.length_map] at this; omega)
                refine ⟨q1, _, 0, _, rfl, rfl, SqL.of eq1, atI_nat (j := 0) (by rw [ex]; rfl), ?_⟩
                refine ⟨_, rfl, e, UR, some dx, _, _, true, rfl, .own UR, he2, (fun z q => by cases q; exact ⟨_, hdx2⟩), EF.cR, EF.kR, _, rfl, iteFd rfl ?_⟩
                refine ⟨_, rfl, e, UR, dx, _, _, rfl, he2, hdx2, EF.qR, EF.fR, rfl, _, _, rfl, .tup (SqT.of hp2) dx_nm, gd.1, gd.2.1, gd.2.2, _, rfl, _, _, rfl, .tup (SqT.of ppe2) dx_nm, gd.1, gd.2.1, gd.2.2, rfl, _, rfl, iteFd (by simp) ⟨_, _, _, rfl, ((L8.same s0).same s1).same sq1⟩⟩
        · have hF : Fr = [] := by
            cases Fr with
            | nil => rfl
            | cons w _ => exact absurd ⟨w, due2 w List.mem_cons_self⟩ hc
          have has : as = [] := List.length_eq_zero_iff.mp (by rw [asl, hF]; rfl)
          refine iteTd (by rw [has]; rfl) ?_
          generalize upd H7 q0 (.lst []) = H8 at sq eq0 L8 erg8 W8
          have ok0 : G11.OrdOk (adjR rows) (ascN (rows.map (·.1))) [] := ⟨List.nodup_nil, fun _ h => absurd h List.not_mem_nil, fun a x b e => by simp at e⟩
          have okW := G11.ordGo_ok (k := (ascN (rows.map (·.1))).length) ok0
          have lW : (ordGo (adjR rows) (ascN (rows.map (·.1))) (ascN (rows.map (·.1))).length []).length ≤ 100 := Nat.le_trans (G11.nodup_sub okW.nd okW.sub) (by have := G.alen; rw [List.length_map] at this; omega)
          have hW : ∀ x ∈ ordGo (adjR rows) (ascN (rows.map (·.1))) (ascN (rows.map (·.1))).length [], x < 8 := fun x hx => Nat.lt_succ_of_lt (asc_lt _ x (okW.sub x hx))
          have adR' := adjR_rev ok
          have nR := names_rev (rows := rows)
          have aR := asc_rev (ns := rows.map (·.1))
          have hto8 := sq _ _ hto
          have hp8 := sq _ _ hp
          obtain ⟨sh1, sh2⟩ := shaped_nm hW
          have ev1 := SeqAt.eqv_refl _ (SeqAt.canLay_of_shaped sh1)
          have ev2 := SeqAt.eqv_refl _ (SeqAt.canLay_of_shaped sh2)
          generalize hWo : ordGo (adjR rows) (ascN (rows.map (·.1))) (ascN (rows.map (·.1))).length [] = W at hW lW sh1 sh2 ev1 ev2 hp8 hp
          refine ⟨_, rfl, rfl, _, rfl, iteFd rfl ?_⟩
          refine ⟨_, rfl, _, rfl, u, _, _, _, rfl, L8.U, G, hc, fun H9 p2 s9 ep2 => ⟨by show 1 ≤ sizeLine; omega, fun l hl => ?_⟩⟩
          rw [hWo] at ep2
          have s10 := Same.new (o := .lst [.ref p2]) hl
          refine ⟨_, _, .lst (SqL.of (s10 _ _ (s9 _ _ hto8))) (.cons (.tup (SqT.of (s10 _ _ (s9 _ _ hp8))) dp_nm) .nil), .lst (SqL.of upd_same) (.cons (.tup (SqT.of (s10 _ _ ep2)) dp_nm) .nil), sh2, sh2, _, rfl, iteFd (by rw [ev2]; rfl) ?_⟩
          have s11 := s9.trans s10
          generalize upd H9 l (.lst [.ref p2]) = H10 at s11
          have L10 := L8.same s11
          refine ⟨_, rfl, tr, _, rfl, SqL.of L10.F.et, fun r1 hr1 => ⟨r1, _, rfl, .inl ⟨SqL.of upd_same, fun l2 hl2 => ?_⟩⟩⟩
          have s12 := (Same.new (o := .lst (ts.map V.ref).reverse) hr1).trans (Same.new (o := .tup (ts.map V.ref).reverse) hl2)
          have el2 : (upd (upd H10 r1 (.lst (ts.map V.ref).reverse)) l2 (.tup (ts.map V.ref).reverse)) l2 = some (.tup (ts.reverse.map V.ref)) := by rw [upd_same, List.map_reverse]
          generalize upd (upd H10 r1 (.lst (ts.map V.ref).reverse)) l2 (.tup (ts.map V.ref).reverse) = H11 at s12 el2
          have L11 := L10.same s12
          refine ⟨.ref l2, rfl, L11.F.Tr.rev.chkT ok.rev (fun z => hne (List.reverse_eq_nil_iff.mp z)) el2 ⟨fun hc2 => absurd (adR' ▸ hc2) hc, fun _ H12 p3 s13 ep3 => ?_⟩⟩
          rw [adR', nR, aR, hWo] at ep3
          have s14 := (s11.trans s12).trans s13
          refine ⟨_, rfl, to, _, 0, _, rfl, rfl, SqL.of (s14 _ _ hto8), atI_nat (j := 0) rfl, _, _, .tup (SqT.of ep3) dp_nm, .tup (SqT.of (s14 _ _ hp8)) dp_nm, sh1, sh1, _, rfl, iteFd (by rw [ev1]; rfl) ⟨_, _, _, rfl, L8.same s14⟩⟩
      rintro σ H8 ⟨z7, z8, z12, rfl, L8⟩
      -- the users of each unit
      refine ⟨fun σ H' => ∃ (z9 : Option V), σ = [some (.ref a), some (.ref d), some (.int (0 + (i : Int))), some (.ref pa), some (.ref u), some (.ref rg), some er, z7, z8, z9, some (.ref to), some (.ref tr), z12] ∧ LwAt K T H5 H' d w c pa tr u (300 * i + 200) pas ts rows, ?_, ?_⟩
      · refine ⟨u, _, L8.U.e, by trivial, fun od => ?_⟩
        have kp : Kp H8 (upd H8 u (.frz od (.dK ((rows.map (·.1)).map fun n => ((Sum.inr (nm n) : Key), V.ref (adR rows n)))))) u := fun p o e n => by rw [upd_ne n]; exact e
        have eu : (upd H8 u (.frz od (.dK ((rows.map (·.1)).map fun n => ((Sum.inr (nm n) : Key), V.ref (adR rows n)))))) u = some (.frz od (.dK ((rows.map (·.1)).map fun n => ((Sum.inr (nm n) : Key), V.ref (adR rows n))))) := upd_same
        have kT : KpT H8 (upd H8 u (.frz od (.dK ((rows.map (·.1)).map fun n => ((Sum.inr (nm n) : Key), V.ref (adR rows n)))))) := KpT.put L8.U.e (fun _ z => nomatch z)
        generalize upd H8 u (.frz od (.dK ((rows.map (·.1)).map fun n => ((Sum.inr (nm n) : Key), V.ref (adR rows n))))) = HL at kp eu kT
        have etL : HL tr = some (.lst (ts.map V.ref)) := kp _ _ L8.F.et (ne_of_none' L8.F.et L8.U.e (fun z => nomatch z))
        have TrL := L8.F.Tr.kp kT
        have UL : UDz K HL u od (rows.map (·.1)) (adjR rows) (adR rows) := ⟨eu, fun n hn => kp.sqT L8.U.e (L8.U.t n hn)⟩
        have adR' := adjR_rev ok
        have nR := names_rev (rows := rows)
        have kv : ∀ {i : Nat} {ky : Key} {vl : V}, ((rows.map (·.1)).map fun n => ((Sum.inr (nm n) : Key), V.ref (adR rows n)))[i]? = some (ky, vl) → ∃ n, (rows.map (·.1))[i]? = some n ∧ ky = Sum.inr (nm n) ∧ vl = .ref (adR rows n) := fun h => by
          rw [List.getElem?_map] at h
          obtain ⟨n, hn, e⟩ := Option.map_eq_some_iff.mp h
          injection e with e4 e5
          exact ⟨n, hn, e4.symm, e5.symm⟩
        refine ⟨_, rfl, u, od, rfl, .inl ⟨_, eu, for_it walk_keys (fun k σ H' => ∃ (z9 : Option V), σ = [some (.ref a), some (.ref d), some (.int (0 + (i : Int))), some (.ref pa), some (.ref u), some (.ref rg), some er, z7, z8, z9, some (.ref to), some (.ref tr), z12] ∧ Same HL H') ⟨_, rfl, Same.refl _⟩ (fun k σ H' _ h => by obtain ⟨_, _, s⟩ := h; exact s _ _ eu) ?_ ?_⟩⟩
        · rintro k v σ G0 G1 hk ⟨z9, rfl, s0⟩ ⟨rfl, ky, vl, hky, rfl⟩
          obtain ⟨n, hn, rfl, rfl⟩ := kv hky
          have nu := List.mem_of_getElem? hn
          have n7 := G.l7 n nu
          have same3 : ∀ {F w3 : List Nat}, (∀ x ∈ F, x ∈ rows.map (·.1)) → (∀ x, x ∈ F ↔ Rc (adjR rows) (rows.map (·.1)) n x) → w3.Pairwise (· < ·) → (∀ x, x ∈ w3 ↔ x ≠ n ∧ Rc (adjR rows) (rows.map (·.1)) n x) → (ascN F).filter (fun k => !decide (k = n)) = w3 := fun {F w3} sub rc pw mem => inc_ext ((asc_inc F).filter _) pw fun x => by
            rw [List.mem_filter, asc_mem (fun y hy => G.l7 y (sub y hy)), rc, mem]
            simp
            exact And.comm
          refine ⟨_, rfl, _, rfl, .ref tr, .str (nm n), rfl, (TrL.kp (Same.kpT s0)).chk ok hne (s0 _ _ etL) ⟨_, .str _, .inr ⟨n, nu, rfl, fun G2 p1 F1 s1 ep1 _ sub1 rc1 => ?_⟩⟩⟩
          have s01 := s0.trans s1
          refine ⟨_, rfl, _, rfl, tr, _, rfl, SqL.of (s01 _ _ etL), fun r1 hr1 => ?_⟩
          have s2 := Same.new (o := .lst (ts.map V.ref).reverse) hr1
          have er1 : (upd G2 r1 (.lst (ts.map V.ref).reverse)) r1 = some (.lst (ts.reverse.map V.ref)) := by rw [upd_same, List.map_reverse]
          generalize upd G2 r1 (.lst (ts.map V.ref).reverse) = G3 at s2 er1
          have s02 := s01.trans s2
          refine ⟨.ref r1, .str (nm n), rfl, (TrL.kp (Same.kpT s02)).rev.chk ok.rev (fun z => hne (List.reverse_eq_nil_iff.mp z)) er1 ⟨_, .str _, .inr ⟨n, by rw [nR]; exact List.mem_reverse.mpr nu, rfl, fun G4 p2 F2 s3 ep2 _ sub2 rc2 => ⟨by show 2 ≤ sizeLine; omega, fun l1 hl1 => ?_⟩⟩⟩⟩
          rw [adR', nR] at rc2
          rw [nR] at sub2
          have s4 := Same.new (o := .lst [.ref p1, .ref p2]) hl1
          have el1 : (upd G4 l1 (.lst [.ref p1, .ref p2])) l1 = some (.lst [.ref p1, .ref p2]) := upd_same
          generalize upd G4 l1 (.lst [.ref p1, .ref p2]) = G5 at s4 el1
          have s05 := (s02.trans s3).trans s4
          have ep1' := s4 _ _ (s3 _ _ (s2 _ _ ep1))
          have ep2' := s4 _ _ ep2
          -- both are what the law tells
          obtain ⟨w3, hw3⟩ : ∃ w3, (ascN F1).filter (fun k => !decide (k = n)) = w3 := ⟨_, rfl⟩
          have pw3 : w3.Pairwise (· < ·) := hw3 ▸ (asc_inc F1).filter _
          have mem3 : ∀ x, x ∈ w3 ↔ x ≠ n ∧ Rc (adjR rows) (rows.map (·.1)) n x := fun x => by
            rw [← hw3, List.mem_filter, asc_mem (fun y hy => G.l7 y (sub1 y hy)), rc1]
            simp
            exact And.comm
          have hw4 : (ascN F2).filter (fun k => !decide (k = n)) = w3 := same3 (fun x hx => List.mem_reverse.mp (sub2 x hx)) (fun x => (rc2 x).trans rc_rev) pw3 mem3
          have in3 : ∀ x ∈ w3, x ∈ rows.map (·.1) := fun x hx => sub1 x ((rc1 x).mpr ((mem3 x).mp hx).2)
          rw [hw3] at ep1'
          rw [hw4] at ep2'
          have gd := gd_two (w := w3) (fun x hx => Nat.lt_succ_of_lt (G.l7 x (in3 x hx))) (Nat.le_trans (G11.nodup_sub (G11.pw_nodup pw3) in3) (by rw [List.length_map]; omega))
          refine ⟨_, _, rfl, .lst (SqL.of el1) (.cons (.tup (SqT.of ep1') dx_nm) (.cons (.tup (SqT.of ep2') dx_nm) .nil)), gd.1, gd.2.1, gd.2.2, ?_⟩
          refine ⟨_, rfl, _, rfl, u, od, _, _, _, n, rfl, UL.same s05, G, nu, fun G6 p3 w5 s6 ep3 pw5 mem5 => ⟨by show 1 ≤ sizeLine; omega, fun l2 hl2 => ?_⟩⟩
          have e53 : w5 = w3 := inc_ext pw5 pw3 fun x => (mem5 x).trans (mem3 x).symm
          subst e53
          have s7 := Same.new (o := .lst [.ref p3]) hl2
          have el2 : (upd G6 l2 (.lst [.ref p3])) l2 = some (.lst [.ref p3]) := upd_same
          generalize upd G6 l2 (.lst [.ref p3]) = G7 at s7 el2
          refine ⟨l2, 2, _, rfl, rfl, el2, by decide, by decide, by show 1 * 2 ≤ sizeLine; omega, fun l3 hl3 => ?_⟩
          have s8 := Same.new (o := .lst (List.replicate (2 : Int).toNat [V.ref p3]).flatten) hl3
          have el3 : (upd G7 l3 (.lst (List.replicate (2 : Int).toNat [V.ref p3]).flatten)) l3 = some (.lst [.ref p3, .ref p3]) := upd_same
          generalize upd G7 l3 (.lst (List.replicate (2 : Int).toNat [V.ref p3]).flatten) = G8 at s8 el3
          have ep3' := s8 _ _ (s7 _ _ ep3)
          refine ⟨_, _, rfl, .lst (SqL.of el3) (.cons (.tup (SqT.of ep3') dx_nm) (.cons (.tup (SqT.of ep3') dx_nm) .nil)), gd.1, gd.2.1, gd.2.2, rfl, _, rfl, iteFd (by simp) ⟨_, rfl, (((s05.trans s6).trans s7).trans s8)⟩⟩
        · rintro σ G0 ⟨z9, rfl, s0⟩
          exact ⟨s0 _ _ eu, z9, rfl, L8.same ((kp.same s0).open_ L8.U.e)⟩
      rintro σ H9 ⟨z9, rfl, L9⟩
      refine ⟨_, rfl, _, rfl, d, w, c, pa, _, pas, rows, rfl, L9.F.t, L9.F.D, by omega, L9.F.ea, L9.F.ad, L9.F.aw, L9.F.R, ok, hne, fun H10 D10 b10 T10 => ⟨_, rfl, iteFd rfl ⟨_, _, _, _, _, _, _, _, _, _, _, rfl, D10.mono (by omega), T10⟩⟩⟩
    · rintro σ H3 ⟨y3, y4, y5, y6, y7, y8, y9, y10, y11, y12, y2, rfl, L3⟩
      exact q H3
end
end SA

set_option Elab.async false
set_option linter.all false
set_option maxRecDepth 100000
set_option maxHeartbeats 0
namespace SA
open PySem PySem.Spec PyProof.Rows L2 T02
theorem strs_dv (K : PySem.W.Frag) (tab : List (Str × Str)) : (tab.map fun q => (q.1, He.Dv.str q.2)).map (fun q => (q.1, q.2.v K)) = strsV tab := by
  rw [List.map_map]
  rfl
theorem tab_at {fa : List He.Fa} {fn : List He.DefD} {ts : List He.Tab} {w : World} {K : PySem.W.Frag} (c : He.SaysT fa fn ts w K) {i : Nat} {t : He.Tab} (h : ts[i]? = some t) : He.dicW K (t.1 K) = some (He.keysIn w.params t.2) := by
  have e : ts.map (fun t => He.dicW K (t.1 K)) = ts.map (fun t => some (He.keysIn w.params t.2)) := congrArg (fun z : He.AlT => z.2) c
  have e2 := congrArg (fun l => l[i]?) e
  simp only [List.getElem?_map, h, Option.map_some] at e2
  exact Option.some.inj e2
theorem head_code {K : PySem.W.Frag} (h : ex11 K = true) : PySem.W.codeHdIn K (He.cT K tR).1 (He.cT K tR).2 = true ∧ PySem.W.codeHdIn K (He.cT K tL).1 (He.cT K tL).2 = true := by
  unfold ex11 at h
  simp only [Bool.and_eq_true, decide_eq_true_eq] at h
  exact h.2.2.2.2.2.2.2.2.2.2.2.2.2.2
theorem kbO1 {K : PySem.W.Frag} {x qual p : Str} {st : Stmt} {f : Addr} {fd : FuncData} (F : Fun K x qual st f fd)
    (h : ∀ (kV doc pm : Value) (an : Option Addr) (cdv ct u : Value), bindArgs (PySem.W.fnOf x qual (defArgs st) (defBody st) (defScope st) .none kV doc pm an cdv ct) ⟨[], [(p, u)]⟩ = pure [(p, u)]) : KBinds K fd [p] [p] kwO1 kwO1 := by
  obtain ⟨oc, od, kV, doc, pm, an, cdv, ct, osl, rfl, _, _⟩ := F.ex
  refine ⟨fun s us ws _ hl => ?_, fun {vs us zs ws} r rz => ?_⟩
  · match us, ws, hl with
    | [], [u], _ => exact .of_eq (h kV doc pm an cdv ct u)
    | [], [], hl => cases hl
    | [], _ :: _ :: _, hl => cases hl
    | _ :: _, _, hl => simp [kwO1] at hl
  · match vs, us, zs, ws, r, rz with
    | [], [], [_], [_], .nil, .cons e .nil => exact .cons e .nil
    | [], [], [], [], .nil, .nil => exact .nil
    | [], [], _ :: _ :: _, _ :: _ :: _, .nil, .cons _ (.cons _ _) => exact .nil
    | _ :: _, _ :: _, _, _, .cons _ _, _ => exact .nil
theorem kbU {K : PySem.W.Frag} {x qual p1 p2 : Str} {st : Stmt} {f : Addr} {fd : FuncData} (F : Fun K x qual st f fd)
    (h : ∀ (kV doc pm : Value) (an : Option Addr) (cdv ct u v : Value), bindArgs (PySem.W.fnOf x qual (defArgs st) (defBody st) (defScope st) .none kV doc pm an cdv ct) ⟨[], [(p1, u), (p2, v)]⟩ = pure [(p1, u), (p2, v)]) : KBinds K fd [p1, p2] [p1, p2] kwU kwU := by
  obtain ⟨oc, od, kV, doc, pm, an, cdv, ct, osl, rfl, _, _⟩ := F.ex
  refine ⟨fun s us ws _ hl => ?_, fun {vs us zs ws} r rz => ?_⟩
  · match us, ws, hl with
    | [], [u, v], _ => exact .of_eq (h kV doc pm an cdv ct u v)
    | [], [], hl => cases hl
    | [], [_], hl => cases hl
    | [], _ :: _ :: _ :: _, hl => simp [kwU] at hl
    | _ :: _, _, hl => simp [kwU] at hl
  · match vs, us, zs, ws, r, rz with
    | [], [], [_, _], [_, _], .nil, .cons e (.cons e2 .nil) => exact .cons e (.cons e2 .nil)
    | [], [], [_], [_], .nil, .cons _ .nil => exact .nil
    | [], [], [], [], .nil, .nil => exact .nil
    | [], [], _ :: _ :: _ :: _, _ :: _ :: _ :: _, .nil, .cons _ (.cons _ (.cons _ _)) => exact .nil
    | _ :: _, _ :: _, _, _, .cons _ _, _ => exact .nil
theorem kbR {K : PySem.W.Frag} {x qual p1 p2 : Str} {st : Stmt} {f : Addr} {fd : FuncData} (F : Fun K x qual st f fd)
    (h : ∀ (kV doc pm : Value) (an : Option Addr) (cdv ct u v : Value), bindArgs (PySem.W.fnOf x qual (defArgs st) (defBody st) (defScope st) .none kV doc pm an cdv ct) ⟨[], [(p2, v), (p1, u)]⟩ = pure [(p1, u), (p2, v)]) : KBinds K fd [p1, p2] [p2, p1] kwR kwR := by
  obtain ⟨oc, od, kV, doc, pm, an, cdv, ct, osl, rfl, _, _⟩ := F.ex
  refine ⟨fun s us ws _ hl => ?_, fun {vs us zs ws} r rz => ?_⟩
  · match us, ws, hl with
    | [], [v, u], _ => exact .of_eq (h kV doc pm an cdv ct u v)
    | [], [], hl => cases hl
    | [], [_], hl => cases hl
    | [], _ :: _ :: _ :: _, hl => simp [kwR] at hl
    | _ :: _, _, hl => simp [kwR] at hl
  · match vs, us, zs, ws, r, rz with
    | [], [], [_, _], [_, _], .nil, .cons e (.cons e2 .nil) => exact .cons e2 (.cons e .nil)
    | [], [], [_], [_], .nil, .cons _ .nil => exact .nil
    | [], [], [], [], .nil, .nil => exact .nil
    | [], [], _ :: _ :: _ :: _, _ :: _ :: _ :: _, .nil, .cons _ (.cons _ (.cons _ _)) => exact .nil
    | _ :: _, _ :: _, _, _, .cons _ _, _ => exact .nil
section
variable {P : Program} {w0 : World} {K : PySem.W.Frag} {h : Heap} {mg : Str → Option Value} {fL : Addr}
abbrev T11 (K : PySem.W.Frag) : List (Addr × Str) := [((He.cT K tR).2, qRef), ((He.cT K tL).2, qLaw)]
theorem law_of (X : K.In h) (GG : h.Ns mainGlobals mg) (hfa : mg ("law" : Str) = some (.ref fL)) (c : Says11 w0 h K) (base : Heap) (TBR : LamX.TabB base mg (He.cT K tR).1 (He.cT K tR).2) (TBL : LamX.TabB base mg (He.cT K tL).1 (He.cT K tL).2) : LawRunT2 P w0 K mg base fL 63 (He.cT K tR).2 (He.cT K tL).2 := by
  have c2 := c.t.d
  obtain ⟨fd_BadUnits___init__, F_BadUnits___init__⟩ := FunD_fun (st := s_BadUnits___init__) (c2.def_ 0 (d := d_BadUnits___init__) rfl)
  have b_BadUnits___init__ := F_BadUnits___init__.binds (ps := ["self", "at"]) fun _ _ _ _ _ _ us hl => match us, hl with | [_, _], _ => rfl
  obtain ⟨fd_NoUnit___init__, F_NoUnit___init__⟩ := FunD_fun (st := s_NoUnit___init__) (c2.def_ 1 (d := d_NoUnit___init__) rfl)
  have b_NoUnit___init__ := F_NoUnit___init__.binds (ps := ["self", "name"]) fun _ _ _ _ _ _ us hl => match us, hl with | [_, _], _ => rfl
  obtain ⟨fd_UsesRing___init__, F_UsesRing___init__⟩ := FunD_fun (st := s_UsesRing___init__) (c2.def_ 2 (d := d_UsesRing___init__) rfl)
  have b_UsesRing___init__ := F_UsesRing___init__.binds (ps := ["self", "ring"]) fun _ _ _ _ _ _ us hl => match us, hl with | [_, _], _ => rfl
  obtain ⟨fd_is_number, F_is_number⟩ := FunD_fun (st := s_is_number) (c2.def_ 3 (d := d_is_number) rfl)
  have g_is_number := He.glo_ok X GG (c2.fact 0 (f := .glo "is_number") rfl)
  have b_is_number := F_is_number.binds (ps := ["thing"]) fun _ _ _ _ _ _ us hl => match us, hl with | [_], _ => rfl
  have N_is_number : Nm K mg "is_number" _ fd_is_number ["thing"] := ⟨g_is_number, F_is_number.kp, b_is_number⟩
  obtain ⟨fd_is_tuple_of, F_is_tuple_of⟩ := FunD_fun (st := s_is_tuple_of) (c2.def_ 4 (d := d_is_tuple_of) rfl)
  have g_is_tuple_of := He.glo_ok X GG (c2.fact 1 (f := .glo "is_tuple_of") rfl)
  have b_is_tuple_of := F_is_tuple_of.binds (ps := ["thing", "many"]) fun _ _ _ _ _ _ us hl => match us, hl with | [_, _], _ => rfl
  have N_is_tuple_of : Nm K mg "is_tuple_of" _ fd_is_tuple_of ["thing", "many"] := ⟨g_is_tuple_of, F_is_tuple_of.kp, b_is_tuple_of⟩
  obtain ⟨fd_is_list, F_is_list⟩ := FunD_fun (st := s_is_list) (c2.def_ 5 (d := d_is_list) rfl)
  have g_is_list := He.glo_ok X GG (c2.fact 2 (f := .glo "is_list") rfl)
  have b_is_list := F_is_list.binds (ps := ["thing"]) fun _ _ _ _ _ _ us hl => match us, hl with | [_], _ => rfl
  have N_is_list : Nm K mg "is_list" _ fd_is_list ["thing"] := ⟨g_is_list, F_is_list.kp, b_is_list⟩
  obtain ⟨fd_is_name, F_is_name⟩ := FunD_fun (st := s_is_name) (c2.def_ 6 (d := d_is_name) rfl)
  have g_is_name := He.glo_ok X GG (c2.fact 3 (f := .glo "is_name") rfl)
  have b_is_name := F_is_name.binds (ps := ["thing"]) fun _ _ _ _ _ _ us hl => match us, hl with | [_], _ => rfl
  have N_is_name : Nm K mg "is_name" _ fd_is_name ["thing"] := ⟨g_is_name, F_is_name.kp, b_is_name⟩
  obtain ⟨fd_is_kind, F_is_kind⟩ := FunD_fun (st := s_is_kind) (c2.def_ 7 (d := d_is_kind) rfl)
  have g_is_kind := He.glo_ok X GG (c2.fact 4 (f := .glo "is_kind") rfl)
  have b_is_kind := F_is_kind.binds (ps := ["thing"]) fun _ _ _ _ _ _ us hl => match us, hl with | [_], _ => rfl
  have N_is_kind : Nm K mg "is_kind" _ fd_is_kind ["thing"] := ⟨g_is_kind, F_is_kind.kp, b_is_kind⟩
  obtain ⟨fd_is_expression, F_is_expression⟩ := FunD_fun (st := s_is_expression) (c2.def_ 8 (d := d_is_expression) rfl)
  have g_is_expression := He.glo_ok X GG (c2.fact 5 (f := .glo "is_expression") rfl)
  have b_is_expression := F_is_expression.binds (ps := ["thing"]) fun _ _ _ _ _ _ us hl => match us, hl with | [_], _ => rfl
  have N_is_expression : Nm K mg "is_expression" _ fd_is_expression ["thing"] := ⟨g_is_expression, F_is_expression.kp, b_is_expression⟩
  obtain ⟨fd_is_block, F_is_block⟩ := FunD_fun (st := s_is_block) (c2.def_ 9 (d := d_is_block) rfl)
  have g_is_block := He.glo_ok X GG (c2.fact 6 (f := .glo "is_block") rfl)
  have b_is_block := F_is_block.binds (ps := ["thing"]) fun _ _ _ _ _ _ us hl => match us, hl with | [_], _ => rfl
  have N_is_block : Nm K mg "is_block" _ fd_is_block ["thing"] := ⟨g_is_block, F_is_block.kp, b_is_block⟩
  obtain ⟨fd_is_function, F_is_function⟩ := FunD_fun (st := s_is_function) (c2.def_ 10 (d := d_is_function) rfl)
  have g_is_function := He.glo_ok X GG (c2.fact 7 (f := .glo "is_function") rfl)
  have b_is_function := F_is_function.binds (ps := ["thing"]) fun _ _ _ _ _ _ us hl => match us, hl with | [_], _ => rfl
  have N_is_function : Nm K mg "is_function" _ fd_is_function ["thing"] := ⟨g_is_function, F_is_function.kp, b_is_function⟩
  obtain ⟨fd_is_declaration, F_is_declaration⟩ := FunD_fun (st := s_is_declaration) (c2.def_ 11 (d := d_is_declaration) rfl)
  have g_is_declaration := He.glo_ok X GG (c2.fact 8 (f := .glo "is_declaration") rfl)
  have b_is_declaration := F_is_declaration.binds (ps := ["thing"]) fun _ _ _ _ _ _ us hl => match us, hl with | [_], _ => rfl
  have N_is_declaration : Nm K mg "is_declaration" _ fd_is_declaration ["thing"] := ⟨g_is_declaration, F_is_declaration.kp, b_is_declaration⟩
  obtain ⟨fd_is_unit, F_is_unit⟩ := FunD_fun (st := s_is_unit) (c2.def_ 12 (d := d_is_unit) rfl)
  have g_is_unit := He.glo_ok X GG (c2.fact 9 (f := .glo "is_unit") rfl)
  have b_is_unit := F_is_unit.binds (ps := ["thing"]) fun _ _ _ _ _ _ us hl => match us, hl with | [_], _ => rfl
  have N_is_unit : Nm K mg "is_unit" _ fd_is_unit ["thing"] := ⟨g_is_unit, F_is_unit.kp, b_is_unit⟩
  obtain ⟨fd__is_headed, F__is_headed⟩ := FunD_fun (st := s__is_headed) (c2.def_ 13 (d := d__is_headed) rfl)
  have g__is_headed := He.glo_ok X GG (c2.fact 10 (f := .glo "_is_headed") rfl)
  have b__is_headed := F__is_headed.binds (ps := ["thing"]) fun _ _ _ _ _ _ us hl => match us, hl with | [_], _ => rfl
  have N__is_headed : Nm K mg "_is_headed" _ fd__is_headed ["thing"] := ⟨g__is_headed, F__is_headed.kp, b__is_headed⟩
  obtain ⟨fd__has_form, F__has_form⟩ := FunD_fun (st := s__has_form) (c2.def_ 14 (d := d__has_form) rfl)
  have g__has_form := He.glo_ok X GG (c2.fact 11 (f := .glo "_has_form") rfl)
  have b__has_form := F__has_form.binds (ps := ["thing", "form"]) fun _ _ _ _ _ _ us hl => match us, hl with | [_, _], _ => rfl
  have N__has_form : Nm K mg "_has_form" _ fd__has_form ["thing", "form"] := ⟨g__has_form, F__has_form.kp, b__has_form⟩
  obtain ⟨fd__is_part, F__is_part⟩ := FunD_fun (st := s__is_part) (c2.def_ 15 (d := d__is_part) rfl)
  have g__is_part := He.glo_ok X GG (c2.fact 12 (f := .glo "_is_part") rfl)
  have b__is_part := F__is_part.binds (ps := ["letter", "part"]) fun _ _ _ _ _ _ us hl => match us, hl with | [_, _], _ => rfl
  have N__is_part : Nm K mg "_is_part" _ fd__is_part ["letter", "part"] := ⟨g__is_part, F__is_part.kp, b__is_part⟩
  obtain ⟨fd__is_tuple_between, F__is_tuple_between⟩ := FunD_fun (st := s__is_tuple_between) (c2.def_ 16 (d := d__is_tuple_between) rfl)
  have g__is_tuple_between := He.glo_ok X GG (c2.fact 13 (f := .glo "_is_tuple_between") rfl)
  have b__is_tuple_between := F__is_tuple_between.binds (ps := ["thing", "least", "most"]) fun _ _ _ _ _ _ us hl => match us, hl with | [_, _, _], _ => rfl
  have N__is_tuple_between : Nm K mg "_is_tuple_between" _ fd__is_tuple_between ["thing", "least", "most"] := ⟨g__is_tuple_between, F__is_tuple_between.kp, b__is_tuple_between⟩
  obtain ⟨fd__are_names, F__are_names⟩ := FunD_fun (st := s__are_names) (c2.def_ 17 (d := d__are_names) rfl)
  have g__are_names := He.glo_ok X GG (c2.fact 14 (f := .glo "_are_names") rfl)
  have b__are_names := F__are_names.binds (ps := ["thing", "most"]) fun _ _ _ _ _ _ us hl => match us, hl with | [_, _], _ => rfl
  have N__are_names : Nm K mg "_are_names" _ fd__are_names ["thing", "most"] := ⟨g__are_names, F__are_names.kp, b__are_names⟩
  obtain ⟨fd__are_expressions, F__are_expressions⟩ := FunD_fun (st := s__are_expressions) (c2.def_ 18 (d := d__are_expressions) rfl)
  have g__are_expressions := He.glo_ok X GG (c2.fact 15 (f := .glo "_are_expressions") rfl)
  have b__are_expressions := F__are_expressions.binds (ps := ["thing"]) fun _ _ _ _ _ _ us hl => match us, hl with | [_], _ => rfl
  have N__are_expressions : Nm K mg "_are_expressions" _ fd__are_expressions ["thing"] := ⟨g__are_expressions, F__are_expressions.kp, b__are_expressions⟩
  obtain ⟨fd__are_branches, F__are_branches⟩ := FunD_fun (st := s__are_branches) (c2.def_ 19 (d := d__are_branches) rfl)
  have g__are_branches := He.glo_ok X GG (c2.fact 16 (f := .glo "_are_branches") rfl)
  have b__are_branches := F__are_branches.binds (ps := ["thing"]) fun _ _ _ _ _ _ us hl => match us, hl with | [_], _ => rfl
  have N__are_branches : Nm K mg "_are_branches" _ fd__are_branches ["thing"] := ⟨g__are_branches, F__are_branches.kp, b__are_branches⟩
  obtain ⟨fd__is_variant, F__is_variant⟩ := FunD_fun (st := s__is_variant) (c2.def_ 20 (d := d__is_variant) rfl)
  have g__is_variant := He.glo_ok X GG (c2.fact 17 (f := .glo "_is_variant") rfl)
  have b__is_variant := F__is_variant.binds (ps := ["thing"]) fun _ _ _ _ _ _ us hl => match us, hl with | [_], _ => rfl
  have N__is_variant : Nm K mg "_is_variant" _ fd__is_variant ["thing"] := ⟨g__is_variant, F__is_variant.kp, b__is_variant⟩
  obtain ⟨fd_order_by_uses, F_order_by_uses⟩ := FunD_fun (st := s_order_by_uses) (c2.def_ 21 (d := d_order_by_uses) rfl)
  have g_order_by_uses := He.glo_ok X GG (c2.fact 18 (f := .glo "order_by_uses") rfl)
  have b_order_by_uses := F_order_by_uses.binds (ps := ["uses"]) fun _ _ _ _ _ _ us hl => match us, hl with | [_], _ => rfl
  have N_order_by_uses : Nm K mg "order_by_uses" _ fd_order_by_uses ["uses"] := ⟨g_order_by_uses, F_order_by_uses.kp, b_order_by_uses⟩
  obtain ⟨fd_shortest_ring, F_shortest_ring⟩ := FunD_fun (st := s_shortest_ring) (c2.def_ 22 (d := d_shortest_ring) rfl)
  have g_shortest_ring := He.glo_ok X GG (c2.fact 19 (f := .glo "shortest_ring") rfl)
  have b_shortest_ring := F_shortest_ring.binds (ps := ["uses"]) fun _ _ _ _ _ _ us hl => match us, hl with | [_], _ => rfl
  have N_shortest_ring : Nm K mg "shortest_ring" _ fd_shortest_ring ["uses"] := ⟨g_shortest_ring, F_shortest_ring.kp, b_shortest_ring⟩
  obtain ⟨fd_shortest_ring_from, F_shortest_ring_from⟩ := FunD_fun (st := s_shortest_ring_from) (c2.def_ 23 (d := d_shortest_ring_from) rfl)
  have g_shortest_ring_from := He.glo_ok X GG (c2.fact 20 (f := .glo "shortest_ring_from") rfl)
  have b_shortest_ring_from := F_shortest_ring_from.binds (ps := ["uses", "first"]) fun _ _ _ _ _ _ us hl => match us, hl with | [_, _], _ => rfl
  have N_shortest_ring_from : Nm K mg "shortest_ring_from" _ fd_shortest_ring_from ["uses", "first"] := ⟨g_shortest_ring_from, F_shortest_ring_from.kp, b_shortest_ring_from⟩
  obtain ⟨fd_users_by_uses, F_users_by_uses⟩ := FunD_fun (st := s_users_by_uses) (c2.def_ 24 (d := d_users_by_uses) rfl)
  have g_users_by_uses := He.glo_ok X GG (c2.fact 21 (f := .glo "users_by_uses") rfl)
  have b_users_by_uses := F_users_by_uses.binds (ps := ["uses", "name"]) fun _ _ _ _ _ _ us hl => match us, hl with | [_, _], _ => rfl
  have N_users_by_uses : Nm K mg "users_by_uses" _ fd_users_by_uses ["uses", "name"] := ⟨g_users_by_uses, F_users_by_uses.kp, b_users_by_uses⟩
  obtain ⟨fd_order_of, F_order_of⟩ := FunD_fun (st := s_order_of) (c2.def_ 25 (d := d_order_of) rfl)
  have g_order_of := He.glo_ok X GG (c2.fact 22 (f := .glo "order_of") rfl)
  have b_order_of := F_order_of.binds (ps := ["units"]) fun _ _ _ _ _ _ us hl => match us, hl with | [_], _ => rfl
  have N_order_of : Nm K mg "order_of" _ fd_order_of ["units"] := ⟨g_order_of, F_order_of.kp, b_order_of⟩
  obtain ⟨fd_users_of, F_users_of⟩ := FunD_fun (st := s_users_of) (c2.def_ 26 (d := d_users_of) rfl)
  have g_users_of := He.glo_ok X GG (c2.fact 23 (f := .glo "users_of") rfl)
  have b_users_of := F_users_of.binds (ps := ["units", "name"]) fun _ _ _ _ _ _ us hl => match us, hl with | [_, _], _ => rfl
  have N_users_of : Nm K mg "users_of" _ fd_users_of ["units", "name"] := ⟨g_users_of, F_users_of.kp, b_users_of⟩
  obtain ⟨fd__checked_uses, F__checked_uses⟩ := FunD_fun (st := s__checked_uses) (c2.def_ 27 (d := d__checked_uses) rfl)
  have g__checked_uses := He.glo_ok X GG (c2.fact 24 (f := .glo "_checked_uses") rfl)
  have b__checked_uses := F__checked_uses.binds (ps := ["units"]) fun _ _ _ _ _ _ us hl => match us, hl with | [_], _ => rfl
  have N__checked_uses : Nm K mg "_checked_uses" _ fd__checked_uses ["units"] := ⟨g__checked_uses, F__checked_uses.kp, b__checked_uses⟩
  obtain ⟨fd__law_begun, F__law_begun⟩ := FunD_fun (st := s__law_begun) (c2.def_ 28 (d := d__law_begun) rfl)
  have g__law_begun := He.glo_ok X GG (c2.fact 25 (f := .glo "_law_begun") rfl)
  have b__law_begun := F__law_begun.binds (ps := ["script"]) fun _ _ _ _ _ _ us hl => match us, hl with | [_], _ => rfl
  have N__law_begun : Nm K mg "_law_begun" _ fd__law_begun ["script"] := ⟨g__law_begun, F__law_begun.kp, b__law_begun⟩
  obtain ⟨fd__law_mixed, F__law_mixed⟩ := FunD_fun (st := s__law_mixed) (c2.def_ 29 (d := d__law_mixed) rfl)
  have g__law_mixed := He.glo_ok X GG (c2.fact 26 (f := .glo "_law_mixed") rfl)
  have b__law_mixed := F__law_mixed.binds (ps := ["draw"]) fun _ _ _ _ _ _ us hl => match us, hl with | [_], _ => rfl
  have N__law_mixed : Nm K mg "_law_mixed" _ fd__law_mixed ["draw"] := ⟨g__law_mixed, F__law_mixed.kp, b__law_mixed⟩
  obtain ⟨fd__law_take, F__law_take⟩ := FunD_fun (st := s__law_take) (c2.def_ 30 (d := d__law_take) rfl)
  have g__law_take := He.glo_ok X GG (c2.fact 27 (f := .glo "_law_take") rfl)
  have b__law_take := F__law_take.binds (ps := ["draw", "many"]) fun _ _ _ _ _ _ us hl => match us, hl with | [_, _], _ => rfl
  have N__law_take : Nm K mg "_law_take" _ fd__law_take ["draw", "many"] := ⟨g__law_take, F__law_take.kp, b__law_take⟩
  obtain ⟨fd__law_pick, F__law_pick⟩ := FunD_fun (st := s__law_pick) (c2.def_ 31 (d := d__law_pick) rfl)
  have g__law_pick := He.glo_ok X GG (c2.fact 28 (f := .glo "_law_pick") rfl)
  have b__law_pick := F__law_pick.binds (ps := ["draw", "some"]) fun _ _ _ _ _ _ us hl => match us, hl with | [_, _], _ => rfl
  have N__law_pick : Nm K mg "_law_pick" _ fd__law_pick ["draw", "some"] := ⟨g__law_pick, F__law_pick.kp, b__law_pick⟩
  obtain ⟨fd__law_caught, F__law_caught⟩ := FunD_fun (st := s__law_caught) (c2.def_ 32 (d := d__law_caught) rfl)
  have g__law_caught := He.glo_ok X GG (c2.fact 29 (f := .glo "_law_caught") rfl)
  have b__law_caught := F__law_caught.binds (ps := ["work"]) fun _ _ _ _ _ _ us hl => match us, hl with | [_], _ => rfl
  have N__law_caught : Nm K mg "_law_caught" _ fd__law_caught ["work"] := ⟨g__law_caught, F__law_caught.kp, b__law_caught⟩
  obtain ⟨fd__law_shuffled, F__law_shuffled⟩ := FunD_fun (st := s__law_shuffled) (c2.def_ 33 (d := d__law_shuffled) rfl)
  have g__law_shuffled := He.glo_ok X GG (c2.fact 30 (f := .glo "_law_shuffled") rfl)
  have b__law_shuffled := F__law_shuffled.binds (ps := ["draw", "some"]) fun _ _ _ _ _ _ us hl => match us, hl with | [_, _], _ => rfl
  have N__law_shuffled : Nm K mg "_law_shuffled" _ fd__law_shuffled ["draw", "some"] := ⟨g__law_shuffled, F__law_shuffled.kp, b__law_shuffled⟩
  obtain ⟨fd__law_units, F__law_units⟩ := FunD_fun (st := s__law_units) (c2.def_ 34 (d := d__law_units) rfl)
  have g__law_units := He.glo_ok X GG (c2.fact 31 (f := .glo "_law_units") rfl)
  have b__law_units := F__law_units.binds (ps := ["draw"]) fun _ _ _ _ _ _ us hl => match us, hl with | [_], _ => rfl
  have N__law_units : Nm K mg "_law_units" _ fd__law_units ["draw"] := ⟨g__law_units, F__law_units.kp, b__law_units⟩
  obtain ⟨fd__law_trees, F__law_trees⟩ := FunD_fun (st := s__law_trees) (c2.def_ 35 (d := d__law_trees) rfl)
  have g__law_trees := He.glo_ok X GG (c2.fact 32 (f := .glo "_law_trees") rfl)
  have b__law_trees := F__law_trees.binds (ps := ["pairs"]) fun _ _ _ _ _ _ us hl => match us, hl with | [_], _ => rfl
  have N__law_trees : Nm K mg "_law_trees" _ fd__law_trees ["pairs"] := ⟨g__law_trees, F__law_trees.kp, b__law_trees⟩
  obtain ⟨fd__law_rings, F__law_rings⟩ := FunD_fun (st := s__law_rings) (c2.def_ 36 (d := d__law_rings) rfl)
  have g__law_rings := He.glo_ok X GG (c2.fact 33 (f := .glo "_law_rings") rfl)
  have b__law_rings := F__law_rings.binds (ps := ["uses"]) fun _ _ _ _ _ _ us hl => match us, hl with | [_], _ => rfl
  have N__law_rings : Nm K mg "_law_rings" _ fd__law_rings ["uses"] := ⟨g__law_rings, F__law_rings.kp, b__law_rings⟩
  obtain ⟨fd__law_order, F__law_order⟩ := FunD_fun (st := s__law_order) (c2.def_ 37 (d := d__law_order) rfl)
  have g__law_order := He.glo_ok X GG (c2.fact 34 (f := .glo "_law_order") rfl)
  have b__law_order := F__law_order.binds (ps := ["uses"]) fun _ _ _ _ _ _ us hl => match us, hl with | [_], _ => rfl
  have N__law_order : Nm K mg "_law_order" _ fd__law_order ["uses"] := ⟨g__law_order, F__law_order.kp, b__law_order⟩
  obtain ⟨fd__law_come, F__law_come⟩ := FunD_fun (st := s__law_come) (c2.def_ 38 (d := d__law_come) rfl)
  have g__law_come := He.glo_ok X GG (c2.fact 35 (f := .glo "_law_come") rfl)
  have b__law_come := F__law_come.binds (ps := ["uses", "name"]) fun _ _ _ _ _ _ us hl => match us, hl with | [_, _], _ => rfl
  have N__law_come : Nm K mg "_law_come" _ fd__law_come ["uses", "name"] := ⟨g__law_come, F__law_come.kp, b__law_come⟩
  obtain ⟨fd__law_refused_right, F__law_refused_right⟩ := FunD_fun (st := s__law_refused_right) (c2.def_ 39 (d := d__law_refused_right) rfl)
  have g__law_refused_right := He.glo_ok X GG (c2.fact 36 (f := .glo "_law_refused_right") rfl)
  have b__law_refused_right := F__law_refused_right.binds (ps := ["draw", "pairs"]) fun _ _ _ _ _ _ us hl => match us, hl with | [_, _], _ => rfl
  have N__law_refused_right : Nm K mg "_law_refused_right" _ fd__law_refused_right ["draw", "pairs"] := ⟨g__law_refused_right, F__law_refused_right.kp, b__law_refused_right⟩
  obtain ⟨fd_law, F_law⟩ := FunD_fun (st := s_law) (c2.def_ 40 (d := d_law) rfl)
  have g_law := He.glo_ok X GG (c2.fact 37 (f := .glo "law") rfl)
  have b_law := F_law.binds (ps := ["script"]) fun _ _ _ _ _ _ us hl => match us, hl with | [_], _ => rfl
  have N_law : Nm K mg "law" _ fd_law ["script"] := ⟨g_law, F_law.kp, b_law⟩
  have z_isinstance := He.free_ok X GG (c2.fact 45 (f := .free "isinstance") rfl)
  have z_int := He.free_ok X GG (c2.fact 46 (f := .free "int") rfl)
  have z_bool := He.free_ok X GG (c2.fact 47 (f := .free "bool") rfl)
  have z_str := He.free_ok X GG (c2.fact 48 (f := .free "str") rfl)
  have z_len := He.free_ok X GG (c2.fact 49 (f := .free "len") rfl)
  have z_range := He.free_ok X GG (c2.fact 50 (f := .free "range") rfl)
  have z_tuple := He.free_ok X GG (c2.fact 51 (f := .free "tuple") rfl)
  have z_list := He.free_ok X GG (c2.fact 52 (f := .free "list") rfl)
  have z_all := He.free_ok X GG (c2.fact 53 (f := .free "all") rfl)
  have z_zip := He.free_ok X GG (c2.fact 54 (f := .free "zip") rfl)
  have z_enumerate := He.free_ok X GG (c2.fact 55 (f := .free "enumerate") rfl)
  have z_max := He.free_ok X GG (c2.fact 56 (f := .free "max") rfl)
  have z_min := He.free_ok X GG (c2.fact 57 (f := .free "min") rfl)
  have z_repr := He.free_ok X GG (c2.fact 58 (f := .free "repr") rfl)
  have z_dict := He.free_ok X GG (c2.fact 59 (f := .free "dict") rfl)
  have z_abs := He.free_ok X GG (c2.fact 60 (f := .free "abs") rfl)
  have z_sorted := He.free_ok X GG (c2.fact 61 (f := .free "sorted") rfl)
  have z_set := He.free_ok X GG (c2.fact 62 (f := .free "set") rfl)
  have z_any := He.free_ok X GG (c2.fact 63 (f := .free "any") rfl)
  have g_StopError := He.glo_ok X GG (c2.fact 38 (f := .glo "StopError") rfl)
  have g_BadUnits := He.glo_ok X GG (c2.fact 39 (f := .glo "BadUnits") rfl)
  have g_NoUnit := He.glo_ok X GG (c2.fact 40 (f := .glo "NoUnit") rfl)
  have g_UsesRing := He.glo_ok X GG (c2.fact 41 (f := .glo "UsesRing") rfl)
  have g_KEPT := He.glo_ok X GG (c2.fact 42 (f := .glo "KEPT") rfl)
  have g_EXPRESSION_FORMS := He.glo_ok X GG (c2.fact 43 (f := .glo "EXPRESSION_FORMS") rfl)
  have g_STATEMENT_FORMS := He.glo_ok X GG (c2.fact 44 (f := .glo "STATEMENT_FORMS") rfl)
  have m_BadUnits := He.exm_ok (c2.fact 64 (f := .exm "BadUnits" "StopError" true) rfl)
  have m_NoUnit := He.exm_ok (c2.fact 65 (f := .exm "NoUnit" "StopError" true) rfl)
  have m_UsesRing := He.exm_ok (c2.fact 66 (f := .exm "UsesRing" "StopError" true) rfl)
  have sL := He.str_ok X GG (c2.fact 67 (f := .str "LETTERS" lettersS) rfl)
  have m := c.more
  unfold ex11 isX at m
  simp only [Bool.and_eq_true, decide_eq_true_eq] at m
  obtain ⟨m1, xB, xN, xR, oB, oN, oR, mK, mE, mS, kB, kN, kR, dif, hdR, hdL⟩ := m
  have SK := sysB_ok m1
  have mapE : ∀ l : List Str, (l.map He.Dv.str).map (He.Dv.v K) = l.map V.str := fun l => by
    rw [List.map_map]
    rfl
  have GE := gdt_of (tab_at c.t (i := 0) (t := (fun K => He.ga K "EXPRESSION_FORMS", kv_E.map Prod.fst)) rfl) mE
  have GS := gdt_of (tab_at c.t (i := 1) (t := (fun K => He.ga K "STATEMENT_FORMS", kv_S.map Prod.fst)) rfl) mS
  unfold kv_E at GE
  unfold kv_S at GS
  rw [strs_dv] at GE GS
  have T2 : Top2 K w0 mg (He.ga K "KEPT") (He.ga K "EXPRESSION_FORMS") (He.ga K "STATEMENT_FORMS") := ⟨g_KEPT, fun H => mapE keptS ▸ He.tupB_ok mK H, sL, g_EXPRESSION_FORMS, GE, g_STATEMENT_FORMS, GS⟩
  have OB := ownB_ok oB
  have ON := ownB_ok oN
  have OR := ownB_ok oR
  have EF : ErC K mg (He.ga K "StopError") (He.ga K "BadUnits") (He.ga K "NoUnit") (He.ga K "UsesRing") := ⟨g_StopError, g_BadUnits, g_NoUnit, g_UsesRing, m_BadUnits, m_NoUnit, m_UsesRing, kB, kN, kR, (excB_ok xB).1, (excB_ok xN).1, (excB_ok xR).1, (excB_ok xB).2, (excB_ok xN).2, (excB_ok xR).2, OB.no "at" (List.mem_singleton.mpr rfl), ON.no "name" (List.mem_singleton.mpr rfl), OR.no "ring" (List.mem_singleton.mpr rfl)⟩
  have B2 : Bn2t mg := { isinstance := z_isinstance, int := z_int, bool := z_bool, str := z_str, len := z_len, range := z_range, tuple := z_tuple, list := z_list, all := z_all, zip := z_zip, enumerate := z_enumerate, max := z_max, min := z_min, repr := z_repr, dict := z_dict }
  have B : Bn11 mg := { sorted := z_sorted, set := z_set, any := z_any, isinstance := z_isinstance, int := z_int, bool := z_bool, str := z_str, len := z_len, range := z_range, tuple := z_tuple, list := z_list, all := z_all, enumerate := z_enumerate, min := z_min, repr := z_repr, dict := z_dict }
  have G_IB : FnOk P w0 K mg base CX0 1 _ fd_BadUnits___init__ ["self", "at"] (spInit1 (He.ga K "BadUnits") "at") := okI_BadUnits F_BadUnits___init__ OB
  have C_BadUnits : Cl1 P w0 K mg base "BadUnits" "at" (He.ga K "BadUnits") _ fd_BadUnits___init__ := ⟨g_BadUnits, OB, G_IB, b_BadUnits___init__⟩
  have G_IN : FnOk P w0 K mg base CX0 1 _ fd_NoUnit___init__ ["self", "name"] (spInit1 (He.ga K "NoUnit") "name") := okI_NoUnit F_NoUnit___init__ ON
  have C_NoUnit : Cl1 P w0 K mg base "NoUnit" "name" (He.ga K "NoUnit") _ fd_NoUnit___init__ := ⟨g_NoUnit, ON, G_IN, b_NoUnit___init__⟩
  have G_IR : FnOk P w0 K mg base CX0 1 _ fd_UsesRing___init__ ["self", "ring"] (spInit1 (He.ga K "UsesRing") "ring") := okI_UsesRing F_UsesRing___init__ OR
  have C_UsesRing : Cl1 P w0 K mg base "UsesRing" "ring" (He.ga K "UsesRing") _ fd_UsesRing___init__ := ⟨g_UsesRing, OR, G_IR, b_UsesRing___init__⟩
  have G_is_number : FnOk P w0 K mg base CX0 1 _ fd_is_number ["thing"] (spJ (fun _ => True) isNum) := ok_is_number F_is_number B2
  have c_is_number : Dq P w0 K mg base CX0 1 "is_number" ["thing"] (spJ (fun _ => True) isNum) := N_is_number.q G_is_number
  have G_is_tuple_of : FnOk P w0 K mg base CX0 1 _ fd_is_tuple_of ["thing", "many"] spTupOf := ok_is_tuple_of F_is_tuple_of B2
  have c_is_tuple_of : Dq P w0 K mg base CX0 1 "is_tuple_of" ["thing", "many"] spTupOf := N_is_tuple_of.q G_is_tuple_of
  have G__is_tuple_between : FnOk P w0 K mg base CX0 1 _ fd__is_tuple_between ["thing", "least", "most"] spTupB := ok_tuple_between F__is_tuple_between B2
  have c__is_tuple_between : Dq P w0 K mg base CX0 1 "_is_tuple_between" ["thing", "least", "most"] spTupB := N__is_tuple_between.q G__is_tuple_between
  have G_is_name : FnOk P w0 K mg base CX0 1 _ fd_is_name ["thing"] (spJ (fun d => fine d = true) isName) := ok_is_name F_is_name T2 B2
  have c_is_name : Dq P w0 K mg base CX0 1 "is_name" ["thing"] (spJ (fun d => fine d = true) isName) := N_is_name.q G_is_name
  have G_is_kind : FnOk P w0 K mg base CX0 2 _ fd_is_kind ["thing"] (spJ (fun d => fine d = true) isKind) := ok_is_kind F_is_kind c_is_name
  have c_is_kind : Dq P w0 K mg base CX0 2 "is_kind" ["thing"] (spJ (fun d => fine d = true) isKind) := N_is_kind.q G_is_kind
  have G__are_names : FnOk P w0 K mg base CX0 2 _ fd__are_names ["thing", "most"] spNames := ok_are_names F__are_names B2 c__is_tuple_between c_is_name
  have c__are_names : Dq P w0 K mg base CX0 2 "_are_names" ["thing", "most"] spNames := N__are_names.q G__are_names
  have G__is_headed : FnOk P w0 K mg base CX0 1 _ fd__is_headed ["thing"] (spJ (fun _ => True) headed) := ok_is_headed F__is_headed B2
  have c__is_headed : Dq P w0 K mg base CX0 1 "_is_headed" ["thing"] (spJ (fun _ => True) headed) := N__is_headed.q G__is_headed
  have AT := all_trees F_is_expression F_is_block F__has_form F__is_part F__are_expressions F__are_branches N_is_expression N_is_block N__has_form N__is_part N__are_expressions N__are_branches B2 T2 (P := P) (base := base) c_is_number c_is_name c_is_tuple_of c__is_tuple_between c__are_names c__is_headed DD
  have G_is_expression : FnOk P w0 K mg base CX0 (LE DD) _ fd_is_expression ["thing"] (spJ (Ok DD) isE) := AT.1
  have c_is_expression : Dq P w0 K mg base CX0 (LE DD) "is_expression" ["thing"] (spJ (Ok DD) isE) := N_is_expression.q G_is_expression
  have G_is_block : FnOk P w0 K mg base CX0 (LE DD) _ fd_is_block ["thing"] (spJ (Ok DD) isB) := AT.2
  have c_is_block : Dq P w0 K mg base CX0 (LE DD) "is_block" ["thing"] (spJ (Ok DD) isB) := N_is_block.q G_is_block
  have G__is_variant : FnOk P w0 K mg base CX0 3 _ fd__is_variant ["thing"] (spJ (Ok DD) isVar) := ok_is_variant F__is_variant B2 c_is_tuple_of c_is_name c__is_tuple_between c_is_kind
  have c__is_variant : Dq P w0 K mg base CX0 3 "_is_variant" ["thing"] (spJ (Ok DD) isVar) := N__is_variant.q G__is_variant
  have G_is_declaration : FnOk P w0 K mg base CX0 4 _ fd_is_declaration ["thing"] (spJ (Ok DD) isDecl) := ok_is_declaration F_is_declaration B2 c_is_tuple_of c_is_name c__is_tuple_between c_is_kind c__is_variant
  have c_is_declaration : Dq P w0 K mg base CX0 4 "is_declaration" ["thing"] (spJ (Ok DD) isDecl) := N_is_declaration.q G_is_declaration
  have G_is_function : FnOk P w0 K mg base CX0 (LE DD + 1) _ fd_is_function ["thing"] (spJ (Ok DD) isFun) := ok_is_function F_is_function c_is_tuple_of c_is_name c__are_names c_is_block
  have c_is_function : Dq P w0 K mg base CX0 (LE DD + 1) "is_function" ["thing"] (spJ (Ok DD) isFun) := N_is_function.q G_is_function
  have G_is_unit : FnOk P w0 K mg base CX0 (LE DD + 2) _ fd_is_unit ["thing"] (spJ (Ok DD) isUnit) := ok_is_unit F_is_unit B2 c_is_tuple_of c_is_name c__are_names c__is_tuple_between c_is_declaration c_is_function
  have c_is_unit : Dq P w0 K mg base CX0 (LE DD + 2) "is_unit" ["thing"] (spJ (Ok DD) isUnit) := N_is_unit.q G_is_unit
  have G_is_list : FnOk P w0 K mg base CX0 1 _ fd_is_list ["thing"] (spIsList K) := ok_is_list F_is_list B
  have c_is_list : Dq P w0 K mg base CX0 1 "is_list" ["thing"] (spIsList K) := N_is_list.q G_is_list
  have G_order_by_uses : FnOk P w0 K mg base CX0 1 _ fd_order_by_uses ["uses"] (spOrd K) := ok_order F_order_by_uses B
  have c_order_by_uses : Dq P w0 K mg base CX0 1 "order_by_uses" ["uses"] (spOrd K) := N_order_by_uses.q G_order_by_uses
  have G_shortest_ring_from : FnOk P w0 K mg base CX0 1 _ fd_shortest_ring_from ["uses", "first"] (spSrf K) := ok_srf F_shortest_ring_from B
  have c_shortest_ring_from : Dq P w0 K mg base CX0 1 "shortest_ring_from" ["uses", "first"] (spSrf K) := N_shortest_ring_from.q G_shortest_ring_from
  have G_shortest_ring : FnOk P w0 K mg base CX0 2 _ fd_shortest_ring ["uses"] (spSr K) := ok_sr F_shortest_ring B c_shortest_ring_from
  have c_shortest_ring : Dq P w0 K mg base CX0 2 "shortest_ring" ["uses"] (spSr K) := N_shortest_ring.q G_shortest_ring
  have G_users_by_uses : FnOk P w0 K mg base CX0 1 _ fd_users_by_uses ["uses", "name"] (spUbu K) := ok_ubu F_users_by_uses B
  have c_users_by_uses : Dq P w0 K mg base CX0 1 "users_by_uses" ["uses", "name"] (spUbu K) := N_users_by_uses.q G_users_by_uses
  have G_chkL : FnOk P w0 K mg base (L2.CX P w0) (LE DD + 3) _ fd__checked_uses ["units"] (spChkL K (He.ga K "BadUnits") (He.ga K "NoUnit")) := ok_chkL F__checked_uses B C_BadUnits C_NoUnit c_is_list c_is_unit
  have c_chkL : Dq P w0 K mg base (L2.CX P w0) (LE DD + 3) "_checked_uses" ["units"] (spChkL K (He.ga K "BadUnits") (He.ga K "NoUnit")) := N__checked_uses.q G_chkL
  have G_chkT : FnOk P w0 K mg base (L2.CX P w0) (LE DD + 3) _ fd__checked_uses ["units"] (spChkT K (He.ga K "BadUnits") (He.ga K "NoUnit")) := ok_chkT F__checked_uses B C_BadUnits C_NoUnit c_is_list c_is_unit
  have c_chkT : Dq P w0 K mg base (L2.CX P w0) (LE DD + 3) "_checked_uses" ["units"] (spChkT K (He.ga K "BadUnits") (He.ga K "NoUnit")) := N__checked_uses.q G_chkT
  have G_ofL : FnOk P w0 K mg base (L2.CX P w0) (LE DD + 4) _ fd_order_of ["units"] (spOfL K (He.ga K "BadUnits") (He.ga K "NoUnit") (He.ga K "UsesRing")) := ok_ofL F_order_of B C_UsesRing c_chkL c_order_by_uses c_shortest_ring
  have c_ofL : Dq P w0 K mg base (L2.CX P w0) (LE DD + 4) "order_of" ["units"] (spOfL K (He.ga K "BadUnits") (He.ga K "NoUnit") (He.ga K "UsesRing")) := N_order_of.q G_ofL
  have G_ofT : FnOk P w0 K mg base (L2.CX P w0) (LE DD + 4) _ fd_order_of ["units"] (spOfT K (He.ga K "BadUnits") (He.ga K "NoUnit") (He.ga K "UsesRing")) := ok_ofT F_order_of B C_UsesRing c_chkT c_order_by_uses c_shortest_ring
  have c_ofT : Dq P w0 K mg base (L2.CX P w0) (LE DD + 4) "order_of" ["units"] (spOfT K (He.ga K "BadUnits") (He.ga K "NoUnit") (He.ga K "UsesRing")) := N_order_of.q G_ofT
  have G_users_of : FnOk P w0 K mg base (L2.CX P w0) (LE DD + 4) _ fd_users_of ["units", "name"] (spUsr K (He.ga K "BadUnits") (He.ga K "NoUnit")) := ok_users_of F_users_of B C_NoUnit c_chkL c_users_by_uses
  have c_users_of : Dq P w0 K mg base (L2.CX P w0) (LE DD + 4) "users_of" ["units", "name"] (spUsr K (He.ga K "BadUnits") (He.ga K "NoUnit")) := N_users_of.q G_users_of
  have k_order_of : Dk P w0 K mg base (L2.CX P w0) (LE DD + 4) "order_of" ["units"] ["units"] kwO1 (spOfT K (He.ga K "BadUnits") (He.ga K "NoUnit") (He.ga K "UsesRing")) := ⟨_, _, kwO1, G_ofT, g_order_of, F_order_of.kp, kbO1 F_order_of fun _ _ _ _ _ _ _ => rfl⟩
  have k_users_of : Dk P w0 K mg base (L2.CX P w0) (LE DD + 4) "users_of" ["units", "name"] ["units", "name"] kwU (spUsr K (He.ga K "BadUnits") (He.ga K "NoUnit")) := ⟨_, _, kwU, G_users_of, g_users_of, F_users_of.kp, kbU F_users_of fun _ _ _ _ _ _ _ _ => rfl⟩
  have k_users_ofR : Dk P w0 K mg base (L2.CX P w0) (LE DD + 4) "users_of" ["units", "name"] ["name", "units"] kwR (spUsr K (He.ga K "BadUnits") (He.ga K "NoUnit")) := ⟨_, _, kwR, G_users_of, g_users_of, F_users_of.kp, kbR F_users_of fun _ _ _ _ _ _ _ _ => rfl⟩
  have G__law_begun : FnOk P w0 K mg base CX0 1 _ fd__law_begun ["script"] (spBegun K) := ok_begun F__law_begun z_int z_abs
  have c__law_begun : Dq P w0 K mg base CX0 1 "_law_begun" ["script"] (spBegun K) := N__law_begun.q G__law_begun
  have G__law_mixed : FnOk P w0 K mg base CX0 1 _ fd__law_mixed ["draw"] spMixed := ok_mixed F__law_mixed z_int
  have c__law_mixed : Dq P w0 K mg base CX0 1 "_law_mixed" ["draw"] spMixed := N__law_mixed.q G__law_mixed
  have G__law_take : FnOk P w0 K mg base CX0 2 _ fd__law_take ["draw", "many"] spTake := ok_take F__law_take F__law_mixed b__law_mixed g__law_mixed z_int G__law_mixed
  have c__law_take : Dq P w0 K mg base CX0 2 "_law_take" ["draw", "many"] spTake := N__law_take.q G__law_take
  have G__law_pick : FnOk P w0 K mg base CX0 3 _ fd__law_pick ["draw", "some"] (spPick K) := ok_pick F__law_pick F__law_take b__law_take g__law_take z_len G__law_take
  have c__law_pick : Dq P w0 K mg base CX0 3 "_law_pick" ["draw", "some"] (spPick K) := N__law_pick.q G__law_pick
  have G__law_shuffled : FnOk P w0 K mg base CX0 3 _ fd__law_shuffled ["draw", "some"] spShufV := ok_shufV F__law_shuffled B c__law_take
  have c__law_shuffled : Dq P w0 K mg base CX0 3 "_law_shuffled" ["draw", "some"] spShufV := N__law_shuffled.q G__law_shuffled
  have G__law_units : FnOk P w0 K mg base CX0 4 _ fd__law_units ["draw"] spUnits := ok_units F__law_units B c__law_shuffled c__law_take c__law_pick
  have c__law_units : Dq P w0 K mg base CX0 4 "_law_units" ["draw"] spUnits := N__law_units.q G__law_units
  have G__law_trees : FnOk P w0 K mg base CX0 1 _ fd__law_trees ["pairs"] (spTrees K) := ok_trees F__law_trees B
  have c__law_trees : Dq P w0 K mg base CX0 1 "_law_trees" ["pairs"] (spTrees K) := N__law_trees.q G__law_trees
  have G__law_rings : FnOk P w0 K mg base CX0 1 _ fd__law_rings ["uses"] (spRng K) := ok_rng F__law_rings B
  have c__law_rings : Dq P w0 K mg base CX0 1 "_law_rings" ["uses"] (spRng K) := N__law_rings.q G__law_rings
  have G__law_order : FnOk P w0 K mg base CX0 1 _ fd__law_order ["uses"] (spLOrd K) := ok_lord F__law_order B
  have c__law_order : Dq P w0 K mg base CX0 1 "_law_order" ["uses"] (spLOrd K) := N__law_order.q G__law_order
  have G__law_come : FnOk P w0 K mg base CX0 1 _ fd__law_come ["uses", "name"] (spLCome K) := ok_lcome F__law_come B
  have c__law_come : Dq P w0 K mg base CX0 1 "_law_come" ["uses", "name"] (spLCome K) := N__law_come.q G__law_come
  have hcR : fd__law_refused_right.code = .ref (He.cT K tR).1 := by
    obtain ⟨oc, od, kV, doc, pm, an, cdv, ct, osl, rfl, lk, hcd⟩ := F__law_refused_right.ex
    obtain ⟨c0, rfl⟩ := He.codeIn_ref hcd
    have e := He.codeOf_eq (K := K) (p := tR) (c := c0) lk rfl
    show Value.ref c0 = .ref (He.codeOf K tR)
    rw [e]
  have hcL : fd_law.code = .ref (He.cT K tL).1 := by
    obtain ⟨oc, od, kV, doc, pm, an, cdv, ct, osl, rfl, lk, hcd⟩ := F_law.ex
    obtain ⟨c0, rfl⟩ := He.codeIn_ref hcd
    have e := He.codeOf_eq (K := K) (p := tL) (c := c0) lk rfl
    show Value.ref c0 = .ref (He.codeOf K tL)
    rw [e]
  have mR : ((He.cT K tR).2, qRef) ∈ T11 K := List.mem_cons_self
  have mL : ((He.cT K tL).2, qLaw) ∈ T11 K := List.mem_cons_of_mem _ List.mem_cons_self
  have uR : ∀ p ∈ T11 K, p.1 = (He.cT K tR).2 → p.2 = qRef := fun p hp e => by
    rcases List.mem_cons.mp hp with rfl | hp
    · rfl
    · rw [List.mem_singleton.mp hp] at e
      exact absurd e.symm dif
  have uL : ∀ p ∈ T11 K, p.1 = (He.cT K tL).2 → p.2 = qLaw := fun p hp e => by
    rcases List.mem_cons.mp hp with rfl | hp
    · exact absurd e dif
    · rw [List.mem_singleton.mp hp]
  have G_ref := ok_refused (P := P) (w0 := w0) (base := base) (T := T11 K) F__law_refused_right hcR TBR mR uR B SK F__law_caught N__law_caught EF c__law_take c__law_pick c__law_trees c_ofL c_users_of k_users_of
  have g_ref : Gq P w0 K mg base (LE DD + 7) "_law_refused_right" ["draw", "pairs"] (spRef (T11 K)) := ⟨_, _, G_ref, g__law_refused_right, F__law_refused_right.kp, b__law_refused_right⟩
  have G_law := ok_law (P := P) (w0 := w0) (base := base) (T := T11 K) F_law hcL TBL mL uL B SK F__law_caught N__law_caught EF c__law_begun c__law_units c__law_trees c__law_rings c__law_order c__law_come c_ofL k_order_of c_users_of k_users_ofR g_ref
  cases hfa.symm.trans g_law
  have hb : ∀ (s : Shared) (u : Value), BindsTo s fd_law ⟨[u], []⟩ [("script", u)] := fun s u => by
    obtain ⟨oc, od, kV, doc, pm, an, cdv, ct, osl, rfl, _, _⟩ := F_law.ex
    exact .of_eq rfl
  intro s H a ns env hP1 hP2 hS hn
  refine G_law.goes callerA [] s H ⟨[.ref a], []⟩ [.ref a] [.ref a] _ _ rfl ⟨by decide, by decide, by decide⟩ env (hb s (.ref a)) (.cons rfl .nil) ⟨a, ns, rfl, hS, hn, fun p hp => ?_, fun _ => rfl⟩
  rcases List.mem_cons.mp hp with rfl | hp
  · exact LamX.TabS.nil hP1
  · rw [List.mem_singleton.mp hp]
    exact LamX.TabS.nil hP2
end
end SA

set_option Elab.async false
set_option linter.all false
set_option maxRecDepth 100000
set_option maxHeartbeats 0
open PySem PySem.W PySem.Calls PyProof.Rows
theorem PySem.Challenge.cw_stopanywhere_k11_units_in_order_or_the_s_holds : PySem.Challenge.rw_stopanywhere_k11_units_in_order_or_the_s.Holds := by
  w_on; o_law
  refine HandSHeadRun.head_any (r := SA.R) (q := view SA.R.prog [52]) (H := SA.hk11) (ob := SA.ob11) (M := 16000) (loose := SA.names) (d := HandSHeadRun.topDef SA.R.prog 52) (kwd := []) SA.ob_eq
    (by kernel_rfl) (fun s => by kernel_rfl) SA.hrun (by kernel_rfl) (by kernel_rfl) (by kernel_rfl) (by rfl) (by first | assumption | decide +kernel) (by decide +kernel) ⟨rfl, rfl, rfl, rfl, rfl, by decide +kernel⟩ ?hw ?hc
  case hw => w_witness2
  case hc =>
    refine SA.walk_T2 (l := PySem.Challenge.rw_stopanywhere_k11_units_in_order_or_the_s) (n := 63) rfl (by decide) (by kernel_rfl) ?F
    intro w mg fa h Y G hmg0
    obtain ⟨K, KX, c⟩ := Y
    have hmg : mg ("law" : PySem.Str) = some (.ref fa) := by
      have e : (HandSHeadRun.topDef SA.R.prog 52).name = ("law" : PySem.Str) := by kernel_rfl
      rw [← e]
      exact hmg0
    exact ⟨K, (He.cT K SA.tR).1, (He.cT K SA.tR).2, (He.cT K SA.tL).1, (He.cT K SA.tL).2, KX, c.empR, c.noneR, PySem.W.codeHd_of_K KX (SA.head_code c.more).1, c.empL, c.noneL, PySem.W.codeHd_of_K KX (SA.head_code c.more).2, fun base _ _ TBR TBL => SA.law_of KX G hmg c base TBR TBL⟩

