import PyProof.Rows.All
import Wide.All
import OpenK.AllK
import Wide.FinOn
import HandS.ForMost
import HandS.Evl
import HandS.ExcInit
import HandS.ExcValue
import HandS.ExcIs
import HandS.ExcField
import HandS.IsInst
import PyProof.ReprRoads
import HandS.Head0
import HandS.Head1
import HandS.Head2
import HandS.HeadEnd
import HandS.HeadHook1
import HandS.HeadHook2
import HandS.Lambda
import HandS.TryOnly
import HandS.CallLocal
import HandS.ForExc
import HandS.Style
import HandS.StrMore
import HandS.FStr
import HandS.Wide
import PyProof.ReprLen
import PyProof.Rows.StrNews2
import PyProof.StrLawsIn
import PyProof.StrBlock2
import HandS.Zip
import HandS.Walk
import KE.GoesZip
import KE.GoesMore
import HandS.HeadHook4
import HandS.More
import KE.KIntText
import KE.IntTextLaws
import PyProof.FString3
import HandS.Base
import HandS.Call
import HandS.Codes
import HandS.IntHex
import PyProof.Rows.StrIntSpec
import HandS.EndTab
import KE.BitLaws
import PyProof.EqAt
import HandS.Strs
import HandS.Deep
import PyProof.EnumMake
import PyProof.NeKinds
import HandS.Text
import HandS.Sort
import PyProof.EqKinds
import PyProof.FactsAll.dict_1
import PySem.Challenge.RW_stopanywhere_k84_bits_read_or_refused
set_option Elab.async false
set_option linter.all false
set_option maxRecDepth 100000
set_option maxHeartbeats 4000000
/-! ### exceptions held as values: isinstance, fields, made with their own __init__; repr of data -/
namespace SA
section
open PySem PySem.Spec PySem.Calls PyProof.Rows PySem.W
variable {prog : Program} {w : World} {A : Around} {E : Value → Shared → Prop} {s : Shared} {K : Frag} {x D : Addr} {ox : Obj} {od : Option Obj}
/-- a data descriptor of the class is found first, whatever the object's own dict holds -/
theorem find_data {name : Str} {a g : Value} (hc : (clsIn K D).isSome = true) (ha : findIn K (.ref D) name = some (some a)) (hg : specialIn K a "__get__" = some (some g))
    (ht : takesIn K a = some true) : findObj K D od name = some (.bind g a) := by
  obtain ⟨cd, e⟩ := Option.isSome_iff_exists.mp hc
  unfold findObj
  rw [e, Option.bind_some, ha, Option.bind_some]
  simp [hg, ht]
/-- e.__class__ of an exception object of the class at D -/
theorem exc_class {Q : Option Value → Shared → Prop} (C : L2.ExcC K D) (X : K.In s.heap) (I : InstAt s.heap x ox D od) (h : Q (some (.ref D)) { s with toks := s.toks + 1 }) :
    wpAny (model prog w) A (getAttr? (.ref x) "__class__") Q E s := by
  have hcd : (clsIn K D).isSome = true := by
    obtain ⟨cd, hc, _⟩ := any_some C.hd
    rw [hc] <;> rfl
  have hf : findObj K D od "__class__" = some (.bind (.builtin "getset_descriptor.__get__") (.builtin "object.__class__")) := find_data hcd C.ha C.hn C.ht
  obtain ⟨hp, g, d, t, os⟩ := s
  have t0 := I.type (M := model prog w)
  have t1 := looks_findIn (M := model prog w) X C.hg
  have t2 := looks_findIn (M := model prog w) X C.hk
  have t3 := looks_find (M := model prog w) X I hf
  have sub : Looks (model prog w) hp (isInstance (.ref x) (.type "BaseException")) true := t0.andThen (looks_subIn X C.hs)
  have n0 : (false && onTheHeap (Value.builtin "BaseException.__getattribute__")) = false := rfl
  have n2 : (Value.builtin "BaseException.__getattribute__" == Value.builtin "object.__getattribute__") = false := by decide +kernel
  have n1 : (onTheHeap (Value.ref D) && Value.builtin "BaseException.__getattribute__" == Value.builtin "object.__getattribute__") = false := by rw [n2] <;> rfl
  unfold getAttr? getAttrBy? getAttrBy
  refine wpAny_bind (wpAny_mkText (wpAny_bind (wpAny_attempt (wpAny_holding (wpAny_bind (t0.at (wpAny_bind (t1.at ?_))))))))
  show wpAny _ _ (if (onTheHeap (Value.ref D) && Value.builtin "BaseException.__getattribute__" == Value.builtin "object.__getattribute__") = true then _ else _) _ _ _
  rw [n1, if_neg Bool.false_ne_true]
  unfold getAttrByItsOwn hookBefore
  refine wpAny_bind ?_
  rw [if_pos (show onTheHeap (Value.ref D) = true from rfl)]
  refine t2.at ?_
  refine wpAny_bind (wpAny_attempt (wpAny_holding ?_))
  unfold callGetattribute
  rw [n0, if_neg Bool.false_ne_true]
  unfold boundAndCalled
  rw [PySem.F.excAttr_ValueError.ga.bind (.ref x)]
  refine wpAny_bind (wpAny_pure ?_)
  show wpAny _ _ (call (.builtin "BaseException.__getattribute__") [.ref x, .str "__class__" t]) _ _ _
  refine wpAny_call (codeAny_call_builtin PySem.F.excAttr_ValueError.ga.plain PySem.F.entry_bexc_ga ?_)
  refine @check_slot (model prog w) _ _ ⟨hp, g, d, t + 1, os⟩ "BaseException.__getattribute__" "BaseException" "__getattribute__" (.ref x) [.str "__class__" t] [] _ (by decide +kernel) (by decide +kernel) sub (PySem.F.args_bexc_ga (.ref x) (.str "__class__" t)) ?_
  unfold Builtin.«object.__getattribute__»
  refine wpAny_bind (wpAny_of_eq (a := ((Value.ref x : Value), [Value.str "__class__" t])) (by first | rfl | (simp only [slotArgs]; rfl)) ?_)
  refine wpAny_bind (wpAny_pure (wpAny_bind (t0.at (wpAny_bind (t3.at ?_)))))
  show wpAny _ _ (holding [Value.builtin "object.__class__"] (call (.builtin "getset_descriptor.__get__") [.builtin "object.__class__", .ref x, .ref D]) >>= ret) _ _ _
  refine wpAny_bind (wpAny_holding (wpAny_call (class_get (s := ⟨hp, g, d, t + 1, os⟩) (ox := ox) (od := od) X I C.hm ?_)))
  refine wpAny_pure ?_
  show wpAny _ _ (handedOut (.ref D)) _ _ _
  rw [handedOut_of (v := .ref D) rfl]
  first
    | exact wpAny_pure (wpAny_pure h)
    | exact wpAny_pure h
    | exact wpAny_pure (wpAny_bind (wpAny_pure (wpAny_pure h)))
theorem is_class {c : Addr} (h : hasDictIn K c = true) : ∃ oc od cd sl, K.lookup c = some ⟨oc, od, .cls cd, sl⟩ := by
  obtain ⟨cd, hc, _⟩ := any_some h
  unfold clsIn at hc
  split at hc
  · rename_i c' d' cd' sl' ho
    exact ⟨_, _, _, _, ho⟩
  · cases hc
theorem kit_exc (C : L2.ExcC K D) : KitX K (.ref x) (.ref D) (fun h => InstAt h x ox D od) where
  ty := fun _ _ _ I => I.type
  it := fun _ _ X _ => by
    obtain ⟨oc, dd, cd, sl, ho⟩ := is_class C.hd
    intro A' Q' E' s' k q
    unfold isType loadHead
    exact wpAny_bind (wpAny_loadPart (k _ _ (X _ _ ho)) (wpAny_pure q))
  ne := fun h tp dd its n sl X htp => Bool.eq_false_iff.mpr fun q => by
    obtain ⟨oc, d2, cd, sl2, ho⟩ := is_class C.hd
    have e : D = tp := Value.ref.inj (beq_iff_eq.mp q)
    subst e
    have z := (X _ _ ho).symm.trans htp
    cases z
  ca := fun X I k => exc_class C X I k
end
section
open PySem PySem.Spec PyProof.Rows L2
/-- at a stands an exception of the class at C, not raised: without a dict | with its dict at d -/
def XAt (H : Hp) (a C : Addr) : Prop := H a = some (ExO (.ref C) a) ∨ ∃ (d : Addr) (fs : List (Str × V)), H a = some (exo a C (some d)) ∧ H d = some (exd d fs)
variable {X : Cx}
theorem XAt.inst {pins : List (Addr × Obj)} {σ : L2.St} {H : Hp} {s : Shared} {a C : Addr} (I : Inv X pins σ H s) (h : XAt H a C) : ∃ ox od, PySem.W.InstAt s.heap a ox C od := by
  rcases h with h | ⟨d, fs, h1, h2⟩
  · obtain ⟨⟨oe, vs, e, z, dt, _⟩, _⟩ := I.hok a _ h
    refine ⟨oe, none, e, z.1, ?_, ?_⟩
    · unfold PySem.W.notCls
      rw [dt] <;> rfl
    · rw [z.2]
      trivial
  · obtain ⟨t1, e⟩ := exo_at I.hok h1
    obtain ⟨mA, hn, _⟩ := exd_at I.hok h2
    obtain ⟨od, ho, _⟩ := lookIn_ns hn
    exact ⟨_, some od, e, rfl, rfl, ho⟩
/-- isinstance(e, c), e an exception held as a value -/
def rIsX (K : PySem.W.Frag) : List V → Hp → VK → Prop := fun xs H Q => ∃ (a D : Addr) (c : V) (cv : Value) (b : Bool), xs = [.ref a, c] ∧ ClsV c cv ∧ XAt H a D ∧ ExcC K D ∧ PySem.W.kitOne K (.ref D) cv = some b ∧ Q (.bl b) H
theorem call_isX : CallR X (.builtin "isinstance") (rIsX X.K) := by
  intro pins s σ H xs us Q I r h
  obtain ⟨a, D, c, cv, b, rfl, k, hx, hC, e, q⟩ := h
  obtain ⟨u1, u2, rfl, r1, r2⟩ := vals2 r
  have e2 := k.eq r2
  subst e2
  obtain rfl : u1 = Value.ref a := r1
  obtain ⟨ox, od, J⟩ := hx.inst I
  exact PySem.W.kia_one (kit_exc hC) I.kIn J e (fun z => nomatch z) fun tk => ⟨.bl b, H, I.kept (t' := tk) fun _ _ z => z, rfl, q⟩
/-- e.f, e an exception held as a value -/
def tXfld (K : PySem.W.Frag) (te : TE) (f : Str) : TE := fun σ H Q => te σ H fun x H1 => ∃ (a C d : Addr) (fs : List (Str × V)) (v : V), x = .ref a ∧ H1 a = some (exo a C (some d)) ∧ H1 d = some (exd d fs) ∧ XfC K C ∧
  PySem.W.findIn K (.ref C) f = some none ∧ fs.lookup f = some v ∧ Q v H1
theorem pe_xfld {e : Expr} {te : TE} {f : Str} {pos : Pos} (he : PE X e te) (hb : attributeBase e f X.env (eval e X.env) = eval e X.env := by rfl) : PE X (.Attribute e f pos) (tXfld X.K te f) := by
  refine ⟨fun pins s σ H Q I h => ?_⟩
  refine attr_of hb (thn (he.run pins s σ H _ I h) fun u s1 hh => ?_)
  obtain ⟨x, H1, I1, rx, a, C, d, fs, v, ex, h1, h2, T, hno, hl, q⟩ := hh
  subst ex
  obtain rfl : u = Value.ref a := rx
  obtain ⟨t1, ha⟩ := exo_at I1.hok h1
  obtain ⟨mA, hns, hr⟩ := exd_at I1.hok h2
  obtain ⟨od, ho, hlk⟩ := lookIn_ns hns
  obtain ⟨u, hu, ru⟩ := RelO.some_of (v := v) (o := mA f) (by rw [← hl]; exact hr f)
  have J : PySem.W.InstAt s1.heap a _ C (some od) := ⟨ha, rfl, rfl, ho⟩
  exact HandSPX.exc_get I1.kIn J T.ga T.gg T.exC (PySem.W.findObj_own T.hdC hno rfl (by rw [hlk, hu])) (handed_of ru) ⟨v, H1, I1.tok _, ru, q⟩
end
end SA

set_option Elab.async false
set_option linter.all false
set_option maxRecDepth 100000
set_option maxHeartbeats 4000000
namespace SA
open PySem PySem.Spec PyProof.Rows L2
/-! ### data of any depth, dicts too, and its repr -/
def keyD : Key → PyData
  | .inl i => .int i
  | .inr x => .str x
mutual
inductive Dx (K : PySem.W.Frag) (H : Hp) : V → PyData → Prop
  | non : Dx K H .non .none
  | bl (b : Bool) : Dx K H (.bl b) (.bool b)
  | int (i : Int) : Dx K H (.int i) (.int i)
  | str (x : Str) : Dx K H (.str x) (.str x)
  | lst {a : Addr} {xs : List V} {ds : List PyData} : SqL K H a xs → DxAll K H xs ds → Dx K H (.ref a) (.list ds)
  | tup {a : Addr} {xs : List V} {ds : List PyData} : SqT K H a xs → DxAll K H xs ds → Dx K H (.ref a) (.tuple ds)
  | dct {a : Addr} {kvs : List (Key × V)} {ds : List (PyData × PyData)} : H a = some (.dK kvs) → kvs.map (fun p => keyD p.1) = ds.map (·.1) → DxAll K H (kvs.map (·.2)) (ds.map (·.2)) → Dx K H (.ref a) (.dict ds)
inductive DxAll (K : PySem.W.Frag) (H : Hp) : List V → List PyData → Prop
  | nil : DxAll K H [] []
  | cons {v : V} {vs : List V} {d : PyData} {ds : List PyData} : Dx K H v d → DxAll K H vs ds → DxAll K H (v :: vs) (d :: ds)
end
/-- the written part knows sys.modules, a dict -/
def SysK (K : PySem.W.Frag) : Prop := ∃ o, K.lookup sysModules = some o ∧ o.cls = .type "dict"
section
variable {X : Cx} {pins : List (Addr × Obj)} {σ : L2.St} {H : Hp} {s : Shared}
theorem SysK.trk (S : SysK X.K) (I : Inv X pins σ H s) {a : Addr} {o : HO} (h : H a = some o) : sysModules ≠ a := fun e => by
  obtain ⟨ob, h1, _⟩ := S
  obtain ⟨_, z⟩ := I.bs sysModules ob (I.mod.kin _ _ h1)
  rw [e, h] at z
  cases z
theorem SysK.seqL (S : SysK X.K) (I : Inv X pins σ H s) {a : Addr} {xs : List V} (h : SqL X.K H a xs) : sysModules ≠ a := by
  rcases h with (h | ⟨o, h⟩) | ⟨o, its, n, h, hc, _⟩
  · exact S.trk I h
  · exact S.trk I h
  · intro e
    obtain ⟨ob, h1, h2⟩ := S
    rw [e, h] at h1
    cases h1
    rw [hc] at h2
    exact absurd (Value.type.inj h2) (by decide)
theorem pairs_keys {P : Program} {w : World} : ∀ {es : List DictEntry} {vs : List (Key × Value)}, Pairs (mixKind P w) es vs → ∃ as, ReadsAll s.heap (es.map (·.key)) (vs.map fun p => keyD p.1) as ∧ as = []
  | _, _, .nil => ⟨[], .nil, rfl⟩
  | _, _, .cons (e := e) (kv := kv) h1 h2 t => by
    obtain ⟨as, r, rfl⟩ := pairs_keys t
    have hk : Reads s.heap e.key (keyD kv.1) [] := by
      rcases keyIs_shape (k := kv.1) (v := e.key) h1 with ⟨i, t, e1, e2⟩ | ⟨x, t, e1, e2⟩
      · rw [e1, e2]
        exact .int i t
      · rw [e1, e2]
        exact .str x t
    exact ⟨[] ++ [], .cons hk r, rfl⟩
theorem pairs_vals {P : Program} {w : World} : ∀ {es : List DictEntry} {vs : List (Key × Value)}, Pairs (mixKind P w) es vs → es.map (·.val) = vs.map (·.2)
  | _, _, .nil => rfl
  | _, _, .cons h1 h2 t => by
    rw [List.map_cons, List.map_cons, pairs_vals t, h2]
theorem kv_keys : ∀ {kvs : List (Key × V)} {vs : List (Key × Value)}, KV kvs vs → kvs.map (fun p => keyD p.1) = vs.map (fun p => keyD p.1) ∧ Vals (kvs.map (·.2)) (vs.map (·.2))
  | _, _, .nil => ⟨rfl, .nil⟩
  | _, _, .cons r t => by
    obtain ⟨h1, h2⟩ := kv_keys t
    obtain ⟨q1, q2⟩ := r
    exact ⟨by rw [List.map_cons, List.map_cons, h1, q1], .cons q2 h2⟩
mutual
theorem Dx.reads (S : SysK X.K) (I : Inv X pins σ H s) : ∀ {d : PyData} {v : V} {u : Value}, Dx X.K H v d → RelV v u → ∃ as, Reads s.heap u d as ∧ sysModules ∉ as
  | _, _, u, .non, r => ⟨[], by obtain rfl : u = Value.none := r; exact .none, by simp⟩
  | _, _, u, .bl b, r => ⟨[], by obtain rfl : u = Value.bool b := r; exact .bool b, by simp⟩
  | _, _, u, .int i, r => by
    obtain ⟨t, rfl⟩ := r
    exact ⟨[], .int i t, by simp⟩
  | _, _, u, .str x, r => by
    obtain ⟨t, rfl⟩ := r
    exact ⟨[], .str x t, by simp⟩
  | _, _, u, .lst (a := a) hs ha, r => by
    obtain rfl : u = Value.ref a := r
    obtain ⟨its, rv, ⟨o, n, ho, hc, _, hd⟩, _⟩ := I.list hs
    obtain ⟨as, hr, hn⟩ := DxAll.reads S I ha rv
    exact ⟨_, .list ho hc hd hr, fun m => (List.mem_cons.mp m).elim (S.seqL I hs) hn⟩
  | _, _, u, .tup (a := a) hs ha, r => by
    obtain rfl : u = Value.ref a := r
    obtain ⟨its, rv, ⟨o, ho, hc, n, hd⟩, _⟩ := I.tuple hs
    obtain ⟨as, hr, hn⟩ := DxAll.reads S I ha rv
    exact ⟨_, .tuple ho hc hd hr, hn⟩
  | _, _, u, .dct (a := a) (kvs := kvs) (ds := ds) h1 hk ha, r => by
    obtain rfl : u = Value.ref a := r
    obtain ⟨_, hsm, vs, kv, o, es, ep, ho, hx, hd, _, hp, _⟩ := (show ObjOk X.prog X.w H s.heap a (.dK kvs) from I.hok a _ h1)
    obtain ⟨e1, e2⟩ := kv_keys kv
    obtain ⟨bs, hr, hn⟩ := DxAll.reads S I ha e2
    obtain ⟨as, hr2, rfl⟩ := pairs_keys (s := s) hp
    refine ⟨a :: [] ++ bs, .dict ho hx.1 hd (by rw [← hk, e1]; exact hr2) (by rw [pairs_vals hp]; exact hr), fun m => ?_⟩
    have m2 : sysModules ∈ a :: bs := m
    exact (List.mem_cons.mp m2).elim (S.trk I h1) hn
theorem DxAll.reads (S : SysK X.K) (I : Inv X pins σ H s) : ∀ {ds : List PyData} {vs : List V} {us : List Value}, DxAll X.K H vs ds → Vals vs us → ∃ as, ReadsAll s.heap us ds as ∧ sysModules ∉ as
  | _, _, _, .nil, .nil => ⟨[], .nil, by simp⟩
  | _, _, _, .cons h1 h2, .cons r1 r2 => by
    obtain ⟨as, q1, n1⟩ := Dx.reads S I h1 r1
    obtain ⟨bs, q2, n2⟩ := DxAll.reads S I h2 r2
    exact ⟨_, .cons q1 q2, fun m => (List.mem_append.mp m).elim n1 n2⟩
end
end
/-- repr of a list, a tuple, a dict -/
def rRepr (K : PySem.W.Frag) : List V → Hp → VK → Prop := fun xs H Q => ∃ (a : Addr) (d : PyData), xs = [.ref a] ∧ Dx K H (.ref a) d ∧ d.showable = true ∧ d.shown.length ≤ sizeLine ∧ d.depth ≤ 60 ∧ Q (.str d.shown) H
theorem call_repr {X : Cx} (S : SysK X.K) (hg : X.A.guards = some []) (hu : X.A.units + 64 < cLine) : CallR X (.builtin "repr") (rRepr X.K) := by
  intro pins s σ H xs us Q I r h
  obtain ⟨a, d, rfl, hd, hs, hz, hp, q⟩ := h
  obtain ⟨u, rfl, ru⟩ := vals1 r
  obtain rfl : u = Value.ref a := ru
  obtain ⟨as, hr, hn⟩ := Dx.reads S I hd (u := .ref a) rfl
  exact repr_of_reads' hr hs (fun _ => hn) hg (by omega) (fun _ _ e => e) (fun h' u tk hk => ⟨.str d.shown, H, I.kept (t' := tk) hk, ⟨u, rfl⟩, q⟩) hz
/-! ### X(e, ..) by its own __init__, as a value -/
def tOex (C : Addr) (sp : Sp) (dvs : List V) (ta : TA) : TE := fun σ H Q => ta σ H fun vs H1 => vs.length ≤ 1000 ∧ ∀ a, H1 a = none → sp (.ref a :: (vs ++ dvs)) (upd H1 a (exo a C none)) (fun v H2 => v = .non ∧ Q (.ref a) H2) (fun _ _ _ => False)
theorem pe_oex {X : Cx} {CX : CXT} {x : Str} {C fI : Addr} {k : Nat} {fd : FuncData} {ps : List Str} {sp : Sp} {ds : List Value} {dvs : List V} {e : Expr} {es : List Expr} {ta : TA} {p pos : Pos}
    (T : OexC X.K C) (iC : PySem.W.findIn X.K (.ref C) "__init__" = some (some (.ref fI))) (tI : PySem.W.typeIn X.K (.ref fI) = some (.type "function"))
    (F1 : FnOk X.prog X.w X.K X.mg X.base CX k fI fd ps sp) (hr : Room (k + 1) X.A) (hb : L2.Binds X.K fd ps ds) (hd : Vals dvs ds) (hx : Passes CX X (fun _ _ _ => False)) (hg : Gl X x) (hm : X.mg x = some (.ref C)) (ha : PA X (e :: es) ta)
    (hdb : (x == ("__debug__" : Str)) = false := by decide) (he : starEach (e :: es) X.env = (false, eval e X.env) :: starEach es X.env := by rfl) (hpl : (backTo pos (starEach es X.env)).any (·.1) = false := by rfl) :
    PE X (.Call (.Name x p) (e :: es) [] pos) (tOex C sp dvs ta) := by
  refine ⟨fun pins s σ H Q I h => ?_⟩
  obtain ⟨nm, q, N, bs, bm, sn, sub, ab, col, dd, k0, k1, k2, k3, k5, hC, hbm⟩ := T.cls
  refine wpAny_Call_Name_kw (ld_glob I hg hm ?_ hdb)
  refine PySem.W.callWith_K (h₀ := X.base) I.ok.mod.kin T.kC (thn (ha.run pos pins s σ H _ I h) fun us s1 ⟨vs, H1, I1, r1, hz, q1⟩ => ⟨I1.kIn, ?_⟩) he hpl
  show wpAny _ _ (call (.ref C) us) _ _ _
  obtain ⟨hp, g, dr, tk, os⟩ := s1
  have hsz : hp.objs.size ≤ hp.objs.size + 1 := Nat.le_succ _
  have hn : H1 (hp.objs.size + 1) = none := I1.hok.fresh hsz
  have hq := q1 (hp.objs.size + 1) hn
  have hget : ((hp.push (PySem.W.kdv_tup us)).push (PySem.HandSPX.excO C hp.objs.size)).get? (hp.objs.size + 1) = some (PySem.HandSPX.excO C hp.objs.size) := by heap_get
  have I2 : Inv X pins σ (upd H1 (hp.objs.size + 1) (exo (hp.objs.size + 1) C none)) ⟨(hp.push (PySem.W.kdv_tup us)).push (PySem.HandSPX.excO C hp.objs.size), g, dr, tk, os⟩ :=
    I1.laid (t' := tk) (fun b o z => Heap.get?_push_of_some _ (Heap.get?_push_of_some _ z)) hsz (exo_ok hget)
  have r2 : Vals (V.ref (hp.objs.size + 1) :: (vs ++ dvs)) (Value.ref (hp.objs.size + 1) :: (us ++ ds)) := .cons rfl (r1.append hd)
  have hl : (Value.ref (hp.objs.size + 1) :: us ++ ds).length = ps.length := r2.length.symm.trans (F1.len _ _ _ _ hq)
  have hus : us.length ≤ sizeLine := by
    have z := Paired.length r1
    rw [sizeLine_eq]
    omega
  refine wpAny_call (PySem.HandSPX.call_own F.excBase_ValueError (fun Y => PySem.HandSPX.refsVE_contains Y bm hbm) (I1.kIn _ _ hC) (PySem.W.looks_findIn I1.kIn iC) (fun self => PySem.W.bind_fn I1.kIn self tI) hus
    (codeAny_mono (F1.run _ X.stack _ _ ⟨Value.ref (hp.objs.size + 1) :: us, []⟩ (Value.ref (hp.objs.size + 1) :: (us ++ ds)) _ _ (fun _ _ _ => False) (hr.make C us []) (I2.env0.make C us []) (hb _ (Value.ref (hp.objs.size + 1) :: us) I2.kIn hl) r2 hq) fun r s' hq' => ?_))
  cases r with
  | error er => exact hx pins σ _ _ er s' I2 hq'
  | ok fl =>
    cases fl with
    | ret u =>
      obtain ⟨v, H2, J, rv, ev, q2⟩ := I2.after hq'
      subst ev
      exact ⟨rv, .ref (hp.objs.size + 1), H2, J, rfl, q2⟩
    | next => exact False.elim hq'
    | brk => exact False.elim hq'
    | cont => exact False.elim hq'
end SA

set_option Elab.async false
set_option linter.all false
set_option maxRecDepth 100000
set_option maxHeartbeats 4000000
namespace SA
open PySem PySem.Spec PyProof.Rows L2
/-! ### the law's def, entered where no repr is under way -/
/-- what the law's def does when the claim's caller calls it -/
def LawRun (P : Program) (w : World) (K : PySem.W.Frag) (mg : Str → Option Value) (base : Heap) (fa : Addr) (n : Nat) : Prop :=
  ∀ (s : Shared) (H : Hp) (a : Addr) (ns : List Int), Env0 P w K mg base callerA [] s H → SqL K H a (ns.map V.int) → ns.length ≤ n →
    codeAny (model P w) callerA (.call (.ref fa) ⟨[.ref a], []⟩) (CR CX0 [] P w H s (fun v _ => v = .bl true) E0) s
section
variable {P : Program} {w : World} {K : PySem.W.Frag} {mg mb : Str → Option Value} {fa a : Addr} {s : Shared} {vs : List Value} {ns : List Int} {n : Nat}
abbrev Done (s : Shared) : Result → Shared → Prop := fun r s' => r = .ok (.ret (.bool true)) ∧ OldK s.heap s'.heap ∧ s'.os = s.os ∧ AllBare s'.gens
/-- from an abstract heap in which at most the script is tracked -/
theorem law_from (KX : K.In s.heap) (hns : s.heap.Ns mainGlobals mg) (hb : s.heap.Ns builtinsNs mb) (hbb : ∀ x : Str, x ≠ "__name__" → mb x = bootBuiltins x) (hlim : s.heap.NoLimit) (hg : s.gens = #[])
    (ha : s.heap.get? a = some { cls := .type "list", data := .seq vs.toArray }) (hn : ns.length ≤ n) (F : ∀ base : Heap, K.In base → base.Ns mainGlobals mg → LawRun P w K mg base fa n)
    (H : Hp) (hO : Only H) (hS : SqL K H a (ns.map V.int)) (hok : HOk P w H s.heap) (hA : ∀ b, H b ≠ none → b = a) (hK : H a ≠ none → K.lookup a = none) : codeAny (model P w) callerA (.call (.ref fa) ⟨[.ref a], []⟩) (Done s) s := by
  have only : ∀ {b : Addr}, b ≠ a → H b = none := fun {b} nb => by
    cases q : H b with
    | none => rfl
    | some u => exact absurd (hA b (by rw [q]; simp)) nb
  have nsd : ∀ {b : Addr} {m : Str → Option Value}, s.heap.Ns b m → (hidT s.heap H).Ns b m := fun {b m} z => by
    obtain ⟨o, es, ep, e, d, r⟩ := z
    refine ⟨o, es, ep, hidT_get e (only fun eb => ?_), d, r⟩
    rw [eb, ha] at e
    cases e
    cases d
  have kin : K.In (hidT s.heap H) := fun b o e => hidT_get (KX b o e) (by
    by_cases eb : b = a
    · cases q : H b with
      | none => rfl
      | some u =>
        have z := hK (by rw [← eb, q]; simp)
        rw [← eb, e] at z
        cases z
    · exact only eb)
  have env : Env0 P w K mg (hidT s.heap H) callerA [] s H :=
    ⟨rfl, ⟨kin, nsd hns, ⟨mb, nsd hb, hbb⟩, let ⟨mc, h1, h2⟩ := hlim; ⟨mc, nsd h1, h2⟩⟩, fun b o e => of_hidT e, Nat.le_of_eq (hidT_size _ _), trivial, fun b z => absurd (show b ∈ ([] : List Addr) from z) (by simp), hok, .of_eq hg⟩
  refine codeAny_mono (F _ kin (nsd hns) s H a ns env hS hn) fun r s' h => ?_
  match r, h with
  | .error _, h => exact False.elim h
  | .ok .next, h => exact False.elim h
  | .ok .brk, h => exact False.elim h
  | .ok .cont, h => exact False.elim h
  | .ok (.ret u), ⟨v, H', os, bare, un, hok', rv, q⟩ =>
    have ev : v = .bl true := q
    subst ev
    obtain rfl : u = Value.bool true := rv
    refine ⟨rfl, OldK.of_keep fun b o e => ?_, os, bare⟩
    rcases hO b with z | ⟨ob, xs, z⟩
    · exact un.keep b o e z (fun y => absurd (show b ∈ ([] : List Addr) from y) (by simp)) (by simp)
    · obtain ⟨e1, _⟩ := hok b _ z
      obtain ⟨e2, _⟩ := hok' b _ (un.frzs b ob _ z)
      rw [e] at e1
      cases e1
      exact e2
theorem law_callG (KX : K.In s.heap) (hns : s.heap.Ns mainGlobals mg) (hb : s.heap.Ns builtinsNs mb) (hbb : ∀ x : Str, x ≠ "__name__" → mb x = bootBuiltins x) (hlim : s.heap.NoLimit) (hg : s.gens = #[])
    (ha : s.heap.get? a = some { cls := .type "list", data := .seq vs.toArray }) (hi : IntsAre vs ns) (hl : ns.length ≤ sizeLine) (hn : ns.length ≤ n) (F : ∀ base : Heap, K.In base → base.Ns mainGlobals mg → LawRun P w K mg base fa n) :
    codeAny (model P w) callerA (.call (.ref fa) ⟨[.ref a], []⟩) (Done s) s := by
  have rv := vals_ints hi
  cases hk : K.lookup a with
  | some o =>
    have e := KX a o hk
    rw [ha] at e
    cases e
    exact law_from KX hns hb hbb hlim hg ha hn F (fun _ => none) (fun _ => .inl rfl) (.inr ⟨_, vs.toArray, _, hk, rfl, rfl, rfl, by rw [List.size_toArray, hi.length]; exact hl, by simpa using rv⟩)
      (fun b u z => absurd (show (none : Option HO) = some u from z) (by simp)) (fun b z => absurd rfl z) fun z => absurd rfl z
  | none =>
    have at_ : ∀ b, (fun b => if b = a then some (HO.frz { cls := .type "list", data := .seq vs.toArray } (.lst (ns.map V.int))) else none : Hp) b ≠ none → b = a := fun b z => by
      by_cases hb : b = a
      · exact hb
      · exact absurd (if_neg hb) z
    refine law_from KX hns hb hbb hlim hg ha hn F (fun b => if b = a then some (.frz { cls := .type "list", data := .seq vs.toArray } (.lst (ns.map V.int))) else none) (fun b => ?_) (.inl (.inr ⟨_, if_pos rfl⟩)) (fun b u z => ?_) at_ fun _ => hk
    · by_cases hb : b = a
      · exact .inr ⟨_, _, if_pos hb⟩
      · exact .inl (if_neg hb)
    · have eb := at_ b (by rw [z]; simp)
      subst eb
      have z2 := (if_pos rfl).symm.trans z
      cases z2
      exact ⟨ha, by rw [List.length_map]; exact hl, vs, _, rv, ha⟩
end
/-- the goal that the head leaves, from what the law's def does -/
theorem walk_G {l : PySem.W.OpenLaw} {n : Nat} {q : Program} {loose : List Str} {XP : (Str → Option Value) → Heap → Prop} {YP : World → Heap → Prop} {d : DefRec} (hn : l.most = some n) (hn2 : n ≤ sizeLine) (hdf : d.params.defaults = [])
    (F : ∀ (w : World) (mg : Str → Option Value) (fa : Addr) (h : Heap), YP w h → h.Ns mainGlobals mg → mg d.name = some (.ref fa) →
      ∃ K : PySem.W.Frag, K.In h ∧ ∀ base : Heap, K.In base → base.Ns mainGlobals mg → LawRun l.prog w K mg base fa n) :
    PySem.W.WalkO q loose XP YP l.row.toRowW d [] (fun f vs => PySem.call f vs) := by
  refine Att.attach_call hn hdf fun w s₀ s₁ mg mb fa o pm cd doc a vs ns G Y ho hd hcd hmg hobj hints hlen hg => ?_
  obtain ⟨K, KX, hF⟩ := F w mg fa _ Y G.T.g hmg
  exact law_callG KX G.T.g G.T.b G.T.builtins G.T.nolimit hg hobj hints (Nat.le_trans hlen hn2) hlen hF
/-- LawRun from the body of the law's def -/
theorem law_run {P : Program} {w : World} {K : PySem.W.Frag} {mg : Str → Option Value} {base : Heap} {fa : Addr} {fd : FuncData} {st : Stmt} {N : List Str} {x : Str} {n k : Nat} (F : Fun K "law" "law" st fa fd) (S : FnScope N [x] (defScope st))
    (hb : ∀ (s : Shared) (u : Value), BindsTo s fd ⟨[u], []⟩ [(x, u)]) (hr : Room (k + 1) callerA)
    (body : ∀ (cdv : Value) (s : Shared) (H : Hp) (a : Addr) (ns : List Int), Room k (callerA.deeper (envOfC "law" (defScope st) s.heap.objs.size fa cdv)) → SqL K H a (ns.map V.int) → ns.length ≤ n →
      ∃ t, PSs (cxOf CX0 P w K mg base N "law" (defScope st) fa cdv callerA [] s H E0).nox (defBody st) t ∧ t { nx := fun _ _ => V.non = V.bl true, rt := fun v _ => v = .bl true } (start N [.ref a]) H) :
    LawRun P w K mg base fa n := by
  intro s H a ns env hS hn
  obtain ⟨oc, od, kV, doc, pm, an, cdv, ct, osl, rfl, lk, hcd⟩ := F.ex
  refine LamX.run_ofS (k := k) (N := N) (ps := [x]) (us := [.ref a]) (vs := [.ref a]) (Q := fun v _ => v = .bl true) (E := E0) lk hcd S hr env (hb s (.ref a)) (.cons rfl .nil) rfl fun hr' => ?_
  obtain ⟨t, h1, h2⟩ := body cdv s H a ns hr' hS hn
  exact ⟨t, h1.nox, h2⟩
theorem FunD.toFun {K : PySem.W.Frag} {x qual : Str} {st : Stmt} {f : Addr} {fd : FuncData} (F : FunD K x qual (defArgs st) (defBody st) (defScope st) [] [] f fd) : Fun K x qual st f fd := by
  obtain ⟨⟨oc, od, dV, kV, doc, pm, an, cdv, ct, osl, e, l, c, hD, hK⟩, kp⟩ := F
  rcases hD with ⟨_, rfl⟩ | ⟨z, _⟩
  · exact ⟨⟨oc, od, kV, doc, pm, an, cdv, ct, osl, e, l, c⟩, kp⟩
  · exact absurd rfl z
end SA

set_option Elab.async false
set_option linter.all false
set_option maxRecDepth 100000
set_option maxHeartbeats 4000000
/-! ### a caught exception that outlives its except suite -/
namespace SA
open PySem PySem.Spec PyProof.Rows L2
/-- at a stands an exception of the class cls, its dict at d, that was caught -/
def HX (cls : Value) (d : Option Addr) (a : Addr) : HO := .ext fun h => ∃ (oe : Obj) (vs : Array Value), h.get? a = some oe ∧ Zc cls d oe ∧ oe.data = .fields vs
theorem hx_ok {P : Program} {w : World} {H : Hp} {h : Heap} {a : Addr} {cls : Value} {d : Option Addr} {oe : Obj} {vs : Array Value} (e : h.get? a = some oe) (z : Zc cls d oe) (q : oe.data = .fields vs) : ObjOk P w H h a (HX cls d a) :=
  ⟨⟨oe, vs, e, z, q⟩, ⟨oe, e⟩, fun _ _ ⟨o, v, q, r⟩ k => ⟨o, v, k o q, r⟩⟩
section
variable {X : Cx} {pins : List (Addr × Obj)} {σ : L2.St} {H : Hp} {s : Shared}
theorem Inv.track {a : Addr} {o : HO} (I : Inv X pins σ H s) (hn : H a = none) (h0 : X.s_0.heap.get? a = none) (nL : a ≠ X.env.locals) (nC : ∀ x c, X.env.cells.lookup x = some c → c ≠ a) (nP : ∀ p ∈ X.pn ++ pins, p.1 ≠ a) (new : ObjOk X.prog X.w (upd H a o) s.heap a o) :
    Inv X pins σ (upd H a o) s := by
  have up : ∀ {b : Addr} {u : HO}, H b = some u → upd H a o b = some u := fun {b u} e => by
    rw [upd_ne (ne_of_none e hn)]
    exact e
  refine ⟨I.ok, I.os, I.bare, ⟨I.base.keep, I.base.slot, fun b u e n hx => ?_, I.base.there, fun b xs e => up (I.base.tups b xs e), fun b u v e => up (I.base.frzs b u v e), fun b ps e => ?_⟩, I.loc, I.cell, ?_, fun x c e => ?_, fun p hp => ?_, ?_, I.len⟩
  · rw [upd_ne (fun z => by rw [z, h0] at e; cases e)]
    exact I.base.free b u e n hx
  · obtain ⟨more, q⟩ := I.base.tbls b ps e
    exact ⟨more, up q⟩
  · rw [upd_ne nL.symm]
    exact I.free
  · rw [upd_ne (nC x c e)]
    exact I.freeC x c e
  · obtain ⟨e, n, q⟩ := I.pin p hp
    refine ⟨e, ?_, q⟩
    rw [upd_ne (nP p hp)]
    exact n
  · exact I.hok.laidN (fun _ _ e => e) hn new
/-- an object of fields is no frame -/
theorem fields_noframe {B h : Heap} {l : List Env} {a : Addr} {o : Obj} {vs : Array Value} (ff : h.FunFrames B l) (e : h.get? a = some o) (d : o.data = .fields vs) : a ∉ frs l := fun m => by
  obtain ⟨_, o2, e2, z⟩ := ff.mem m
  cases e.symm.trans e2
  exact z _ d
/-- an exception that came up within is new to the def: no frame, no pin, nothing that stood at the entry -/
structure NewX (X : Cx) (pins : List (Addr × Obj)) (a : Addr) : Prop where
  nloc : a ≠ X.env.locals
  nfs : a ∉ X.fs
  old : X.s_0.heap.get? a = none
  npin : ∀ p ∈ X.pn ++ pins, p.1 ≠ a
theorem newX {B h : Heap} {a : Addr} {o : Obj} {vs : Array Value} {sI : Shared} (hs : X.stack = X.env :: X.outer) (hf : X.env.frame = some X.env.locals) (hex : X.ex = []) (J : Inv X pins σ H sI)
    (nb : ∀ b u, sI.heap.get? b = some u → b ∉ frs X.stack → B.get? b = some u) (hB : B.get? a = none) (ff : h.FunFrames B (X.env :: X.outer)) (e : h.get? a = some o) (d : o.data = .fields vs) : NewX X pins a := by
  have nf := fields_noframe ff e d
  have gone : ∀ u, sI.heap.get? a ≠ some u := fun u q => by
    have z := nb a u q (hs ▸ nf)
    rw [hB] at z
    cases z
  refine ⟨fun z => nf (List.mem_filterMap.mpr ⟨X.env, List.mem_cons_self, z ▸ hf⟩), fun m => ?_, ?_, fun p hp z => gone _ (z ▸ (J.pin p hp).1)⟩
  · obtain ⟨v, hv, q⟩ := List.mem_filterMap.mp m
    exact nf (List.mem_filterMap.mpr ⟨v, List.mem_cons_of_mem _ hv, q⟩)
  · match q : X.s_0.heap.get? a with
    | none => rfl
    | some u =>
      obtain ⟨u', q'⟩ := J.base.there a u q (hex ▸ List.not_mem_nil)
      exact (gone u' q').elim
/-- what the clause 'except x as n' wishes whose suite keeps the exception: behind the suite it stands at a, told by HX -/
def wHold (K : PySem.W.Frag) (c : Value) (m i : Nat) (ts : Addr → Value → Option Addr → TS) (Wout : WX) (D : Ends) : WX := fun cls d σ H =>
  ∃ b, PySem.W.exmOne K cls c = some b ∧ (b = false → Wout cls d σ H) ∧
    (b = true → σ.length = m → ∀ a, H a = none → ts a cls d { nx := fun σ1 H1 => D.nx (σ1.set i none) (upd H1 a (HX cls d a)), rt := fun _ _ => False, bk := fun _ _ => False, ct := fun _ _ => False } (σ.set i (some (.ref a))) H)
end
section
variable {X : Cx} {x n : Str} {c : Value} {i : Nat} {body suite : List Stmt} {b₀ : Stmt} {np p1 p2 : Pos} {tb : WX → TS} {ts : Addr → Value → Option Addr → TS} {Wout : WX}
/-- try: body / except x as n: suite, the suite neither returning nor leaving a loop: the exception may be kept under another name -/
theorem ps_try_hold (hs : X.stack = X.env :: X.outer) (hf : X.env.frame = some X.env.locals) (hex : X.ex = []) (hN : X.N.Nodup) (hi : X.N[i]? = some n) (hln : X.env.kindOf n = some .local) (hc : Names X x c) (tk : Takes X Wout)
    (hb : ∀ (W : WX) (pn : List (Addr × Obj)) (xe : Value → Shared → Prop), Takes (X.tr pn xe) W → PassesOwn (model X.prog X.w) X.A X.env xe → PSs (X.tr pn xe) body (tb W))
    (hsu : ∀ (a : Addr) (oe : Obj) (cls : Value) (d : Option Addr) (pn : List (Addr × Obj)), Zc cls d oe → (∃ vs, oe.data = .fields vs) → PSs (X.suite a ((a, oe) :: pn)) (b₀ :: suite) (ts a cls d)) :
    PS X (.Try body [.ExceptHandler (some (.Name x np)) (some n) (b₀ :: suite) p1] [] [] p2) (fun D σ H => tb (wHold X.K c X.N.length i ts Wout D) D σ H) := ⟨fun pins s σ H D I hw => by
  have ok := I.ok
  have fr : X.A.frames = some (X.env :: X.outer) := hs ▸ ok.frames
  -- what is done with an exception that the body lets out
  let caught : Value → Shared → Prop := fun e t1 => wpAny (model X.prog X.w) X.A (noteFrame e X.env) (fun _ t2 => wpAny (model X.prog X.w) X.A (setFlight e none) (fun _ t3 => wpAny (model X.prog X.w) X.A (handleBy e X.env [.ExceptHandler (some (.Name x np)) (some n) (b₀ :: suite) p1]) (SP X pins D) X.xe t3) X.xe t2) X.xe t1
  have takes : Takes (X.tr (X.pn ++ pins) caught) (wHold X.K c X.N.length i ts Wout D) := fun u t ⟨a, B, sI, _, σ1, H1, cls, d, eu, I1, nb, up, sky, na, os, ag, b, hcls, hno, hyes⟩ => by
    subst eu
    have J : Inv X pins σ1 H1 sI := I1.ofTry ok
    refine Sky.land Zc.steady fr hf (show Sky B (X.env :: X.outer) a (Zc cls d) X.env.locals t.heap from hs ▸ sky) fun h3 fl3 up3 => ?_
    obtain ⟨o3, v3, g3, z3, d3⟩ := fl3.there
    have nx := newX hs hf hex J nb fl3.2.1 fl3.2.2.1 g3 d3
    have J3 : Inv X pins σ1 H1 { t with heap := h3 } := J.landed nb fl3.1 (up.trans up3) os ag
    have T3 := J3.suite g3 d3 na nx.nloc nx.nfs
    have cl : PySem.W.Looks (model X.prog X.w) h3 (typeOf (.ref a)) cls := fun _ _ _ t' k q => wpAny_typeOf_ref (k _ _ g3) (z3.1.symm ▸ q)
    refine wpAny_handleBy_cons (codeAny_handlers_test ?_) (fun q => nomatch q)
    have named : ∀ {Q E : Value → Shared → Prop}, Q c { t with heap := h3 } → wpAny (model X.prog X.w) (X.A.mark (some (.ref a))) (eval (.Name x np) X.env) Q E { t with heap := h3 } := fun q => by
      obtain ⟨hg, hdb, hm⟩ := hc
      rcases hm with hm | ⟨hm, hv, hnn⟩
      · exact ld_glob (X := X.suite a ((a, o3) :: (X.pn ++ pins))) T3 hg hm q hdb
      · exact ld_blt (X := X.suite a ((a, o3) :: (X.pn ++ pins))) T3 hg hm hv q hnn hdb
    refine named ((PySem.W.exm_one (M := model X.prog X.w) J3.kIn cl hcls).here ?_)
    match b, hno, hyes with
    | false, hno, _ =>
      show wpAny _ X.A (handleBy (.ref a) X.env []) _ _ _
      obtain ⟨_, _, _, oe, vs, T, _, _, g, _, dd, h1, _⟩ := id fl3
      have out : wpAny (model X.prog X.w) X.A (setFlight (.ref a) X.env.frame) (fun _ t4 => wpAny (model X.prog X.w) X.A (throw (.ref a) : Sem Flow) (SP X pins D) X.xe t4) X.xe { t with heap := h3 } := by
        rw [hf]
        refine HandSPX.setFlight_upZ fl3 fun h4 k4 up4 => wpAny_throw (tk _ _ ⟨a, B, sI, pins, σ1, H1, cls, d, rfl, J, nb, (up.trans up3).trans up4, .inr (.inr (hs ▸ k4)), na, os, ag, hno rfl⟩)
      refine wpAny_handleBy_nil ?_
      unfold PySem.passOn
      refine wpAny_bind (wpAny_field g dd h1 ?_)
      rw [if_neg (show ¬ ((Value.ref T == Value.none) = true) from by simp)]
      first
        | exact wpAny_bind out
        | exact wpAny_bind (wpAny_pure (wpAny_bind out))
    | true, _, hyes =>
      refine codeAny_handlers_suite_as (HandSPX.lands_againZ fl3 fun h4 fl4 up4 => ?_)
      obtain ⟨o4, v4, g4, z4, d4⟩ := fl4.there
      have J4 : Inv X pins σ1 H1 { t with heap := h4 } := J.landed nb fl4.1 ((up.trans up3).trans up4) os ag
      refine store_ok (X := X.suite a ((a, o4) :: (X.pn ++ pins))) (v := .ref a) (J4.suite g4 d4 na nx.nloc nx.nfs) hN hi (.inl hln) rfl (fun s5 T5 => ?_) (.inr hln)
      refine wpAny_mono ((hsu a o4 cls d (X.pn ++ pins) z4 ⟨_, d4⟩).run [] s5 _ H1 _ T5 (hyes rfl J.len a na)) (fun f s6 q => ?_) (fun _ _ z => z.elim)
      match f, q with
      | .brk, ⟨_, _, _, z⟩ => exact z.elim
      | .cont, ⟨_, _, _, z⟩ => exact z.elim
      | .ret _, ⟨_, _, _, _, _, z⟩ => exact z.elim
      | .next, ⟨σ6, H6, T6, q6⟩ =>
        refine gone_ok (X := X.suite a ((a, o4) :: (X.pn ++ pins))) T6 hN hi hln fun s7 T7 => ?_
        obtain ⟨g7, n7, _, _, c7⟩ := T7.pin (a, o4) (by rw [List.append_nil]; exact List.mem_cons_self)
        have J7 : Inv X pins (σ6.set i none) H6 s7 := T7.unsuite ok
        refine ⟨_, _, Inv.track J7 n7 nx.old nx.nloc (fun y c' e z => ?_) nx.npin (hx_ok g7 z4 d4), q6⟩
        obtain ⟨v, o, ho, hd⟩ := J7.cell y c' e
        rw [z] at ho
        cases g7.symm.trans ho
        exact c7 v hd
  refine wpAny_Try_except (wpAny_mono ((hb _ (X.pn ++ pins) caught takes PassesOwn.looking).run [] s σ H D (I.toTry _) hw) (fun f s1 q => ?_) fun e s1 q => q)
  match f, q with
  | .next, ⟨_, _, T, q⟩ => exact wpAny_execs_nil ⟨_, _, T.ofTry ok, q⟩
  | .brk, ⟨_, _, T, q⟩ => exact ⟨_, _, T.ofTry ok, q⟩
  | .cont, ⟨_, _, T, q⟩ => exact ⟨_, _, T.ofTry ok, q⟩
  | .ret _, ⟨_, _, _, T, r, q⟩ => exact ⟨_, _, _, T.ofTry ok, r, q⟩⟩
end
section
variable {X : Cx}
/-- it is an instance of its class -/
theorem HX.inst {pins : List (Addr × Obj)} {σ : L2.St} {H : Hp} {s : Shared} {a C : Addr} {d : Option Addr} (I : Inv X pins σ H s) (h : H a = some (HX (.ref C) d a)) (hd : ∀ dx, d = some dx → ∃ fs, H dx = some (.xd fs)) : ∃ ox od, PySem.W.InstAt s.heap a ox C od ∧
    (∀ dx fs, d = some dx → H dx = some (.xd fs) → ∃ o mA, od = some o ∧ s.heap.Ns1 dx mA ∧ s.heap.get? dx = some o ∧ ∀ f, RelO (fs.lookup f) (mA f)) := by
  obtain ⟨⟨oe, vs, e, z, dt⟩, _⟩ := I.hok a _ h
  have hnc : PySem.W.notCls oe = true := by
    unfold PySem.W.notCls
    rw [dt] <;> rfl
  cases d with
  | none =>
    refine ⟨oe, none, ⟨e, z.1, hnc, ?_⟩, fun dx fs q => by cases q⟩
    rw [z.2]
    trivial
  | some dx =>
    obtain ⟨fs, hx⟩ := hd dx rfl
    obtain ⟨mA, hns, hr⟩ := I.hok dx _ hx
    obtain ⟨od, ho, hlk⟩ := lookIn_ns hns
    refine ⟨oe, some od, ⟨e, z.1, hnc, ?_⟩, fun dx' fs' q hx' => ?_⟩
    · rw [z.2]
      exact ho
    · cases q
      rw [hx] at hx'
      cases hx'
      exact ⟨od, mA, rfl, hns, ho, hr⟩
end
end SA

set_option Elab.async false
set_option linter.all false
set_option maxRecDepth 100000
set_option maxHeartbeats 4000000
/-! ### what is asked of a caught exception -/
namespace SA
open PySem PySem.Spec PyProof.Rows L2
section
variable {X : Cx}
/-- isinstance(e, c), e a caught exception -/
def rIsH (K : PySem.W.Frag) : List V → Hp → VK → Prop := fun xs H Q => ∃ (a D : Addr) (d : Option Addr) (c : V) (cv : Value) (b : Bool), xs = [.ref a, c] ∧ ClsV c cv ∧ H a = some (HX (.ref D) d a) ∧ (∀ dx, d = some dx → ∃ fs, H dx = some (.xd fs)) ∧ ExcC K D ∧ PySem.W.kitOne K (.ref D) cv = some b ∧ Q (.bl b) H
theorem call_isH : CallR X (.builtin "isinstance") (rIsH X.K) := by
  intro pins s σ H xs us Q I r h
  obtain ⟨a, D, d, c, cv, b, rfl, k, hx, hd, hC, e, q⟩ := h
  obtain ⟨u1, u2, rfl, r1, r2⟩ := vals2 r
  have e2 := k.eq r2
  subst e2
  obtain rfl : u1 = Value.ref a := r1
  obtain ⟨ox, od, J, _⟩ := HX.inst I hx hd
  exact PySem.W.kia_one (kit_exc hC) I.kIn J e (fun z => nomatch z) fun tk => ⟨.bl b, H, I.kept (t' := tk) fun _ _ z => z, rfl, q⟩
/-- e.f, e a caught exception whose dict is told -/
def tHfld (K : PySem.W.Frag) (te : TE) (f : Str) : TE := fun σ H Q => te σ H fun x H1 => ∃ (a C dx : Addr) (fs : List (Str × V)) (v : V), x = .ref a ∧ H1 a = some (HX (.ref C) (some dx) a) ∧ H1 dx = some (.xd fs) ∧ XfC K C ∧
  PySem.W.findIn K (.ref C) f = some none ∧ fs.lookup f = some v ∧ Q v H1
theorem pe_hfld {e : Expr} {te : TE} {f : Str} {pos : Pos} (he : PE X e te) (hb : attributeBase e f X.env (eval e X.env) = eval e X.env := by rfl) : PE X (.Attribute e f pos) (tHfld X.K te f) := by
  refine ⟨fun pins s σ H Q I h => ?_⟩
  refine attr_of hb (thn (he.run pins s σ H _ I h) fun u s1 hh => ?_)
  obtain ⟨x, H1, I1, rx, a, C, dx, fs, v, ex, h1, h2, T, hno, hl, q⟩ := hh
  subst ex
  obtain rfl : u = Value.ref a := rx
  obtain ⟨ox, od, J, g⟩ := HX.inst I1 h1 fun dx' e => ⟨fs, by cases e; exact h2⟩
  obtain ⟨o, mA, eo, hns, ho, hr⟩ := g dx fs rfl h2
  obtain ⟨o', ho', hlk⟩ := lookIn_ns hns
  rw [ho] at ho'
  cases ho'
  subst eo
  obtain ⟨w, hw, rw'⟩ := RelO.some_of (v := v) (o := mA f) (by rw [← hl]; exact hr f)
  exact HandSPX.exc_get I1.kIn J T.ga T.gg T.exC (PySem.W.findObj_own T.hdC hno rfl (by rw [hlk, hw])) (handed_of rw') ⟨v, H1, I1.tok _, rw', q⟩
end
end SA

set_option Elab.async false
set_option linter.all false
set_option maxRecDepth 100000
set_option maxHeartbeats 4000000
namespace SA
open PySem PySem.Spec PyProof.Rows L2
/-! ### a def of the module, all that a call of it needs -/
structure Dq (P : Program) (w : World) (K : PySem.W.Frag) (mg : Str → Option Value) (base : Heap) (CX : CXT) (k : Nat) (x : Str) (ps : List Str) (sp : Sp) : Prop where
  ex : ∃ (f : Addr) (fd : FuncData), FnOk P w K mg base CX k f fd ps sp ∧ mg x = some (.ref f) ∧ PySem.W.keepIn K (.ref f) = true ∧ L2.Binds K fd ps []
/-- .. called by keywords -/
structure Dk (P : Program) (w : World) (K : PySem.W.Frag) (mg : Str → Option Value) (base : Heap) (CX : CXT) (k : Nat) (x : Str) (ps ks : List Str) (gV : List V → List V → List V) (sp : Sp) : Prop where
  ex : ∃ (f : Addr) (fd : FuncData) (g : List Value → List Value → List Value), FnOk P w K mg base CX k f fd ps sp ∧ mg x = some (.ref f) ∧ PySem.W.keepIn K (.ref f) = true ∧ KBinds K fd ps ks g gV
/-- what raises nothing passes -/
theorem passN {P : Program} {w : World} {X : Cx} : Passes (L2.CX P w) X (fun _ _ _ => False) := fun _ _ _ _ _ _ _ ⟨_, _, _, _, _, _, _, _, _, _, _, _, h⟩ => h.elim
section
variable {X : Cx} {CX : CXT} {k j : Nat} {x : Str} {p pos : Pos} {e : Expr} {es : List Expr} {t tk : TA} {sp : Sp} {ps ks : List Str} {E : XK} {kws : List Keyword} {gV : List V → List V → List V}
theorem pe_qX (c : Dq X.prog X.w X.K X.mg X.base CX k x ps sp) (hr : Room j X.A) (hk : k ≤ j) (hg : Gl X x) (hx : Passes CX X E) (ha : PA X (e :: es) t)
    (hdb : (x == ("__debug__" : Str)) = false := by decide) (he : starEach (e :: es) X.env = (false, eval e X.env) :: starEach es X.env := by rfl) (hpl : (backTo pos (starEach es X.env)).any (·.1) = false := by rfl) :
    PE X (.Call (.Name x p) (e :: es) [] pos) (tCall sp [] E t) := by
  obtain ⟨f, fd, F, hm, kp, b⟩ := c.ex
  exact pe_call F (hr.mono hk) hg hm kp b .nil hx ha hdb he hpl
theorem pe_q (c : Dq X.prog X.w X.K X.mg X.base CX0 k x ps sp) (hr : Room j X.A) (hk : k ≤ j) (hg : Gl X x) (ha : PA X (e :: es) t)
    (hdb : (x == ("__debug__" : Str)) = false := by decide) (he : starEach (e :: es) X.env = (false, eval e X.env) :: starEach es X.env := by rfl) (hpl : (backTo pos (starEach es X.env)).any (·.1) = false := by rfl) :
    PE X (.Call (.Name x p) (e :: es) [] pos) (tCall sp [] (fun _ _ _ => False) t) := pe_qX c hr hk hg pass0 ha hdb he hpl
/-- f(a, k = b) -/
theorem pe_qK (c : Dk X.prog X.w X.K X.mg X.base CX k x ps ks gV sp) (hr : Room j X.A) (hk : k ≤ j) (hg : Gl X x) (hx : Passes CX X E) (ha : PA X (e :: es) t) (hkw : PK X kws tk)
    (hall : (backToKw pos (keywordEach kws X.env)).all (·.1.isSome) = true := by rfl) (hks : (backToKw pos (keywordEach kws X.env)).filterMap (·.1) = ks := by rfl)
    (hdb : (x == ("__debug__" : Str)) = false := by decide) (he : starEach (e :: es) X.env = (false, eval e X.env) :: starEach es X.env := by rfl)
    (hpl : ((backTo pos (starEach (e :: es) X.env)).any (·.1) || (backToKw pos (keywordEach kws X.env)).any (·.1.isNone)) = false := by rfl) :
    PE X (.Call (.Name x p) (e :: es) kws pos) (tCallK sp gV E t tk) := by
  obtain ⟨f, fd, g, F, hm, kp, b⟩ := c.ex
  exact pe_callK F (hr.mono hk) hg hm kp b hx ha hkw hall hks hdb he hpl
/-- f(k = b) -/
theorem pe_qK0 (c : Dk X.prog X.w X.K X.mg X.base CX k x ps ks gV sp) (hr : Room j X.A) (hk : k ≤ j) (hg : Gl X x) (hx : Passes CX X E) (hkw : PK X kws tk)
    (hall : (backToKw pos (keywordEach kws X.env)).all (·.1.isSome) = true := by rfl) (hks : (backToKw pos (keywordEach kws X.env)).filterMap (·.1) = ks := by rfl)
    (hdb : (x == ("__debug__" : Str)) = false := by decide) (hpl : ((backTo pos (starEach [] X.env)).any (·.1) || (backToKw pos (keywordEach kws X.env)).any (·.1.isNone)) = false := by rfl) :
    PE X (.Call (.Name x p) [] kws pos) (tCallK sp gV E tNil tk) := by
  obtain ⟨f, fd, g, F, hm, kp, b⟩ := c.ex
  refine ⟨fun pins s σ H Q I h => wpAny_Call_Name_kw (ld_glob I hg hm ?_ hdb)⟩
  refine PySem.W.callWith_KW0 (h₀ := X.base) I.ok.mod.kin kp hall (thn (hkw.run pos pins s σ H _ I h) fun ws s2 ⟨zs, H2, I2, rz, q⟩ => ⟨I2.kIn, ?_⟩) hpl
  rw [hks]
  exact run_fnk (us := []) (vs := []) F (hr.mono hk) b hx I2 .nil rz q
end
/-- what is None where the module's names are: the built-in names that a text uses -/
structure Bn (mg : Str → Option Value) : Prop where
  isinstance : mg "isinstance" = none
  int : mg "int" = none
  bool : mg "bool" = none
  str : mg "str" = none
  len : mg "len" = none
  abs : mg "abs" = none
  range : mg "range" = none
  repr : mg "repr" = none
end SA

set_option Elab.async false
set_option linter.all false
set_option maxRecDepth 100000
set_option maxHeartbeats 4000000
namespace SA
open PySem PySem.Spec PyProof.Rows L2
/-! ### errors -/
theorem small1000' {n : Nat} (h : n ≤ 1000) : n ≤ sizeLine := by
  have := sizeLine_eq
  omega
theorem small5 {n : Nat} (h : n ≤ 100000) : n ≤ sizeLine := by
  have := sizeLine_eq
  omega
structure Own24 (K : PySem.W.Frag) (C f : Addr) (fs : List Str) : Prop where
  oex : OexC K C
  init : PySem.W.findIn K (.ref C) "__init__" = some (some (.ref f))
  fn : PySem.W.typeIn K (.ref f) = some (.type "function")
  no : ∀ x ∈ fs, PySem.W.findIn K (.ref C) x = some none
/-- __init__'s promise: the field holds the argument -/
def spInit1 (C : Addr) (fl : Str) : Sp := fun vs H Q _ => ∃ (a : Addr) (x : V), vs = [.ref a, x] ∧ H a = some (exo a C none) ∧
  ∀ (dx : Addr) (H' : Hp), H dx = none → dx ≠ a → H' a = some (exo a C (some dx)) → H' dx = some (exd dx [(fl, x)]) → (∀ b o, H b = some o → b ≠ a → H' b = some o) → Q .non H'
/-- a class of errors without __init__ -/
structure Cl0 (K : PySem.W.Frag) (mg : Str → Option Value) (x : Str) (C : Addr) : Prop where
  g : mg x = some (.ref C)
  x : PySem.W.excIn K C [.type "ValueError", .type "Exception", .type "BaseException", .type "object"] "ValueError.__new__" = true
  k : PySem.W.keepIn K (.ref C) = true
  b : PySem.W.subIn K (.ref C) (.type "BaseException") = some true
  t : PySem.W.typeIn K (.ref C) = some (.type "type")
/-- a class of errors with one field -/
structure Cl1 (P : Program) (w : World) (K : PySem.W.Frag) (mg : Str → Option Value) (base : Heap) (x fl : Str) (C : Addr) (f : Addr) (fd : FuncData) : Prop where
  g : mg x = some (.ref C)
  o : Own24 K C f [fl]
  G : FnOk P w K mg base CX0 1 f fd ["self", fl] (spInit1 C fl)
  b : L2.Binds K fd ["self", fl] []
/-- an error of the class C with this field is raised, nothing else changed -/
def RaiseF (C : Addr) (fl : Str) (v : V) (H : Hp) (E : XK) : Prop := ∀ (d : Addr) (H' : Hp), Same H H' → H d = none → H' d = some (.xd [(fl, v)]) → E (.ref C) (some d) H'
theorem RaiseF.of {C : Addr} {fl : Str} {v : V} {H H1 : Hp} {E : XK} (s : Same H H1) (h : RaiseF C fl v H E) : RaiseF C fl v H1 E := fun d H' s1 hd e => h d H' (s.trans s1) (s.free hd) e
section
variable {P : Program} {w0 : World} {K : PySem.W.Frag} {mg : Str → Option Value} {base : Heap} {C f : Addr} {fd : FuncData}
/-- from the raising of such an error, its argument worked out, to RaiseF -/
theorem raiseF {fl : Str} {te : TE} {x : V} {σ : L2.St} {H1 : Hp} {E : XK} (ht : ∀ R : V → Hp → Prop, R x H1 → te σ H1 R) (hb : RaiseF C fl x H1 E) : tMkO C (spInit1 C fl) [] (tCons te tNil) σ H1 fun cls d H' => E cls d H' := by
  refine ht _ ⟨(by show 1 ≤ 1000; decide), fun a ha => ⟨a, x, rfl, upd_same, fun dx H' hdx ne e1 e2 kp => ⟨rfl, dx, _, e1, e2, ?_, ?_⟩⟩⟩
  · rw [upd_ne ne] at hdx
    exact hdx
  · have hdx : H1 dx = none := by
      rw [upd_ne ne] at hdx
      exact hdx
    refine hb dx _ (fun b o e => ?_) hdx upd_same
    have nb := ne_of_none e ha
    rw [upd_ne (ne_of_none e hdx), L2.del_ne nb]
    exact kp b o (by rw [upd_ne nb]; exact e) nb
end
/-! ### values of all kinds, by their class -/
inductive Kd (K : PySem.W.Frag) (H : Hp) : V → String → Prop
  | non : Kd K H .non "NoneType"
  | bl (b : Bool) : Kd K H (.bl b) "bool"
  | int (i : Int) : Kd K H (.int i) "int"
  | str (z : Str) : Kd K H (.str z) "str"
  | tup {a : Addr} (h : TyX K H (.ref a) (.type "tuple")) : Kd K H (.ref a) "tuple"
  | lst {a : Addr} (h : TyX K H (.ref a) (.type "list")) : Kd K H (.ref a) "list"
  | dct {a : Addr} (h : TyX K H (.ref a) (.type "dict")) : Kd K H (.ref a) "dict"
theorem Kd.ty {K : PySem.W.Frag} {H : Hp} {x : V} {t : String} (h : Kd K H x t) : TyX K H x (.type t) := by
  cases h with
  | non => exact .base .non
  | bl b => exact .base (.bl b)
  | int i => exact .base (.int i)
  | str z => exact .base (.str z)
  | tup h => exact h
  | lst h => exact h
  | dct h => exact h
theorem Kd.int_of {K : PySem.W.Frag} {H : Hp} {x : V} {t : String} (h : Kd K H x t) (e : t = "int") : ∃ i, x = .int i := by
  cases h <;> first | exact ⟨_, rfl⟩ | exact absurd e (by decide)
theorem Kd.str_of {K : PySem.W.Frag} {H : Hp} {x : V} {t : String} (h : Kd K H x t) (e : t = "str") : ∃ z, x = .str z := by
  cases h <;> first | exact ⟨_, rfl⟩ | exact absurd e (by decide)
/-- isinstance(x, c) of such a value -/
theorem isi_kd {K : PySem.W.Frag} {H : Hp} {x : V} {t c : String} {b : Bool} {Q : VK} (h : Kd K H x t) (hb : PySem.W.kitOne K (.type t) (.type c) = some b) (q : Q (.bl b) H) : rIsi K [x, .ty c] H Q :=
  ⟨x, .ty c, .type t, .type c, b, rfl, .ty _, h.ty, hb, q⟩
end SA

set_option Elab.async false
set_option linter.all false
set_option maxRecDepth 100000
set_option maxHeartbeats 4000000
namespace SA
open PySem PySem.Spec PyProof.Rows L2
/-! ### repr of any data -/
def rReprA (K : PySem.W.Frag) : List V → Hp → VK → Prop := fun xs H Q => ∃ (x : V) (d : PyData), xs = [x] ∧ Dx K H x d ∧ d.showable = true ∧ d.shown.length ≤ sizeLine ∧ d.depth ≤ 60 ∧ Q (.str d.shown) H
theorem call_reprA {X : Cx} (S : SysK X.K) (hg : X.A.guards = some []) (hu : X.A.units + 64 < cLine) : CallR X (.builtin "repr") (rReprA X.K) := by
  intro pins s σ H xs us Q I r h
  obtain ⟨x, d, rfl, hd, hs, hz, hp, q⟩ := h
  obtain ⟨u, rfl, ru⟩ := vals1 r
  cases hd with
  | non =>
    obtain rfl : u = Value.none := ru
    exact PySem.P.repr_of_none ⟨.str "None", H, I.tok _, ⟨_, rfl⟩, q⟩
  | bl b =>
    obtain rfl : u = Value.bool b := ru
    exact PySem.P.repr_of_bool ⟨.str (if b then "True" else "False"), H, I.tok _, ⟨_, rfl⟩, q⟩
  | int i =>
    obtain ⟨t, rfl⟩ := ru
    have hs : i.natAbs.log2 < 1920 := by simpa [PyData.showable] using hs
    refine PySem.P.repr_of_int hs ⟨.str (toString i), H, I.tok _, ⟨_, rfl⟩, q⟩
  | str z =>
    obtain ⟨t, rfl⟩ := ru
    refine PySem.P.repr_of_str ⟨.str (reprText z), H, I.tok _, ⟨_, rfl⟩, q⟩ ?_
    simpa only [PyData.shown] using hz
  | lst h1 h2 => exact call_repr S hg hu pins s σ H _ _ Q I r ⟨_, _, rfl, .lst h1 h2, hs, hz, hp, q⟩
  | tup h1 h2 => exact call_repr S hg hu pins s σ H _ _ Q I r ⟨_, _, rfl, .tup h1 h2, hs, hz, hp, q⟩
  | dct h1 h2 h3 => exact call_repr S hg hu pins s σ H _ _ Q I r ⟨_, _, rfl, .dct h1 h2 h3, hs, hz, hp, q⟩
/-- data that repr shows -/
def Gd (d : PyData) : Prop := d.showable = true ∧ d.shown.length ≤ sizeLine ∧ d.depth ≤ 60
theorem gd_of {d : PyData} (h1 : d.showable = true) (h2 : d.leavesShort 40 = true) (h3 : d.weight ≤ 10000) (h4 : d.depth ≤ 60) : Gd d := by
  refine ⟨h1, ?_, h4⟩
  have := PyData.shown_le 40 (by decide) d h2
  have := sizeLine_eq
  omega
theorem gd_none : Gd .none := gd_of rfl rfl (by decide) (by decide)
theorem gd_str {z : Str} (hl : z.length ≤ 1000) (hc : ∀ c ∈ z.cps.toList, c < 128) : Gd (.str z) := by
  refine gd_of rfl ?_ ?_ (by show 0 ≤ 60; decide)
  · show (z.cps.toList.all fun c => decide (c < 16 ^ 8)) = true
    rw [List.all_eq_true]
    intro c h
    have h1 := hc c h
    have : (128 : Nat) ≤ 16 ^ 8 := by decide
    exact decide_eq_true (by omega)
  · show z.cps.size ≤ 10000
    have hl : z.cps.size ≤ 1000 := hl
    omega
theorem int_leaf {i : Int} (h : i.natAbs < 2 ^ 120) : PyData.leavesShort 40 (.int i) = true ∧ PyData.weight (.int i) ≤ 200 ∧ i.natAbs.log2 < 1920 := by
  have hl : i.natAbs.log2 < 120 := by
    by_cases h0 : i.natAbs = 0
    · rw [h0]
      decide
    · exact (Nat.log2_lt h0).mpr h
  refine ⟨?_, ?_, by omega⟩
  · have e := int_text_length_le10 (a := i) (k := 39) (by decide) (Nat.lt_of_lt_of_le h (by decide))
    show decide ((Str.ofString (toString i)).length ≤ 40) = true
    rw [PySem.ofString_length]
    exact decide_eq_true e
  · show (if i == 0 then 0 else i.natAbs.log2 + 1) ≤ 200
    split <;> omega
theorem gd_int {i : Int} (h : i.natAbs < 2 ^ 120) : Gd (.int i) := by
  obtain ⟨h1, h2, h3⟩ := int_leaf h
  refine gd_of ?_ h1 (by omega) (by show 0 ≤ 60; decide)
  simpa [PyData.showable] using h3
theorem gd_pair {a b : Int} (ha : a.natAbs < 2 ^ 120) (hb : b.natAbs < 2 ^ 120) : Gd (.tuple [.int a, .int b]) := by
  obtain ⟨a1, a2, a3⟩ := int_leaf ha
  obtain ⟨b1, b2, b3⟩ := int_leaf hb
  refine gd_of ?_ ?_ ?_ (by simp [PyData.depth, PyData.depthAll])
  · simp [PyData.showable, PyData.showableAll, a3, b3]
  · simp only [PyData.leavesShort, PyData.leavesShortAll] at a1 b1 ⊢
    simp [a1, b1]
  · simp only [PyData.weight, PyData.weightAll] at a2 b2 ⊢
    omega
/-- a value with its data, so far as repr goes -/
structure Sh (K : PySem.W.Frag) (H : Hp) (x : V) (d : PyData) : Prop where
  dx : Dx K H x d
  gd : Gd d
theorem Sh.rd {K : PySem.W.Frag} {H : Hp} {x : V} {d : PyData} {Q : VK} (h : Sh K H x d) (q : Q (.str d.shown) H) : rReprA K [x] H Q := ⟨x, d, rfl, h.dx, h.gd.1, h.gd.2.1, h.gd.2.2, q⟩
end SA

set_option linter.all false
namespace K82
abbrev L := List Nat
/-- a list of binary digits, as codes -/
def IsB (l : L) : Prop := ∀ c ∈ l, c = 48 ∨ c = 49
def dv (c : Nat) : Nat := c - 48
def bval (l : L) : Nat := l.foldl (fun a c => 2 * a + dv c) 0
/-- binary digits of a number below 2^k, k of them -/
def bdig : Nat → Nat → L
  | 0, _ => []
  | k + 1, n => bdig k (n / 2) ++ [48 + n % 2]
theorem bdig_len : ∀ k n, (bdig k n).length = k
  | 0, _ => rfl
  | k + 1, n => by simp [bdig, bdig_len k]
theorem bdig_isB : ∀ k n, IsB (bdig k n)
  | 0, _ => by intro c h; simp [bdig] at h
  | k + 1, n => by
    intro c h
    simp only [bdig, List.mem_append, List.mem_singleton] at h
    rcases h with h | h
    · exact bdig_isB k _ c h
    · omega
theorem bval_snoc (l : L) (c : Nat) : bval (l ++ [c]) = 2 * bval l + dv c := by
  unfold bval; rw [List.foldl_append]; rfl
theorem bval_bdig : ∀ k n, n < 2 ^ k → bval (bdig k n) = n
  | 0, n, h => by
    simp at h; subst h; rfl
  | k + 1, n, h => by
    rw [bdig, bval_snoc, bval_bdig k (n / 2) (by rw [Nat.pow_succ] at h; omega)]
    unfold dv
    omega
/-- the first digit -/
theorem bdig_head : ∀ k n, 2 ^ k ≤ n → n < 2 ^ (k + 1) → ∃ r, bdig (k + 1) n = 49 :: r
  | 0, n, h1, h2 => by
    have : n = 1 := by simp at h1 h2; omega
    subst this
    exact ⟨[], rfl⟩
  | k + 1, n, h1, h2 => by
    obtain ⟨r, e⟩ := bdig_head k (n / 2) (by rw [Nat.pow_succ] at h1; omega) (by rw [Nat.pow_succ] at h2; omega)
    exact ⟨r ++ [48 + n % 2], by rw [bdig, e]; rfl⟩
/-- the bits of a count -/
def enc (n : Nat) : L := List.replicate (Nat.log2 (n + 1)) 48 ++ bdig (Nat.log2 (n + 1) + 1) (n + 1)
theorem log_le (n : Nat) : 2 ^ Nat.log2 (n + 1) ≤ n + 1 := Nat.log2_self_le (by omega)
theorem log_lt (n : Nat) : n + 1 < 2 ^ (Nat.log2 (n + 1) + 1) := Nat.lt_log2_self
theorem enc_len (n : Nat) : (enc n).length = 2 * Nat.log2 (n + 1) + 1 := by
  simp [enc, bdig_len]; omega
theorem enc_isB (n : Nat) : IsB (enc n) := by
  intro c h
  simp only [enc, List.mem_append] at h
  rcases h with h | h
  · exact .inl (List.eq_of_mem_replicate h)
  · exact bdig_isB _ _ c h
/-- how many 0 stand ahead -/
def zs (l : L) : Nat := (l.takeWhile (· == 48)).length
/-- what is read at the list's beginning: the count and how many signs it has -/
def dec (l : L) : Option (Nat × Nat) := if 2 * zs l + 1 ≤ l.length then some (bval ((l.drop (zs l)).take (zs l + 1)) - 1, 2 * zs l + 1) else none
theorem zs_rep (k : Nat) (r : L) : zs (List.replicate k 48 ++ 49 :: r) = k := by
  unfold zs
  induction k with
  | zero => simp
  | succ k ih => simp [List.replicate_succ]
theorem zs_all (k : Nat) : zs (List.replicate k 48) = k := by
  unfold zs
  induction k with
  | zero => simp
  | succ k ih => simp [List.replicate_succ]
theorem zs_le (l : L) : zs l ≤ l.length := by
  unfold zs
  induction l with
  | nil => simp
  | cons c l ih => rw [List.takeWhile_cons]; split <;> simp <;> omega
theorem dec_enc (n : Nat) (back : L) : dec (enc n ++ back) = some (n, (enc n).length) := by
  obtain ⟨r, e⟩ := bdig_head (Nat.log2 (n + 1)) (n + 1) (log_le n) (log_lt n)
  have h1 : enc n ++ back = List.replicate (Nat.log2 (n + 1)) 48 ++ 49 :: (r ++ back) := by
    unfold enc; rw [e]; simp
  have hz : zs (enc n ++ back) = Nat.log2 (n + 1) := by rw [h1, zs_rep]
  have hr : r.length = Nat.log2 (n + 1) := by
    have := congrArg List.length e
    rw [bdig_len] at this; simp at this; omega
  unfold dec
  rw [hz, if_pos (by rw [List.length_append, enc_len]; omega), enc_len]
  congr 2
  rw [h1, List.drop_left' (by simp)]
  have : (49 :: (r ++ back)).take (Nat.log2 (n + 1) + 1) = 49 :: r := by
    rw [List.take_succ_cons, List.take_left' hr]
  rw [this, ← e, bval_bdig _ _ (log_lt n)]
  rfl
theorem dec_cut (n c : Nat) (h : c < (enc n).length) : dec ((enc n).take c) = none := by
  have hl := enc_len n
  obtain ⟨r, e⟩ := bdig_head (Nat.log2 (n + 1)) (n + 1) (log_le n) (log_lt n)
  unfold dec
  rw [if_neg]
  have hlen : ((enc n).take c).length = c := by rw [List.length_take]; omega
  rw [hlen]
  by_cases hc : c ≤ Nat.log2 (n + 1)
  · have : (enc n).take c = List.replicate c 48 := by
      unfold enc
      rw [List.take_append_of_le_length (by simp; exact hc), List.take_replicate, Nat.min_eq_left hc]
    rw [this, zs_all]; omega
  · have : (enc n).take c = List.replicate (Nat.log2 (n + 1)) 48 ++ 49 :: r.take (c - Nat.log2 (n + 1) - 1) := by
      unfold enc
      rw [e, List.take_append, List.length_replicate, List.take_of_length_le (by simp; omega)]
      congr 1
      obtain ⟨j, hj⟩ : ∃ j, c - Nat.log2 (n + 1) = j + 1 := ⟨c - Nat.log2 (n + 1) - 1, by omega⟩
      rw [hj, List.take_succ_cons]; rfl
    rw [this, zs_rep]; omega
/-- any number's bits -/
def zig (i : Int) : Nat := if 0 ≤ i then (2 * i).toNat else (-2 * i - 1).toNat
def zag (n : Nat) : Int := if n % 2 = 0 then (n / 2 : Nat) else -(((n + 1) / 2 : Nat) : Int)
theorem zag_zig (i : Int) : zag (zig i) = i := by
  unfold zag zig
  split <;> split <;> omega
/-- Python's binary digits -/
theorem toDig : ∀ (k n : Nat), 2 ^ k ≤ n → n < 2 ^ (k + 1) → (Nat.toDigits 2 n).map Char.toNat = bdig (k + 1) n
  | 0, n, h1, h2 => by
    have : n = 1 := by simp at h1 h2; omega
    subst this
    decide
  | k + 1, n, h1, h2 => by
    have hn : 2 ≤ n := by rw [Nat.pow_succ] at h1; have := Nat.one_le_two_pow (n := k); omega
    rw [Nat.toDigits_of_base_le (by decide) hn, List.map_append, toDig k (n / 2) (by rw [Nat.pow_succ] at h1; omega) (by rw [Nat.pow_succ] at h2; omega)]
    rw [bdig]
    congr 1
    rcases (show n % 2 = 0 ∨ n % 2 = 1 by omega) with h | h <;> rw [h] <;> decide
theorem toDig0 : (Nat.toDigits 2 0).map Char.toNat = [48] := by decide
end K82

set_option Elab.async false
set_option linter.all false
set_option maxHeartbeats 4000000
namespace K82
open PySem PySem.Builtin PySem.Builtin.Str
/-! ### one sign's places in a text -/
abbrev one (c : Nat) : Str := ⟨#[c]⟩
abbrev tl (z : Str) : L := z.cps.toList
theorem hit {x : Str} {c i : Nat} : (i + (one c).length ≤ x.length ∧ subAt x (one c) i = true) ↔ (tl x)[i]? = some c := StrLaws.subAt_one x c i
/-- the loop over all places: what is found -/
theorem occ_list (x : Str) (c : Nat) (lim : Nat) : ∀ (n a : Nat) (st : Array Nat × Nat), st.2 ≤ a →
    (forIn (List.range' a n) st (StrLaws.occBody x (one c) x.length lim)).run.fst.toList = st.1.toList ++ (((List.range' a n).filter fun i => decide ((tl x)[i]? = some c)).take (lim - st.1.size))
  | 0, a, st, h => by simp
  | n + 1, a, st, h => by
    rw [List.range'_succ, List.forIn_cons]
    unfold StrLaws.occBody
    by_cases hc : (tl x)[a]? = some c
    · have hh := hit.mpr hc
      by_cases hs : st.fst.size < lim
      · rw [if_pos ⟨⟨⟨hs, h⟩, hh.1⟩, hh.2⟩]
        show (forIn (List.range' (a + 1) n) (st.fst.push a, a + (one c).length) (StrLaws.occBody x (one c) x.length lim)).run.fst.toList = _
        rw [occ_list x c lim n (a + 1) (st.fst.push a, a + (one c).length) (Nat.le_refl _)]
        obtain ⟨k, hk⟩ : ∃ k, lim - st.fst.size = k + 1 := ⟨lim - st.fst.size - 1, by omega⟩
        rw [List.filter_cons_of_pos (by simpa using hc), hk, List.take_succ_cons]
        simp only [Array.toList_push, Array.size_push, List.append_assoc, List.singleton_append]
        congr 3
        omega
      · rw [if_neg (fun z => hs z.1.1.1)]
        show (forIn (List.range' (a + 1) n) (st.fst, st.snd) (StrLaws.occBody x (one c) x.length lim)).run.fst.toList = _
        rw [occ_list x c lim n (a + 1) (st.fst, st.snd) (by show st.snd ≤ a + 1; omega)]
        have : lim - st.fst.size = 0 := by omega
        rw [this]
        simp
    · rw [if_neg (fun z => hc (hit.mp ⟨z.1.2, z.2⟩))]
      show (forIn (List.range' (a + 1) n) (st.fst, st.snd) (StrLaws.occBody x (one c) x.length lim)).run.fst.toList = _
      rw [occ_list x c lim n (a + 1) (st.fst, st.snd) (by show st.snd ≤ a + 1; omega), List.filter_cons_of_neg (by simpa using hc)]
theorem occ_one (x : Str) (c lo lim : Nat) : occurrences x (one c) lo x.length lim = ((List.range' lo (x.length + 1 - lo)).filter fun i => decide ((tl x)[i]? = some c)).take lim := by
  rw [StrLaws.occ_eq, occ_list x c lim (x.length + 1 - lo) lo (#[], lo) (Nat.le_refl _)]
  simp
/-- the places of a sign in a list, from a on -/
theorem filt (l : L) (c : Nat) : ∀ (n a : Nat), (((List.range' a n).filter fun i => decide (l[i]? = some c)).map fun i => i) = (((List.range' a n).filter fun i => decide (l[i]? = some c))) := by intros; simp
theorem cnt_list (c : Nat) : ∀ (l pre : L), ((List.range' pre.length (l.length + 1)).filter fun i => decide ((pre ++ l)[i]? = some c)).length = l.count c
  | [], pre => by simp [List.range'_succ]
  | d :: l, pre => by
    rw [List.length_cons, List.range'_succ]
    have ih := cnt_list c l (pre ++ [d])
    rw [List.length_append, List.length_singleton, List.append_assoc, List.singleton_append] at ih
    by_cases h : d = c
    · subst h
      rw [List.filter_cons_of_pos (by simp), List.length_cons, ih, List.count_cons_self]
    · rw [List.filter_cons_of_neg (by simp [h]), ih, List.count_cons_of_ne h]
theorem count_one (x : Str) (c : Nat) : Txt.count x (one c) = (((tl x).count c : Nat) : Int) := by
  unfold Txt.count
  rw [occ_one, List.take_of_length_le]
  · have := cnt_list c (tl x) []
    simp only [List.length_nil, List.nil_append] at this
    rw [← this]
    rfl
  · refine Nat.le_trans (List.length_filter_le _ _) ?_
    rw [List.length_range']
    omega
theorem first_list (c : Nat) : ∀ (l pre : L), ((List.range' pre.length (l.length + 1)).filter fun i => decide ((pre ++ l)[i]? = some c)).take 1 = if c ∈ l then [pre.length + (l.takeWhile (· != c)).length] else []
  | [], pre => by simp [List.range'_succ]
  | d :: l, pre => by
    rw [List.length_cons, List.range'_succ]
    have ih := first_list c l (pre ++ [d])
    rw [List.length_append, List.length_singleton, List.append_assoc, List.singleton_append] at ih
    by_cases h : d = c
    · subst h
      rw [List.filter_cons_of_pos (by simp)]
      simp
    · rw [List.filter_cons_of_neg (by simp [h]), ih]
      have h2 : ¬ c = d := fun e => h e.symm
      by_cases hm : c ∈ l
      · rw [if_pos hm, if_pos (List.mem_cons_of_mem _ hm), List.takeWhile_cons, if_pos (by simp [h])]
        simp only [List.length_cons]
        congr 1
        omega
      · rw [if_neg hm, if_neg (by simp [h2, hm])]
theorem find_one (x : Str) (c n : Nat) (hn : n ≤ x.length) : Txt.find3 x (one c) (n : Int) = if c ∈ (tl x).drop n then ((n + (((tl x).drop n).takeWhile (· != c)).length : Nat) : Int) else -1 := by
  have h1 : fromIndex x.length (n : Int) = n := by
    unfold fromIndex
    rw [if_neg (by omega)]
    omega
  unfold Txt.find3
  rw [h1, occ_one]
  have hl : ((tl x).take n).length = n := by rw [List.length_take]; exact Nat.min_eq_left hn
  have := first_list c ((tl x).drop n) ((tl x).take n)
  rw [List.take_append_drop, hl, List.length_drop] at this
  have e : (tl x).length - n + 1 = x.length + 1 - n := by show x.length - n + 1 = _; omega
  rw [e] at this
  rw [this]
  by_cases h : c ∈ (tl x).drop n
  · rw [if_pos h, if_pos h]
  · rw [if_neg h, if_neg h]
end K82

set_option linter.all false
namespace K1
abbrev L := List Nat
def inn (c : Nat) : Bool := decide (97 ≤ c ∧ c ≤ 122) || decide (65 ≤ c ∧ c ≤ 90) || decide (48 ≤ c ∧ c ≤ 57) || decide (c = 95)
def digit (c : Nat) : Bool := decide (48 ≤ c ∧ c ≤ 57)
def okc (c : Nat) : Bool := decide (c = 10) || (decide (32 ≤ c ∧ c ≤ 126) && decide (c ≠ 37))
def blank (c : Nat) : Bool := decide (c = 32) || decide (c = 10)
/-- how long the first word is -/
def wl : L → Nat
  | [] => 1
  | c :: r => if inn c then 1 + (r.takeWhile inn).length else match r with
    | [] => 1
    | d :: q => if c = 45 ∧ digit d = true then 2 + (q.takeWhile inn).length else if d = 61 ∧ (c = 60 ∨ c = 61) then 2 else 1
theorem wl_inn {c : Nat} {r : L} (h : inn c = true) : wl (c :: r) = 1 + (r.takeWhile inn).length := by
  show (if inn c = true then _ else _) = _
  rw [if_pos h]
theorem wl_one {c : Nat} (h : ¬ inn c = true) : wl [c] = 1 := by
  show (if inn c = true then _ else 1) = _
  rw [if_neg h]
theorem wl_two {c d : Nat} {q : L} (h : ¬ inn c = true) : wl (c :: d :: q) = if c = 45 ∧ digit d = true then 2 + (q.takeWhile inn).length else if d = 61 ∧ (c = 60 ∨ c = 61) then 2 else 1 := by
  show (if inn c = true then _ else _) = _
  rw [if_neg h]
theorem wl_pos : ∀ t : L, 1 ≤ wl t
  | [] => Nat.le_refl 1
  | c :: r => by
    by_cases h : inn c = true
    · rw [wl_inn h]
      omega
    · cases r with
      | nil => rw [wl_one h]; omega
      | cons d q =>
        rw [wl_two h]
        split
        · omega
        · split <;> omega
theorem tw_le (p : Nat → Bool) : ∀ l : L, (l.takeWhile p).length ≤ l.length
  | [] => Nat.le_refl 0
  | c :: r => by
    rw [List.takeWhile_cons]
    split
    · have := tw_le p r
      simp only [List.length_cons]
      omega
    · simp
theorem wl_le : ∀ (c : Nat) (r : L), wl (c :: r) ≤ r.length + 1 := by
  intro c r
  by_cases h : inn c = true
  · rw [wl_inn h]
    have := tw_le inn r
    omega
  · cases r with
    | nil =>
      rw [wl_one h]
      simp
    | cons d q =>
      rw [wl_two h]
      have := tw_le inn q
      simp only [List.length_cons]
      split
      · omega
      · split <;> omega
/-- the words of a text with lines and columns -/
def cut : L → Int → Int → List (L × Int × Int)
  | [], _, _ => []
  | c :: r, l, k => if c = 10 then cut r (l + 1) 1 else if c = 32 then cut r l (k + 1) else ((c :: r).take (wl (c :: r)), l, k) :: cut ((c :: r).drop (wl (c :: r))) l (k + wl (c :: r))
termination_by t => t.length
decreasing_by
  · simp
  · simp
  · have h := wl_pos (c :: r)
    simp only [List.length_drop, List.length_cons]
    omega
theorem cut_nl {r : L} {l k : Int} : cut (10 :: r) l k = cut r (l + 1) 1 := by
  rw [cut]
  simp
theorem cut_sp {r : L} {l k : Int} : cut (32 :: r) l k = cut r l (k + 1) := by
  rw [cut]
  simp
theorem cut_w {c : Nat} {r : L} {l k : Int} (h : blank c = false) : cut (c :: r) l k = ((c :: r).take (wl (c :: r)), l, k) :: cut ((c :: r).drop (wl (c :: r))) l (k + wl (c :: r)) := by
  unfold blank at h
  simp only [Bool.or_eq_false_iff, decide_eq_false_iff_not] at h
  rw [cut, if_neg h.2, if_neg h.1]
theorem cut_nil {l k : Int} : cut [] l k = [] := by rw [cut]
/-- a word is no longer than the text -/
theorem cut_len : ∀ (t : L) (l k : Int), ∀ x ∈ cut t l k, x.1.length ≤ t.length := by
  intro t l k
  fun_induction cut t l k with
  | case1 l k => simp
  | case2 r l k ih =>
    intro x hx
    have := ih x hx
    simp only [List.length_cons]
    omega
  | case3 r l k h ih =>
    intro x hx
    have := ih x hx
    simp only [List.length_cons]
    omega
  | case4 c r l k h1 h2 ih =>
    intro x hx
    rcases List.mem_cons.mp hx with rfl | hx
    · simp only [List.length_take]
      omega
    · have := ih x hx
      simp only [List.length_drop] at this
      omega
/-- the whole text is one word -/
theorem cut_one (t : L) (w : L) : cut t 1 1 = [(t, 1, 1)] ↔ ∃ c r, t = c :: r ∧ blank c = false ∧ wl (c :: r) = (c :: r).length := by
  cases t with
  | nil =>
    rw [cut_nil]
    simp
  | cons c r =>
    by_cases hb : blank c = true
    · have h0 : ∀ l k, cut r l k = [(c :: r, 1, 1)] → False := fun l k e => by
        have := cut_len r l k (c :: r, 1, 1) (by rw [e]; simp)
        simp at this
        omega
      unfold blank at hb
      simp only [Bool.or_eq_true, decide_eq_true_eq] at hb
      constructor
      · intro e
        rcases hb with rfl | rfl
        · rw [cut_sp] at e
          exact (h0 _ _ e).elim
        · rw [cut_nl] at e
          exact (h0 _ _ e).elim
      · rintro ⟨c', r', e, h1, _⟩
        cases e
        rcases hb with rfl | rfl
        · exact absurd h1 (by decide)
        · exact absurd h1 (by decide)
    · have hb : blank c = false := by simpa using hb
      rw [cut_w hb]
      have h1 := wl_le c r
      constructor
      · intro e
        refine ⟨c, r, rfl, hb, ?_⟩
        have e1 := (List.cons.inj e).1
        have e2 : (c :: r).take (wl (c :: r)) = c :: r := (Prod.mk.inj e1).1
        have := congrArg List.length e2
        rw [List.length_take] at this
        simp only [List.length_cons] at this ⊢
        omega
      · rintro ⟨c', r', e, _, h2⟩
        cases e
        rw [h2, List.take_of_length_le (Nat.le_refl _), List.drop_of_length_le (Nat.le_refl _), cut_nil]
/-- wl of a word is its length -/
theorem tw_all {p : Nat → Bool} : ∀ {l : L}, (∀ c ∈ l, p c = true) → l.takeWhile p = l
  | [], _ => rfl
  | c :: r, h => by
    rw [List.takeWhile_cons, if_pos (h c (by simp)), tw_all fun d hd => h d (by simp [hd])]
theorem tw_mem {p : Nat → Bool} : ∀ {l : L}, ∀ c ∈ l.takeWhile p, p c = true
  | [], c, h => by simp at h
  | d :: r, c, h => by
    rw [List.takeWhile_cons] at h
    split at h
    · rename_i hd
      rcases List.mem_cons.mp h with rfl | h
      · exact hd
      · exact tw_mem c h
    · simp at h
theorem tw_take {p : Nat → Bool} : ∀ (l : L), l.take (l.takeWhile p).length = l.takeWhile p
  | [] => rfl
  | c :: r => by
    rw [List.takeWhile_cons]
    split
    · simp only [List.length_cons, List.take_succ_cons, tw_take r]
    · rfl
theorem wl_word (c : Nat) (r : L) : wl ((c :: r).take (wl (c :: r))) = ((c :: r).take (wl (c :: r))).length := by
  by_cases h1 : inn c = true
  · have e : wl (c :: r) = (r.takeWhile inn).length + 1 := by
      rw [wl_inn h1]
      omega
    rw [e, List.take_succ_cons, tw_take, wl_inn h1, tw_all tw_mem, List.length_cons]
    omega
  · cases r with
    | nil =>
      rw [wl_one h1]
      exact wl_one h1
    | cons d q =>
      by_cases h2 : c = 45 ∧ digit d = true
      · have e : wl (c :: d :: q) = (q.takeWhile inn).length + 1 + 1 := by
          rw [wl_two h1, if_pos h2]
          omega
        rw [e, List.take_succ_cons, List.take_succ_cons, tw_take, wl_two h1, if_pos h2, tw_all tw_mem, List.length_cons, List.length_cons]
        omega
      · by_cases h3 : d = 61 ∧ (c = 60 ∨ c = 61)
        · have e : ∀ q, wl (c :: d :: q) = 2 := fun q => by rw [wl_two h1, if_neg h2, if_pos h3]
          rw [e]
          exact e []
        · have e : wl (c :: d :: q) = 1 := by rw [wl_two h1, if_neg h2, if_neg h3]
          rw [e]
          exact wl_one h1
/-- each word of a text: not empty, its signs are the text's, no blank ahead, one word -/
theorem cut_word : ∀ (t : L) (l k : Int), ∀ x ∈ cut t l k, (∀ c ∈ x.1, c ∈ t) ∧ ∃ c r, x.1 = c :: r ∧ blank c = false ∧ wl (c :: r) = (c :: r).length := by
  intro t l k
  fun_induction cut t l k with
  | case1 l k => simp
  | case2 r l k ih =>
    intro x hx
    exact ⟨fun c hc => List.mem_cons_of_mem _ ((ih x hx).1 c hc), (ih x hx).2⟩
  | case3 r l k h ih =>
    intro x hx
    exact ⟨fun c hc => List.mem_cons_of_mem _ ((ih x hx).1 c hc), (ih x hx).2⟩
  | case4 c r l k h1 h2 ih =>
    intro x hx
    rcases List.mem_cons.mp hx with rfl | hx
    · have h3 := wl_pos (c :: r)
      refine ⟨fun d hd => List.mem_of_mem_take hd, c, r.take (wl (c :: r) - 1), ?_, by unfold blank; simp [h1, h2], ?_⟩
      · obtain ⟨n, e⟩ : ∃ n, wl (c :: r) = n + 1 := ⟨wl (c :: r) - 1, by omega⟩
        show (c :: r).take (wl (c :: r)) = _
        rw [e, List.take_succ_cons]
        rfl
      · have e : c :: r.take (wl (c :: r) - 1) = (c :: r).take (wl (c :: r)) := by
          obtain ⟨n, e⟩ : ∃ n, wl (c :: r) = n + 1 := ⟨wl (c :: r) - 1, by omega⟩
          rw [e, List.take_succ_cons]
          rfl
        rw [e]
        exact wl_word c r
    · exact ⟨fun d hd => List.mem_of_mem_drop ((ih x hx).1 d hd), (ih x hx).2⟩
end K1

set_option Elab.async false
set_option linter.all false
set_option maxRecDepth 100000
set_option maxHeartbeats 4000000
namespace K1
open PySem L2
abbrev tl (z : Str) : L := z.cps.toList
def mk (l : L) : Str := ⟨l.toArray⟩
theorem tl_mk (l : L) : tl (mk l) = l := by simp [mk]
theorem mk_tl (z : Str) : mk (tl z) = z := by simp [mk]
theorem tl_inj {a b : Str} (h : tl a = tl b) : a = b := by rw [← mk_tl a, ← mk_tl b, h]
theorem len_tl (z : Str) : z.length = (tl z).length := rfl
theorem len_mk (l : L) : (mk l).length = l.length := by simp [mk, Str.length]
theorem cut_nn (z : Str) (a b : Nat) : cutS z (some (a : Int)) (some (b : Int)) = mk (((tl z).drop a).take (b - a)) := by
  unfold cutS mk tl
  rw [HT.sIx_nat, HT.sIx_nat, show z.length = z.cps.toList.length from rfl]
  generalize z.cps.toList = l
  congr 1
  by_cases h : a ≤ l.length
  · rw [Nat.min_eq_left h]
    by_cases hb : b ≤ l.length
    · rw [Nat.min_eq_left hb]
    · rw [Nat.min_eq_right (by omega), List.take_of_length_le (by rw [List.length_drop]; omega), List.take_of_length_le (by rw [List.length_drop]; omega)]
  · have e : l.drop (min a l.length) = [] := List.drop_of_length_le (by omega)
    have e2 : l.drop a = [] := List.drop_of_length_le (by omega)
    rw [e, e2]
    simp
theorem cut_n (z : Str) (a : Nat) : cutS z (some (a : Int)) none = mk ((tl z).drop a) := by
  unfold cutS mk tl
  rw [HT.sIx_nat, HT.sIx_none, show z.length = z.cps.toList.length from rfl]
  generalize z.cps.toList = l
  congr 1
  by_cases h : a ≤ l.length
  · rw [Nat.min_eq_left h, List.take_of_length_le (by rw [List.length_drop]; omega)]
  · rw [Nat.min_eq_right (by omega), List.drop_of_length_le (Nat.le_refl _), List.drop_of_length_le (by omega)]
    simp
theorem cut_0n (z : Str) (b : Nat) : cutS z none (some (b : Int)) = mk ((tl z).take b) := by
  unfold cutS mk tl
  rw [HT.sIx_nat, HT.sIx_none, show z.length = z.cps.toList.length from rfl]
  generalize z.cps.toList = l
  congr 1
  rw [List.drop_zero, Nat.sub_zero]
  by_cases h : b ≤ l.length
  · rw [Nat.min_eq_left h]
  · rw [Nat.min_eq_right (by omega), List.take_of_length_le (Nat.le_refl _), List.take_of_length_le (by omega)]
theorem lt1 (a b : Nat) : decide ([a] < [b]) = decide (a < b) := by
  rw [decide_eq_decide]
  constructor
  · intro h
    cases h with
    | rel h => exact h
    | cons h => cases h
  · intro h
    exact List.Lex.rel h
theorem lt_nil (a : L) : decide (a < ([] : L)) = false := by
  rw [decide_eq_false_iff_not]
  intro h
  cases h
theorem nil_lt (a : Nat) : decide (([] : L) < [a]) = true := by
  rw [decide_eq_true_eq]
  exact List.Lex.nil
theorem dig : ∀ c < 128, Unicode.isDigit c = digit c := by decide +kernel
theorem isdigit_mk (l : L) (h : ∀ c ∈ l, c < 128) : Txt.isdigit (mk l) = (!l.isEmpty && l.all digit) := by
  unfold Txt.isdigit
  rw [len_mk]
  have e : (mk l).cps.all Unicode.isDigit = l.all digit := by
    show l.toArray.all Unicode.isDigit = _
    rw [List.all_toArray]
    rw [Bool.eq_iff_iff, List.all_eq_true, List.all_eq_true]
    exact ⟨fun z c hc => by rw [← dig c (h c hc)]; exact z c hc, fun z c hc => by rw [dig c (h c hc)]; exact z c hc⟩
  rw [e]
  cases l <;> simp
theorem inV_str (w : Str) : ∀ l : List Str, inV (.str w) (l.map V.str) = decide (w ∈ l)
  | [] => rfl
  | a :: l => by
    have ih := inV_str w l
    have e : inV (.str w) ((a :: l).map V.str) = ((a == w) || inV (.str w) (l.map V.str)) := rfl
    rw [e, ih, Bool.eq_iff_iff, Bool.or_eq_true, beq_iff_eq, decide_eq_true_eq, decide_eq_true_eq, List.mem_cons]
    exact or_congr ⟨Eq.symm, Eq.symm⟩ Iff.rfl
theorem flat_strs : ∀ l : List Str, (l.map V.str).all flatV = true
  | [] => rfl
  | a :: l => by
    rw [List.map_cons, List.all_cons, flat_strs l]
    rfl
/-! ### the sorts -/
def keptS : List Str := ["and", "at", "choice", "else", "fail", "false", "function", "if", "let", "long", "make", "match", "new", "not", "number", "of", "or", "over", "put", "rest", "return", "row", "set", "show", "true", "truth", "try", "unit", "uses", "while"]
def signsS : List Str := ["(", ")", "{", "}", ",", ":", "=", "|", "+", "-", "*", "<", "<=", "=="]
def small (c : Nat) : Bool := decide (97 ≤ c ∧ c ≤ 122)
def isName (w : Str) : Bool := decide (1 ≤ w.length) && (decide (w.length ≤ 8) && (!decide (w ∈ keptS) && (tl w).all small))
def figs (w : Str) : L := if (tl w).head? = some 45 then (tl w).drop 1 else tl w
def isFig (w : Str) : Bool := decide (w = "0") || (!(figs w).isEmpty && ((figs w).all digit && !decide ((figs w).head? = some 48)))
def sortW (w : Str) : Str := if w ∈ keptS ∨ w ∈ signsS then w else if isName w = true then "name" else if isFig w = true then "figures" else "strange"
end K1

set_option Elab.async false
set_option linter.all false
set_option maxRecDepth 100000
set_option maxHeartbeats 4000000
namespace K83
open PySem PySem.Spec
open K82 (L IsB bval bdig enc dec zig zag one tl)
abbrev mk (l : L) : Str := ⟨l.toArray⟩
theorem tl_mk (l : L) : tl (mk l) = l := by simp [mk, tl]
theorem mk_tl (z : Str) : mk (tl z) = z := by simp [mk, tl]
theorem tl_inj {a b : Str} (h : tl a = tl b) : a = b := by rw [← mk_tl a, ← mk_tl b, h]
abbrev D := PyData
/-- the sorts of parts -/
inductive Lt where
  | p | n | c | x | k | P | l
deriving DecidableEq
def tab : List (Str × List Lt) := [("const", [.p, .n]), ("copy", [.c, .c]), ("plus", [.p, .p, .p]), ("minus", [.p, .p, .p]), ("times", [.p, .p, .p]), ("over", [.p, .p, .p]), ("rest", [.p, .p, .p]), ("less", [.p, .p, .p]), ("atmost", [.p, .p, .p]), ("same", [.p, .p, .p]),
  ("not", [.p, .p]), ("make", [.x, .p, .P]), ("tag", [.p, .p]), ("part", [.x, .k, .p, .p]), ("long", [.x, .p, .p]), ("new", [.x, .p, .p, .p]), ("at", [.x, .p, .p, .p]), ("put", [.x, .p, .p, .p]), ("show", [.p]), ("call", [.l]), ("jump", [.l]), ("branch", [.p, .l]), ("unless", [.p, .l]), ("try", [.l, .l]), ("return", []), ("fail", [.p])]
def digit (c : Nat) : Bool := decide (48 ≤ c ∧ c ≤ 57)
def figsB (l : L) : Bool := !l.isEmpty && (l.all digit && (decide (l.head? ≠ some 48) || decide (l.length = 1)))
def dnum (l : L) : Nat := l.foldl (fun a c => 10 * a + dv10 c) 0
where dv10 (c : Nat) : Nat := c - 48
def regL (r : Nat) : L → Bool
  | [114, c] => digit c && decide (c - 48 < r)
  | _ => false
def slotL : L → Bool
  | 115 :: f => figsB f && decide (f.length ≤ 3)
  | _ => false
def isReg (r : Nat) : D → Bool
  | .str z => regL r (tl z)
  | _ => false
def isSlot : D → Bool
  | .str z => slotL (tl z)
  | _ => false
def isInt : D → Bool
  | .int _ => true
  | _ => false
def isBetw (lo hi : Int) : D → Bool
  | .int i => decide (lo ≤ i ∧ i ≤ hi)
  | _ => false
def isNm : D → Bool
  | .str z => K1.isName z
  | _ => false
def isRegs (r : Nat) : D → Bool
  | .tuple ds => decide (ds.length ≤ 3) && ds.all (isReg r)
  | _ => false
def halfOf (w : Str) : Int := if w = "short" then 128 else 2147483648
def isLeap : D → Bool
  | .tuple [.str w, .int i] => (decide (w = "short") || decide (w = "long")) && decide (-halfOf w ≤ i ∧ i ≤ halfOf w - 1)
  | _ => false
def isPart (r : Nat) : Lt → D → Bool
  | .p, d => isReg r d
  | .n, d => isInt d
  | .c, d => isSlot d || isReg r d
  | .x, d => isNm d
  | .k, d => isBetw 0 2 d
  | .P, d => isRegs r d
  | .l, d => isLeap d
def arePs (r : Nat) : List Lt → List D → Bool
  | [], [] => true
  | c :: cs, d :: ds => isPart r c d && arePs r cs ds
  | _, _ => false
def judged (r : Nat) : D → Bool
  | .tuple (.str w :: ps) => match tab.lookup w with
    | none => false
    | some ls => arePs r ls ps && !(decide (w = "copy") && ps.all isSlot)
  | _ => false
/-! ### written out -/
def encReg : D → L
  | .str z => bdig 4 (dnum ((tl z).drop 1))
  | _ => []
def leapN (m : Nat) (i : Int) : Nat := (if 0 ≤ i then i else i + 2 ^ m).toNat
def encPart : Lt → D → L
  | .p, d => encReg d
  | .n, .int i => enc (zig i)
  | .c, .str z => if (tl z).head? = some 115 then 49 :: enc (dnum ((tl z).drop 1)) else 48 :: encReg (.str z)
  | .x, .str z => (tl z).flatMap (fun c => bdig 5 (c - 96)) ++ [48, 48, 48, 48, 48]
  | .k, .int i => bdig 2 i.toNat
  | .P, .tuple ds => bdig 2 ds.length ++ ds.flatMap encReg
  | .l, .tuple [.str w, .int i] => if w = "short" then 48 :: bdig 8 (leapN 8 i) else 49 :: bdig 32 (leapN 32 i)
  | _, _ => []
def encPs : List Lt → List D → L
  | c :: cs, d :: ds => encPart c d ++ encPs cs ds
  | _, _ => []
def wix (w : Str) : Nat := tab.findIdx fun q => q.1 == w
def encI : D → L
  | .tuple (.str w :: ps) => bdig 5 (wix w) ++ encPs ((tab.lookup w).getD []) ps
  | _ => []
/-! ### read -/
def digAt (l : L) (n m : Nat) : Option (Nat × Nat) := if n + m ≤ l.length then some (bval ((l.drop n).take m), n + m) else none
def natS (v : Nat) : Str := Str.ofString (toString v)
def pl (c v : Nat) : Str := one c ++ natS v
def regAt (l : L) (n : Nat) : Option (D × Nat) := (digAt l n 4).map fun q => (.str (pl 114 q.1), q.2)
def decAt (l : L) (n : Nat) : Option (Nat × Nat) := (dec (l.drop n)).map fun p => (p.1, n + p.2)
def copAt (l : L) (n : Nat) : Option (D × Nat) := if (l.drop n).head? = some 49 then (decAt l (n + 1)).map (fun q => (.str (pl 115 q.1), q.2)) else regAt l (n + 1)
def numAt (l : L) (n : Nat) : Option (D × Nat) := (decAt l n).map fun q => (.int (zag q.1), q.2)
def namAt (l : L) : Nat → Nat → L → Option (D × Nat)
  | 0, _, _ => none
  | f + 1, n, acc => match digAt l n 5 with
    | none => none
    | some (v, b) => if v = 0 then some (.str (mk acc), b) else if v > 26 then none else namAt l f b (acc ++ [96 + v])
def knAt (l : L) (n : Nat) : Option (D × Nat) := (digAt l n 2).map fun q => (.int (q.1 : Nat), q.2)
def regsN (l : L) : Nat → Nat → Option (List D × Nat)
  | 0, b => some ([], b)
  | m + 1, b => (regAt l b).bind fun q => (regsN l m q.2).map fun t => (q.1 :: t.1, t.2)
def rgsAt (l : L) (n : Nat) : Option (D × Nat) := (digAt l n 2).bind fun q => (regsN l q.1 q.2).map fun t => (.tuple t.1, t.2)
def isLong (l : L) (n : Nat) : Bool := decide ((l.drop n).head? = some 49)
def leapV (m : Nat) (v : Nat) : Int := if v < 2 ^ (m - 1) then v else (v : Int) - 2 ^ m
def leapAt (l : L) (n : Nat) : Option (D × Nat) :=
  if isLong l n = true then (digAt l (n + 1) 32).map (fun q => (.tuple [.str "long", .int (leapV 32 q.1)], q.2)) else (digAt l (n + 1) 8).map (fun q => (.tuple [.str "short", .int (leapV 8 q.1)], q.2))
def rdPart (l : L) : Lt → Nat → Option (D × Nat)
  | .p, n => regAt l n
  | .n, n => numAt l n
  | .c, n => copAt l n
  | .x, n => namAt l (l.length + 1) n []
  | .k, n => knAt l n
  | .P, n => rgsAt l n
  | .l, n => leapAt l n
def rdPs (l : L) : List Lt → Nat → Option (List D × Nat)
  | [], n => some ([], n)
  | c :: cs, n => (rdPart l c n).bind fun q => (rdPs l cs q.2).map fun t => (q.1 :: t.1, t.2)
def rdI (r : Nat) (l : L) (n : Nat) : Option (D × Nat) := (digAt l n 5).bind fun q => match tab[q.1]? with
  | none => none
  | some (w, ls) => (rdPs l ls q.2).bind fun t => if judged r (.tuple (.str w :: t.1)) = true then some (.tuple (.str w :: t.1), t.2) else none
/-! ### what was written is read -/
def At (l : L) (n : Nat) (e : L) : Prop := n ≤ l.length ∧ ∃ s, l.drop n = e ++ s
theorem At.len {l : L} {n : Nat} {e : L} (h : At l n e) : n + e.length ≤ l.length := by
  obtain ⟨h1, s, h2⟩ := h
  have := congrArg List.length h2
  rw [List.length_drop, List.length_append] at this
  omega
theorem At.app {l : L} {n : Nat} {a b : L} (h : At l n (a ++ b)) : At l n a ∧ At l (n + a.length) b := by
  have hl := h.len
  rw [List.length_append] at hl
  obtain ⟨h1, s, h2⟩ := h
  refine ⟨⟨h1, b ++ s, by rw [h2, List.append_assoc]⟩, by omega, s, ?_⟩
  rw [← List.drop_drop, h2, List.append_assoc, List.drop_left]
theorem At.cons {l : L} {n c : Nat} {b : L} (h : At l n (c :: b)) : (l.drop n).head? = some c ∧ At l (n + 1) b := by
  have h2 := At.app (a := [c]) h
  obtain ⟨_, s, e⟩ := h
  exact ⟨by rw [e]; rfl, h2.2⟩
theorem digAt_bdig {l : L} {n k v : Nat} (h : At l n (bdig k v)) (hv : v < 2 ^ k) : digAt l n k = some (v, n + k) := by
  have hl := h.len
  rw [K82.bdig_len] at hl
  obtain ⟨_, s, e⟩ := h
  unfold digAt
  rw [if_pos hl, e, List.take_left' (K82.bdig_len k v), K82.bval_bdig k v hv]
theorem decAt_enc {l : L} {n v : Nat} (h : At l n (enc v)) : decAt l n = some (v, n + (enc v).length) := by
  obtain ⟨_, s, e⟩ := h
  unfold decAt
  rw [e, K82.dec_enc]
  rfl
theorem natS1 : ∀ a < 10, tl (natS a) = [48 + a] := by decide +kernel
theorem natS2 : ∀ a < 10, ∀ b < 10, a ≠ 0 → tl (natS (10 * a + b)) = [48 + a, 48 + b] := by decide +kernel
theorem natS3 : ∀ a < 10, ∀ b < 10, ∀ c < 10, a ≠ 0 → tl (natS (10 * (10 * a + b) + c)) = [48 + a, 48 + b, 48 + c] := by decide +kernel
theorem dig_ex {c : Nat} (h : digit c = true) : ∃ a, a < 10 ∧ c = 48 + a := ⟨c - 48, by unfold digit at h; have := of_decide_eq_true h; omega, by unfold digit at h; have := of_decide_eq_true h; omega⟩
theorem natS_fig {f : L} (h : figsB f = true) (h3 : f.length ≤ 3) : tl (natS (dnum f)) = f := by
  unfold figsB at h
  rw [Bool.and_eq_true, Bool.and_eq_true, Bool.or_eq_true, decide_eq_true_eq, decide_eq_true_eq, List.all_eq_true] at h
  obtain ⟨h0, h1, h2⟩ := h
  match f, h0, h1, h2, h3 with
  | [], h0, _, _, _ => cases h0
  | [a], _, h1, _, _ =>
    obtain ⟨a, ha, rfl⟩ := dig_ex (h1 a (by simp))
    rw [show dnum [48 + a] = a by simp [dnum, dnum.dv10], natS1 a ha]
  | [a, b], _, h1, h2, _ =>
    obtain ⟨a, ha, rfl⟩ := dig_ex (h1 a (by simp))
    obtain ⟨b, hb, rfl⟩ := dig_ex (h1 b (by simp))
    have h0 : a ≠ 0 := by
      rcases h2 with h2 | h2
      · simp at h2
        omega
      · simp at h2
    rw [show dnum [48 + a, 48 + b] = 10 * a + b by simp [dnum, dnum.dv10], natS2 a ha b hb h0]
  | [a, b, c], _, h1, h2, _ =>
    obtain ⟨a, ha, rfl⟩ := dig_ex (h1 a (by simp))
    obtain ⟨b, hb, rfl⟩ := dig_ex (h1 b (by simp))
    obtain ⟨c, hc, rfl⟩ := dig_ex (h1 c (by simp))
    have h0 : a ≠ 0 := by
      rcases h2 with h2 | h2
      · simp at h2
        omega
      · simp at h2
    rw [show dnum [48 + a, 48 + b, 48 + c] = 10 * (10 * a + b) + c by simp [dnum, dnum.dv10], natS3 a ha b hb c hc h0]
  | _ :: _ :: _ :: _ :: _, _, _, _, h3 => simp at h3
theorem tl_pl (c v : Nat) : tl (pl c v) = c :: tl (natS v) := by
  unfold pl
  show (Str.append _ _).cps.toList = _
  simp [Str.append, tl, one]
theorem pl_of {z : Str} {c : Nat} {f : L} (e : tl z = c :: f) (h : figsB f = true) (h3 : f.length ≤ 3) : pl c (dnum f) = z := tl_inj (by rw [tl_pl, natS_fig h h3, e])
theorem isReg_ex {r : Nat} {d : D} (h : isReg r d = true) : ∃ z a, d = .str z ∧ a < 10 ∧ a < r ∧ tl z = [114, 48 + a] := by
  match d, h with
  | .str z, h =>
    have h : regL r (tl z) = true := h
    unfold regL at h
    split at h
    · rename_i c e
      rw [Bool.and_eq_true, decide_eq_true_eq] at h
      obtain ⟨a, ha, rfl⟩ := dig_ex h.1
      exact ⟨z, a, rfl, ha, by omega, e⟩
    · cases h
theorem figs1 {a : Nat} (h : a < 10) : figsB [48 + a] = true := by
  have e : digit (48 + a) = true := decide_eq_true (by omega)
  simp [figsB, e]
theorem regAt_enc {r : Nat} {l : L} {n : Nat} {d : D} (hd : isReg r d = true) (h : At l n (encReg d)) : regAt l n = some (d, n + 4) ∧ (encReg d).length = 4 := by
  obtain ⟨z, a, rfl, ha, hr, e⟩ := isReg_ex hd
  have e2 : encReg (.str z) = bdig 4 a := by
    show bdig 4 (dnum ((tl z).drop 1)) = _
    rw [e]
    simp [dnum, dnum.dv10]
  rw [e2] at h ⊢
  refine ⟨?_, K82.bdig_len _ _⟩
  unfold regAt
  rw [digAt_bdig h (by omega)]
  show some (PyData.str (pl 114 a), n + 4) = _
  have e3 := pl_of e (figs1 ha) (by simp)
  rw [show dnum [48 + a] = a by simp [dnum, dnum.dv10]] at e3
  rw [e3]
theorem regsN_enc {r : Nat} {l : L} : ∀ (ds : List D) (n : Nat), ds.all (isReg r) = true → At l n (ds.flatMap encReg) → regsN l ds.length n = some (ds, n + (ds.flatMap encReg).length)
  | [], n, _, _ => rfl
  | d :: ds, n, hd, h => by
    rw [List.all_cons, Bool.and_eq_true] at hd
    rw [List.flatMap_cons] at h ⊢
    obtain ⟨h1, h2⟩ := h.app
    obtain ⟨e1, e2⟩ := regAt_enc hd.1 h1
    have ih := regsN_enc ds (n + 4) hd.2 (e2 ▸ h2)
    show (regAt l n).bind _ = _
    rw [e1]
    show (regsN l ds.length (n + 4)).map _ = _
    rw [ih, List.length_append, e2, Nat.add_assoc]
    rfl
theorem namAt_enc {l : L} : ∀ (z : L) (f n : Nat) (acc : L), z.length < f → z.all K1.small = true → At l n (z.flatMap (fun c => bdig 5 (c - 96)) ++ [48, 48, 48, 48, 48]) → namAt l f n acc = some (.str (mk (acc ++ z)), n + (z.flatMap (fun c => bdig 5 (c - 96)) ++ [48, 48, 48, 48, 48]).length)
  | [], f + 1, n, acc, _, _, h => by
    have e := digAt_bdig (k := 5) (v := 0) h (by decide)
    unfold namAt
    rw [e]
    simp
  | c :: z, f + 1, n, acc, hf, hz, h => by
    rw [List.all_cons, Bool.and_eq_true] at hz
    have hc : 97 ≤ c ∧ c ≤ 122 := of_decide_eq_true hz.1
    rw [List.flatMap_cons, List.append_assoc] at h
    obtain ⟨h1, h2⟩ := h.app
    rw [K82.bdig_len] at h2
    have e := digAt_bdig h1 (show c - 96 < 2 ^ 5 by omega)
    have ih := namAt_enc z f (n + 5) (acc ++ [96 + (c - 96)]) (by simp at hf; omega) hz.2 h2
    unfold namAt
    rw [e]
    show (if c - 96 = 0 then _ else if c - 96 > 26 then none else namAt l f (n + 5) (acc ++ [96 + (c - 96)])) = _
    rw [if_neg (by omega), if_neg (by omega), ih, show 96 + (c - 96) = c by omega, List.append_assoc]
    simp [K82.bdig_len, Nat.add_assoc]
theorem isLeap_ex {d : D} (h : isLeap d = true) : ∃ w i, d = .tuple [.str w, .int i] ∧ ((w = "short" ∧ -128 ≤ i ∧ i ≤ 127) ∨ (w = "long" ∧ -2147483648 ≤ i ∧ i ≤ 2147483647)) := by
  unfold isLeap at h
  split at h
  · rename_i w i
    rw [Bool.and_eq_true, Bool.or_eq_true, decide_eq_true_eq, decide_eq_true_eq, decide_eq_true_eq] at h
    obtain ⟨h1, h2⟩ := h
    refine ⟨w, i, rfl, ?_⟩
    rcases h1 with rfl | rfl
    · rw [show halfOf "short" = 128 from by decide +kernel] at h2
      exact .inl ⟨rfl, by omega, by omega⟩
    · rw [show halfOf "long" = 2147483648 from by decide +kernel] at h2
      exact .inr ⟨rfl, by omega, by omega⟩
  · cases h
theorem leap_back8 {i : Int} (h1 : -128 ≤ i) (h2 : i ≤ 127) : leapN 8 i < 2 ^ 8 ∧ leapV 8 (leapN 8 i) = i := by
  unfold leapN leapV
  rw [show (2 : Nat) ^ (8 - 1) = 128 from rfl, show (2 : Int) ^ 8 = 256 from rfl, show (2 : Nat) ^ 8 = 256 from rfl]
  by_cases h : 0 ≤ i
  · rw [if_pos h]
    refine ⟨by omega, ?_⟩
    rw [if_pos (by omega)]
    omega
  · rw [if_neg h]
    refine ⟨by omega, ?_⟩
    rw [if_neg (by omega)]
    omega
theorem leap_back32 {i : Int} (h1 : -2147483648 ≤ i) (h2 : i ≤ 2147483647) : leapN 32 i < 2 ^ 32 ∧ leapV 32 (leapN 32 i) = i := by
  unfold leapN leapV
  rw [show (2 : Nat) ^ (32 - 1) = 2147483648 from rfl, show (2 : Int) ^ 32 = 4294967296 from rfl, show (2 : Nat) ^ 32 = 4294967296 from rfl]
  by_cases h : 0 ≤ i
  · rw [if_pos h]
    refine ⟨by omega, ?_⟩
    rw [if_pos (by omega)]
    omega
  · rw [if_neg h]
    refine ⟨by omega, ?_⟩
    rw [if_neg (by omega)]
    omega
theorem isSlot_ex {d : D} (h : isSlot d = true) : ∃ z f, d = .str z ∧ tl z = 115 :: f ∧ figsB f = true ∧ f.length ≤ 3 := by
  match d, h with
  | .str z, h =>
    have h : slotL (tl z) = true := h
    unfold slotL at h
    split at h
    · rename_i f e
      rw [Bool.and_eq_true, decide_eq_true_eq] at h
      exact ⟨z, f, rfl, e, h⟩
    · cases h
theorem rdPart_enc {r : Nat} {l : L} {n : Nat} {c : Lt} {d : D} (hd : isPart r c d = true) (h : At l n (encPart c d)) : rdPart l c n = some (d, n + (encPart c d).length) := by
  cases c with
  | p =>
    obtain ⟨e1, e2⟩ := regAt_enc (r := r) hd h
    show regAt l n = some (d, n + (encReg d).length)
    rw [e1, e2]
  | n =>
    match d, hd with
    | .int i, _ =>
      show numAt l n = some (.int i, n + (enc (zig i)).length)
      unfold numAt
      rw [decAt_enc h]
      show some (PyData.int (zag (zig i)), _) = _
      rw [K82.zag_zig]
  | c =>
    by_cases hs : isSlot d = true
    · obtain ⟨z, f, rfl, e, hf, h3⟩ := isSlot_ex hs
      have e2 : encPart .c (.str z) = 49 :: enc (dnum f) := by
        show (if (tl z).head? = some 115 then 49 :: enc (dnum ((tl z).drop 1)) else 48 :: encReg (.str z)) = _
        rw [e]
        rfl
      rw [e2] at h ⊢
      obtain ⟨h1, h2⟩ := h.cons
      show copAt l n = _
      unfold copAt
      rw [if_pos h1, decAt_enc h2]
      show some (PyData.str (pl 115 (dnum f)), _) = _
      rw [pl_of e hf h3, List.length_cons]
      congr 2
      omega
    · have hr : isReg r d = true := by
        have hd : (isSlot d || isReg r d) = true := hd
        rw [Bool.or_eq_true] at hd
        exact hd.resolve_left hs
      obtain ⟨z, a, rfl, _, _, e⟩ := isReg_ex hr
      have e2 : encPart .c (.str z) = 48 :: encReg (.str z) := by
        show (if (tl z).head? = some 115 then 49 :: enc (dnum ((tl z).drop 1)) else 48 :: encReg (.str z)) = _
        rw [e]
        rfl
      rw [e2] at h ⊢
      obtain ⟨h1, h2⟩ := h.cons
      obtain ⟨e3, e4⟩ := regAt_enc hr h2
      show copAt l n = _
      unfold copAt
      rw [if_neg (by rw [h1]; decide), e3, List.length_cons, e4]
  | x =>
    match d, hd with
    | .str z, hd =>
      have hn : K1.isName z = true := hd
      have hs : (tl z).all K1.small = true := by
        unfold K1.isName at hn
        rw [Bool.and_eq_true, Bool.and_eq_true, Bool.and_eq_true] at hn
        exact hn.2.2.2
      have hl : (tl z).length < l.length + 1 := by
        have := h.len
        rw [show encPart .x (.str z) = (tl z).flatMap (fun c => bdig 5 (c - 96)) ++ [48, 48, 48, 48, 48] from rfl, List.length_append, List.length_flatMap, List.map_congr_left (fun c _ => K82.bdig_len 5 (c - 96)), List.map_const', List.sum_replicate_nat] at this
        rw [show (tl z).length = z.cps.size from rfl]
        simp at this
        omega
      show namAt l (l.length + 1) n [] = _
      rw [namAt_enc (tl z) _ n [] hl hs h, List.nil_append, mk_tl]
      rfl
  | k =>
    match d, hd with
    | .int i, hd =>
      have hi : 0 ≤ i ∧ i ≤ 2 := of_decide_eq_true hd
      show knAt l n = some (_, n + (bdig 2 i.toNat).length)
      unfold knAt
      rw [digAt_bdig h (by show i.toNat < 4; omega), K82.bdig_len]
      show some (PyData.int ((i.toNat : Nat) : Int), _) = _
      rw [Int.toNat_of_nonneg hi.1]
  | P =>
    match d, hd with
    | .tuple ds, hd =>
      have hd : (decide (ds.length ≤ 3) && ds.all (isReg r)) = true := hd
      rw [Bool.and_eq_true, decide_eq_true_eq] at hd
      obtain ⟨h1, h2⟩ := At.app (a := bdig 2 ds.length) h
      rw [K82.bdig_len] at h2
      show rgsAt l n = some (_, n + (bdig 2 ds.length ++ ds.flatMap encReg).length)
      unfold rgsAt
      rw [digAt_bdig h1 (by show ds.length < 4; omega)]
      show (regsN l ds.length (n + 2)).map _ = _
      rw [regsN_enc ds (n + 2) hd.2 h2, List.length_append, K82.bdig_len, Nat.add_assoc]
      rfl
  | l =>
    obtain ⟨w, i, rfl, ⟨rfl, h1, h2⟩ | ⟨rfl, h1, h2⟩⟩ := isLeap_ex hd
    · have e2 : encPart .l (.tuple [.str "short", .int i]) = 48 :: bdig 8 (leapN 8 i) := by
        show (if ("short" : Str) = "short" then 48 :: bdig 8 (leapN 8 i) else 49 :: bdig 32 (leapN 32 i)) = _
        rw [if_pos rfl]
      rw [e2] at h ⊢
      obtain ⟨g1, g2⟩ := h.cons
      obtain ⟨b1, b2⟩ := leap_back8 h1 h2
      show leapAt l n = _
      unfold leapAt isLong
      rw [if_neg (by rw [g1]; decide), digAt_bdig g2 b1]
      show some (PyData.tuple [.str "short", .int (leapV 8 (leapN 8 i))], _) = _
      rw [b2, List.length_cons, K82.bdig_len]
    · have e2 : encPart .l (.tuple [.str "long", .int i]) = 49 :: bdig 32 (leapN 32 i) := by
        show (if ("long" : Str) = "short" then 48 :: bdig 8 (leapN 8 i) else 49 :: bdig 32 (leapN 32 i)) = _
        rw [if_neg (by decide +kernel)]
      rw [e2] at h ⊢
      obtain ⟨g1, g2⟩ := h.cons
      obtain ⟨b1, b2⟩ := leap_back32 h1 h2
      show leapAt l n = _
      unfold leapAt isLong
      rw [if_pos (by rw [g1]; decide), digAt_bdig g2 b1]
      show some (PyData.tuple [.str "long", .int (leapV 32 (leapN 32 i))], _) = _
      rw [b2, List.length_cons, K82.bdig_len]
theorem rdPs_enc {r : Nat} {l : L} : ∀ (cs : List Lt) (ds : List D) (n : Nat), arePs r cs ds = true → At l n (encPs cs ds) → rdPs l cs n = some (ds, n + (encPs cs ds).length)
  | [], [], n, _, _ => rfl
  | c :: cs, d :: ds, n, hd, h => by
    have hd : (isPart r c d && arePs r cs ds) = true := hd
    rw [Bool.and_eq_true] at hd
    obtain ⟨h1, h2⟩ := At.app (a := encPart c d) h
    show (rdPart l c n).bind _ = _
    rw [rdPart_enc hd.1 h1]
    show (rdPs l cs (n + (encPart c d).length)).map _ = _
    rw [rdPs_enc cs ds _ hd.2 h2]
    show some (d :: ds, _) = some (d :: ds, n + (encPart c d ++ encPs cs ds).length)
    rw [List.length_append, Nat.add_assoc]
  | [], _ :: _, _, hd, _ => by cases hd
  | _ :: _, [], _, hd, _ => by cases hd
theorem tab_ix : ∀ q ∈ tab, tab[wix q.1]? = some q ∧ wix q.1 < 2 ^ 5 ∧ tab.lookup q.1 = some q.2 := by decide +kernel
theorem lookup_mem {w : Str} {ls : List Lt} : ∀ {t : List (Str × List Lt)}, t.lookup w = some ls → (w, ls) ∈ t
  | [], h => by cases h
  | (b, u) :: r, h => by
    rw [List.lookup_cons] at h
    split at h
    · rename_i e
      rw [eq_of_beq e]
      cases h
      exact List.mem_cons_self
    · exact List.mem_cons_of_mem _ (lookup_mem h)
theorem judged_ex {r : Nat} {d : D} (h : judged r d = true) : ∃ w ps ls, d = .tuple (.str w :: ps) ∧ (w, ls) ∈ tab ∧ tab.lookup w = some ls ∧ arePs r ls ps = true := by
  unfold judged at h
  split at h
  · rename_i w ps
    split at h
    · cases h
    · rename_i ls e
      rw [Bool.and_eq_true] at h
      exact ⟨w, ps, ls, rfl, lookup_mem e, e, h.1⟩
  · cases h
theorem rdI_enc {r : Nat} {l : L} {n : Nat} {d : D} (hd : judged r d = true) (h : At l n (encI d)) : rdI r l n = some (d, n + (encI d).length) := by
  obtain ⟨w, ps, ls, rfl, hm, e, ha⟩ := judged_ex hd
  obtain ⟨t1, t2, t3⟩ := tab_ix _ hm
  have e2 : encI (.tuple (.str w :: ps)) = bdig 5 (wix w) ++ encPs ls ps := by
    show bdig 5 (wix w) ++ encPs ((tab.lookup w).getD []) ps = _
    rw [e]
    rfl
  rw [e2] at h ⊢
  obtain ⟨h1, h2⟩ := h.app
  rw [K82.bdig_len] at h2
  unfold rdI
  rw [digAt_bdig h1 t2]
  show (match tab[wix w]? with | none => none | some (w, ls) => (rdPs l ls (n + 5)).bind _) = _
  rw [t1]
  show (rdPs l ls (n + 5)).bind _ = _
  rw [rdPs_enc ls ps _ ha h2]
  show (if judged r (.tuple (.str w :: ps)) = true then some (PyData.tuple (.str w :: ps), n + 5 + (encPs ls ps).length) else none) = _
  rw [if_pos hd, List.length_append, K82.bdig_len, Nat.add_assoc]
end K83

set_option Elab.async false
set_option linter.all false
set_option maxRecDepth 100000
set_option maxHeartbeats 4000000
namespace SA
open PySem PySem.Spec PyProof.Rows L2
/-! ### data whose objects stay -/
mutual
inductive Dn (n : Addr → Prop) (H : Hp) : V → PyData → Prop
  | non : Dn n H .non .none
  | bl (b : Bool) : Dn n H (.bl b) (.bool b)
  | int (i : Int) : Dn n H (.int i) (.int i)
  | str (x : Str) : Dn n H (.str x) (.str x)
  | lst {a : Addr} {xs : List V} {ds : List PyData} : n a → H a = some (.lst xs) → DnAll n H xs ds → Dn n H (.ref a) (.list ds)
  | tup {a : Addr} {xs : List V} {ds : List PyData} : n a → H a = some (.tup xs) → DnAll n H xs ds → Dn n H (.ref a) (.tuple ds)
  | dct {a : Addr} : n a → H a = some (.dK []) → Dn n H (.ref a) (.dict [])
inductive DnAll (n : Addr → Prop) (H : Hp) : List V → List PyData → Prop
  | nil : DnAll n H [] []
  | cons {v : V} {vs : List V} {d : PyData} {ds : List PyData} : Dn n H v d → DnAll n H vs ds → DnAll n H (v :: vs) (d :: ds)
end
mutual
theorem Dn.dx {K : PySem.W.Frag} {n : Addr → Prop} {H : Hp} : ∀ {v : V} {d : PyData}, Dn n H v d → Dx K H v d
  | _, _, .non => .non
  | _, _, .bl b => .bl b
  | _, _, .int i => .int i
  | _, _, .str x => .str x
  | _, _, .lst _ h2 h3 => .lst (.of h2) h3.dx
  | _, _, .tup _ h2 h3 => .tup (.of h2) h3.dx
  | _, _, .dct _ h2 => .dct h2 rfl .nil
theorem DnAll.dx {K : PySem.W.Frag} {n : Addr → Prop} {H : Hp} : ∀ {vs : List V} {ds : List PyData}, DnAll n H vs ds → DxAll K H vs ds
  | _, _, .nil => .nil
  | _, _, .cons h1 h2 => .cons h1.dx h2.dx
end
mutual
theorem Dn.keep {n m : Addr → Prop} {H H' : Hp} (k : ∀ b o, n b → H b = some o → H' b = some o) (nm : ∀ b, n b → m b) : ∀ {v : V} {d : PyData}, Dn n H v d → Dn m H' v d
  | _, _, .non => .non
  | _, _, .bl b => .bl b
  | _, _, .int i => .int i
  | _, _, .str x => .str x
  | _, _, .lst h1 h2 h3 => .lst (nm _ h1) (k _ _ h1 h2) (DnAll.keep k nm h3)
  | _, _, .tup h1 h2 h3 => .tup (nm _ h1) (k _ _ h1 h2) (DnAll.keep k nm h3)
  | _, _, .dct h1 h2 => .dct (nm _ h1) (k _ _ h1 h2)
theorem DnAll.keep {n m : Addr → Prop} {H H' : Hp} (k : ∀ b o, n b → H b = some o → H' b = some o) (nm : ∀ b, n b → m b) : ∀ {vs : List V} {ds : List PyData}, DnAll n H vs ds → DnAll m H' vs ds
  | _, _, .nil => .nil
  | _, _, .cons h1 h2 => .cons (Dn.keep k nm h1) (DnAll.keep k nm h2)
end
abbrev anyA : Addr → Prop := fun _ => True
abbrev notA (d w : Addr) : Addr → Prop := fun b => b ≠ d ∧ b ≠ w
theorem Dn.same {n : Addr → Prop} {H H' : Hp} {v : V} {d : PyData} (h : Dn n H v d) (s : Same H H') : Dn n H' v d := h.keep (fun b o _ e => s b o e) fun _ h => h
theorem DnAll.same {n : Addr → Prop} {H H' : Hp} {v : List V} {d : List PyData} (h : DnAll n H v d) (s : Same H H') : DnAll n H' v d := h.keep (fun b o _ e => s b o e) fun _ h => h
theorem Dn.any {n : Addr → Prop} {H : Hp} {v : V} {d : PyData} (h : Dn n H v d) : Dn anyA H v d := h.keep (fun _ _ _ e => e) fun _ _ => trivial
theorem DnAll.any {n : Addr → Prop} {H : Hp} {v : List V} {d : List PyData} (h : DnAll n H v d) : DnAll anyA H v d := h.keep (fun _ _ _ e => e) fun _ _ => trivial
theorem DnAll.len {n : Addr → Prop} {H : Hp} : ∀ {vs : List V} {ds : List PyData}, DnAll n H vs ds → vs.length = ds.length
  | _, _, .nil => rfl
  | _, _, .cons _ h => by rw [List.length_cons, List.length_cons, h.len]
theorem DnAll.at {n : Addr → Prop} {H : Hp} : ∀ {vs : List V} {ds : List PyData} {i : Nat} {v : V}, DnAll n H vs ds → vs[i]? = some v → ∃ d, ds[i]? = some d ∧ Dn n H v d
  | _, _, i, _, .nil, e => by simp at e
  | _, _, 0, _, .cons h _, e => by
    obtain rfl := Option.some.inj e
    exact ⟨_, rfl, h⟩
  | _, _, i + 1, _, .cons _ h, e => h.at (i := i) e
theorem DnAll.at' {n : Addr → Prop} {H : Hp} : ∀ {vs : List V} {ds : List PyData} {i : Nat} {d : PyData}, DnAll n H vs ds → ds[i]? = some d → ∃ v, vs[i]? = some v ∧ Dn n H v d
  | _, _, i, _, .nil, e => by simp at e
  | _, _, 0, _, .cons h _, e => by
    obtain rfl := Option.some.inj e
    exact ⟨_, rfl, h⟩
  | _, _, i + 1, _, .cons _ h, e => h.at' (i := i) e
theorem DnAll.app {n : Addr → Prop} {H : Hp} : ∀ {vs vs' : List V} {ds ds' : List PyData}, DnAll n H vs ds → DnAll n H vs' ds' → DnAll n H (vs ++ vs') (ds ++ ds')
  | _, _, _, _, .nil, h => h
  | _, _, _, _, .cons h1 h2, h => .cons h1 (h2.app h)
theorem DnAll.drop {n : Addr → Prop} {H : Hp} : ∀ {vs : List V} {ds : List PyData} (i : Nat), DnAll n H vs ds → DnAll n H (vs.drop i) (ds.drop i)
  | _, _, 0, h => h
  | _, _, _ + 1, .nil => .nil
  | _, _, i + 1, .cons _ h => h.drop i
theorem DnAll.take {n : Addr → Prop} {H : Hp} : ∀ {vs : List V} {ds : List PyData} (i : Nat), DnAll n H vs ds → DnAll n H (vs.take i) (ds.take i)
  | _, _, 0, _ => .nil
  | _, _, _ + 1, .nil => .nil
  | _, _, i + 1, .cons h1 h => .cons h1 (h.take i)
def kindD : PyData → String
  | .none => "NoneType"
  | .bool _ => "bool"
  | .int _ => "int"
  | .str _ => "str"
  | .list _ => "list"
  | .tuple _ => "tuple"
  | .dict _ => "dict"
theorem Dn.kd {K : PySem.W.Frag} {n : Addr → Prop} {H : Hp} {v : V} {d : PyData} (h : Dn n H v d) : Kd K H v (kindD d) := by
  cases h with
  | non => exact .non
  | bl b => exact .bl b
  | int i => exact .int i
  | str x => exact .str x
  | lst _ h _ => exact .lst (.base (.lst h))
  | tup _ h _ => exact .tup (.base (.tup h))
  | dct _ h => exact .dct (.base (.dK h))
theorem Dn.str_of {n : Addr → Prop} {H : Hp} {v : V} {d : PyData} (h : Dn n H v d) (e : kindD d = "str") : ∃ z, v = .str z ∧ d = .str z := by
  cases h <;> first | exact ⟨_, rfl, rfl⟩ | (exfalso; simp [kindD] at e)
theorem Dn.int_of {n : Addr → Prop} {H : Hp} {v : V} {d : PyData} (h : Dn n H v d) (e : kindD d = "int") : ∃ z, v = .int z ∧ d = .int z := by
  cases h <;> first | exact ⟨_, rfl, rfl⟩ | (exfalso; simp [kindD] at e)
theorem Dn.tup_of {n : Addr → Prop} {H : Hp} {v : V} {d : PyData} (h : Dn n H v d) (e : kindD d = "tuple") : ∃ a xs ds, v = .ref a ∧ d = .tuple ds ∧ n a ∧ H a = some (.tup xs) ∧ DnAll n H xs ds := by
  cases h with
  | tup h1 h2 h3 => exact ⟨_, _, _, rfl, rfl, h1, h2, h3⟩
  | _ => simp [kindD] at e
/-- which of the strings the lower levels read -/
def asc (z : Str) : Prop := ∀ c ∈ z.cps.toList, c < 128
end SA

set_option Elab.async false
set_option linter.all false
set_option maxRecDepth 100000
set_option maxHeartbeats 4000000
namespace SA
open PySem PySem.Spec PyProof.Rows L2
/-! ### zip of a list, a tuple or a text with another -/
inductive Sd where
  | lst (a : Addr)
  | tup (a : Addr)
  | txt (x : Str)
def signs (x : Str) : List V := x.cps.toList.map fun c => .str ⟨#[c]⟩
theorem signs_len (x : Str) : (signs x).length = x.cps.size := by simp [signs]
def Sd.v : Sd → V
  | .lst a => .ref a
  | .tup a => .ref a
  | .txt x => .str x
def Sd.has (K : PySem.W.Frag) (H : Hp) : Sd → List V → Prop
  | .lst a, xs => SqL K H a xs
  | .tup a, xs => SqT K H a xs
  | .txt x, xs => xs = signs x
def Sd.src : Sd → Option Addr
  | .lst a => some a
  | .tup a => some a
  | .txt _ => none
def Sd.st (it : Addr) (i : Nat) (h : Heap) : Sd → Prop
  | .lst a => h.IsListIter it a i
  | .tup a => h.IsTupleIter it a i
  | .txt x => ∃ t, h.IsStrIter it (strIterType x) x t i
theorem Sd.st_at {S : Sd} {it : Addr} {i : Nat} {h h' : Heap} (st : S.st it i h) (k : ∀ o, h.get? it = some o → h'.get? it = some o) : S.st it i h' := by
  cases S with
  | lst a => exact Heap.IsListIter.at st k
  | tup a => exact Heap.IsTupleIter.at st k
  | txt x =>
    obtain ⟨t, o, e, r⟩ := st
    exact ⟨t, o, k o e, r⟩
theorem Sd.st_obj {S : Sd} {it : Addr} {i : Nat} {h : Heap} (st : S.st it i h) : ∃ o, h.get? it = some o ∧ ∀ v, o.data ≠ .cell v := by
  cases S with
  | lst a =>
    obtain ⟨o, e, _, d⟩ := st
    exact ⟨o, e, fun v q => by rw [d] at q; cases q⟩
  | tup a =>
    obtain ⟨o, e, _, d⟩ := st
    exact ⟨o, e, fun v q => by rw [d] at q; cases q⟩
  | txt x =>
    obtain ⟨t, o, e, _, d⟩ := st
    exact ⟨o, e, fun v q => by rw [d] at q; cases q⟩
theorem Sd.has_inj {X : Cx} {pins : List (Addr × Obj)} {σ : L2.St} {H : Hp} {s : Shared} (I : Inv X pins σ H s) {S : Sd} {xs ys : List V} (h1 : S.has X.K H xs) (h2 : S.has X.K H ys) : xs = ys := by
  cases S with
  | lst a => exact I.list_inj h1 h2
  | tup a => exact I.tuple_inj h1 h2
  | txt x => exact Eq.trans h1 (Eq.symm h2)
/-- one side of the zip, drawn from -/
theorem Sd.draws {X : Cx} {pins : List (Addr × Obj)} {σ : L2.St} {H : Hp} {s : Shared} (I : Inv X pins σ H s) (hh : X.A.handled = none) {S : Sd} {xs : List V} {it : Addr} {i : Nat} (h : S.has X.K H xs) (st : S.st it i s.heap) (hne : S.src ≠ some it) :
    ∃ (fp : List Addr) (Pt : Nat → Value → Prop) (St : Nat → Heap → Prop), Draws X.prog X.w X.A.in1 it fp xs.length Pt St ∧ St i s.heap ∧ (∀ j u v, Pt j u → xs[j]? = some v → RelV v u) ∧ (∀ j h, St j h → S.st it j h) ∧ it ∈ fp ∧ ∀ c, c ∈ fp → c = it ∨ S.src = some c := by
  cases S with
  | lst a =>
    obtain ⟨its, rv, p, _⟩ := I.list h
    have hn : a ≠ it := fun z => hne (by rw [← z]; rfl)
    have hl := rv.length
    refine ⟨[it, a], fun i v => its.toArray[i]? = some v, fun i h => h.IsListIter it a i ∧ h.IsList a its.toArray, ?_, ⟨st, p.isList⟩, fun j u v hu hv => ?_, fun j h hs => hs.1, by simp, fun c hc => ?_⟩
    · have D := Draws.list (prog := X.prog) (w := X.w) (A := X.A.in1) hh it a hn its.toArray
      rw [List.size_toArray, ← hl] at D
      exact D
    · obtain ⟨u2, hu2, ru⟩ := rv.get hv
      have hu : its.toArray[j]? = some u := hu
      have e : its[j]? = some u := by simpa using hu
      rw [e] at hu2
      rw [Option.some.inj hu2]
      exact ru
    · have hc' : c = it ∨ c = a := by simpa using hc
      exact hc'.imp id fun z => by rw [z]; rfl
  | tup a =>
    obtain ⟨its, rv, p, _⟩ := I.tuple h
    have hn : a ≠ it := fun z => hne (by rw [← z]; rfl)
    have hl := rv.length
    refine ⟨[it, a], fun i v => its.toArray[i]? = some v, fun i h => h.IsTupleIter it a i ∧ h.IsTuple a its.toArray, ?_, ⟨st, p⟩, fun j u v hu hv => ?_, fun j h hs => hs.1, by simp, fun c hc => ?_⟩
    · have D := Draws.tuple (prog := X.prog) (w := X.w) (A := X.A.in1) hh it a hn its.toArray
      rw [List.size_toArray, ← hl] at D
      exact D
    · obtain ⟨u2, hu2, ru⟩ := rv.get hv
      have hu : its.toArray[j]? = some u := hu
      have e : its[j]? = some u := by simpa using hu
      rw [e] at hu2
      rw [Option.some.inj hu2]
      exact ru
    · have hc' : c = it ∨ c = a := by simpa using hc
      exact hc'.imp id fun z => by rw [z]; rfl
  | txt x =>
    obtain ⟨t, st⟩ := st
    obtain rfl : xs = signs x := h
    refine ⟨[it], fun i v => ∃ c u, x.cps[i]? = some c ∧ v = .str ⟨#[c]⟩ u, fun i h => h.IsStrIter it (strIterType x) x t i, ?_, st, fun j u v hu hv => ?_, fun j h hs => ⟨t, hs⟩, by simp, fun c hc => .inl (by simpa using hc)⟩
    · have D := Draws.text (prog := X.prog) (w := X.w) (A := X.A.in1) hh it x t
      rw [← signs_len x] at D
      exact D
    · obtain ⟨c, k, hc, rfl⟩ : ∃ c k, x.cps[j]? = some c ∧ u = .str ⟨#[c]⟩ k := hu
      have e : (signs x)[j]? = some (.str ⟨#[c]⟩) := by
        unfold signs
        rw [List.getElem?_map, Array.getElem?_toList, hc]
        rfl
      rw [e] at hv
      rw [← Option.some.inj hv]
      exact ⟨k, rfl⟩
/-- apart -/
structure Apx (z TI TO i1 i2 : Addr) (S1 S2 : Sd) : Prop where
  TIz : TI ≠ z
  TOz : TO ≠ z
  i1z : i1 ≠ z
  i2z : i2 ≠ z
  TITO : TI ≠ TO
  TIi1 : TI ≠ i1
  TIi2 : TI ≠ i2
  TOi1 : TO ≠ i1
  TOi2 : TO ≠ i2
  i12 : i1 ≠ i2
  s1 : ∀ a, S1.src = some a → a ≠ z ∧ a ≠ TO ∧ a ≠ i1 ∧ a ≠ i2
  s2 : ∀ a, S2.src = some a → a ≠ z ∧ a ≠ TO ∧ a ≠ i1 ∧ a ≠ i2
theorem Apx.sep {z TI TO i1 i2 : Addr} {S1 S2 : Sd} (D : Apx z TI TO i1 i2 S1 S2) {fp1 fp2 : List Addr} (m1 : i1 ∈ fp1) (m2 : i2 ∈ fp2) (k1 : ∀ c, c ∈ fp1 → c = i1 ∨ S1.src = some c) (k2 : ∀ c, c ∈ fp2 → c = i2 ∨ S2.src = some c) : ZipSep2 z TI TO i1 i2 fp1 fp2 where
  TIz := D.TIz
  TOz := D.TOz
  TITO := D.TITO
  TIi1 := D.TIi1
  mem1 := m1
  zf1 := fun h => (k1 _ h).elim (fun e => D.i1z e.symm) fun e => (D.s1 _ e).1 rfl
  Tf1 := fun h => (k1 _ h).elim (fun e => D.TOi1 e) fun e => (D.s1 _ e).2.1 rfl
  TIi2 := D.TIi2
  mem2 := m2
  zf2 := fun h => (k2 _ h).elim (fun e => D.i2z e.symm) fun e => (D.s2 _ e).1 rfl
  Tf2 := fun h => (k2 _ h).elim (fun e => D.TOi2 e) fun e => (D.s2 _ e).2.1 rfl
  sep1_2 := fun h => (k2 _ h).elim (fun e => D.i12 e) fun e => (D.s2 _ e).2.2.1 rfl
  sep2_1 := fun h => (k1 _ h).elim (fun e => D.i12 e.symm) fun e => (D.s1 _ e).2.2.2 rfl
def Itx (K : PySem.W.Frag) (S1 S2 : Sd) : It :=
  ⟨fun i H => ∃ (xs ys : List V) (x y : V), S1.has K H xs ∧ S2.has K H ys ∧ xs[i]? = some x ∧ ys[i]? = some y,
    fun i H v H' => ∃ T x y, v = .ref T ∧ H T = none ∧ H' = upd H T (.tup [x, y]) ∧ (∀ xs, S1.has K H xs → xs[i]? = some x) ∧ ∀ ys, S2.has K H ys → ys[i]? = some y,
    fun i H => ∃ xs ys : List V, S1.has K H xs ∧ S2.has K H ys ∧ i ≤ xs.length ∧ i ≤ ys.length ∧ (i = xs.length ∨ i = ys.length)⟩
theorem turn_zipX {P : Program} {w : World} {K : PySem.W.Frag} {elts : List Expr} {kk : Nat} {tpos : Pos} {S1 S2 : Sd} {z TI TO i1 i2 : Addr} (D : Apx z TI TO i1 i2 S1 S2) :
    Turn P w K (.Tuple elts kk tpos) (Itx K S1 S2) [z, TI, TO, i1, i2] z (fun i h => IsZip h z TI TO .none ∧ IsPair h TI (.ref i1) (.ref i2) ∧ (∃ x y, IsPair h TO x y) ∧ S1.st i1 i h ∧ S2.st i2 i h) where
  mem := by simp
  obj := fun i h st c hc => by
    obtain ⟨hz, hTI, ⟨x, y, hTO⟩, h1, h2⟩ := st
    have e' : c = z ∨ c = TI ∨ c = TO ∨ c = i1 ∨ c = i2 := by simpa using hc
    rcases e' with q | q | q | q | q
    · rw [q]; exact ⟨_, hz, fun v q => nomatch q⟩
    · rw [q]; exact ⟨_, hTI, fun v q => nomatch q⟩
    · rw [q]; exact ⟨_, hTO, fun v q => nomatch q⟩
    · rw [q]; exact Sd.st_obj h1
    · rw [q]; exact Sd.st_obj h2
  keep := fun i h h' st k => by
    obtain ⟨hz, hTI, ⟨x, y, hTO⟩, h1, h2⟩ := st
    exact ⟨k z (by simp) _ hz, k TI (by simp) _ hTI, ⟨x, y, k TO (by simp) _ hTO⟩, Sd.st_at h1 fun o q => k i1 (by simp) o q, Sd.st_at h2 fun o q => k i2 (by simp) o q⟩
  item := by
    intro X hP hw hK hc i pins s σ H E I hf st hg
    subst hP hw hK
    obtain ⟨hz, hTI, ⟨x0, y0, hTO⟩, h1, h2⟩ := st
    obtain ⟨xs, ys, x, y, hqx, hqy, hx, hy⟩ := hg
    obtain ⟨fp1, P1, St1, D1, t1, r1, b1, m1, k1⟩ := Sd.draws I (I.ok.hd hc) hqx h1 fun e => (D.s1 _ e).2.2.1 rfl
    obtain ⟨fp2, P2, St2, D2, t2, r2, b2, m2, k2⟩ := Sd.draws I (I.ok.hd hc) hqy h2 fun e => (D.s2 _ e).2.2.2 rfl
    have hzl : z < s.heap.objs.size := Heap.lt_size hz
    have lx : i < xs.length := (List.getElem?_eq_some_iff.mp hx).1
    have ly : i < ys.length := (List.getElem?_eq_some_iff.mp hy).1
    refine wpAny_pyNext_zipD2_item (D.sep m1 m2 k1 k2) D1 D2 hz hTI hTO t1 t2 lx ly fun u u2 h' tk p1 p2 z' TO' h1' h2' hT hsz hk => ?_
    have ru := r1 _ _ _ p1 hx
    have ru2 := r2 _ _ _ p2 hy
    have h1' := b1 _ _ h1'
    have h2' := b2 _ _ h2'
    refine ⟨_, rfl, wpAny_letOwnedTupleGo_zip (s := { s with heap := h', toks := tk }) z' fun h'' z'' sb => ?_⟩
    have hT2 : h''.get? s.heap.objs.size = some { cls := .type "tuple", data := .seq #[u, u2] } := (sb.2 _ (Nat.ne_of_gt hzl)).trans hT
    have new : ObjOk X.prog X.w (upd H s.heap.objs.size (.tup [x, y])) h'' s.heap.objs.size (.tup [x, y]) :=
      ⟨by show 2 ≤ sizeLine; decide, [u, u2], .cons ru (.cons ru2 .nil), ⟨_, hT2, rfl, _, rfl⟩⟩
    have I1 : Inv X pins σ (upd H s.heap.objs.size (.tup [x, y])) { s with heap := h'', toks := tk } :=
      I.turnedNew (t' := tk) (ch := [z, TI, TO, i1, i2]) (fun c o hb q => (sb.2 c (fun q' => hb (by simp [q']))).trans (hk c o (fun q' => hb (by simp [q'])) (fun q' => hb (by simp [q'])) (fun q' => hb (by simp [q'])) (fun q' => hb (by simp [q'])) q)) hf (Nat.le_refl _) new
    have l1 : i1 < s.heap.objs.size := by
      obtain ⟨o, e, _⟩ := Sd.st_obj h1
      exact Heap.lt_size e
    have l2 : i2 < s.heap.objs.size := by
      obtain ⟨o, e, _⟩ := Sd.st_obj h2
      exact Heap.lt_size e
    refine ⟨.ref s.heap.objs.size, _, I1, rfl, ⟨_, x, y, rfl, I.hok.fresh (Nat.le_refl _), rfl, fun l hl => by rw [Sd.has_inj I hl hqx]; exact hx, fun l hl => by rw [Sd.has_inj I hl hqy]; exact hy⟩, ⟨z'', ?_, ⟨u, u2, ?_⟩, ?_, ?_⟩, fun c hcm => ?_⟩
    · exact (sb.2 _ D.TIz).trans (hk _ _ D.TIz D.TITO D.TIi1 D.TIi2 hTI)
    · exact (sb.2 _ D.TOz).trans TO'
    · exact Sd.st_at h1' fun o q => (sb.2 _ D.i1z).trans q
    · exact Sd.st_at h2' fun o q => (sb.2 _ D.i2z).trans q
    · have hlt : c < s.heap.objs.size := by
        have e' : c = z ∨ c = TI ∨ c = TO ∨ c = i1 ∨ c = i2 := by simpa using hcm
        rcases e' with q | q | q | q | q
        · rw [q]; exact hzl
        · rw [q]; exact Heap.lt_size hTI
        · rw [q]; exact Heap.lt_size hTO
        · rw [q]; exact l1
        · rw [q]; exact l2
      rw [upd_ne (Nat.ne_of_lt hlt)]
      exact (hf c hcm).1
  done := by
    intro X hP hw hK hc i pins s σ H E I hf st hg
    subst hP hw hK
    obtain ⟨hz, hTI, ⟨x0, y0, hTO⟩, h1, h2⟩ := st
    obtain ⟨xs, ys, hqx, hqy, hl1, hl2, hend⟩ := hg
    obtain ⟨fp1, P1, St1, D1, t1, r1, b1, m1, k1⟩ := Sd.draws I (I.ok.hd hc) hqx h1 fun e => (D.s1 _ e).2.2.1 rfl
    obtain ⟨fp2, P2, St2, D2, t2, r2, b2, m2, k2⟩ := Sd.draws I (I.ok.hd hc) hqy h2 fun e => (D.s2 _ e).2.2.2 rfl
    exact wpAny_pyNext_zipD2_end (D.sep m1 m2 k1 k2) D1 D2 hz hTI hTO t1 t2 hl1 hl2 hend fun h' tk hk => ⟨rfl, I.turnedL (t' := tk) (ch := [z, TI, TO, i1, i2]) (fun c o hb q =>
      hk c o (fun q' => hb (by simp [q'])) (fun q' => hb (by simp [q'])) (fun q' => hb (by simp [q'])) (fun q' => hb (by simp [q'])) q) hf⟩
  self := fun A i s Q E st h => wpAny_pyIter_zip st.1 h
/-- a side's iterator begins -/
theorem Sd.begins {X : Cx} {pins : List (Addr × Obj)} {σ : L2.St} {H : Hp} {s : Shared} (I : Inv X pins σ H s) {S : Sd} {xs : List V} {u : Value} (h : S.has X.K H xs) (r : RelV S.v u) :
    ∃ (o : Obj) (B : Heap → Prop), Begins u o B ∧ B s.heap ∧ (∀ it h, h.get? it = some o → S.st it 0 h) ∧ ∀ a, S.src = some a → a < s.heap.objs.size := by
  cases S with
  | lst a =>
    obtain rfl : u = .ref a := r
    obtain ⟨its, rv, p, _⟩ := I.list h
    refine ⟨_, _, begins_list a its.toArray, p.isList, fun it h e => ⟨_, e, rfl, rfl⟩, fun b e => ?_⟩
    rw [← Option.some.inj e]
    exact p.lt
  | tup a =>
    obtain rfl : u = .ref a := r
    obtain ⟨its, rv, p, _⟩ := I.tuple h
    refine ⟨_, _, begins_tuple a its.toArray, p, fun it h e => ⟨_, e, rfl, rfl⟩, fun b e => ?_⟩
    rw [← Option.some.inj e]
    obtain ⟨_, e2, _⟩ := p
    exact Heap.lt_size e2
  | txt x =>
    obtain ⟨t, rfl⟩ := r
    exact ⟨_, _, begins_text x t, trivial, fun it h e => ⟨t, _, e, rfl, rfl⟩, fun b e => by cases e⟩
def iZipX (K : PySem.W.Frag) (ta : TA) : TI := fun σ H R => ta σ H fun vs H1 => ∃ (S1 S2 : Sd) (xs ys : List V), vs = [S1.v, S2.v] ∧ S1.has K H1 xs ∧ S2.has K H1 ys ∧ R (Itx K S1 S2) H1
theorem pi_zipX {X : Cx} {e e2 : Expr} {ta : TA} {p pos tpos : Pos} {elts : List Expr} {kk : Nat} (hg : Gl X "zip") (hm : X.mg "zip" = none) (ha : PA X [e, e2] ta)
    (hs : starEach [e, e2] X.env = (false, eval e X.env) :: starEach [e2] X.env := by rfl) (hpl : (backTo pos (starEach [e2] X.env)).any (·.1) = false := by rfl) :
    PI X (.Tuple elts kk tpos) (.Call (.Name "zip" p) [e, e2] [] pos) (iZipX X.K ta) := by
  refine ⟨fun pins s σ H R I h => ?_⟩
  refine Call_ (ld_blt I hg hm PyProof.Rows.boot_zip (PyProof.Rows.callWith_type1 (thn (ha.run pos pins s σ H _ I h) fun us s1 ⟨vs, H1, I1, r1, q1⟩ => ?_) hs hpl))
  obtain ⟨S1, S2, xs, ys, ex, hqx, hqy, q⟩ := q1
  subst ex
  cases r1 with
  | cons r rr =>
    cases rr with
    | cons r' rr =>
      cases rr
      obtain ⟨o1, B1, b1, c1, d1, s1l⟩ := Sd.begins I1 hqx r
      obtain ⟨o2, B2, b2, c2, d2, s2l⟩ := Sd.begins I1 hqy r'
      refine zip_begins2 b1 b2 c1 c2 fun h' hz hTI hTO h1 h2 hsz hk => wpAny_pyIter_zip hz ?_
      have I2 : Inv X pins σ H1 { s1 with heap := h' } := I1.kept (t' := s1.toks) hk
      refine ⟨s1.heap.objs.size + 4, [s1.heap.objs.size + 4, s1.heap.objs.size + 2, s1.heap.objs.size + 3, s1.heap.objs.size, s1.heap.objs.size + 1], _, _, H1, rfl, I2, turn_zipX ?_, ⟨hz, hTI, ⟨_, _, hTO⟩, d1 _ _ h1, d2 _ _ h2⟩, fun c hcm => ?_, q⟩
      · have n : ∀ {a b : Nat}, a ≠ b → (s1.heap.objs.size + a : Addr) ≠ s1.heap.objs.size + b := fun h e => h (Nat.add_left_cancel e)
        have n0 : ∀ {b : Nat}, 0 ≠ b → (s1.heap.objs.size : Addr) ≠ s1.heap.objs.size + b := fun h e => by
          have : s1.heap.objs.size = s1.heap.objs.size + _ := e
          omega
        exact ⟨n (by decide), n (by decide), n0 (by decide), n (by decide), n (by decide), (n0 (by decide)).symm, n (by decide), (n0 (by decide)).symm, n (by decide), n0 (by decide),
          fun a e => ⟨Nat.ne_of_lt (Nat.lt_of_lt_of_le (s1l a e) (Nat.le_add_right _ _)), Nat.ne_of_lt (Nat.lt_of_lt_of_le (s1l a e) (Nat.le_add_right _ _)), Nat.ne_of_lt (s1l a e), Nat.ne_of_lt (Nat.lt_of_lt_of_le (s1l a e) (Nat.le_add_right _ _))⟩,
          fun a e => ⟨Nat.ne_of_lt (Nat.lt_of_lt_of_le (s2l a e) (Nat.le_add_right _ _)), Nat.ne_of_lt (Nat.lt_of_lt_of_le (s2l a e) (Nat.le_add_right _ _)), Nat.ne_of_lt (s2l a e), Nat.ne_of_lt (Nat.lt_of_lt_of_le (s2l a e) (Nat.le_add_right _ _))⟩⟩
      · have e' : c = s1.heap.objs.size + 4 ∨ c = s1.heap.objs.size + 2 ∨ c = s1.heap.objs.size + 3 ∨ c = s1.heap.objs.size ∨ c = s1.heap.objs.size + 1 := by simpa using hcm
        have hle : s1.heap.objs.size ≤ c := by
          rcases e' with z | z | z | z | z
          · rw [z]; exact Nat.le_add_right _ _
          · rw [z]; exact Nat.le_add_right _ _
          · rw [z]; exact Nat.le_add_right _ _
          · rw [z]; exact Nat.le_refl _
          · rw [z]; exact Nat.le_add_right _ _
        exact I1.fpOk hle (I1.hok.fresh hle)
theorem walk_zipX {K : PySem.W.Frag} {S1 S2 : Sd} {xs ys : List V} {n : Nat} (hn : n = min xs.length ys.length) : Walk (Itx K S1 S2) n (fun H => S1.has K H xs ∧ S2.has K H ys) (YPair (fun i => xs[i]?) (fun i => ys[i]?)) := by
  subst hn
  refine ⟨fun i _ hi q => ?_, fun _ q => ⟨xs, ys, q.1, q.2, by omega, by omega, by omega⟩, fun i H v H' _ q y => ?_⟩
  · have h1 : i < xs.length := by omega
    have h2 : i < ys.length := by omega
    exact ⟨xs, ys, xs[i], ys[i], q.1, q.2, by simp [h1], by simp [h2]⟩
  · obtain ⟨T, x, z, h1, h2, h3, h4, h5⟩ := y
    exact ⟨T, x, z, h1, h2, h3, h4 xs q.1, h5 ys q.2⟩
end SA

set_option Elab.async false
set_option linter.all false
set_option maxRecDepth 100000
set_option maxHeartbeats 4000000
namespace SA
open PySem PySem.Spec PyProof.Rows L2
/-! ### a dict of the top, as data -/
structure GDt (K : PySem.W.Frag) (w : World) (d : Addr) (kvs : List (Str × V)) : Prop where
  D : ∃ es n, KDict K w d es n
  no : ∀ z, kvs.lookup z = none → PySem.W.nsIn K d z = some none
  yes : ∀ z v, kvs.lookup z = some v → ∃ u, PySem.W.nsIn K d z = some (some u) ∧ RelV v u
theorem GDt.kd {K : PySem.W.Frag} {w : World} {d : Addr} {kvs : List (Str × V)} (G : GDt K w d kvs) {z : Str} {v : V} (h : kvs.lookup z = some v) : KDct K w d z v := by
  obtain ⟨es, n, D⟩ := G.D
  obtain ⟨u, e, r⟩ := G.yes z v h
  exact ⟨es, n, u, D.at_, D.lit, e, r⟩
theorem GDt.is {K : PySem.W.Frag} {w : World} {d : Addr} {kvs : List (Str × V)} (G : GDt K w d kvs) (z : Str) : ∃ r, PySem.W.nsIn K d z = some r ∧ r.isSome = (kvs.lookup z).isSome := by
  match h : kvs.lookup z with
  | none => exact ⟨none, G.no z h, rfl⟩
  | some v =>
    obtain ⟨u, e, _⟩ := G.yes z v h
    exact ⟨_, e, rfl⟩
theorem keyOf_none {P : Params} {z : Str} : ∀ {l : List DictEntry} {ks : List Str}, l.map He.keyOf = He.keysIn P ks → z ∉ ks → l.find? (·.key.isStr z) = none ∧ l.any (·.refKey) = false
  | [], _, _, _ => ⟨rfl, rfl⟩
  | e :: r, [], h, _ => by cases h
  | e :: r, k :: ks, h, hz => by
    have h1 : He.keyOf e :: r.map He.keyOf = some (k, PyData.keyHash P k) :: He.keysIn P ks := h
    injection h1 with h2 h3
    obtain ⟨i1, i2⟩ := keyOf_none (z := z) h3 fun m => hz (List.mem_cons_of_mem _ m)
    have hk : ∃ t, e.key = .str k t := by
      unfold He.keyOf at h2
      split at h2
      · rename_i x t q
        have h4 := Option.some.inj h2
        obtain ⟨h5, _⟩ := Prod.mk.inj h4
        exact ⟨t, by rw [q, h5]⟩
      · cases h2
    obtain ⟨t, hk⟩ := hk
    have n1 : e.key.isStr z = false := by
      rw [hk]
      show (k == z) = false
      rw [beq_eq_false_iff_ne]
      intro q
      exact hz (by rw [← q]; exact List.mem_cons_self)
    have n2 : e.refKey = false := by
      show e.key.isRef = false
      rw [hk]
      rfl
    rw [List.find?_cons, n1, List.any_cons, n2, i1, i2]
    exact ⟨rfl, rfl⟩
theorem gdt_of {K : PySem.W.Frag} {w : World} {d : Addr} {kvs : List (Str × He.Dv)} (h1 : He.dicW K d = some (He.keysIn w.params (kvs.map Prod.fst))) (h2 : He.valsB K d kvs = true) : GDt K w d (kvs.map fun q => (q.1, q.2.v K)) where
  D := He.dicW_ok h1
  no := fun z hz => by
    obtain ⟨es, n, D⟩ := He.dicW_ok h1
    have hz2 : z ∉ kvs.map Prod.fst := by
      intro m
      clear h1 h2 D
      induction kvs with
      | nil => cases m
      | cons q r ih =>
        rw [List.map_cons, List.lookup_cons] at hz
        rw [List.map_cons, List.mem_cons] at m
        split at hz
        · cases hz
        · rename_i e
          rcases m with rfl | m
          · simp at e
          · exact ih hz m
    unfold He.dicW at h1
    rw [D.at_] at h1
    have e : es.toList.map He.keyOf = He.keysIn w.params (kvs.map Prod.fst) := by
      have h3 : (match decide (("dict" : String) = "dict") && ((#[] : Array (Option Value)).isEmpty && !(d == sysModules)) with
        | true => some (es.toList.map He.keyOf)
        | false => none) = some (He.keysIn w.params (kvs.map Prod.fst)) := h1
      rw [D.low] at h3
      exact Option.some.inj h3
    obtain ⟨a, b⟩ := keyOf_none e hz2
    unfold PySem.W.nsIn
    rw [D.at_]
    show (match es.toList.find? (·.key.isStr z) with | some e => some (some e.val) | none => if es.toList.any (·.refKey) then none else some none) = some none
    rw [a, b]
    rfl
  yes := fun z v hz => by
    have hm : ∃ q ∈ kvs, q.1 = z ∧ q.2.v K = v := by
      clear h1 h2
      induction kvs with
      | nil => cases hz
      | cons q r ih =>
        rw [List.map_cons, List.lookup_cons] at hz
        split at hz
        · rename_i e
          exact ⟨q, List.mem_cons_self, (eq_of_beq e).symm, Option.some.inj hz⟩
        · obtain ⟨q2, m, e⟩ := ih hz
          exact ⟨q2, List.mem_cons_of_mem _ m, e⟩
    obtain ⟨q, m, rfl, rfl⟩ := hm
    exact He.valsB_ok h2 m
end SA

set_option Elab.async false
set_option linter.all false
set_option maxRecDepth 100000
set_option maxHeartbeats 4000000
namespace SA
open PySem PySem.Spec PyProof.Rows L2
def topS (i : Nat) : Stmt := PySem.Challenge.pw_stopanywhere_k84_bits_read_or_refused.main.body.getD i (.Pass ⟨0, 0, 0, 0⟩)
def clsB : Stmt → List Stmt
  | .ClassDef _ _ _ b .. => b
  | _ => []
def inClass (s : Stmt) (i : Nat) : Stmt := (clsB s).getD i (.Pass ⟨0, 0, 0, 0⟩)
abbrev s_is_number : Stmt := topS 1
abbrev n_is_number : List Str := ["thing"]
theorem sc_is_number : FnScope n_is_number ["thing"] (defScope s_is_number) := ⟨rfl, rfl, rfl, by decide +kernel, rfl, by decide +kernel, by decide +kernel⟩
abbrev s_is_number_between : Stmt := topS 2
abbrev n_is_number_between : List Str := ["thing", "low", "high"]
theorem sc_is_number_between : FnScope n_is_number_between ["thing", "low", "high"] (defScope s_is_number_between) := ⟨rfl, rfl, rfl, by decide +kernel, rfl, by decide +kernel, by decide +kernel⟩
abbrev s_is_tuple_of : Stmt := topS 3
abbrev n_is_tuple_of : List Str := ["thing", "many"]
theorem sc_is_tuple_of : FnScope n_is_tuple_of ["thing", "many"] (defScope s_is_tuple_of) := ⟨rfl, rfl, rfl, by decide +kernel, rfl, by decide +kernel, by decide +kernel⟩
abbrev s_is_list : Stmt := topS 4
abbrev n_is_list : List Str := ["thing"]
theorem sc_is_list : FnScope n_is_list ["thing"] (defScope s_is_list) := ⟨rfl, rfl, rfl, by decide +kernel, rfl, by decide +kernel, by decide +kernel⟩
abbrev s_BadBits___init__ : Stmt := inClass (topS 8) 0
abbrev n_BadBits___init__ : List Str := ["self", "at"]
theorem sc_BadBits___init__ : FnScope n_BadBits___init__ ["self", "at"] (defScope s_BadBits___init__) := ⟨rfl, rfl, rfl, by decide +kernel, rfl, by decide +kernel, by decide +kernel⟩
abbrev s_BadInstruction___init__ : Stmt := inClass (topS 9) 0
abbrev n_BadInstruction___init__ : List Str := ["self", "at"]
theorem sc_BadInstruction___init__ : FnScope n_BadInstruction___init__ ["self", "at"] (defScope s_BadInstruction___init__) := ⟨rfl, rfl, rfl, by decide +kernel, rfl, by decide +kernel, by decide +kernel⟩
abbrev s_is_name : Stmt := topS 14
abbrev n_is_name : List Str := ["thing", "letter"]
theorem sc_is_name : FnScope n_is_name ["thing"] (defScope s_is_name) := ⟨rfl, rfl, rfl, by decide +kernel, rfl, by decide +kernel, by decide +kernel⟩
abbrev s_is_place : Stmt := topS 17
abbrev n_is_place : List Str := ["thing", "figures"]
theorem sc_is_place : FnScope n_is_place ["thing"] (defScope s_is_place) := ⟨rfl, rfl, rfl, by decide +kernel, rfl, by decide +kernel, by decide +kernel⟩
abbrev s_place_number : Stmt := topS 18
abbrev n_place_number : List Str := ["place"]
theorem sc_place_number : FnScope n_place_number ["place"] (defScope s_place_number) := ⟨rfl, rfl, rfl, by decide +kernel, rfl, by decide +kernel, by decide +kernel⟩
abbrev s_is_bit_string : Stmt := topS 25
abbrev n_is_bit_string : List Str := ["thing"]
theorem sc_is_bit_string : FnScope n_is_bit_string ["thing"] (defScope s_is_bit_string) := ⟨rfl, rfl, rfl, by decide +kernel, rfl, by decide +kernel, by decide +kernel⟩
abbrev s_bits_of_count : Stmt := topS 26
abbrev n_bits_of_count : List Str := ["number", "written"]
theorem sc_bits_of_count : FnScope n_bits_of_count ["number"] (defScope s_bits_of_count) := ⟨rfl, rfl, rfl, by decide +kernel, rfl, by decide +kernel, by decide +kernel⟩
abbrev s_bits_of_number : Stmt := topS 27
abbrev n_bits_of_number : List Str := ["number"]
theorem sc_bits_of_number : FnScope n_bits_of_number ["number"] (defScope s_bits_of_number) := ⟨rfl, rfl, rfl, by decide +kernel, rfl, by decide +kernel, by decide +kernel⟩
abbrev s_digits : Stmt := topS 28
abbrev n_digits : List Str := ["number", "many"]
theorem sc_digits : FnScope n_digits ["number", "many"] (defScope s_digits) := ⟨rfl, rfl, rfl, by decide +kernel, rfl, by decide +kernel, by decide +kernel⟩
abbrev s_count_at : Stmt := topS 29
abbrev n_count_at : List Str := ["bits", "at", "first", "behind"]
theorem sc_count_at : FnScope n_count_at ["bits", "at"] (defScope s_count_at) := ⟨rfl, rfl, rfl, by decide +kernel, rfl, by decide +kernel, by decide +kernel⟩
abbrev s_number_at : Stmt := topS 30
abbrev n_number_at : List Str := ["bits", "at", "told", "count", "behind"]
theorem sc_number_at : FnScope n_number_at ["bits", "at"] (defScope s_number_at) := ⟨rfl, rfl, rfl, by decide +kernel, rfl, by decide +kernel, by decide +kernel⟩
abbrev s_has_instruction_form : Stmt := topS 31
abbrev n_has_instruction_form : List Str := ["registers", "thing", "letters", "part", "letter"]
theorem sc_has_instruction_form : FnScope n_has_instruction_form ["registers", "thing"] (defScope s_has_instruction_form) := ⟨rfl, rfl, rfl, by decide +kernel, rfl, by decide +kernel, by decide +kernel⟩
abbrev s__is_register : Stmt := topS 32
abbrev n__is_register : List Str := ["registers", "thing"]
theorem sc__is_register : FnScope n__is_register ["registers", "thing"] (defScope s__is_register) := ⟨rfl, rfl, rfl, by decide +kernel, rfl, by decide +kernel, by decide +kernel⟩
abbrev s__are_copied : Stmt := topS 33
abbrev n__are_copied : List Str := ["registers", "places", "is_slot", "place", "slot"]
theorem sc__are_copied : FnScope n__are_copied ["registers", "places"] (defScope s__are_copied) := ⟨rfl, rfl, rfl, by decide +kernel, rfl, by decide +kernel, by decide +kernel⟩
abbrev s__has_part_form : Stmt := topS 34
abbrev n__has_part_form : List Str := ["registers", "part", "letter", "place"]
theorem sc__has_part_form : FnScope n__has_part_form ["registers", "part", "letter"] (defScope s__has_part_form) := ⟨rfl, rfl, rfl, by decide +kernel, rfl, by decide +kernel, by decide +kernel⟩
abbrev s__is_leap : Stmt := topS 35
abbrev n__is_leap : List Str := ["thing", "half"]
theorem sc__is_leap : FnScope n__is_leap ["thing"] (defScope s__is_leap) := ⟨rfl, rfl, rfl, by decide +kernel, rfl, by decide +kernel, by decide +kernel⟩
abbrev s__half_of : Stmt := topS 36
abbrev n__half_of : List Str := ["word"]
theorem sc__half_of : FnScope n__half_of ["word"] (defScope s__half_of) := ⟨rfl, rfl, rfl, by decide +kernel, rfl, by decide +kernel, by decide +kernel⟩
abbrev s_bits_of_instruction : Stmt := topS 37
abbrev n_bits_of_instruction : List Str := ["told", "word", "found", "place", "part", "letter"]
theorem sc_bits_of_instruction : FnScope n_bits_of_instruction ["told"] (defScope s_bits_of_instruction) := ⟨rfl, rfl, rfl, by decide +kernel, rfl, by decide +kernel, by decide +kernel⟩
abbrev s__copied_bits : Stmt := topS 38
abbrev n__copied_bits : List Str := ["place"]
theorem sc__copied_bits : FnScope n__copied_bits ["place"] (defScope s__copied_bits) := ⟨rfl, rfl, rfl, by decide +kernel, rfl, by decide +kernel, by decide +kernel⟩
abbrev s__register_bits : Stmt := topS 39
abbrev n__register_bits : List Str := ["place"]
theorem sc__register_bits : FnScope n__register_bits ["place"] (defScope s__register_bits) := ⟨rfl, rfl, rfl, by decide +kernel, rfl, by decide +kernel, by decide +kernel⟩
abbrev s__part_bits : Stmt := topS 40
abbrev n__part_bits : List Str := ["part", "letter", "word", "distance", "many", "sign", "place"]
theorem sc__part_bits : FnScope n__part_bits ["part", "letter"] (defScope s__part_bits) := ⟨rfl, rfl, rfl, by decide +kernel, rfl, by decide +kernel, by decide +kernel⟩
abbrev s_read_instruction : Stmt := topS 41
abbrev n_read_instruction : List Str := ["registers", "bits", "at", "told", "number", "behind", "word", "found", "letters", "letter", "reader", "part", "whole"]
theorem sc_read_instruction : FnScope n_read_instruction ["registers", "bits", "at"] (defScope s_read_instruction) := ⟨rfl, rfl, rfl, by decide +kernel, rfl, by decide +kernel, by decide +kernel⟩
abbrev s__digits_at : Stmt := topS 42
abbrev n__digits_at : List Str := ["bits", "at", "many"]
theorem sc__digits_at : FnScope n__digits_at ["bits", "at", "many"] (defScope s__digits_at) := ⟨rfl, rfl, rfl, by decide +kernel, rfl, by decide +kernel, by decide +kernel⟩
abbrev s__register_at : Stmt := topS 43
abbrev n__register_at : List Str := ["bits", "at", "told"]
theorem sc__register_at : FnScope n__register_at ["bits", "at"] (defScope s__register_at) := ⟨rfl, rfl, rfl, by decide +kernel, rfl, by decide +kernel, by decide +kernel⟩
abbrev s__copied_at : Stmt := topS 44
abbrev n__copied_at : List Str := ["bits", "at", "told"]
theorem sc__copied_at : FnScope n__copied_at ["bits", "at"] (defScope s__copied_at) := ⟨rfl, rfl, rfl, by decide +kernel, rfl, by decide +kernel, by decide +kernel⟩
abbrev s__name_at : Stmt := topS 45
abbrev n__name_at : List Str := ["bits", "at", "name", "told"]
theorem sc__name_at : FnScope n__name_at ["bits", "at"] (defScope s__name_at) := ⟨rfl, rfl, rfl, by decide +kernel, rfl, by decide +kernel, by decide +kernel⟩
abbrev s__part_number_at : Stmt := topS 46
abbrev n__part_number_at : List Str := ["bits", "at"]
theorem sc__part_number_at : FnScope n__part_number_at ["bits", "at"] (defScope s__part_number_at) := ⟨rfl, rfl, rfl, by decide +kernel, rfl, by decide +kernel, by decide +kernel⟩
abbrev s__registers_at : Stmt := topS 47
abbrev n__registers_at : List Str := ["bits", "at", "told", "many", "behind", "places", "index", "place", "_"]
theorem sc__registers_at : FnScope n__registers_at ["bits", "at"] (defScope s__registers_at) := ⟨rfl, rfl, rfl, by decide +kernel, rfl, by decide +kernel, by decide +kernel⟩
abbrev s__leap_at : Stmt := topS 48
abbrev n__leap_at : List Str := ["bits", "at", "word", "told", "distance", "behind", "half"]
theorem sc__leap_at : FnScope n__leap_at ["bits", "at"] (defScope s__leap_at) := ⟨rfl, rfl, rfl, by decide +kernel, rfl, by decide +kernel, by decide +kernel⟩
abbrev s__check_bits : Stmt := topS 51
abbrev n__check_bits : List Str := ["bits"]
theorem sc__check_bits : FnScope n__check_bits ["bits"] (defScope s__check_bits) := ⟨rfl, rfl, rfl, by decide +kernel, rfl, by decide +kernel, by decide +kernel⟩
abbrev s__check_registers : Stmt := topS 52
abbrev n__check_registers : List Str := ["registers"]
theorem sc__check_registers : FnScope n__check_registers ["registers"] (defScope s__check_registers) := ⟨rfl, rfl, rfl, by decide +kernel, rfl, by decide +kernel, by decide +kernel⟩
abbrev s_bits_of : Stmt := topS 53
abbrev n_bits_of : List Str := ["registers", "instructions", "at", "told"]
theorem sc_bits_of : FnScope n_bits_of ["registers", "instructions"] (defScope s_bits_of) := ⟨rfl, rfl, rfl, by decide +kernel, rfl, by decide +kernel, by decide +kernel⟩
abbrev s_read_bits : Stmt := topS 54
abbrev n_read_bits : List Str := ["registers", "bits", "found", "at", "told"]
theorem sc_read_bits : FnScope n_read_bits ["registers", "bits"] (defScope s_read_bits) := ⟨rfl, rfl, rfl, by decide +kernel, rfl, by decide +kernel, by decide +kernel⟩
abbrev s_instruction_at : Stmt := topS 55
abbrev n_instruction_at : List Str := ["registers", "bits", "address", "found"]
theorem sc_instruction_at : FnScope n_instruction_at ["registers", "bits", "address"] (defScope s_instruction_at) := ⟨rfl, rfl, rfl, by decide +kernel, rfl, by decide +kernel, by decide +kernel⟩
abbrev s__law_begun : Stmt := topS 57
abbrev n__law_begun : List Str := ["script", "wide", "cell"]
theorem sc__law_begun : FnScope n__law_begun ["script"] (defScope s__law_begun) := ⟨rfl, rfl, rfl, by decide +kernel, rfl, by decide +kernel, by decide +kernel⟩
abbrev s__law_mixed : Stmt := topS 58
abbrev n__law_mixed : List Str := ["draw", "turn", "found", "prime", "blend", "cell"]
theorem sc__law_mixed : FnScope n__law_mixed ["draw"] (defScope s__law_mixed) := ⟨rfl, rfl, rfl, by decide +kernel, rfl, by decide +kernel, by decide +kernel⟩
abbrev s__law_take : Stmt := topS 59
abbrev n__law_take : List Str := ["draw", "many", "found"]
theorem sc__law_take : FnScope n__law_take ["draw", "many"] (defScope s__law_take) := ⟨rfl, rfl, rfl, by decide +kernel, rfl, by decide +kernel, by decide +kernel⟩
abbrev s__law_pick : Stmt := topS 60
abbrev n__law_pick : List Str := ["draw", "some"]
theorem sc__law_pick : FnScope n__law_pick ["draw", "some"] (defScope s__law_pick) := ⟨rfl, rfl, rfl, by decide +kernel, rfl, by decide +kernel, by decide +kernel⟩
abbrev s__law_names : Stmt := topS 61
abbrev n__law_names : List Str := ["draw", "many", "letters", "found", "turn", "word", "k"]
theorem sc__law_names : FnScope n__law_names ["draw", "many"] (defScope s__law_names) := ⟨rfl, rfl, rfl, by decide +kernel, rfl, by decide +kernel, by decide +kernel⟩
abbrev s__law_figure : Stmt := topS 62
abbrev n__law_figure : List Str := ["draw", "way"]
theorem sc__law_figure : FnScope n__law_figure ["draw"] (defScope s__law_figure) := ⟨rfl, rfl, rfl, by decide +kernel, rfl, by decide +kernel, by decide +kernel⟩
abbrev s__law_digits : Stmt := topS 63
abbrev n__law_digits : List Str := ["number", "many", "found", "left", "k"]
theorem sc__law_digits : FnScope n__law_digits ["number", "many"] (defScope s__law_digits) := ⟨rfl, rfl, rfl, by decide +kernel, rfl, by decide +kernel, by decide +kernel⟩
abbrev s__law_count : Stmt := topS 64
abbrev n__law_count : List Str := ["number", "many", "left"]
theorem sc__law_count : FnScope n__law_count ["number"] (defScope s__law_count) := ⟨rfl, rfl, rfl, by decide +kernel, rfl, by decide +kernel, by decide +kernel⟩
abbrev s__law_signed : Stmt := topS 65
abbrev n__law_signed : List Str := ["number"]
theorem sc__law_signed : FnScope n__law_signed ["number"] (defScope s__law_signed) := ⟨rfl, rfl, rfl, by decide +kernel, rfl, by decide +kernel, by decide +kernel⟩
abbrev s__law_spelt : Stmt := topS 66
abbrev n__law_spelt : List Str := ["name", "letter"]
theorem sc__law_spelt : FnScope n__law_spelt ["name"] (defScope s__law_spelt) := ⟨rfl, rfl, rfl, by decide +kernel, rfl, by decide +kernel, by decide +kernel⟩
abbrev s__law_registers : Stmt := topS 67
abbrev n__law_registers : List Str := ["places", "place"]
theorem sc__law_registers : FnScope n__law_registers ["places"] (defScope s__law_registers) := ⟨rfl, rfl, rfl, by decide +kernel, rfl, by decide +kernel, by decide +kernel⟩
abbrev s__law_copied : Stmt := topS 68
abbrev n__law_copied : List Str := ["place"]
theorem sc__law_copied : FnScope n__law_copied ["place"] (defScope s__law_copied) := ⟨rfl, rfl, rfl, by decide +kernel, rfl, by decide +kernel, by decide +kernel⟩
abbrev s__law_first : Stmt := topS 69
abbrev n__law_first : List Str := ["word", "words"]
theorem sc__law_first : FnScope n__law_first ["word"] (defScope s__law_first) := ⟨rfl, rfl, rfl, by decide +kernel, rfl, by decide +kernel, by decide +kernel⟩
abbrev s__law_bits : Stmt := topS 70
abbrev n__law_bits : List Str := ["draw", "most", "many", "slow", "k"]
theorem sc__law_bits : FnScope n__law_bits ["draw", "most"] (defScope s__law_bits) := ⟨rfl, rfl, rfl, by decide +kernel, rfl, by decide +kernel, by decide +kernel⟩
abbrev s__law_shapes : Stmt := topS 71
abbrev n__law_shapes : List Str := ["found", "word", "shape"]
theorem sc__law_shapes : FnScope n__law_shapes [] (defScope s__law_shapes) := ⟨rfl, rfl, rfl, by decide +kernel, rfl, by decide +kernel, by decide +kernel⟩
abbrev s__law_part : Stmt := topS 72
abbrev n__law_part : List Str := ["draw", "registers", "letter", "word", "k"]
theorem sc__law_part : FnScope n__law_part ["draw", "registers", "letter"] (defScope s__law_part) := ⟨rfl, rfl, rfl, by decide +kernel, rfl, by decide +kernel, by decide +kernel⟩
abbrev s__law_instruction : Stmt := topS 73
abbrev n__law_instruction : List Str := ["draw", "registers", "shapes", "word", "found", "letter"]
theorem sc__law_instruction : FnScope n__law_instruction ["draw", "registers"] (defScope s__law_instruction) := ⟨rfl, rfl, rfl, by decide +kernel, rfl, by decide +kernel, by decide +kernel⟩
abbrev s__law_leap_bits : Stmt := topS 74
abbrev n__law_leap_bits : List Str := ["leap", "word", "number"]
theorem sc__law_leap_bits : FnScope n__law_leap_bits ["leap"] (defScope s__law_leap_bits) := ⟨rfl, rfl, rfl, by decide +kernel, rfl, by decide +kernel, by decide +kernel⟩
abbrev s__law_part_bits : Stmt := topS 75
abbrev n__law_part_bits : List Str := ["letter", "part"]
theorem sc__law_part_bits : FnScope n__law_part_bits ["letter", "part"] (defScope s__law_part_bits) := ⟨rfl, rfl, rfl, by decide +kernel, rfl, by decide +kernel, by decide +kernel⟩
abbrev s__law_told_bits : Stmt := topS 76
abbrev n__law_told_bits : List Str := ["instruction", "shape", "letter", "part"]
theorem sc__law_told_bits : FnScope n__law_told_bits ["instruction"] (defScope s__law_told_bits) := ⟨rfl, rfl, rfl, by decide +kernel, rfl, by decide +kernel, by decide +kernel⟩
abbrev s__law_is_name : Stmt := topS 77
abbrev n__law_is_name : List Str := ["thing", "kept", "letter"]
theorem sc__law_is_name : FnScope n__law_is_name ["thing"] (defScope s__law_is_name) := ⟨rfl, rfl, rfl, by decide +kernel, rfl, by decide +kernel, by decide +kernel⟩
abbrev s__law_read : Stmt := topS 78
abbrev n__law_read : List Str := ["bits", "at", "first", "behind"]
theorem sc__law_read : FnScope n__law_read ["bits", "at"] (defScope s__law_read) := ⟨rfl, rfl, rfl, by decide +kernel, rfl, by decide +kernel, by decide +kernel⟩
abbrev s__law_value : Stmt := topS 79
abbrev n__law_value : List Str := ["bits", "found", "sign"]
theorem sc__law_value : FnScope n__law_value ["bits"] (defScope s__law_value) := ⟨rfl, rfl, rfl, by decide +kernel, rfl, by decide +kernel, by decide +kernel⟩
abbrev s__law_refusal : Stmt := topS 80
abbrev n__law_refusal : List Str := ["registers", "bits", "address", "error", "told", "e"]
theorem sc__law_refusal : FnScope n__law_refusal ["registers", "bits", "address"] (defScope s__law_refusal) := ⟨rfl, rfl, rfl, by decide +kernel, rfl, by decide +kernel, by decide +kernel⟩
abbrev s__law_name_at : Stmt := topS 81
abbrev n__law_name_at : List Str := ["bits", "at", "found", "place", "turn", "code"]
theorem sc__law_name_at : FnScope n__law_name_at ["bits", "at"] (defScope s__law_name_at) := ⟨rfl, rfl, rfl, by decide +kernel, rfl, by decide +kernel, by decide +kernel⟩
abbrev s__law_register_at : Stmt := topS 82
abbrev n__law_register_at : List Str := ["registers", "bits", "at", "number"]
theorem sc__law_register_at : FnScope n__law_register_at ["registers", "bits", "at"] (defScope s__law_register_at) := ⟨rfl, rfl, rfl, by decide +kernel, rfl, by decide +kernel, by decide +kernel⟩
abbrev s__law_copied_at : Stmt := topS 83
abbrev n__law_copied_at : List Str := ["registers", "bits", "at", "told"]
theorem sc__law_copied_at : FnScope n__law_copied_at ["registers", "bits", "at"] (defScope s__law_copied_at) := ⟨rfl, rfl, rfl, by decide +kernel, rfl, by decide +kernel, by decide +kernel⟩
abbrev s__law_signed_at : Stmt := topS 84
abbrev n__law_signed_at : List Str := ["bits", "at", "told"]
theorem sc__law_signed_at : FnScope n__law_signed_at ["bits", "at"] (defScope s__law_signed_at) := ⟨rfl, rfl, rfl, by decide +kernel, rfl, by decide +kernel, by decide +kernel⟩
abbrev s__law_some_at : Stmt := topS 85
abbrev n__law_some_at : List Str := ["registers", "bits", "at", "found", "place", "turn", "told"]
theorem sc__law_some_at : FnScope n__law_some_at ["registers", "bits", "at"] (defScope s__law_some_at) := ⟨rfl, rfl, rfl, by decide +kernel, rfl, by decide +kernel, by decide +kernel⟩
abbrev s__law_leap_at : Stmt := topS 86
abbrev n__law_leap_at : List Str := ["bits", "at", "many", "word", "number", "half"]
theorem sc__law_leap_at : FnScope n__law_leap_at ["bits", "at"] (defScope s__law_leap_at) := ⟨rfl, rfl, rfl, by decide +kernel, rfl, by decide +kernel, by decide +kernel⟩
abbrev s__law_part_at : Stmt := topS 87
abbrev n__law_part_at : List Str := ["letter", "registers", "bits", "at", "number"]
theorem sc__law_part_at : FnScope n__law_part_at ["letter", "registers", "bits", "at"] (defScope s__law_part_at) := ⟨rfl, rfl, rfl, by decide +kernel, rfl, by decide +kernel, by decide +kernel⟩
abbrev s__law_one_at : Stmt := topS 88
abbrev n__law_one_at : List Str := ["registers", "bits", "at", "words", "found", "place", "letter", "told", "word"]
theorem sc__law_one_at : FnScope n__law_one_at ["registers", "bits", "at"] (defScope s__law_one_at) := ⟨rfl, rfl, rfl, by decide +kernel, rfl, by decide +kernel, by decide +kernel⟩
abbrev s__law_due : Stmt := topS 89
abbrev n__law_due : List Str := ["registers", "bits", "found", "at", "turn", "told"]
theorem sc__law_due : FnScope n__law_due ["registers", "bits"] (defScope s__law_due) := ⟨rfl, rfl, rfl, by decide +kernel, rfl, by decide +kernel, by decide +kernel⟩
abbrev s__law_changed : Stmt := topS 90
abbrev n__law_changed : List Str := ["draw", "bits", "way", "at"]
theorem sc__law_changed : FnScope n__law_changed ["draw", "bits"] (defScope s__law_changed) := ⟨rfl, rfl, rfl, by decide +kernel, rfl, by decide +kernel, by decide +kernel⟩
abbrev s_law : Stmt := topS 91
abbrev n_law : List Str := ["script", "draw", "registers", "way", "k", "items", "bits", "due", "told", "at", "far", "one", "strange", "item"]
theorem sc_law : FnScope n_law ["script"] (defScope s_law) := ⟨rfl, rfl, rfl, by decide +kernel, rfl, by decide +kernel, by decide +kernel⟩
end SA

set_option Elab.async false
set_option linter.all false
set_option maxRecDepth 100000
set_option maxHeartbeats 4000000
namespace SA
open PySem PySem.Spec PyProof.Rows L2
/-! ### the draw -/
abbrev kW : Key := Sum.inr "wide"
abbrev kC : Key := Sum.inr "cells"
abbrev kR : Key := Sum.inr "rest"
abbrev kT : Key := Sum.inr "turn"
theorem kWC : ¬ kW = kC := by decide +kernel
theorem kWR : ¬ kW = kR := by decide +kernel
theorem kWT : ¬ kW = kT := by decide +kernel
theorem kCR : ¬ kC = kR := by decide +kernel
theorem kCT : ¬ kC = kT := by decide +kernel
theorem kRT : ¬ kR = kT := by decide +kernel
def dkv (w c : Addr) (r t : Int) : List (Key × V) := [(kW, .ref w), (kC, .ref c), (kR, .int r), (kT, .int t)]
theorem dkv_w (w c : Addr) (r t : Int) : valV (dkv w c r t) kW = some (.ref w) := valV_pos rfl
theorem dkv_c (w c : Addr) (r t : Int) : valV (dkv w c r t) kC = some (.ref c) := (valV_neg kWC).trans (valV_pos rfl)
theorem dkv_r (w c : Addr) (r t : Int) : valV (dkv w c r t) kR = some (.int r) := (valV_neg kWR).trans ((valV_neg kCR).trans (valV_pos rfl))
theorem dkv_t (w c : Addr) (r t : Int) : valV (dkv w c r t) kT = some (.int t) := (valV_neg kWT).trans ((valV_neg kCT).trans ((valV_neg kRT).trans (valV_pos rfl)))
theorem get_w {H : Hp} {d w c : Addr} {r t : Int} (e : H d = some (.dK (dkv w c r t))) : DGet H d (.str "wide") (some (.ref w)) := dkv_w w c r t ▸ DGet.k (k := kW) e
theorem get_c {H : Hp} {d w c : Addr} {r t : Int} (e : H d = some (.dK (dkv w c r t))) : DGet H d (.str "cells") (some (.ref c)) := dkv_c w c r t ▸ DGet.k (k := kC) e
theorem get_r {H : Hp} {d w c : Addr} {r t : Int} (e : H d = some (.dK (dkv w c r t))) : DGet H d (.str "rest") (some (.int r)) := dkv_r w c r t ▸ DGet.k (k := kR) e
theorem get_t {H : Hp} {d w c : Addr} {r t : Int} (e : H d = some (.dK (dkv w c r t))) : DGet H d (.str "turn") (some (.int t)) := dkv_t w c r t ▸ DGet.k (k := kT) e
theorem put3 {a b c d : Key} {va vb vc vd x : V} (h1 : ¬ a = c) (h2 : ¬ b = c) (h3 : ¬ c = d) : putK [(a, va), (b, vb), (c, vc), (d, vd)] c x = [(a, va), (b, vb), (c, x), (d, vd)] := by
  have h4 : ¬ d = c := fun e => h3 e.symm
  simp [putK, h1, h2, h4]
theorem put4 {a b c d : Key} {va vb vc vd x : V} (h1 : ¬ a = d) (h2 : ¬ b = d) (h3 : ¬ c = d) : putK [(a, va), (b, vb), (c, vc), (d, vd)] d x = [(a, va), (b, vb), (c, vc), (d, x)] := by
  simp [putK, h1, h2, h3]
theorem dkv_putR (w c : Addr) (r t x : Int) : putK (dkv w c r t) kR (.int x) = dkv w c x t := put3 kWR kCR kRT
theorem dkv_putT (w c : Addr) (r t x : Int) : putK (dkv w c r t) kT (.int x) = dkv w c r x := put4 kWT kCT kRT
theorem merge4 (a b c d : V) : mergeK [] [(kW, a), (kC, b), (kR, c), (kT, d)] = [(kW, a), (kC, b), (kR, c), (kT, d)] := by
  have h1 := kWC
  have h2 := kWR
  have h3 := kWT
  have h4 := kCR
  have h5 := kCT
  have h6 := kRT
  generalize kW = k1 at *
  generalize kC = k2 at *
  generalize kR = k3 at *
  generalize kT = k4 at *
  simp [mergeK, putK, h1, h2, h3, h4, h5, h6]
/-- the draw's dict at d, its lists at w and c; at most n turns so far -/
structure DrawAt (H : Hp) (d w c : Addr) (n : Nat) : Prop where
  dict : ∃ r t : Int, 0 ≤ t ∧ t ≤ n ∧ H d = some (.dK (dkv w c r t))
  wide : ∃ ws : List Int, H w = some (.lst (ws.map V.int))
  cells : ∃ cs : List Int, H c = some (.lst (cs.map V.int))
  ne : w ≠ c
theorem Same.new {H : Hp} {p : Addr} {o : HO} (h : H p = none) : Same H (upd H p o) := fun b x e => by
  rw [upd_ne (ne_of_none e h)]
  exact e
/-- a comprehension without an if -/
theorem yes {σ : L2.St} {H : Hp} {A B : Hp → Prop} (h : A H) : tYes σ H fun b H' => if b = true then A H' else B H' := by
  show (if true = true then A H else B H)
  rw [if_pos rfl]
  exact h
/-- all but d and w stand as they stood -/
def But2 (d w : Addr) (H H' : Hp) : Prop := ∀ b o, H b = some o → b ≠ d → b ≠ w → H' b = some o
theorem But2.refl (d w : Addr) (H : Hp) : But2 d w H H := fun _ _ e _ _ => e
theorem But2.trans {d w : Addr} {H H1 H2 : Hp} (a : But2 d w H H1) (b : But2 d w H1 H2) : But2 d w H H2 := fun x o e h1 h2 => b x o (a x o e h1 h2) h1 h2
theorem But2.d {d w : Addr} {H H' : Hp} {o : HO} (a : But2 d w H H') : But2 d w H (upd H' d o) := fun x u e h1 h2 => by rw [upd_ne h1]; exact a x u e h1 h2
theorem But2.w {d w : Addr} {H H' : Hp} {o : HO} (a : But2 d w H H') : But2 d w H (upd H' w o) := fun x u e h1 h2 => by rw [upd_ne h2]; exact a x u e h1 h2
theorem But2.new {d w p : Addr} {H H' : Hp} {o : HO} (a : But2 d w H H') (h : H' p = none) : But2 d w H (upd H' p o) := fun x u e h1 h2 => by
  have q := a x u e h1 h2
  rw [upd_ne (ne_of_none q h)]; exact q
theorem DrawAt.dw {H : Hp} {d w c : Addr} {n : Nat} (h : DrawAt H d w c n) : d ≠ w := by
  obtain ⟨⟨r, t, _, _, e⟩, ⟨ws, e2⟩, _, _⟩ := h
  exact ne_of e e2 (by intro z; cases z)
theorem DrawAt.dc {H : Hp} {d w c : Addr} {n : Nat} (h : DrawAt H d w c n) : d ≠ c := by
  obtain ⟨⟨r, t, _, _, e⟩, _, ⟨cs, e2⟩, _⟩ := h
  exact ne_of e e2 (by intro z; cases z)
/-- what is new is none of the three -/
theorem DrawAt.new {H : Hp} {d w c p : Addr} {n : Nat} {o : HO} (h : DrawAt H d w c n) (hp : H p = none) : DrawAt (upd H p o) d w c n := by
  obtain ⟨⟨r, t, a1, a2, e⟩, ⟨ws, e2⟩, ⟨cs, e3⟩, ne⟩ := h
  exact ⟨⟨r, t, a1, a2, by rw [upd_ne (ne_of_none e hp)]; exact e⟩, ⟨ws, by rw [upd_ne (ne_of_none e2 hp)]; exact e2⟩, ⟨cs, by rw [upd_ne (ne_of_none e3 hp)]; exact e3⟩, ne⟩
theorem DrawAt.mono {H : Hp} {d w c : Addr} {n m : Nat} (h : DrawAt H d w c n) (hn : n ≤ m) : DrawAt H d w c m := by
  obtain ⟨⟨r, t, a1, a2, e⟩, h2, h3, ne⟩ := h
  exact ⟨⟨r, t, a1, by omega, e⟩, h2, h3, ne⟩
theorem dp_ints {K : PySem.W.Frag} {H : Hp} : ∀ ns : List Int, DpAll K H (ns.map V.int) (ns.map PyData.int)
  | [] => .nil
  | n :: ns => .cons (.int n) (dp_ints ns)
theorem canLay_ints : ∀ ns : List Int, PyData.canLayAll0 (ns.map PyData.int) = true
  | [] => rfl
  | n :: ns => by
    rw [List.map_cons]
    simp only [PyData.canLayAll0, PyData.canLay0, canLay_ints ns, Bool.and_self]
theorem depth_ints : ∀ ns : List Int, (PyData.list (ns.map PyData.int)).depth ≤ 2 := by
  intro ns
  have h : ∀ l : List Int, PyData.depthAll (l.map PyData.int) = 0 := by
    intro l
    induction l with
    | nil => rfl
    | cons n l ih => rw [List.map_cons]; simp only [PyData.depthAll, PyData.depth, ih]; rfl
  simp only [PyData.depth, h]
  decide
theorem shaped_ints (ns : List Int) : SeqAt.shaped (.list (ns.map PyData.int)) = true := by
  show (PyData.canLay0 _ && decide _) = true
  rw [Bool.and_eq_true]
  refine ⟨?_, decide_eq_true (Nat.le_trans (depth_ints ns) (by decide))⟩
  simp only [PyData.canLay0, canLay_ints]
theorem seq0 {α : Type} (x : α) (xs : List α) : seqIndex? 0 (x :: xs).length = some 0 := by
  unfold seqIndex?
  simp
theorem DrawAt.setR {H : Hp} {d w c : Addr} {n : Nat} {r t x : Int} (h : DrawAt H d w c n) (e : H d = some (.dK (dkv w c r t))) : DrawAt (upd H d (.dK (dkv w c x t))) d w c n := by
  have h1 := h.dw
  have h2 := h.dc
  obtain ⟨⟨r', t', a1, a2, e'⟩, ⟨ws, e2⟩, ⟨cs, e3⟩, ne⟩ := h
  have et : t = t' := by
    rw [e] at e'
    injection e' with e'
    injection e' with e'
    have := congrArg (fun l => valV l kT) e'
    simp only [dkv_t] at this
    injection this with this
    injection this
  exact ⟨⟨x, t, by omega, by omega, upd_same⟩, ⟨ws, by rw [upd_ne h1.symm]; exact e2⟩, ⟨cs, by rw [upd_ne h2.symm]; exact e3⟩, ne⟩
/-- one more long number -/
def spMixed : Sp := fun vs H Q _ => ∃ (d w c : Addr) (n : Nat), vs = [.ref d] ∧ DrawAt H d w c n ∧ n < 2 ^ 40 ∧ ∀ (i : Int) (H' : Hp), DrawAt H' d w c (n + 1) → But2 d w H H' → Q (.int i) H'
/-- a number from 0 to many - 1 -/
def spTake : Sp := fun vs H Q _ => ∃ (d w c : Addr) (n : Nat) (m : Int), vs = [.ref d, .int m] ∧ DrawAt H d w c n ∧ n < 2 ^ 40 ∧ 0 < m ∧ m < 2 ^ 62 ∧ ∀ (i : Int) (H' : Hp), 0 ≤ i → i < m → DrawAt H' d w c (n + 1) → But2 d w H H' → Q (.int i) H'
section
variable {P : Program} {w0 : World} {K : PySem.W.Frag} {mg : Str → Option Value} {base : Heap}
theorem ok_take {f fM : Addr} {fd fdM : FuncData} (F : Fun K "_law_take" "_law_take" s__law_take f fd) (FM : Fun K "_law_mixed" "_law_mixed" s__law_mixed fM fdM) (bM : Binds K fdM ["draw"] []) (gM : mg "_law_mixed" = some (.ref fM)) (gi : mg "int" = none)
    (GM : FnOk P w0 K mg base CX0 1 fM fdM ["draw"] spMixed) : FnOk P w0 K mg base CX0 2 f fd ["draw", "many"] spTake := by
  refine F.ok sc__law_take (fun vs H Q E h => ?_) (fun cdv A outer s H vs Q E hr h => ?_)
  · obtain ⟨d, w, c, n, m, rfl, _⟩ := h
    rfl
  · obtain ⟨d, w, c, n, m, rfl, hD, hn, hm0, hm, k⟩ := h
    have hu := hu_of hr
    refine ⟨_, Evl.pss_cut (ps_if (pt_cmpR op_eq (pe_dget hu (pv 0) pe_str (fun _ _ => rfl)) pe_int (nomark _))
        (pss_one (ps_dput hu (pv 0) pe_str (pe_ifExp (pt_cmpR (op_neD hr.units) (pe_dget hu (pv 0) pe_str (fun _ _ => rfl)) (pe_lst pa_nil) (nomark _))
          (pe_bm PySem.F.plainAttrs_list PySem.F.slot_list_pop PySem.F.type_list_pop mt_popAt (pe_dget hu (pv 0) pe_str (fun _ _ => rfl)) (pa_cons pe_int pa_nil))
          (pe_call GM hr (by rfl) gM FM.kp bM .nil pass0 (pa_cons (pv 0) pa_nil))) rfl)) pss_nil)
      (pss_cons (ps_set (i := 2) sc__law_take.nd rfl (.inl rfl) (pe_op op_mod (pe_callTy call_int1 (by rfl) gi PySem.Pv.boot_int (pa_cons (pe_dget hu (pv 0) pe_str (fun _ _ => rfl)) pa_nil)) (pv 1)))
      (pss_cons (ps_dput hu (pv 0) pe_str (pe_op op_fdivW (pe_dget hu (pv 0) pe_str (fun _ _ => rfl)) (pv 1)) rfl)
      (pss_one (ps_ret (pv 2))))), ?_⟩
    obtain ⟨⟨r, t, ht0, htn, hd⟩, ⟨ws, hw⟩, ⟨cs, hc⟩, ne⟩ := id hD
    have hdw : d ≠ w := hD.dw
    refine ⟨fun σ H1 => σ = [some (.ref d), some (.int m), none] ∧ DrawAt H1 d w c (n + 1) ∧ But2 d w H H1, ?_, ?_⟩
    · refine ⟨_, rfl, d, _, rfl, get_r hd, rfl, _, rfl, ?_⟩
      refine ite2 (fun _ => ?_) (fun _ => ?_)
      · -- draw['wide'] != []
        refine ⟨_, rfl, d, _, rfl, get_w hd, Nat.zero_le _, fun p hp => ?_⟩
        have hd1 : (upd H p (.lst [])) d = some (.dK (dkv w c r t)) := by rw [upd_ne (ne_of_none hd hp)]; exact hd
        have hw1 : (upd H p (.lst [])) w = some (.lst (ws.map V.int)) := by rw [upd_ne (ne_of_none hw hp)]; exact hw
        have hD1 : DrawAt (upd H p (.lst [])) d w c n := hD.new hp
        refine ⟨_, _, .lst (SqL.of hw1) (dp_ints ws), .lst (SqL.of upd_same) .nil, shaped_ints ws, rfl, _, rfl, ?_⟩
        cases ws with
        | nil =>
          refine iteF ?_
          refine ⟨_, rfl, d, w, c, n, rfl, hD1, hn, fun i H2 hD2 b2 => ?_⟩
          obtain ⟨⟨r2, t2, a1, a2, e2⟩, q2, q3, q4⟩ := id hD2
          refine ⟨_, rfl, d, _, rfl, DPut.k (k := kR) e2 (by show 4 < sizeLine; decide), ?_⟩
          rw [dkv_putR]
          exact ⟨rfl, hD2.setR e2, ((But2.refl d w H).new hp |>.trans b2).d⟩
        | cons x ws =>
          refine iteT ?_
          refine ⟨_, rfl, d, _, rfl, get_w hd1, Or.inl ⟨rfl, _, SqL.of hw1⟩, w, _, 0, 0, _, rfl, rfl, hw1, by decide, by decide, seq0 _ _, rfl, ?_⟩
          have hd2 : ∀ o, (upd (upd H p (.lst [])) w o) d = some (.dK (dkv w c r t)) := fun o => by rw [upd_ne hdw]; exact hd1
          refine ⟨_, rfl, d, _, rfl, DPut.k (k := kR) (hd2 _) (by show 4 < sizeLine; decide), ?_⟩
          rw [dkv_putR]
          refine ⟨rfl, ⟨⟨x, t, ht0, by omega, upd_same⟩, ⟨ws, ?_⟩, ⟨cs, ?_⟩, ne⟩, (((But2.refl d w H).new hp).w).d⟩
          · rw [upd_ne hdw.symm, upd_same]
            rfl
          · rw [upd_ne hD.dc.symm, upd_ne ne.symm, upd_ne (ne_of_none hc hp)]
            exact hc
      · exact ⟨rfl, hD.mono (Nat.le_succ n), But2.refl d w H⟩
    · rintro σ H1 ⟨rfl, hD1, b1⟩
      obtain ⟨⟨r1, t1, a1, a2, e1⟩, q2, q3, q4⟩ := id hD1
      refine ⟨_, rfl, d, _, rfl, get_r e1, .inl ⟨r1, rfl, _, rfl, r1, m, rfl, rfl, hm0, ?_⟩⟩
      refine ⟨_, rfl, d, _, rfl, get_r e1, _, rfl, r1, m, rfl, rfl, wide_div (b := 62) hm0 (by omega) (by decide) (by decide), _, rfl, d, _, rfl, DPut.k (k := kR) e1 (by show 4 < sizeLine; decide), ?_⟩
      rw [dkv_putR]
      exact ⟨_, rfl, k _ _ (Int.emod_nonneg _ (by omega)) (Int.emod_lt_of_pos _ hm0) (hD1.setR e1) b1.d⟩
def primes : List Int := [2147483629, 2147483587, 2147483579, 2147483563]
theorem prime_bd {i : Nat} {x : V} (h : (primes.map V.int)[i]? = some x) : ∃ p : Int, x = .int p ∧ 2147483563 ≤ p ∧ p ≤ 2147483629 := by
  have hx : x ∈ primes.map V.int := List.mem_of_getElem? h
  obtain ⟨p, hp, rfl⟩ := List.mem_map.mp hx
  refine ⟨p, rfl, ?_⟩
  simp [primes] at hp
  omega
theorem ok_mixed {f : Addr} {fd : FuncData} (F : Fun K "_law_mixed" "_law_mixed" s__law_mixed f fd) (gi : mg "int" = none) : FnOk P w0 K mg base CX0 1 f fd ["draw"] spMixed := by
  refine F.ok sc__law_mixed (fun vs H Q E h => ?_) (fun cdv A outer s H vs Q E hr h => ?_)
  · obtain ⟨d, w, c, n, rfl, _⟩ := h
    rfl
  · obtain ⟨d, w, c, n, rfl, hD, hn, k⟩ := h
    have hu := hu_of hr
    refine ⟨_, pss_cons (ps_par (i := 1) (j := 2) rfl sc__law_mixed.nd rfl rfl (by decide) rfl rfl (pa_cons (pe_op op_add (pe_dget hu (pv 0) pe_str (fun _ _ => rfl)) pe_int) (pa_cons pe_int pa_nil)) rfl)
      (pss_cons (ps_dput hu (pv 0) pe_str (pv 1) rfl)
      (pss_cons (ps_for PassesOwn.never rfl (pi_list (pe_lst (pa_cons pe_int (pa_cons pe_int (pa_cons pe_int (pa_cons pe_int pa_nil)))))) (pg_name (i := 3) sc__law_mixed.nd rfl (.inl rfl))
        (pss_cons (ps_set (i := 4) sc__law_mixed.nd rfl (.inl rfl) (pe_op op_add (pe_op op_mul pe_int (pv 1)) (pe_op op_fdiv (pv 3) pe_int)))
        (pss_cons (ps_for PassesOwn.never rfl (pi_list (pe_dget hu (pv 0) pe_str (fun _ _ => rfl))) (pg_name (i := 5) sc__law_mixed.nd rfl (.inl rfl))
          (pss_one (ps_set (i := 4) sc__law_mixed.nd rfl (.inl rfl) (pe_op op_mod (pe_callTy call_int1 (by rfl) gi PySem.Pv.boot_int (pa_cons (pe_op op_add (pe_op op_add (pe_op op_mul (pv 4) pe_int) (pv 5)) (pv 1)) pa_nil)) (pv 3)))))
        (pss_one (ps_set (i := 2) sc__law_mixed.nd rfl (.inl rfl) (pe_op op_add (pe_op op_mul (pv 2) pe_int) (pe_op op_mod (pe_callTy call_int1 (by rfl) gi PySem.Pv.boot_int (pa_cons (pe_op op_pow (pv 4) pe_int) pa_nil)) (pv 3))))))))
      (pss_one (ps_ret (pv 2))))), ?_⟩
    obtain ⟨⟨r, t, ht0, htn, hd⟩, ⟨ws, hw⟩, ⟨cs, hc⟩, ne⟩ := id hD
    refine ⟨_, rfl, d, _, rfl, get_t hd, _, _, rfl, rfl, _, _, rfl, ?_⟩
    refine ⟨_, rfl, _, rfl, d, _, rfl, DPut.k (k := kT) hd (by show 4 < sizeLine; decide), ?_⟩
    rw [dkv_putT]
    have hD1 : DrawAt (upd H d (.dK (dkv w c r (t + 1)))) d w c (n + 1) := ⟨⟨r, t + 1, by omega, by omega, upd_same⟩, ⟨ws, by rw [upd_ne hD.dw.symm]; exact hw⟩, ⟨cs, by rw [upd_ne hD.dc.symm]; exact hc⟩, ne⟩
    have b1 : But2 d w H (upd H d (.dK (dkv w c r (t + 1)))) := (But2.refl d w H).d
    refine ⟨by show 4 ≤ sizeLine; decide, fun p hp => ?_⟩
    have hD2 := hD1.new (o := HO.lst (primes.map V.int)) hp
    have b2 := b1.new (o := HO.lst (primes.map V.int)) hp
    have hd2 : (upd (upd H d (.dK (dkv w c r (t + 1)))) p (.lst (primes.map V.int))) d = some (.dK (dkv w c r (t + 1))) := by
      rw [upd_ne (ne_of_none (upd_same (o := HO.dK (dkv w c r (t + 1)))) hp), upd_same]
    have hc2 : (upd (upd H d (.dK (dkv w c r (t + 1)))) p (.lst (primes.map V.int))) c = some (.lst (cs.map V.int)) := by
      have hc1 : (upd H d (.dK (dkv w c r (t + 1)))) c = some (.lst (cs.map V.int)) := by rw [upd_ne hD.dc.symm]; exact hc
      rw [upd_ne (ne_of_none hc1 hp)]
      exact hc1
    have hp2 : (upd (upd H d (.dK (dkv w c r (t + 1)))) p (.lst (primes.map V.int))) p = some (.lst (primes.map V.int)) := upd_same
    refine ⟨p, rfl, ⟨_, SqL.of hp2⟩, for_list (K := K) (a := p) (xs := primes.map V.int) (fun i σ H' => H' = upd (upd H d (.dK (dkv w c r (t + 1)))) p (.lst (primes.map V.int)) ∧ ∃ (f : Int) (x y z : Option V), σ = [some (.ref d), some (.int (t + 1)), some (.int f), x, y, z])
      ⟨rfl, 0, none, none, none, rfl⟩ (fun i σ H' _ ⟨e, _⟩ => e ▸ SqL.of hp2) ?_ ?_⟩
    · rintro i x σ H' hx ⟨rfl, f, y3, y4, y5, rfl⟩
      obtain ⟨q, rfl, q1, q2⟩ := prime_bd hx
      refine ⟨_, rfl, _, _, rfl, rfl, .inl ⟨by decide, by decide⟩, _, rfl, _, _, rfl, rfl, ⟨by decide, by decide⟩, _, _, rfl, rfl, ?_⟩
      -- the inner loop: blend is never far
      refine ⟨_, rfl, d, _, rfl, get_c hd2, c, rfl, ⟨_, SqL.of hc2⟩, for_list (K := K) (a := c) (xs := cs.map V.int) (fun i σ H' => H' = upd (upd H d (.dK (dkv w c r (t + 1)))) p (.lst (primes.map V.int)) ∧ ∃ (b : Int) (z : Option V), 0 ≤ b ∧ b < 2 ^ 62 ∧ σ = [some (.ref d), some (.int (t + 1)), some (.int f), some (.int q), some (.int b), z])
        ⟨rfl, _, y5, ?_, ?_, rfl⟩ (fun i σ H' _ ⟨e, _⟩ => e ▸ SqL.of hc2) ?_ ?_⟩
      · omega
      · omega
      · rintro i x σ H' hx ⟨rfl, b, z, hb0, hb, rfl⟩
        obtain ⟨v, hv⟩ : ∃ v : Int, x = .int v := by
          have hm : x ∈ cs.map V.int := List.mem_of_getElem? hx
          obtain ⟨v, _, e⟩ := List.mem_map.mp hm
          exact ⟨v, e.symm⟩
        subst hv
        refine ⟨_, rfl, _, _, rfl, rfl, .inr ⟨by decide, by decide⟩, _, rfl, _, _, rfl, rfl, _, rfl, _, _, rfl, rfl, .inl ⟨_, rfl, _, rfl, _, _, rfl, rfl, (show (0 : Int) < q by omega), ?_⟩⟩
        exact ⟨rfl, _, _, Int.emod_nonneg _ (by omega), Int.lt_of_lt_of_le (Int.emod_lt_of_pos _ (by omega)) (by omega), rfl⟩
      · rintro σ H' ⟨rfl, b, z, hb0, hb, rfl⟩
        refine ⟨_, rfl, _, _, rfl, rfl, .inr ⟨by decide, by decide⟩, _, rfl, _, _, rfl, rfl, ⟨by decide, by decide, by omega⟩, .inl ⟨_, rfl, _, rfl, _, _, rfl, rfl, (show (0 : Int) < q by omega), _, _, rfl, rfl, ?_⟩⟩
        exact ⟨rfl, _, _, _, _, rfl⟩
    · rintro σ H' ⟨rfl, f, x, y, z, rfl⟩
      exact ⟨_, rfl, k _ _ hD2 b2⟩
/-- one of a list's items -/
def spPick (K : PySem.W.Frag) : Sp := fun vs H Q _ => ∃ (d w c a : Addr) (n : Nat) (xs : List V), vs = [.ref d, .ref a] ∧ DrawAt H d w c n ∧ n < 2 ^ 40 ∧ a ≠ d ∧ a ≠ w ∧ SqL K H a xs ∧ xs ≠ [] ∧ xs.length < 2 ^ 29 ∧
  ∀ (x : V) (H' : Hp), x ∈ xs → DrawAt H' d w c (n + 1) → But2 d w H H' → Q x H'
theorem But2.seq {d w a : Addr} {H H' : Hp} {xs : List V} (b : But2 d w H H') (h1 : a ≠ d) (h2 : a ≠ w) (h : SqL K H a xs) : SqL K H' a xs := by
  rcases h with (h | ⟨o, h⟩) | h
  · exact .inl (.inl (b _ _ h h1 h2))
  · exact .inl (.inr ⟨o, b _ _ h h1 h2⟩)
  · exact .inr h
theorem ok_pick {f fT : Addr} {fd fdT : FuncData} (F : Fun K "_law_pick" "_law_pick" s__law_pick f fd) (FT : Fun K "_law_take" "_law_take" s__law_take fT fdT) (bT : Binds K fdT ["draw", "many"] []) (gT : mg "_law_take" = some (.ref fT)) (gl : mg "len" = none)
    (GT : FnOk P w0 K mg base CX0 2 fT fdT ["draw", "many"] spTake) : FnOk P w0 K mg base CX0 3 f fd ["draw", "some"] (spPick K) := by
  refine F.ok sc__law_pick (fun vs H Q E h => ?_) (fun cdv A outer s H vs Q E hr h => ?_)
  · obtain ⟨d, w, c, a, n, xs, rfl, _⟩ := h
    rfl
  · obtain ⟨d, w, c, a, n, xs, rfl, hD, hn, ad, aw, hS, hx, hl, k⟩ := h
    refine ⟨_, pss_one (ps_ret (pe_ix ix_list (pv 1) (pe_call GT hr (by rfl) gT FT.kp bT .nil pass0 (pa_cons (pv 0) (pa_cons (pe_callB call_len_seq (by rfl) gl PySem.boot_len (pa_cons (pv 1) pa_nil)) pa_nil))) (fun _ _ => rfl))), ?_⟩
    have h0 : 0 < xs.length := List.length_pos_iff.mpr hx
    refine ⟨_, rfl, _, rfl, _, rfl, a, xs, rfl, .inl hS, d, w, c, n, xs.length, rfl, hD, hn, by omega, by omega, fun i H1 i0 i1 hD1 b1 => ?_⟩
    have hi : i.toNat < xs.length := by omega
    refine ⟨a, xs, i, xs[i.toNat], rfl, rfl, b1.seq ad aw hS, ?_, k _ _ (List.getElem_mem hi) hD1 b1⟩
    obtain ⟨j, rfl⟩ := Int.eq_ofNat_of_zero_le i0
    exact atI_nat (List.getElem?_eq_getElem (by omega))
/-- the state of all draws -/
def spBegun (K : PySem.W.Frag) : Sp := fun vs H Q _ => ∃ (a : Addr) (ns : List Int), vs = [.ref a] ∧ SqL K H a (ns.map V.int) ∧ ns.length ≤ 63 ∧ ∀ (d w c : Addr) (H' : Hp), H d = none → H w = none → H c = none → DrawAt H' d w c 0 → Same H H' → Q (.ref d) H'
theorem ok_begun {f : Addr} {fd : FuncData} (F : Fun K "_law_begun" "_law_begun" s__law_begun f fd) (gi : mg "int" = none) (ga : mg "abs" = none) : FnOk P w0 K mg base CX0 1 f fd ["script"] (spBegun K) := by
  refine F.ok sc__law_begun (fun vs H Q E h => ?_) (fun cdv A outer s H vs Q E hr h => ?_)
  · obtain ⟨a, ns, rfl, _⟩ := h
    rfl
  · obtain ⟨a, ns, rfl, hS, hl, k⟩ := h
    have hu := hu_of hr
    refine ⟨_, pss_cons (ps_setLc (i := 1) (own := [("cell", 2)]) (g := gName 2) (tt := _) (by rfl) sc__law_begun.nd rfl rfl (sw_true rfl rfl rfl (by decide +kernel)) (pi_list (pv 0)) (blkOk_by (N := n__law_begun) (sc := defScope s__law_begun) (by decide +kernel))
        (fun _ _ _ _ _ => pg_name (i := 2) sc__law_begun.nd rfl (Or.inl rfl))
        (fun _ _ _ _ _ => pts_one (pt_cmpR op_ge (pe_callB call_abs (by rfl) ga (by decide +kernel) (pa_cons (pv 2) pa_nil)) (pe_op op_pow pe_int pe_int) (nomark _)))
        (fun _ _ _ _ _ => pe_op op_sub (pe_callB call_abs (by rfl) ga (by decide +kernel) (pa_cons (pv 2) pa_nil)) (pe_op op_pow pe_int pe_int)))
      (pss_one (ps_ret (pe_disp (pps_cons pe_str (pv 1) (pps_cons pe_str (pe_lc (own := [("cell", 2)]) (g := gName 2) (tt := tYes) (by rfl) sc__law_begun.nd (pi_list (pv 0)) (blkOk_by (N := n__law_begun) (sc := defScope s__law_begun) (by decide +kernel))
          (fun _ _ _ _ _ => pg_name (i := 2) sc__law_begun.nd rfl (Or.inl rfl)) (fun _ _ _ _ _ => pts_nil)
          (fun _ _ _ _ _ => pe_op op_mod (pe_callTy call_int1 (by rfl) gi PySem.Pv.boot_int (pa_cons (pe_callB call_abs (by rfl) ga (by decide +kernel) (pa_cons (pv 2) pa_nil)) pa_nil)) pe_int))
        (pps_cons pe_str pe_int (pps_cons pe_str pe_int pps_nil)))) (by rfl) (by rfl) (fun z => by cases z) (by decide)))), ?_⟩
    have h18 : CPow 10 18 := ⟨by decide, by decide, by decide⟩
    have hint : ∀ (i : Nat) (x : V), (ns.map V.int)[i]? = some x → ∃ v : Int, x = .int v := fun i x hx => by
      obtain ⟨v, _, e⟩ := List.mem_map.mp (List.mem_of_getElem? hx)
      exact ⟨v, e.symm⟩
    refine ⟨_, rfl, a, rfl, ⟨_, hS⟩, fun w hw => lc_list (K := K) (a := a) (xs := ns.map V.int) (fun i H' => Same H H' ∧ ∃ ws : List Int, H' w = some (.lst (ws.map V.int)) ∧ ws.length ≤ i)
      ⟨Same.new hw, [], upd_same, Nat.le_refl _⟩ (fun i H' _ ⟨e, _⟩ => e.seq hS) ?_ ?_⟩
    · rintro i x H' hx ⟨s1, ws, hw1, hwl⟩
      obtain ⟨v, rfl⟩ := hint i x hx
      have hi : i < ns.length := by
        have := (List.getElem?_eq_some_iff.mp hx).1
        rw [List.length_map] at this
        exact this
      refine ⟨rfl, _, rfl, _, rfl, _, _, rfl, rfl, h18, _, _, rfl, rfl, _, rfl, ite2 (fun _ => ?_) (fun _ => ?_)⟩
      · refine ⟨_, rfl, _, rfl, _, _, rfl, rfl, h18, _, _, rfl, rfl, _, hw1, small1000 (by rw [List.length_map]; omega), fun b o e => ?_, ws ++ [(if v < 0 then -v else v) - 10 ^ 18], ?_, ?_⟩
        · rw [upd_ne (ne_of_none e hw)]
          exact s1 b o e
        · rw [upd_same, List.map_append]
          rfl
        · rw [List.length_append, List.length_singleton]
          omega
      · exact ⟨s1, ws, hw1, by omega⟩
    · rintro H1 ⟨s1, ws, hw1, hwl⟩
      intro d hd
      have nd : d ≠ w := fun z => by rw [z, hw1] at hd; cases hd
      have s2 : Same H (upd H1 d (.dK [])) := s1.trans (Same.new hd)
      have hw2 : (upd H1 d (.dK [])) w = some (.lst (ws.map V.int)) := by rw [upd_ne nd.symm]; exact hw1
      refine ⟨_, rfl, _, rfl, a, rfl, ⟨_, s2.seq hS⟩, fun c hc => lc_list (K := K) (a := a) (xs := ns.map V.int) (fun i H' => Same (upd H1 d (.dK [])) H' ∧ ∃ cs : List Int, H' c = some (.lst (cs.map V.int)) ∧ cs.length ≤ i)
        ⟨Same.new hc, [], upd_same, Nat.le_refl _⟩ (fun i H' _ ⟨e, _⟩ => e.seq (s2.seq hS)) ?_ ?_⟩
      · rintro i x H' hx ⟨s3, cs, hc1, hcl⟩
        obtain ⟨v, rfl⟩ := hint i x hx
        have hi : i < ns.length := by
          have := (List.getElem?_eq_some_iff.mp hx).1
          rw [List.length_map] at this
          exact this
        refine ⟨rfl, yes ?_⟩
        refine ⟨_, rfl, _, rfl, .inl ⟨_, rfl, _, _, rfl, rfl, (by show (0 : Int) < 2147483629; decide), _, hc1, small1000 (by rw [List.length_map]; omega), fun b o e => ?_, cs ++ [(if v < 0 then -v else v) % 2147483629], ?_, ?_⟩⟩
        · rw [upd_ne (ne_of_none e hc)]
          exact s3 b o e
        · rw [upd_same, List.map_append]
          rfl
        · rw [List.length_append, List.length_singleton]
          omega
      · rintro H3 ⟨s3, cs, hc3, hcl⟩
        have hd3 : H3 d = some (.dK []) := s3 _ _ upd_same
        have hw3 : H3 w = some (.lst (ws.map V.int)) := s3 _ _ hw2
        have ndc : c ≠ d := fun z => by rw [z, upd_same] at hc; cases hc
        have nwc : w ≠ c := fun z => by rw [← z, hw2] at hc; cases hc
        refine ⟨hd3, [(kW, .ref w), (kC, .ref c), (kR, .int 0), (kT, .int 0)], rfl, (by show 4 ≤ 15; decide), ?_⟩
        rw [merge4]
        refine k d w c _ (s1.free hd) hw ?_ ⟨⟨0, 0, by decide, by decide, upd_same⟩, ⟨ws, ?_⟩, ⟨cs, ?_⟩, nwc⟩ fun b o e => ?_
        · exact s2.free hc
        · rw [upd_ne nd.symm]
          exact hw3
        · rw [upd_ne ndc]
          exact hc3
        · rw [upd_ne (ne_of_none e (s1.free hd))]
          exact s3 _ _ (s2 _ _ e)
end
end SA

set_option Elab.async false
set_option linter.all false
set_option maxRecDepth 100000
set_option maxHeartbeats 4000000
namespace K82
open PySem PySem.Spec PyProof.Rows L2
open PySem.NumText PySem.Calls
/-! ### int(t, 2) -/
theorem dig2 {c : Nat} (h : c = 48 ∨ c = 49) : digit? c = some (dv c) := by
  rcases h with rfl | rfl <;> decide
theorem step2 {ds : Array Nat} {b : Bool} {c : Nat} (h : c = 48 ∨ c = 49) : PySem.NumText.step 2 (ds, b) c = some (ds.push (dv c), true) := by
  unfold PySem.NumText.step
  rw [if_neg (by rw [beq_iff_eq]; omega), dig2 h]
  exact if_pos (by unfold dv; omega)
theorem fold2 : ∀ (cs : List Nat) (ds : Array Nat), IsB cs → cs.foldlM (PySem.NumText.step 2) (ds, true) = some (cs.foldl (fun acc c => acc.push (dv c)) ds, true)
  | [], _, _ => rfl
  | c :: cs, ds, h => by
    rw [List.foldlM_cons, step2 (h c (List.mem_cons_self ..))]
    show cs.foldlM (PySem.NumText.step 2) (ds.push (dv c), true) = _
    exact fold2 cs (ds.push (dv c)) fun d hd => h d (List.mem_cons_of_mem _ hd)
theorem digits2 {cs : List Nat} (h : IsB cs) (hne : cs ≠ []) : digits? 2 cs = some (cs.foldl (fun acc c => acc.push (dv c)) #[]) := by
  cases cs with
  | nil => exact absurd rfl hne
  | cons c cs =>
    unfold digits?
    rw [List.foldlM_cons, step2 (h c (List.mem_cons_self ..))]
    show (cs.foldlM (PySem.NumText.step 2) ((#[] : Array Nat).push (dv c), true)).bind _ = _
    rw [fold2 cs _ fun d hd => h d (List.mem_cons_of_mem _ hd)]
    rfl
theorem push2 : ∀ (cs : List Nat) (ds : Array Nat), (cs.foldl (fun acc c => acc.push (dv c)) ds).foldl (fun acc d => acc * 2 + d) 0 = cs.foldl (fun a c => 2 * a + dv c) (ds.foldl (fun acc d => acc * 2 + d) 0)
  | [], _ => rfl
  | c :: cs, ds => by
    rw [List.foldl_cons, push2 cs (ds.push (dv c)), List.foldl_cons]
    congr 1
    simp
    omega
theorem dropB2 {cs : List Nat} (h : IsB cs) : cs.dropWhile blank = cs := by
  cases cs with
  | nil => rfl
  | cons c cs => exact dropWhile_of (by have := h c (List.mem_cons_self ..); omega)
theorem sign2 {cs : List Nat} (h : IsB cs) : sign cs = (false, cs) := by
  cases cs with
  | nil => rfl
  | cons c cs =>
    have := h c (List.mem_cons_self ..)
    exact sign_of (by omega) (by omega)
theorem pref2 {cs : List Nat} (h : IsB cs) : NumText.prefix? cs = none := by
  match cs, h with
  | [], _ => rfl
  | [a], _ =>
    unfold NumText.prefix?
    split
    · rename_i e
      cases e
    · rfl
  | a :: c :: r, h =>
    have hc := h c (List.mem_cons_of_mem _ (List.mem_cons_self ..))
    by_cases ha : a = 48
    · subst ha
      have e : NumText.prefix? (48 :: c :: r) = if (c == 120 || c == 88) = true then some 16 else if (c == 111 || c == 79) = true then some 8 else if (c == 98 || c == 66) = true then some 2 else none := rfl
      rw [e, if_neg (by rw [Bool.or_eq_true, beq_iff_eq, beq_iff_eq]; omega), if_neg (by rw [Bool.or_eq_true, beq_iff_eq, beq_iff_eq]; omega), if_neg (by rw [Bool.or_eq_true, beq_iff_eq, beq_iff_eq]; omega)]
    · unfold NumText.prefix?
      split
      · rename_i e
        exact absurd (List.cons.inj e).1 ha
      · rfl
theorem based2 {cs : List Nat} (h : IsB cs) : based 2 cs = (2, false, cs) := by
  unfold based
  rw [pref2 h]
  rfl
theorem read2 {cs : List Nat} (h : IsB cs) (hne : cs ≠ []) : (int_private% "readNumeral") 0 2 cs = (int_private% "Numeral.value") ((bval cs : Nat) : Int) := by
  have hr : IsB cs.reverse := fun c hc => h c (List.mem_reverse.mp hc)
  refine (readNumeral_eq 0 2 cs).trans ?_
  rw [dropB2 h, sign2 h]
  show judge 0 false (based 2 cs).1 (based 2 cs).2.1 (digits? (based 2 cs).1 (((based 2 cs).2.2.reverse.dropWhile blank).reverse)) = _
  rw [based2 h]
  show judge 0 false 2 false (digits? 2 ((cs.reverse.dropWhile blank).reverse)) = _
  rw [dropB2 hr, List.reverse_reverse, digits2 h hne]
  show (int_private% "Numeral.value") (((cs.foldl (fun acc c => acc.push (dv c)) (#[] : Array Nat)).foldl (fun acc d => acc * 2 + d) 0 : Nat) : Int) = _
  have z : (#[] : Array Nat).foldl (fun acc d => acc * 2 + d) 0 = 0 := by first | rfl | simp
  rw [push2, z] <;> rfl
theorem seen2 {x : Str} (h : IsB x.cps.toList) : numTextOf x = x.cps.toList ∧ numSeenOf x = x.cps.toList := by
  have e1 : numTextOf x = x.cps.toList := by
    refine if_pos ?_
    rw [← Array.all_toList, List.all_eq_true]
    intro c hc
    have := h c hc
    exact decide_eq_true (by omega)
  refine ⟨e1, ?_⟩
  show (numTextOf x).takeWhile _ = _
  rw [e1]
  refine takeWhile_all fun c hc => ?_
  have := h c hc
  exact bne_iff_ne.mpr (by omega)
theorem gives2 {x : PySem.Str} {u t : Tok} (hl : x.length ≤ 640) (h : IsB x.cps.toList) (hne : x.cps.toList ≠ []) :
    Gives (Builtin.«int.__new__» ⟨[.type "int", .str x u, .int 2 t], []⟩) (.int ((bval x.cps.toList : Nat) : Int)) :=
  .of_wp fun M A E s Q hQ => by
    obtain ⟨hp, g, d, tk, os⟩ := s
    have f1 := F.conv_sub_int
    have f2 := F.madeHere_int
    have f6 : typeOf (.str x u) = pure (.type "str") := rfl
    obtain ⟨e1, e2⟩ := seen2 h
    have hs : (numSeenOf x).length ≤ 640 := by
      rw [e2, Array.length_toList]
      exact hl
    have hr : (int_private% "readNumeral") 0 2 (numSeenOf x) = (int_private% "Numeral.value") ((bval x.cps.toList : Nat) : Int) := by
      rw [e2]
      exact read2 h hne
    have ha : ((numSeenOf x).length == (numTextOf x).length) = true := by
      rw [e1, e2]
      exact beq_self_eq_true _
    have hk := Hx.Hid.mk (And.intro hs (And.intro hr ha))
    clear hs hr ha e1 e2 hl hne h
    repeat (any_goals (first
      | assumption
      | ((with_reducible show wpAny _ _ ((int_private% "intFromText") _ _ _) _ _ _); refine Hx.wp_textB hk.out.1 hk.out.2.1 hk.out.2.2 ?_)
      | wp_step))
    all_goals first | exact ⟨_, rfl, hQ⟩ | skip
theorem call2 {prog : Program} {w : World} {A : Around} {E : Value → Shared → Prop} {s : Shared} {Q : Value → Shared → Prop} {x : PySem.Str} {u t : Tok} (hl : x.length ≤ 640) (h : IsB x.cps.toList) (hne : x.cps.toList ≠ [])
    (hQ : Q (.int ((bval x.cps.toList : Nat) : Int) s.toks) { s with toks := s.toks + 1 }) : wpAny (model prog w) A (call (.type "int") [.str x u, .int 2 t]) Q E s :=
  callType_new F.called_int F.newNe_int (Hx.typeCall_int_2 _ _) (Hx.newCall_int_2 _ _) (fun obj => F.initArgs_range_2 obj _ _) F.entry_int_new (gives2 hl h hne).meets (show (Made.int ((bval x.cps.toList : Nat) : Int)).post _ s from ⟨rfl, hQ⟩)
/-- int(t, 2) -/
def rIntBin : List V → Hp → VK → Prop := fun xs H Q => ∃ x : Str, xs = [.str x, .int 2] ∧ tl x ≠ [] ∧ x.length ≤ 640 ∧ IsB (tl x) ∧ Q (.int ((bval (tl x) : Nat) : Int)) H
theorem call_int_bin {X : Cx} : CallR X (.type "int") rIntBin := by
  intro pins s σ H xs us Q I r h
  obtain ⟨x, rfl, hne, hl, hx, q⟩ := h
  obtain ⟨u, w', rfl, r1, r2⟩ := vals2 r
  obtain ⟨t1, rfl⟩ := r1
  obtain ⟨t2, rfl⟩ := r2
  exact call2 hl hx hne ⟨.int ((bval (tl x) : Nat) : Int), H, I.tok _, ⟨_, rfl⟩, q⟩
/-! ### text * int -/
theorem op_mul_str {X : Cx} : OpR X (binaryOp .Mult) (fun x y H Q => ∃ (a : Str) (k : Int), x = .str a ∧ y = .int k ∧ MulOk a k ∧ Q (.str (Txt.mul a k)) H) := by
  intro pins s σ H x y u v Q I r1 r2 h
  obtain ⟨a, k, rfl, rfl, hm, q⟩ := h
  obtain ⟨t1, rfl⟩ := r1
  obtain ⟨t2, rfl⟩ := r2
  refine SB.mul hm fun t' tk => ⟨.str (Txt.mul a k), H, I.tok _, ⟨_, rfl⟩, q⟩
theorem rep_cat (c : Nat) : ∀ (n : Nat) (acc : Array Nat), (List.replicate n (#[c] : Array Nat)).foldl (· ++ ·) acc = (acc.toList ++ List.replicate n c).toArray
  | 0, acc => by simp
  | n + 1, acc => by
    rw [List.replicate_succ, List.foldl_cons, rep_cat c n]
    simp [List.replicate_succ]
theorem mul_one (c n : Nat) : Txt.mul (one c) (n : Int) = ⟨(List.replicate n c).toArray⟩ := by
  unfold Txt.mul
  by_cases h0 : n = 0
  · subst h0
    rfl
  · rw [if_neg (by omega)]
    by_cases h1 : n = 1
    · subst h1
      rfl
    · rw [if_neg]
      · rw [Int.toNat_natCast, rep_cat]
        simp
      · have : ¬ ((n : Int) == 1) = true := by rw [beq_iff_eq]; omega
        simp only [Bool.or_eq_true, not_or]
        exact ⟨this, fun z => by cases (show (false : Bool) = true from z)⟩
theorem mul_ok (c n : Nat) (h : n ≤ 100000) : MulOk (one c) (n : Int) := by
  refine ⟨?_, fun h1 h2 => ?_, fun h1 h2 => ?_⟩
  · rw [Bool.or_eq_false_iff, decide_eq_false_iff_not, decide_eq_false_iff_not]
    omega
  · show ¬ ((1 : Nat) : Int) > (2 ^ 63 - 1) / (n : Int)
    have : (1 : Int) ≤ (2 ^ 63 - 1) / (n : Int) := by
      rw [Int.le_ediv_iff_mul_le (by omega)]
      omega
    omega
  · show Builtin.Str.tooLong (1 * (n : Int).toNat) = false
    unfold Builtin.Str.tooLong
    rw [decide_eq_false_iff_not]
    have := sizeLine_eq
    omega
end K82

set_option Elab.async false
set_option linter.all false
set_option maxRecDepth 100000
set_option maxHeartbeats 4000000
namespace K82
open PySem PySem.Spec PyProof.Rows L2
open Builtin Builtin.Str Builtin.Int Builtin.Float
/-! ### f'{n:b}' -/
def binS (n : Nat) : Str := ⟨((Nat.toDigits 2 n).map Char.toNat).toArray⟩
theorem gives_afterCut {n : Nat} {a : Int} {t : Tok} {k : String → Sem Fin} {m : Made} (g : Gives (k "int") m) : Gives (do let n ← typeNameOfCut n (.int a t); k n) m :=
  fun prog w A R s hq => wpAny_bind (wpAny_typeNameOfCut_int (g prog w A R s hq))
abbrev sB : Str := ⟨#[98]⟩
theorem sB_eq : Str.ofString "b" = sB := by decide +kernel
theorem parse_b (name : String) : parseFormatSpec sB.cps.toList name 62 = .ok { align := 62, type := some 98 } := rfl
theorem field_b (ds : List Nat) : intField' { align := 62, type := some 98 } false [] ds [] 4 = ⟨ds.toArray⟩ := by
  unfold intField'
  cases ds with
  | nil => rfl
  | cons d ds =>
    have h : ((-1 : Int) - (0 : Int) - (((d :: ds).length : Nat) : Int)).toNat = 0 := by omega
    simp
    omega
theorem gr {x y : Str} (h : x = y) : Gives (retStr x) (.str y) := h ▸ .of_eq rfl
theorem gives_b (n : Nat) (t u : Tok) : Gives («int.__format__» ⟨[.int (n : Int) t, .str sB u], []⟩) (.str (binS n)) := by
  show Gives (do let _k ← typeNameOf (.str sB u); (do let name ← typeNameOfCut 200 (.int (n : Int) t); retStr _)) _
  refine gives_after_typeNameOf (T := "str") (fun s => typeIs_str s _ _) (by decide) fun _ => ?_
  refine gives_afterCut (gr ?_)
  have h0 : decide ((n : Int) < 0) = false := by rw [decide_eq_false_iff_not]; omega
  unfold binS
  rw [h0, show ((n : Int)).natAbs = n from rfl]
  generalize Nat.toDigits 2 n = ds
  clear h0
  rw [← field_b]
  rfl
section
variable {X : Cx}
/-- {n:b} in an f-string, n from 0 on -/
def tFmtB (te : TE) : TE := fun σ H Q => te σ H fun x H1 => ∃ n : Nat, x = .int (n : Int) ∧ (binS n).length ≤ 1000 ∧ Q (.str (binS n)) H1
theorem pe_fmtB {e : Expr} {te : TE} {p3 : Pos} (he : PE X e te) {sp : Expr} (hs : PE X sp (tC (.str (Str.ofString "b")))) : PE X (.FormattedValue e (-1) (some sp) p3) (tFmtB te) := by
  rw [sB_eq] at hs
  refine ⟨fun pins s σ H Q I h => ?_⟩
  refine wpAny_FormattedValue_spec (thn (he.run pins s σ H _ I h) fun v s1 hv => ?_)
  obtain ⟨x, H1, I1, r1, n, rfl, hl, q⟩ := hv
  obtain ⟨t, rfl⟩ := r1
  refine thn (hs.run pins s1 σ H1 (fun v H2 => v = .str sB ∧ H2 = H1) I1 ⟨rfl, rfl⟩) fun v2 s2 hv2 => ?_
  obtain ⟨y, H2, I2, r2, rfl, rfl⟩ := hv2
  obtain ⟨t2, rfl⟩ := r2
  have hz := sizeLine_eq
  exact ⟨sB, t2, rfl, wpAny_formatField_spec (T := "int") rfl (fun s' => typeIs_int s' _ t) F.slot_int_format F.entry_int_format F.args_int_format_2 (fun u => gives_b n t u) ⟨.str (binS n), H2, I2.tok _, ⟨_, rfl⟩, q⟩ (by show 1 ≤ sizeLine; omega) (by omega)⟩
end
theorem binS_tl (n : Nat) : tl (binS (n + 1)) = bdig (Nat.log2 (n + 1) + 1) (n + 1) := by
  show ((Nat.toDigits 2 (n + 1)).map Char.toNat).toArray.toList = _
  rw [List.toList_toArray]
  exact toDig _ _ (log_le n) (log_lt n)
end K82

set_option Elab.async false
set_option linter.all false
set_option maxRecDepth 100000
set_option maxHeartbeats 4000000
namespace K82
open PySem
abbrev mk (l : L) : Str := ⟨l.toArray⟩
theorem tl_mk (l : L) : tl (mk l) = l := by simp [mk, tl]
theorem mk_tl (z : Str) : mk (tl z) = z := by simp [mk, tl]
theorem len_tl (z : Str) : z.length = (tl z).length := rfl
theorem len_mk (l : L) : (mk l).length = l.length := by simp [mk, Str.length]
def isBs (z : Str) : Bool := (tl z).all fun c => c == 48 || c == 49
theorem isBs_iff (z : Str) : isBs z = true ↔ IsB (tl z) := by
  unfold isBs IsB
  rw [List.all_eq_true]
  refine ⟨fun h c hc => ?_, fun h c hc => ?_⟩
  · have := h c hc
    simpa using this
  · have := h c hc
    simpa using this
theorem cnt01 : ∀ l : L, l.count 48 + l.count 49 ≤ l.length ∧ (l.count 48 + l.count 49 = l.length ↔ IsB l)
  | [] => by simp [IsB]
  | c :: l => by
    obtain ⟨h1, h2⟩ := cnt01 l
    have e : IsB (c :: l) ↔ (c = 48 ∨ c = 49) ∧ IsB l := by simp [IsB]
    rw [e, ← h2]
    simp only [List.count_cons, List.length_cons, beq_iff_eq]
    by_cases a : c = 48
    · have : ¬ c = 49 := by omega
      simp [a]
      omega
    · by_cases b : c = 49
      · simp [b]
        omega
      · simp [a, b]
        omega
theorem s0 : ("0" : Str) = one 48 := by decide +kernel
theorem s1 : ("1" : Str) = one 49 := by decide +kernel
end K82
namespace SA
open PySem PySem.Spec PyProof.Rows L2 K82
/-- built-in classes as values -/
structure Bn2 (mg : Str → Option Value) : Prop extends Bn mg where
  ValueError : mg "ValueError" = none
def spIsNum (K : PySem.W.Frag) : Sp := fun vs H Q _ => ∃ x t, vs = [x] ∧ Kd K H x t ∧ Q (.bl (decide (t = "int"))) H
def spNumB (K : PySem.W.Frag) : Sp := fun vs H Q _ => ∃ x t lo hi, vs = [x, .int lo, .int hi] ∧ Kd K H x t ∧ (∀ i, x = .int i → Q (.bl (decide (lo ≤ i ∧ i ≤ hi))) H) ∧ (t ≠ "int" → Q (.bl false) H)
def spBitS (K : PySem.W.Frag) : Sp := fun vs H Q _ => ∃ x t, vs = [x] ∧ Kd K H x t ∧ (∀ z, x = .str z → z.length ≤ 100000 ∧ Q (.bl (isBs z)) H) ∧ (t ≠ "str" → Q (.bl false) H)
section
variable {P : Program} {w0 : World} {K : PySem.W.Frag} {mg : Str → Option Value} {base : Heap}
theorem ok_is_number {f : Addr} {fd : FuncData} (F : Fun K "is_number" "is_number" s_is_number f fd) (B : Bn2 mg) : FnOk P w0 K mg base CX0 1 f fd ["thing"] (spIsNum K) := by
  refine F.ok sc_is_number (fun vs H Q E h => ?_) (fun cdv A outer s H vs Q E hr h => ?_)
  · obtain ⟨x, t, rfl, _⟩ := h
    rfl
  · obtain ⟨x, t, rfl, hk, q⟩ := h
    refine ⟨_, (pss_one (ps_ret (pe_and (pe_callB call_isi (by rfl) B.isinstance (by decide +kernel) (pa_cons (pv 0) (pa_cons (pe_bltn (v := .ty "int") (by rfl) B.int (by decide +kernel) rfl) pa_nil))) (pe_one (pe_not (pe_callB call_isi (by rfl) B.isinstance (by decide +kernel) (pa_cons (pv 0) (pa_cons (pe_bltn (v := .ty "bool") (by rfl) B.bool (by decide +kernel) rfl) pa_nil)))))))), ?_⟩
    cases hk with
    | non => exact ⟨_, rfl, _, .ty "int", .type "NoneType", .type "int", false, rfl, .ty _, Kd.ty (.non), kit_ty (by decide +kernel), false, rfl, q⟩
    | bl b => exact ⟨_, rfl, _, .ty "int", .type "bool", .type "int", true, rfl, .ty _, Kd.ty (.bl b), kit_ty (by decide +kernel), true, rfl, _, rfl, _, .ty "bool", .type "bool", .type "bool", true, rfl, .ty _, Kd.ty (.bl b), kit_ty (by decide +kernel), true, rfl, q⟩
    | int i => exact ⟨_, rfl, _, .ty "int", .type "int", .type "int", true, rfl, .ty _, Kd.ty (.int i), kit_ty (by decide +kernel), true, rfl, _, rfl, _, .ty "bool", .type "int", .type "bool", false, rfl, .ty _, Kd.ty (.int i), kit_ty (by decide +kernel), false, rfl, q⟩
    | str z => exact ⟨_, rfl, _, .ty "int", .type "str", .type "int", false, rfl, .ty _, Kd.ty (.str z), kit_ty (by decide +kernel), false, rfl, q⟩
    | tup h => exact ⟨_, rfl, _, .ty "int", .type "tuple", .type "int", false, rfl, .ty _, Kd.ty (.tup h), kit_ty (by decide +kernel), false, rfl, q⟩
    | lst h => exact ⟨_, rfl, _, .ty "int", .type "list", .type "int", false, rfl, .ty _, Kd.ty (.lst h), kit_ty (by decide +kernel), false, rfl, q⟩
    | dct h => exact ⟨_, rfl, _, .ty "int", .type "dict", .type "int", false, rfl, .ty _, Kd.ty (.dct h), kit_ty (by decide +kernel), false, rfl, q⟩
theorem ok_is_number_between {f : Addr} {fd : FuncData} (F : Fun K "is_number_between" "is_number_between" s_is_number_between f fd) (c_is_number : Dq P w0 K mg base CX0 1 "is_number" ["thing"] (spIsNum K)) : FnOk P w0 K mg base CX0 2 f fd ["thing", "low", "high"] (spNumB K) := by
  refine F.ok sc_is_number_between (fun vs H Q E h => ?_) (fun cdv A outer s H vs Q E hr h => ?_)
  · obtain ⟨x, t, lo, hi, rfl, _⟩ := h
    rfl
  · obtain ⟨x, t, lo, hi, rfl, hk, q1, q2⟩ := h
    refine ⟨_, (pss_one (ps_ret (pe_and (pe_q c_is_number hr (by decide) (by rfl) (pa_cons (pv 0) pa_nil)) (pe_one (pe_chain op_le op_le (pv 1) (pv 0) (pv 2)))))), ?_⟩
    refine ⟨_, rfl, x, t, rfl, hk, _, rfl, ?_⟩
    by_cases ht : t = "int"
    · obtain ⟨i, rfl⟩ := hk.int_of ht
      rw [decide_eq_true ht]
      refine iteT ⟨_, rfl, _, rfl, _, _, rfl, rfl, _, rfl, ?_⟩
      have q := q1 i rfl
      by_cases h1 : lo ≤ i
      · rw [decide_eq_true h1]
        refine iteT ⟨_, rfl, _, _, rfl, rfl, ?_⟩
        rw [show decide (lo ≤ i ∧ i ≤ hi) = decide (i ≤ hi) by rw [decide_eq_decide]; exact ⟨fun h => h.2, fun h => ⟨h1, h⟩⟩] at q
        exact q
      · rw [decide_eq_false h1]
        refine iteF ?_
        rw [show decide (lo ≤ i ∧ i ≤ hi) = false by rw [decide_eq_false_iff_not]; exact fun h => h1 h.1] at q
        exact q
    · rw [decide_eq_false ht]
      exact q2 ht
theorem ok_is_bit_string {f : Addr} {fd : FuncData} (F : Fun K "is_bit_string" "is_bit_string" s_is_bit_string f fd) (B : Bn2 mg) : FnOk P w0 K mg base CX0 1 f fd ["thing"] (spBitS K) := by
  refine F.ok sc_is_bit_string (fun vs H Q E h => ?_) (fun cdv A outer s H vs Q E hr h => ?_)
  · obtain ⟨x, t, rfl, _⟩ := h
    rfl
  · obtain ⟨x, t, rfl, hk, q1, q2⟩ := h
    refine ⟨_, (pss_one (ps_ret (pe_and (pe_callB call_isi (by rfl) B.isinstance (by decide +kernel) (pa_cons (pv 0) (pa_cons (pe_bltn (v := .ty "str") (by rfl) B.str (by decide +kernel) rfl) pa_nil))) (pe_one (pe_cmpR op_eq (pe_op op_add (pe_bm PySem.F.plainAttrs_str PySem.F.slot_str_count PySem.F.type_str_count mt_count (pv 0) (pa_cons pe_str pa_nil)) (pe_bm PySem.F.plainAttrs_str PySem.F.slot_str_count PySem.F.type_str_count mt_count (pv 0) (pa_cons pe_str pa_nil))) (pe_callB call_len_str (by rfl) B.len PySem.boot_len (pa_cons (pv 0) pa_nil)) (nomark _)))))), ?_⟩
    cases hk with
    | str z =>
      obtain ⟨hz, q⟩ := q1 z rfl
      refine ⟨_, rfl, _, .ty "str", .type "str", .type "str", true, rfl, .ty _, Kd.ty (.str z), kit_ty (by decide +kernel), true, rfl, _, rfl, rfl, z, _, rfl, rfl, _, rfl, rfl, z, _, rfl, rfl, _, _, rfl, rfl, _, rfl, z, rfl, small5 hz, rfl, ?_⟩
      rw [s0, s1, count_one, count_one]
      have e : decide (V.int ((((tl z).count 48 : Nat) : Int) + (((tl z).count 49 : Nat) : Int)) = V.int (z.length : Int)) = isBs z := by
        rw [Bool.eq_iff_iff, isBs_iff, ← (cnt01 (tl z)).2, decide_eq_true_eq, ← len_tl]
        constructor
        · intro h
          injection h with h
          omega
        · intro h
          rw [← h, Int.natCast_add]
      exact e.symm ▸ q
    | non => exact ⟨_, rfl, _, .ty "str", .type "NoneType", .type "str", false, rfl, .ty _, Kd.ty (.non), kit_ty (by decide +kernel), false, rfl, q2 (by decide)⟩
    | bl b => exact ⟨_, rfl, _, .ty "str", .type "bool", .type "str", false, rfl, .ty _, Kd.ty (.bl b), kit_ty (by decide +kernel), false, rfl, q2 (by decide)⟩
    | int i => exact ⟨_, rfl, _, .ty "str", .type "int", .type "str", false, rfl, .ty _, Kd.ty (.int i), kit_ty (by decide +kernel), false, rfl, q2 (by decide)⟩
    | tup h => exact ⟨_, rfl, _, .ty "str", .type "tuple", .type "str", false, rfl, .ty _, Kd.ty (.tup h), kit_ty (by decide +kernel), false, rfl, q2 (by decide)⟩
    | lst h => exact ⟨_, rfl, _, .ty "str", .type "list", .type "str", false, rfl, .ty _, Kd.ty (.lst h), kit_ty (by decide +kernel), false, rfl, q2 (by decide)⟩
    | dct h => exact ⟨_, rfl, _, .ty "str", .type "dict", .type "str", false, rfl, .ty _, Kd.ty (.dct h), kit_ty (by decide +kernel), false, rfl, q2 (by decide)⟩
end
end SA

set_option Elab.async false
set_option linter.all false
set_option maxRecDepth 100000
set_option maxHeartbeats 4000000
namespace K83
open PySem PySem.Spec
open K82 (L one tl)
def lettersS : Str := "abcdefghijklmnopqrstuvwxyz"
def mostOf (c : Nat) : Option Nat := if c = 118 then some 9999 else if c = 114 then some 8 else if c = 115 then some 999 else none
def placeL : L → Bool
  | c :: f => match mostOf c with
    | some m => figsB f && (decide (f.length ≤ 4) && decide (dnum f ≤ m))
    | none => false
  | [] => false
theorem small_letters (c : Nat) : decide (c ∈ tl lettersS) = K1.small c := by
  unfold K1.small
  rw [decide_eq_decide]
  have e : tl lettersS = [97, 98, 99, 100, 101, 102, 103, 104, 105, 106, 107, 108, 109, 110, 111, 112, 113, 114, 115, 116, 117, 118, 119, 120, 121, 122] := by decide +kernel
  rw [e]
  simp only [List.mem_cons, List.not_mem_nil, or_false]
  omega
theorem at_tl {w : Str} {i c : Nat} (h : w.cps[i]? = some c) : (tl w)[i]? = some c := by simpa using h
theorem all_map (p : Nat → Bool) : ∀ l : L, (l.map p).all id = l.all p
  | [] => rfl
  | c :: l => by rw [List.map_cons, List.all_cons, List.all_cons, all_map p l]; rfl
theorem foldl10 (l : L) : ∀ a, l.foldl (fun a c => 10 * a + dnum.dv10 c) a = l.foldl (fun acc c => acc * 10 + (c - 48)) a := by
  induction l with
  | nil => exact fun _ => rfl
  | cons c l ih =>
    intro a
    rw [List.foldl_cons, List.foldl_cons, ih]
    congr 1
    show 10 * a + (c - 48) = _
    omega
theorem regL_place {r : Nat} (hr : r ≤ 9) (l : L) : regL r l = (placeL l && (decide (l.head? = some 114) && decide (dnum (l.drop 1) < r))) := by
  rw [Bool.eq_iff_iff]
  constructor
  · intro h
    unfold regL at h
    split at h
    · rename_i c
      rw [Bool.and_eq_true, decide_eq_true_eq] at h
      obtain ⟨a, ha, rfl⟩ := dig_ex h.1
      have e : dnum [48 + a] = a := by simp [dnum, dnum.dv10]
      simp [placeL, mostOf, figs1 ha, e]
      omega
    · cases h
  · intro h
    rw [Bool.and_eq_true, Bool.and_eq_true, decide_eq_true_eq, decide_eq_true_eq] at h
    obtain ⟨h1, h2, h3⟩ := h
    match l, h1, h2, h3 with
    | c :: f, h1, h2, h3 =>
      obtain rfl : c = 114 := Option.some.inj h2
      have h1 : (figsB f && (decide (f.length ≤ 4) && decide (dnum f ≤ 8))) = true := h1
      rw [Bool.and_eq_true, Bool.and_eq_true, decide_eq_true_eq, decide_eq_true_eq] at h1
      obtain ⟨f1, f2, f3⟩ := h1
      have h3 : dnum f < r := h3
      unfold figsB at f1
      rw [Bool.and_eq_true, Bool.and_eq_true, Bool.or_eq_true, decide_eq_true_eq, decide_eq_true_eq, List.all_eq_true] at f1
      obtain ⟨g1, g2, g3⟩ := f1
      match f, g1, g2, g3, f2, f3, h3 with
      | [], g1, _, _, _, _, _ => cases g1
      | [a], _, g2, _, _, _, h3 =>
        obtain ⟨a, ha, rfl⟩ := dig_ex (g2 a (by simp))
        have e : dnum [48 + a] = a := by simp [dnum, dnum.dv10]
        rw [e] at h3
        have d : digit (48 + a) = true := decide_eq_true (by omega)
        simp [regL, d, h3]
      | a :: b :: t, _, g2, g3, f2, f3, _ =>
        exfalso
        obtain ⟨a, ha, rfl⟩ := dig_ex (g2 a (by simp))
        have h0 : a ≠ 0 := by
          rcases g3 with g3 | g3
          · simp at g3
            omega
          · simp at g3
        have mono : ∀ (t : L) (x : Nat), x ≤ t.foldl (fun a c => 10 * a + dnum.dv10 c) x := by
          intro t
          induction t with
          | nil => exact fun _ => Nat.le_refl _
          | cons c t ih =>
            intro x
            exact Nat.le_trans (by omega) (ih (10 * x + dnum.dv10 c))
        have := mono t (10 * (10 * 0 + dnum.dv10 (48 + a)) + dnum.dv10 b)
        have e : dnum ((48 + a) :: b :: t) = t.foldl (fun a c => 10 * a + dnum.dv10 c) (10 * (10 * 0 + dnum.dv10 (48 + a)) + dnum.dv10 b) := rfl
        rw [e] at f3
        have e2 : dnum.dv10 (48 + a) = a := by simp [dnum.dv10]
        omega
theorem slotL_place (l : L) : slotL l = (placeL l && decide (l.head? = some 115)) := by
  rw [Bool.eq_iff_iff]
  constructor
  · intro h
    unfold slotL at h
    split at h
    · rename_i f
      rw [Bool.and_eq_true, decide_eq_true_eq] at h
      have h999 : dnum f ≤ 999 := by
        have hd := h.1
        unfold figsB at hd
        rw [Bool.and_eq_true, Bool.and_eq_true, List.all_eq_true] at hd
        match f, h.2, hd.2.1 with
        | [], _, _ => decide
        | [a], _, g => have := of_decide_eq_true (g a (by simp)); simp [dnum, dnum.dv10]; omega
        | [a, b], _, g => have := of_decide_eq_true (g a (by simp)); have := of_decide_eq_true (g b (by simp)); simp [dnum, dnum.dv10]; omega
        | [a, b, c], _, g => have := of_decide_eq_true (g a (by simp)); have := of_decide_eq_true (g b (by simp)); have := of_decide_eq_true (g c (by simp)); simp [dnum, dnum.dv10]; omega
        | _ :: _ :: _ :: _ :: _, h3, _ => simp at h3
      have h4 : f.length ≤ 4 := by omega
      simp [placeL, mostOf, h.1, h999, h4]
    · cases h
  · intro h
    rw [Bool.and_eq_true, decide_eq_true_eq] at h
    obtain ⟨h1, h2⟩ := h
    match l, h1, h2 with
    | c :: f, h1, h2 =>
      obtain rfl : c = 115 := Option.some.inj h2
      have h1 : (figsB f && (decide (f.length ≤ 4) && decide (dnum f ≤ 999))) = true := h1
      rw [Bool.and_eq_true, Bool.and_eq_true, decide_eq_true_eq, decide_eq_true_eq] at h1
      obtain ⟨f1, f2, f3⟩ := h1
      show (figsB f && decide (f.length ≤ 3)) = true
      rw [f1, Bool.true_and, decide_eq_true_eq]
      unfold figsB at f1
      rw [Bool.and_eq_true, Bool.and_eq_true, Bool.or_eq_true, decide_eq_true_eq, decide_eq_true_eq, List.all_eq_true] at f1
      obtain ⟨g1, g2, g3⟩ := f1
      match f, g2, g3, f2, f3 with
      | [], _, _, _, _ => simp
      | [_], _, _, _, _ => simp
      | [_, _], _, _, _, _ => simp
      | [_, _, _], _, _, _, _ => simp
      | [a, b, c, d], g2, g3, _, f3 =>
        exfalso
        have ha := of_decide_eq_true (g2 a (by simp))
        rcases g3 with g3 | g3
        · simp at g3
          simp [dnum, dnum.dv10] at f3
          omega
        · simp at g3
      | _ :: _ :: _ :: _ :: _ :: _, _, _, f2, _ => simp at f2
end K83
namespace SA
open PySem PySem.Spec PyProof.Rows L2 K82 K83
structure Bn3 (mg : Str → Option Value) : Prop extends Bn2 mg where
  tuple : mg "tuple" = none
  list : mg "list" = none
  all : mg "all" = none
  zip : mg "zip" = none
  enumerate : mg "enumerate" = none
  sorted : mg "sorted" = none
def lettersOf : Lt → Nat
  | .p => 112
  | .n => 110
  | .c => 99
  | .x => 120
  | .k => 107
  | .P => 80
  | .l => 108
/-- the signs of a word's parts as the program holds them -/
def lettersW (w : Str) (ls : List Lt) : Str := if w = "copy" then "c" else ⟨(ls.map lettersOf).toArray⟩
/-- what the top's constants are -/
structure Top83 (K : PySem.W.Frag) (w : World) (mg : Str → Option Value) (kA mA iA lA wA : Addr) : Prop where
  kept : mg "KEPT" = some (.ref kA)
  keptT : ∀ H, SqT K H kA (K1.keptS.map V.str)
  lettersX : ∃ t, mg "LETTERS_words" = some (.str lettersS t)
  lettersC : ∃ t, mg "LETTERS_coding" = some (.str lettersS t)
  MOST_OF_PLACES : mg "MOST_OF_PLACES" = some (.ref mA)
  mostD : GDt K w mA [("v", .int 9999), ("r", .int 8), ("s", .int 999)]
  INSTRUCTIONS : mg "INSTRUCTIONS" = some (.ref iA)
  instD : GDt K w iA (tab.map fun q => (q.1, .str (lettersW q.1 q.2)))
  LEAPS : mg "LEAPS" = some (.ref lA)
  leapD : GDt K w lA [("short", .int 8), ("long", .int 32)]
  words : mg "WORDS" = some (.ref wA)
  wordsT : ∀ H, SqT K H wA ((tab.map Prod.fst).map V.str)
  wordsK : ∃ o, K.lookup wA = some o ∧ o.cls = .type "tuple" ∧ o.dict = none
  most : ∃ t, mg "MOST_PARTS" = some (.int 3 t)
def spTupOf (K : PySem.W.Frag) : Sp := fun vs H Q _ => ∃ (x : V) (m : Int), vs = [x, .int m] ∧ ((∃ (a : Addr) (xs : List V), x = .ref a ∧ H a = some (.tup xs) ∧ Q (.bl (decide ((xs.length : Int) = m))) H) ∨ (∃ t, Kd K H x t ∧ t ≠ "tuple" ∧ Q (.bl false) H))
def spIsList (K : PySem.W.Frag) : Sp := fun vs H Q _ => ∃ (x : V) (t : String), vs = [x] ∧ ∀ H', Same H H' → Kd K H' x t ∧ Q (.bl (decide (t = "list") || decide (t = "tuple"))) H'
def spIsName (K : PySem.W.Frag) : Sp := fun vs H Q _ => ∃ x, vs = [x] ∧ ((∃ w, x = .str w ∧ w.length ≤ 100000 ∧ ∀ H', Same H H' → Q (.bl (K1.isName w)) H') ∨ (∃ t, Kd K H x t ∧ t ≠ "str" ∧ Q (.bl false) H))
def spIsPlace (K : PySem.W.Frag) : Sp := fun vs H Q _ => ∃ x, vs = [x] ∧ ((∃ z, x = .str z ∧ z.length ≤ 100000 ∧ asc z ∧ Q (.bl (placeL (tl z))) H) ∨ (∃ t, Kd K H x t ∧ t ≠ "str" ∧ Q (.bl false) H))
def spPlaceN : Sp := fun vs H Q _ => ∃ (z : Str) (f : L) (c : Nat), vs = [.str z] ∧ tl z = c :: f ∧ figsB f = true ∧ f.length ≤ 4 ∧ Q (.int (dnum f : Nat)) H
section
variable {P : Program} {w0 : World} {K : PySem.W.Frag} {mg : Str → Option Value} {base : Heap} {kA mA iA lA wA : Addr}
theorem kd_no {H : Hp} {x : V} {t c : String} (hk : Kd K H x t) (hc : c = "tuple" ∨ c = "str" ∨ c = "list") (ht : t ≠ c) : PySem.W.kitOne K (.type t) (.type c) = some false := by
  rcases hc with rfl | rfl | rfl <;> cases hk <;> first | exact absurd rfl ht | exact kit_ty (by decide +kernel)
theorem kitLT {H : Hp} {x : V} {t : String} (hk : Kd K H x t) : PySem.W.kitAny K (.type t) [.type "list", .type "tuple"] = some (decide (t = "list") || decide (t = "tuple")) := by
  have k : ∀ {a b : Bool}, PySem.W.kitOne K (.type t) (.type "list") = some a → PySem.W.kitOne K (.type t) (.type "tuple") = some b → PySem.W.kitAny K (.type t) [.type "list", .type "tuple"] = some (a || b) := by
    intro a b h1 h2
    unfold PySem.W.kitAny
    rw [h1]
    cases a with
    | true => rfl
    | false =>
      unfold PySem.W.kitAny
      rw [h2]
      cases b <;> rfl
  cases hk <;> exact k (kit_ty (by decide +kernel)) (kit_ty (by decide +kernel))
theorem ok_is_tuple_of {f : Addr} {fd : FuncData} (F : Fun K "is_tuple_of" "is_tuple_of" s_is_tuple_of f fd) (B : Bn3 mg) : FnOk P w0 K mg base CX0 1 f fd ["thing", "many"] (spTupOf K) := by
  refine F.ok sc_is_tuple_of (fun vs H Q E h => ?_) (fun cdv A outer s H vs Q E hr h => ?_)
  · obtain ⟨x, m, rfl, _⟩ := h
    rfl
  · obtain ⟨x, m, rfl, h⟩ := h
    refine ⟨_, (pss_one (ps_ret (pe_and (pe_callB call_isi (by rfl) B.isinstance (by decide +kernel) (pa_cons (pv 0) (pa_cons (pe_bltn (v := .ty "tuple") (by rfl) B.tuple (by decide +kernel) rfl) pa_nil))) (pe_one (pe_cmpR op_eq (pe_callB call_len_seq (by rfl) B.len PySem.boot_len (pa_cons (pv 0) pa_nil)) (pv 1) (nomark _)))))), ?_⟩
    rcases h with ⟨a, xs, rfl, e, q⟩ | ⟨t, hk, ht, q⟩
    · exact ⟨_, rfl, _, .ty "tuple", .type "tuple", .type "tuple", true, rfl, .ty _, Kd.ty (.tup (.base (.tup e))), kit_ty (by decide +kernel), true, rfl, _, rfl, _, _, rfl, .inr (SqT.of e), _, rfl, rfl, (show Q (.bl (decide (V.int (xs.length : Nat) = V.int m))) H by rw [show decide (V.int (xs.length : Nat) = V.int m) = decide ((xs.length : Int) = m) from by rw [decide_eq_decide]; exact ⟨fun h => V.int.inj h, fun h => by rw [h]⟩]; exact q)⟩
    · exact ⟨_, rfl, _, .ty "tuple", .type _, .type "tuple", false, rfl, .ty _, Kd.ty (hk), kd_no (hk) (by simp) ht, false, rfl, q⟩
theorem ok_is_list {f : Addr} {fd : FuncData} (F : Fun K "is_list" "is_list" s_is_list f fd) (B : Bn3 mg) : FnOk P w0 K mg base CX0 1 f fd ["thing"] (spIsList K) := by
  refine F.ok sc_is_list (fun vs H Q E h => ?_) (fun cdv A outer s H vs Q E hr h => ?_)
  · obtain ⟨x, t, rfl, _⟩ := h
    rfl
  · obtain ⟨x, t, rfl, q⟩ := h
    refine ⟨_, (pss_one (ps_ret (pe_callB call_isiT (by rfl) B.isinstance (by decide +kernel) (pa_cons (pv 0) (pa_cons (pe_tup (pa_cons (pe_bltn (v := .ty "list") (by rfl) B.list (by decide +kernel) rfl) (pa_cons (pe_bltn (v := .ty "tuple") (by rfl) B.tuple (by decide +kernel) rfl) pa_nil))) pa_nil))))), ?_⟩
    refine ⟨_, rfl, (by show 2 ≤ sizeLine; decide), fun p hp => ?_⟩
    obtain ⟨hk2, q2⟩ := q _ (Same.new hp (o := .tup [.ty "list", .ty "tuple"]))
    exact ⟨x, p, _, .type t, [.type "list", .type "tuple"], _, rfl, upd_same, .cons (.ty _) (.cons (.ty _) .nil), hk2.ty, kitLT hk2, q2⟩
theorem ok_is_name {f : Addr} {fd : FuncData} (F : Fun K "is_name" "is_name" s_is_name f fd) (T : Top83 K w0 mg kA mA iA lA wA) (B : Bn3 mg) : FnOk P w0 K mg base CX0 1 f fd ["thing"] (spIsName K) := by
  obtain ⟨tl1, mL⟩ := T.lettersX
  refine F.ok sc_is_name (fun vs H Q E h => ?_) (fun cdv A outer s H vs Q E hr h => ?_)
  · obtain ⟨x, rfl, _⟩ := h
    rfl
  · obtain ⟨x, rfl, h⟩ := h
    refine ⟨_, (pss_cons (ps_if (PW.pt (pw_or (pt_not (pt_val (pe_callB call_isi (by rfl) B.isinstance (by decide +kernel) (pa_cons (pv 0) (pa_cons (pe_bltn (v := .ty "str") (by rfl) B.str (by decide +kernel) rfl) pa_nil))))) (pw_or (pt_not (pt_chain op_le op_le pe_int (pe_callB call_len_str (by rfl) B.len PySem.boot_len (pa_cons (pv 0) pa_nil)) pe_int)) (pw_or1 (pt_cmpR op_in_seq (pv 0) (pe_glob (v := .ref kA) (by rfl) T.kept rfl) (by rfl)))))) (pss_one (ps_ret pe_bl)) pss_nil)
      (pss_one (ps_ret (pe_callB (cr_all rfl) (by rfl) B.all (by decide +kernel) (pa_cons (pe_lc (own := [("letter", 1)]) (g := (gName 1)) (tt := tYes) (by rfl) sc_is_name.nd (pi_str (pv 0)) (blkOk_by (N := n_is_name) (sc := defScope s_is_name) (by decide +kernel)) (fun _ _ _ _ _ => (pg_name (i := 1) sc_is_name.nd rfl (Or.inl rfl))) (fun _ _ _ _ _ => pts_nil) (fun _ _ _ _ _ => (pe_cmpR op_in_sign (pv 1) (pe_glob (v := .str lettersS) (by rfl) mL ⟨_, rfl⟩) (by rfl)))) pa_nil))))), ?_⟩
    rcases h with ⟨w, rfl, hw, k⟩ | ⟨t, hk, ht, k⟩
    · have hz : w.length ≤ sizeLine := Nat.le_trans hw (by decide)
      refine ⟨_, rfl, _, .ty "str", .type "str", .type "str", true, rfl, .ty _, Kd.ty (.str w), kit_ty (by decide +kernel), true, rfl, ?_⟩
      refine iteF ?_
      have k0 : K1.isName w = false → Q (.bl false) H := fun e => e ▸ k H (Same.refl H)
      refine ⟨_, rfl, w, rfl, hz, _, _, rfl, rfl, _, rfl, ite2 (fun h1 => ?_) (fun h1 => ?_)⟩
      · have h1 : (1 : Int) ≤ w.length := of_decide_eq_true h1
        refine ⟨_, _, rfl, rfl, _, rfl, ?_⟩
        by_cases h2 : (w.length : Int) ≤ 8
        · rw [decide_eq_true h2]
          refine iteF ?_
          refine ⟨_, rfl, kA, _, rfl, .inr (T.keptT H), rfl, K1.flat_strs _, _, rfl, ?_⟩
          rw [K1.inV_str]
          by_cases h3 : w ∈ K1.keptS
          · rw [decide_eq_true h3]
            refine iteT (k0 ?_)
            simp [K1.isName, h3]
          · rw [decide_eq_false h3]
            refine iteF ?_
            refine ⟨_, rfl, w, rfl, fun p hp => lc_it walk_str (fun i H' => Same H H' ∧ H' p = some (.lst (((tl w).take i).map fun c => V.bl (K1.small c)))) ⟨Same.new hp, upd_same⟩ (fun _ _ _ _ => trivial) ?_ ?_⟩
            · rintro i x H1 H' hi ⟨s1, e1⟩ ⟨rfl, c, hc, rfl⟩
              refine ⟨rfl, yes ?_⟩
              refine ⟨_, rfl, c, lettersS, rfl, rfl, _, e1, ?_, fun b o e => ?_, ?_⟩
              · rw [List.length_map, List.length_take]
                exact Nat.lt_of_le_of_lt (Nat.min_le_right _ _) (Nat.lt_of_le_of_lt hw (by decide))
              · rw [upd_ne (ne_of_none e hp)]
                exact s1 b o e
              · rw [upd_same, small_letters, List.take_add_one, K83.at_tl hc, List.map_append]
                rfl
            · rintro H1 ⟨s1, e1⟩
              rw [List.take_of_length_le (Nat.le_of_eq (by simp))] at e1
              have e2 : (tl w).map (fun c => V.bl (K1.small c)) = ((tl w).map K1.small).map V.bl := by rw [List.map_map]; rfl
              rw [e2] at e1
              refine ⟨p, _, rfl, SqL.of e1, ?_⟩
              have := k H1 s1
              rw [K83.all_map]
              have e3 : K1.isName w = (tl w).all K1.small := by simp [K1.isName, h3, show 1 ≤ w.length by omega, show w.length ≤ 8 by omega]
              rw [← e3]
              exact this
        · rw [decide_eq_false h2]
          refine iteT (k0 ?_)
          simp [K1.isName, show ¬ w.length ≤ 8 by omega]
      · have h1 : ¬ (1 : Int) ≤ w.length := fun z => h1 (decide_eq_true z)
        refine ⟨_, rfl, ?_⟩
        refine iteT (k0 ?_)
        simp [K1.isName, show ¬ 1 ≤ w.length by omega]
    · exact ⟨_, rfl, _, .ty "str", .type _, .type "str", false, rfl, .ty _, Kd.ty (hk), kd_no (hk) (by simp) ht, false, rfl, k⟩
end
end SA

set_option Elab.async false
set_option linter.all false
set_option maxRecDepth 100000
set_option maxHeartbeats 4000000
namespace SA
open PySem PySem.Spec PyProof.Rows L2
/-! ### defs that are called where no repr is under way -/
structure FnG (P : Program) (w : World) (K : PySem.W.Frag) (mg : Str → Option Value) (base : Heap) (k : Nat) (f : Addr) (fd : FuncData) (ps : List Str) (sp : Sp) : Prop where
  many : ∀ vs H Q E, sp vs H Q E → vs.length = ps.length
  goes : ∀ (A : Around) (outer : List Env) (s : Shared) (H : Hp) (args : Args) (us : List Value) (vs : List V) (Q : VK) (E : XK), A.guards = some [] → Room k A → Env0 P w K mg base A outer s H → BindsTo s fd args (ps.zip us) → Vals vs us → sp vs H Q E →
    codeAny (model P w) A (.call (.ref f) args) (CR CX0 outer P w H s Q E) s
section
variable {P : Program} {w : World} {K : PySem.W.Frag} {mg : Str → Option Value} {base : Heap}
theorem Fun.okG {x qual : Str} {st : Stmt} {f : Addr} {fd : FuncData} {N ps : List Str} {k : Nat} {sp : Sp} (F : Fun K x qual st f fd) (S : FnScope N ps (defScope st)) (hl : ∀ vs H Q E, sp vs H Q E → vs.length = ps.length)
    (body : ∀ (cdv : Value) (A : Around) (outer : List Env) (s : Shared) (H : Hp) (vs : List V) (Q : VK) (E : XK), (A.deeper (envOfC qual (defScope st) s.heap.objs.size f cdv)).guards = some [] → Room k (A.deeper (envOfC qual (defScope st) s.heap.objs.size f cdv)) → sp vs H Q E →
      ∃ t, PSs (cxOf CX0 P w K mg base N qual (defScope st) f cdv A outer s H E).nox (defBody st) t ∧ t { nx := fun _ H' => Q .non H', rt := Q } (L2.start N vs) H) : FnG P w K mg base (k + 1) f fd ps sp := by
  obtain ⟨oc, od, kV, doc, pm, an, cdv, ct, osl, rfl, lk, hcd⟩ := F.ex
  refine ⟨hl, fun A outer s H args us vs Q E hg rm env hb r hs => ?_⟩
  refine LamX.run_ofS (k := k) (N := N) (ps := ps) (us := us) (vs := vs) (Q := Q) (E := E) lk hcd S rm env hb r (hl _ _ _ _ hs) fun rm' => ?_
  obtain ⟨t, h1, h2⟩ := body cdv A outer s H vs Q E hg rm' hs
  exact ⟨t, h1.nox, h2⟩
/-- a def of the module that is called so -/
structure Gq (P : Program) (w : World) (K : PySem.W.Frag) (mg : Str → Option Value) (base : Heap) (k : Nat) (x : Str) (ps : List Str) (sp : Sp) : Prop where
  ex : ∃ (f : Addr) (fd : FuncData), FnG P w K mg base k f fd ps sp ∧ mg x = some (.ref f) ∧ PySem.W.keepIn K (.ref f) = true ∧ L2.Binds K fd ps []
end
section
variable {X : Cx} {k j : Nat} {x : Str} {p pos : Pos} {e : Expr} {es : List Expr} {t : TA} {sp : Sp} {ps : List Str}
theorem run_g {pins : List (Addr × Obj)} {σ : L2.St} {H : Hp} {s : Shared} {Q : VK} {us : List Value} {vs : List V} {f : Addr} {fd : FuncData} (G : FnG X.prog X.w X.K X.mg X.base k f fd ps sp) (hg : X.A.guards = some []) (rm : Room k X.A) (hb : L2.Binds X.K fd ps [])
    (I : Inv X pins σ H s) (r : Vals vs us) (h : sp vs H Q fun _ _ _ => False) : wpAny (model X.prog X.w) X.A (call (.ref f) us) (EP X pins σ Q) X.xe s := by
  have hl : (us ++ []).length = ps.length := by
    rw [List.append_nil, ← r.length]
    exact G.many _ _ _ _ h
  have bt := hb s us I.kIn hl
  rw [List.append_nil] at bt
  refine wpAny_call (codeAny_mono (G.goes X.A X.stack s H ⟨us, []⟩ us vs Q _ hg rm I.env0 bt r h) fun o s' q => ?_)
  match o, q with
  | .error e, q => exact q.elim
  | .ok (.ret u), q => exact I.after q
  | .ok .next, q => exact q.elim
  | .ok .brk, q => exact q.elim
  | .ok .cont, q => exact q.elim
theorem pe_g (c : Gq X.prog X.w X.K X.mg X.base k x ps sp) (hg : X.A.guards = some []) (hr : Room j X.A) (hk : k ≤ j) (hgl : Gl X x) (ha : PA X (e :: es) t)
    (hdb : (x == ("__debug__" : Str)) = false := by decide) (he : starEach (e :: es) X.env = (false, eval e X.env) :: starEach es X.env := by rfl) (hpl : (backTo pos (starEach es X.env)).any (·.1) = false := by rfl) :
    PE X (.Call (.Name x p) (e :: es) [] pos) (fun σ H Q => t σ H fun vs H1 => sp vs H1 Q fun _ _ _ => False) := by
  obtain ⟨f, fd, G, hm, kp, b⟩ := c.ex
  refine ⟨fun pins s σ H Q I h => ?_⟩
  refine wpAny_Call_Name_kw (ld_glob I hgl hm ?_ hdb)
  refine PySem.W.callWith_K (h₀ := X.base) I.ok.mod.kin kp (thn (ha.run pos pins s σ H _ I h) fun us s1 ⟨vs, H1, I1, r, q⟩ => ⟨I1.kIn, ?_⟩) he hpl
  exact run_g G hg (hr.mono hk) b I1 r q
end
/-- what the law's def promises -/
def spLawT (K : PySem.W.Frag) : Sp := fun vs H Q _ => ∃ (a : Addr) (ns : List Int), vs = [.ref a] ∧ SqL K H a (ns.map V.int) ∧ ns.length ≤ 63 ∧ ∀ H', Q (.bl true) H'
theorem lawRun_of {P : Program} {w : World} {K : PySem.W.Frag} {mg : Str → Option Value} {base : Heap} {fa : Addr} {fd : FuncData} {x : Str} {k : Nat} (G : FnG P w K mg base k fa fd [x] (spLawT K)) (hr : Room k callerA) (hb : ∀ (s : Shared) (u : Value), BindsTo s fd ⟨[u], []⟩ [(x, u)]) :
    LawRun P w K mg base fa 63 := by
  intro s H a ns env hS hn
  exact G.goes callerA [] s H ⟨[.ref a], []⟩ [.ref a] [.ref a] _ _ rfl hr env (hb s (.ref a)) (.cons rfl .nil) ⟨a, ns, rfl, hS, hn, fun _ => rfl⟩
end SA

set_option Elab.async false
set_option linter.all false
set_option maxRecDepth 100000
set_option maxHeartbeats 0
namespace SA
open PySem PySem.Spec PyProof.Rows L2
abbrev cat1 {α : Type} : List α → List α → List α := fun us ws => us ++ ws
/-! ### what the top has left -/
abbrev fIs (K : PySem.W.Frag) (C : Addr) (x : Str) (v : Option Value) : Bool := decide (PySem.W.findIn K (.ref C) x = some v)
def excB (K : PySem.W.Frag) (C : Addr) : Bool :=
  fIs K C "__getattribute__" (some (.builtin "BaseException.__getattribute__")) && (fIs K C "__getattr__" none && (decide (PySem.W.subIn K (.ref C) (.type "BaseException") = some true) && (PySem.W.hasDictIn K C && (fIs K C "__class__" (some (.builtin "object.__class__")) &&
    (decide (PySem.W.specialIn K (.builtin "object.__class__") "__get__" = some (some (.builtin "getset_descriptor.__get__"))) && (decide (PySem.W.takesIn K (.builtin "object.__class__") = some true) && decide (PySem.W.mroIn K C (.type "object") = some true)))))))
theorem excB_ok {K : PySem.W.Frag} {C : Addr} (h : excB K C = true) : ExcC K C ∧ XfC K C := by
  unfold excB at h
  simp only [Bool.and_eq_true, decide_eq_true_eq] at h
  obtain ⟨h1, h2, h3, h4, h5, h6, h7, h8⟩ := h
  exact ⟨⟨h1, h2, h3, h4, h5, h6, h7, h8⟩, ⟨h1, h2, h3, h4⟩⟩
/-- an exception class whose objects have a dict and its own or a base's __init__ -/
def oexB (K : PySem.W.Frag) (C : Addr) : Bool := match K.lookup C with
  | some ⟨.type t, _, .cls cd, sl⟩ => (match cd.mro, sl.toList with
    | .ref C' :: bm, [_, _, _, _, some (.builtin n), _] => decide (t = "type") && (decide (C' = C) && (decide (n = "ValueError.__new__") && (!cd.hasDel && (cd.hasDict && PySem.HandSPX.refsVE bm))))
    | _, _ => false)
  | _ => false
def oexB2 (K : PySem.W.Frag) (C : Addr) : Bool := oexB K C && (fIs K C "__setattr__" (some (.builtin "object.__setattr__")) && (decide (PySem.W.subIn K (.ref C) (.type "BaseException") = some true) && (decide (PySem.W.typeIn K (.ref C) = some (.type "type")) && PySem.W.keepIn K (.ref C))))
theorem oexB_ok {K : PySem.W.Frag} {C : Addr} (h : oexB2 K C = true) : OexC K C := by
  unfold oexB2 at h
  simp only [Bool.and_eq_true, decide_eq_true_eq] at h
  obtain ⟨h0, h1, h2, h3, h4⟩ := h
  refine ⟨?_, h1, h2, h3, h4⟩
  unfold oexB at h0
  split at h0
  · rename_i t dd cd sl e
    split at h0
    · rename_i C' bm k0 k1 k2 k3 n k5 hm hs
      simp only [Bool.and_eq_true, decide_eq_true_eq, Bool.not_eq_true'] at h0
      obtain ⟨rfl, rfl, rfl, hd, hh, hr⟩ := h0
      obtain ⟨nm, bs, mro, ns, qn, hdct, sn, sub, ab, col, del⟩ := cd
      dsimp only at hm hd hh
      subst hm hd hh
      obtain ⟨l⟩ := sl
      dsimp only at hs
      subst hs
      exact ⟨nm, qn, ns, bs, bm, sn, sub, ab, col, dd, k0, k1, k2, k3, k5, e, hr⟩
    · cases h0
  · cases h0
def ownB (K : PySem.W.Frag) (C : Addr) (fs : List Str) : Bool := oexB2 K C && (fIs K C "__init__" (some (.ref (He.ma K C "__init__"))) && (decide (PySem.W.typeIn K (.ref (He.ma K C "__init__")) = some (.type "function")) && fs.all fun x => fIs K C x none))
theorem ownB_ok {K : PySem.W.Frag} {C : Addr} {fs : List Str} (h : ownB K C fs = true) : Own24 K C (He.ma K C "__init__") fs := by
  unfold ownB at h
  simp only [Bool.and_eq_true, decide_eq_true_eq, List.all_eq_true] at h
  obtain ⟨h1, h2, h3, h4⟩ := h
  exact ⟨oexB_ok h1, h2, h3, h4⟩
def sysB (K : PySem.W.Frag) : Bool := match K.lookup sysModules with
  | some o => decide (o.cls = .type "dict")
  | none => false
theorem sysB_ok {K : PySem.W.Frag} (h : sysB K = true) : SysK K := by
  unfold sysB at h
  split at h
  · rename_i o e
    exact ⟨o, e, of_decide_eq_true h⟩
  · cases h
theorem FunD_fun {K : PySem.W.Frag} {x qual : Str} {st : Stmt} {f : Addr} (h : ∃ fd, FunD K x qual (defArgs st) (defBody st) (defScope st) [] [] f fd) : ∃ fd, Fun K x qual st f fd := by
  obtain ⟨fd, F⟩ := h
  exact ⟨fd, SA.FunD.toFun F⟩
theorem kb1 {K : PySem.W.Frag} {x qual p : Str} {st : Stmt} {f : Addr} {fd : FuncData} (F : Fun K x qual st f fd)
    (h1 : ∀ (kV doc pm : Value) (an : Option Addr) (cdv ct u : Value), bindArgs (PySem.W.fnOf x qual (defArgs st) (defBody st) (defScope st) .none kV doc pm an cdv ct) ⟨[u], []⟩ = pure [(p, u)])
    (h2 : ∀ (kV doc pm : Value) (an : Option Addr) (cdv ct u : Value), bindArgs (PySem.W.fnOf x qual (defArgs st) (defBody st) (defScope st) .none kV doc pm an cdv ct) ⟨[], [(p, u)]⟩ = pure [(p, u)]) : KBinds K fd [p] [p] cat1 cat1 := by
  obtain ⟨oc, od, kV, doc, pm, an, cdv, ct, osl, rfl, _, _⟩ := F.ex
  refine ⟨fun s us ws _ hl => ?_, fun r rz => r.append rz⟩
  match us, ws, hl with
  | [u], [], _ => exact .of_eq (h1 kV doc pm an cdv ct u)
  | [], [u], _ => exact .of_eq (h2 kV doc pm an cdv ct u)
  | [], [], hl => cases hl
  | [], _ :: _ :: _, hl => simp at hl
  | _ :: _ :: _, _, hl => simp at hl
  | [_], _ :: _, hl => simp at hl
end SA

set_option Elab.async false
set_option linter.all false
set_option maxRecDepth 100000
set_option maxHeartbeats 0
namespace SA
open PySem PySem.Spec PyProof.Rows L2
def d_is_number : He.DefD := ⟨("is_number", none), "is_number", "is_number", defArgs s_is_number, defBody s_is_number, defScope s_is_number, [], []⟩
def d_is_number_between : He.DefD := ⟨("is_number_between", none), "is_number_between", "is_number_between", defArgs s_is_number_between, defBody s_is_number_between, defScope s_is_number_between, [], []⟩
def d_is_tuple_of : He.DefD := ⟨("is_tuple_of", none), "is_tuple_of", "is_tuple_of", defArgs s_is_tuple_of, defBody s_is_tuple_of, defScope s_is_tuple_of, [], []⟩
def d_is_list : He.DefD := ⟨("is_list", none), "is_list", "is_list", defArgs s_is_list, defBody s_is_list, defScope s_is_list, [], []⟩
def d_BadBits___init__ : He.DefD := ⟨("BadBits", some "__init__"), "__init__", "BadBits.__init__", defArgs s_BadBits___init__, defBody s_BadBits___init__, defScope s_BadBits___init__, [], []⟩
def d_BadInstruction___init__ : He.DefD := ⟨("BadInstruction", some "__init__"), "__init__", "BadInstruction.__init__", defArgs s_BadInstruction___init__, defBody s_BadInstruction___init__, defScope s_BadInstruction___init__, [], []⟩
def d_is_name : He.DefD := ⟨("is_name", none), "is_name", "is_name", defArgs s_is_name, defBody s_is_name, defScope s_is_name, [], []⟩
def d_is_place : He.DefD := ⟨("is_place", none), "is_place", "is_place", defArgs s_is_place, defBody s_is_place, defScope s_is_place, [], []⟩
def d_place_number : He.DefD := ⟨("place_number", none), "place_number", "place_number", defArgs s_place_number, defBody s_place_number, defScope s_place_number, [], []⟩
def d_is_bit_string : He.DefD := ⟨("is_bit_string", none), "is_bit_string", "is_bit_string", defArgs s_is_bit_string, defBody s_is_bit_string, defScope s_is_bit_string, [], []⟩
def d_bits_of_count : He.DefD := ⟨("bits_of_count", none), "bits_of_count", "bits_of_count", defArgs s_bits_of_count, defBody s_bits_of_count, defScope s_bits_of_count, [], []⟩
def d_bits_of_number : He.DefD := ⟨("bits_of_number", none), "bits_of_number", "bits_of_number", defArgs s_bits_of_number, defBody s_bits_of_number, defScope s_bits_of_number, [], []⟩
def d_digits : He.DefD := ⟨("digits", none), "digits", "digits", defArgs s_digits, defBody s_digits, defScope s_digits, [], []⟩
def d_count_at : He.DefD := ⟨("count_at", none), "count_at", "count_at", defArgs s_count_at, defBody s_count_at, defScope s_count_at, [], []⟩
def d_number_at : He.DefD := ⟨("number_at", none), "number_at", "number_at", defArgs s_number_at, defBody s_number_at, defScope s_number_at, [], []⟩
def d_has_instruction_form : He.DefD := ⟨("has_instruction_form", none), "has_instruction_form", "has_instruction_form", defArgs s_has_instruction_form, defBody s_has_instruction_form, defScope s_has_instruction_form, [], []⟩
def d__is_register : He.DefD := ⟨("_is_register", none), "_is_register", "_is_register", defArgs s__is_register, defBody s__is_register, defScope s__is_register, [], []⟩
def d__are_copied : He.DefD := ⟨("_are_copied", none), "_are_copied", "_are_copied", defArgs s__are_copied, defBody s__are_copied, defScope s__are_copied, [], []⟩
def d__has_part_form : He.DefD := ⟨("_has_part_form", none), "_has_part_form", "_has_part_form", defArgs s__has_part_form, defBody s__has_part_form, defScope s__has_part_form, [], []⟩
def d__is_leap : He.DefD := ⟨("_is_leap", none), "_is_leap", "_is_leap", defArgs s__is_leap, defBody s__is_leap, defScope s__is_leap, [], []⟩
def d__half_of : He.DefD := ⟨("_half_of", none), "_half_of", "_half_of", defArgs s__half_of, defBody s__half_of, defScope s__half_of, [], []⟩
def d_bits_of_instruction : He.DefD := ⟨("bits_of_instruction", none), "bits_of_instruction", "bits_of_instruction", defArgs s_bits_of_instruction, defBody s_bits_of_instruction, defScope s_bits_of_instruction, [], []⟩
def d__copied_bits : He.DefD := ⟨("_copied_bits", none), "_copied_bits", "_copied_bits", defArgs s__copied_bits, defBody s__copied_bits, defScope s__copied_bits, [], []⟩
def d__register_bits : He.DefD := ⟨("_register_bits", none), "_register_bits", "_register_bits", defArgs s__register_bits, defBody s__register_bits, defScope s__register_bits, [], []⟩
def d__part_bits : He.DefD := ⟨("_part_bits", none), "_part_bits", "_part_bits", defArgs s__part_bits, defBody s__part_bits, defScope s__part_bits, [], []⟩
def d_read_instruction : He.DefD := ⟨("read_instruction", none), "read_instruction", "read_instruction", defArgs s_read_instruction, defBody s_read_instruction, defScope s_read_instruction, [], []⟩
def d__digits_at : He.DefD := ⟨("_digits_at", none), "_digits_at", "_digits_at", defArgs s__digits_at, defBody s__digits_at, defScope s__digits_at, [], []⟩
def d__register_at : He.DefD := ⟨("_register_at", none), "_register_at", "_register_at", defArgs s__register_at, defBody s__register_at, defScope s__register_at, [], []⟩
def d__copied_at : He.DefD := ⟨("_copied_at", none), "_copied_at", "_copied_at", defArgs s__copied_at, defBody s__copied_at, defScope s__copied_at, [], []⟩
def d__name_at : He.DefD := ⟨("_name_at", none), "_name_at", "_name_at", defArgs s__name_at, defBody s__name_at, defScope s__name_at, [], []⟩
def d__part_number_at : He.DefD := ⟨("_part_number_at", none), "_part_number_at", "_part_number_at", defArgs s__part_number_at, defBody s__part_number_at, defScope s__part_number_at, [], []⟩
def d__registers_at : He.DefD := ⟨("_registers_at", none), "_registers_at", "_registers_at", defArgs s__registers_at, defBody s__registers_at, defScope s__registers_at, [], []⟩
def d__leap_at : He.DefD := ⟨("_leap_at", none), "_leap_at", "_leap_at", defArgs s__leap_at, defBody s__leap_at, defScope s__leap_at, [], []⟩
def d__check_bits : He.DefD := ⟨("_check_bits", none), "_check_bits", "_check_bits", defArgs s__check_bits, defBody s__check_bits, defScope s__check_bits, [], []⟩
def d__check_registers : He.DefD := ⟨("_check_registers", none), "_check_registers", "_check_registers", defArgs s__check_registers, defBody s__check_registers, defScope s__check_registers, [], []⟩
def d_bits_of : He.DefD := ⟨("bits_of", none), "bits_of", "bits_of", defArgs s_bits_of, defBody s_bits_of, defScope s_bits_of, [], []⟩
def d_read_bits : He.DefD := ⟨("read_bits", none), "read_bits", "read_bits", defArgs s_read_bits, defBody s_read_bits, defScope s_read_bits, [], []⟩
def d_instruction_at : He.DefD := ⟨("instruction_at", none), "instruction_at", "instruction_at", defArgs s_instruction_at, defBody s_instruction_at, defScope s_instruction_at, [], []⟩
def d__law_begun : He.DefD := ⟨("_law_begun", none), "_law_begun", "_law_begun", defArgs s__law_begun, defBody s__law_begun, defScope s__law_begun, [], []⟩
def d__law_mixed : He.DefD := ⟨("_law_mixed", none), "_law_mixed", "_law_mixed", defArgs s__law_mixed, defBody s__law_mixed, defScope s__law_mixed, [], []⟩
def d__law_take : He.DefD := ⟨("_law_take", none), "_law_take", "_law_take", defArgs s__law_take, defBody s__law_take, defScope s__law_take, [], []⟩
def d__law_pick : He.DefD := ⟨("_law_pick", none), "_law_pick", "_law_pick", defArgs s__law_pick, defBody s__law_pick, defScope s__law_pick, [], []⟩
def d__law_names : He.DefD := ⟨("_law_names", none), "_law_names", "_law_names", defArgs s__law_names, defBody s__law_names, defScope s__law_names, [], []⟩
def d__law_figure : He.DefD := ⟨("_law_figure", none), "_law_figure", "_law_figure", defArgs s__law_figure, defBody s__law_figure, defScope s__law_figure, [], []⟩
def d__law_digits : He.DefD := ⟨("_law_digits", none), "_law_digits", "_law_digits", defArgs s__law_digits, defBody s__law_digits, defScope s__law_digits, [], []⟩
def d__law_count : He.DefD := ⟨("_law_count", none), "_law_count", "_law_count", defArgs s__law_count, defBody s__law_count, defScope s__law_count, [], []⟩
def d__law_signed : He.DefD := ⟨("_law_signed", none), "_law_signed", "_law_signed", defArgs s__law_signed, defBody s__law_signed, defScope s__law_signed, [], []⟩
def d__law_spelt : He.DefD := ⟨("_law_spelt", none), "_law_spelt", "_law_spelt", defArgs s__law_spelt, defBody s__law_spelt, defScope s__law_spelt, [], []⟩
def d__law_registers : He.DefD := ⟨("_law_registers", none), "_law_registers", "_law_registers", defArgs s__law_registers, defBody s__law_registers, defScope s__law_registers, [], []⟩
def d__law_copied : He.DefD := ⟨("_law_copied", none), "_law_copied", "_law_copied", defArgs s__law_copied, defBody s__law_copied, defScope s__law_copied, [], []⟩
def d__law_first : He.DefD := ⟨("_law_first", none), "_law_first", "_law_first", defArgs s__law_first, defBody s__law_first, defScope s__law_first, [], []⟩
def d__law_bits : He.DefD := ⟨("_law_bits", none), "_law_bits", "_law_bits", defArgs s__law_bits, defBody s__law_bits, defScope s__law_bits, [], []⟩
def d__law_shapes : He.DefD := ⟨("_law_shapes", none), "_law_shapes", "_law_shapes", defArgs s__law_shapes, defBody s__law_shapes, defScope s__law_shapes, [], []⟩
def d__law_part : He.DefD := ⟨("_law_part", none), "_law_part", "_law_part", defArgs s__law_part, defBody s__law_part, defScope s__law_part, [], []⟩
def d__law_instruction : He.DefD := ⟨("_law_instruction", none), "_law_instruction", "_law_instruction", defArgs s__law_instruction, defBody s__law_instruction, defScope s__law_instruction, [], []⟩
def d__law_leap_bits : He.DefD := ⟨("_law_leap_bits", none), "_law_leap_bits", "_law_leap_bits", defArgs s__law_leap_bits, defBody s__law_leap_bits, defScope s__law_leap_bits, [], []⟩
def d__law_part_bits : He.DefD := ⟨("_law_part_bits", none), "_law_part_bits", "_law_part_bits", defArgs s__law_part_bits, defBody s__law_part_bits, defScope s__law_part_bits, [], []⟩
def d__law_told_bits : He.DefD := ⟨("_law_told_bits", none), "_law_told_bits", "_law_told_bits", defArgs s__law_told_bits, defBody s__law_told_bits, defScope s__law_told_bits, [], []⟩
def d__law_is_name : He.DefD := ⟨("_law_is_name", none), "_law_is_name", "_law_is_name", defArgs s__law_is_name, defBody s__law_is_name, defScope s__law_is_name, [], []⟩
def d__law_read : He.DefD := ⟨("_law_read", none), "_law_read", "_law_read", defArgs s__law_read, defBody s__law_read, defScope s__law_read, [], []⟩
def d__law_value : He.DefD := ⟨("_law_value", none), "_law_value", "_law_value", defArgs s__law_value, defBody s__law_value, defScope s__law_value, [], []⟩
def d__law_refusal : He.DefD := ⟨("_law_refusal", none), "_law_refusal", "_law_refusal", defArgs s__law_refusal, defBody s__law_refusal, defScope s__law_refusal, [], []⟩
def d__law_name_at : He.DefD := ⟨("_law_name_at", none), "_law_name_at", "_law_name_at", defArgs s__law_name_at, defBody s__law_name_at, defScope s__law_name_at, [], []⟩
def d__law_register_at : He.DefD := ⟨("_law_register_at", none), "_law_register_at", "_law_register_at", defArgs s__law_register_at, defBody s__law_register_at, defScope s__law_register_at, [], []⟩
def d__law_copied_at : He.DefD := ⟨("_law_copied_at", none), "_law_copied_at", "_law_copied_at", defArgs s__law_copied_at, defBody s__law_copied_at, defScope s__law_copied_at, [], []⟩
def d__law_signed_at : He.DefD := ⟨("_law_signed_at", none), "_law_signed_at", "_law_signed_at", defArgs s__law_signed_at, defBody s__law_signed_at, defScope s__law_signed_at, [], []⟩
def d__law_some_at : He.DefD := ⟨("_law_some_at", none), "_law_some_at", "_law_some_at", defArgs s__law_some_at, defBody s__law_some_at, defScope s__law_some_at, [], []⟩
def d__law_leap_at : He.DefD := ⟨("_law_leap_at", none), "_law_leap_at", "_law_leap_at", defArgs s__law_leap_at, defBody s__law_leap_at, defScope s__law_leap_at, [], []⟩
def d__law_part_at : He.DefD := ⟨("_law_part_at", none), "_law_part_at", "_law_part_at", defArgs s__law_part_at, defBody s__law_part_at, defScope s__law_part_at, [], []⟩
def d__law_one_at : He.DefD := ⟨("_law_one_at", none), "_law_one_at", "_law_one_at", defArgs s__law_one_at, defBody s__law_one_at, defScope s__law_one_at, [], []⟩
def d__law_due : He.DefD := ⟨("_law_due", none), "_law_due", "_law_due", defArgs s__law_due, defBody s__law_due, defScope s__law_due, [], []⟩
def d__law_changed : He.DefD := ⟨("_law_changed", none), "_law_changed", "_law_changed", defArgs s__law_changed, defBody s__law_changed, defScope s__law_changed, [], []⟩
def d_law : He.DefD := ⟨("law", none), "law", "law", defArgs s_law, defBody s_law, defScope s_law, [], []⟩
def fn84 : List He.DefD := [d_is_number, d_is_number_between, d_is_tuple_of, d_is_list, d_BadBits___init__, d_BadInstruction___init__, d_is_name, d_is_place, d_place_number, d_is_bit_string, d_bits_of_count, d_bits_of_number, d_digits, d_count_at, d_number_at, d_has_instruction_form, d__is_register, d__are_copied, d__has_part_form, d__is_leap, d__half_of, d_bits_of_instruction, d__copied_bits, d__register_bits, d__part_bits, d_read_instruction, d__digits_at, d__register_at, d__copied_at, d__name_at, d__part_number_at, d__registers_at, d__leap_at, d__check_bits, d__check_registers, d_bits_of, d_read_bits, d_instruction_at, d__law_begun, d__law_mixed, d__law_take, d__law_pick, d__law_names, d__law_figure, d__law_digits, d__law_count, d__law_signed, d__law_spelt, d__law_registers, d__law_copied, d__law_first, d__law_bits, d__law_shapes, d__law_part, d__law_instruction, d__law_leap_bits, d__law_part_bits, d__law_told_bits, d__law_is_name, d__law_read, d__law_value, d__law_refusal, d__law_name_at, d__law_register_at, d__law_copied_at, d__law_signed_at, d__law_some_at, d__law_leap_at, d__law_part_at, d__law_one_at, d__law_due, d__law_changed, d_law]
def fa84 : List He.Fa := [.glo "is_number", .glo "is_number_between", .glo "is_tuple_of", .glo "is_list", .glo "is_name", .glo "is_place", .glo "place_number", .glo "is_bit_string", .glo "bits_of_count", .glo "bits_of_number", .glo "digits", .glo "count_at", .glo "number_at", .glo "has_instruction_form", .glo "_is_register", .glo "_are_copied", .glo "_has_part_form", .glo "_is_leap", .glo "_half_of", .glo "bits_of_instruction", .glo "_copied_bits", .glo "_register_bits", .glo "_part_bits", .glo "read_instruction", .glo "_digits_at", .glo "_register_at", .glo "_copied_at", .glo "_name_at", .glo "_part_number_at", .glo "_registers_at", .glo "_leap_at", .glo "_check_bits", .glo "_check_registers", .glo "bits_of", .glo "read_bits", .glo "instruction_at", .glo "_law_begun", .glo "_law_mixed", .glo "_law_take", .glo "_law_pick", .glo "_law_names", .glo "_law_figure", .glo "_law_digits", .glo "_law_count", .glo "_law_signed", .glo "_law_spelt", .glo "_law_registers", .glo "_law_copied", .glo "_law_first", .glo "_law_bits", .glo "_law_shapes", .glo "_law_part", .glo "_law_instruction", .glo "_law_leap_bits", .glo "_law_part_bits", .glo "_law_told_bits", .glo "_law_is_name", .glo "_law_read", .glo "_law_value", .glo "_law_refusal", .glo "_law_name_at", .glo "_law_register_at", .glo "_law_copied_at", .glo "_law_signed_at", .glo "_law_some_at", .glo "_law_leap_at", .glo "_law_part_at", .glo "_law_one_at", .glo "_law_due", .glo "_law_changed", .glo "law", .glo "StopError", .glo "BadBits", .glo "BadInstruction", .glo "KEPT", .glo "MOST_OF_PLACES", .glo "INSTRUCTIONS", .glo "LEAPS", .glo "WORDS", .glo "READERS", .glo "BadRegisters", .glo "BadAddress", .free "isinstance", .free "int", .free "bool", .free "str", .free "len", .free "abs", .free "range", .free "repr", .free "ValueError", .free "tuple", .free "list", .free "all", .free "zip", .free "enumerate", .free "sorted", .exc "BadRegisters", .exc "BadAddress", .exm "BadBits" "StopError" true, .exm "BadAddress" "StopError" true, .str "LETTERS_words" K83.lettersS, .str "LETTERS_coding" K83.lettersS, .int "MOST_PARTS" 3]
def kv_MOST_OF_PLACES : List (Str × He.Dv) := [("v", .int 9999), ("r", .int 8), ("s", .int 999)]
def kv_INSTRUCTIONS : List (Str × He.Dv) := [("const", .str "pn"), ("copy", .str "c"), ("plus", .str "ppp"), ("minus", .str "ppp"), ("times", .str "ppp"), ("over", .str "ppp"), ("rest", .str "ppp"), ("less", .str "ppp"), ("atmost", .str "ppp"), ("same", .str "ppp"), ("not", .str "pp"), ("make", .str "xpP"), ("tag", .str "pp"), ("part", .str "xkpp"), ("long", .str "xpp"), ("new", .str "xppp"), ("at", .str "xppp"), ("put", .str "xppp"), ("show", .str "p"), ("call", .str "l"), ("jump", .str "l"), ("branch", .str "pl"), ("unless", .str "pl"), ("try", .str "ll"), ("return", .str ""), ("fail", .str "p")]
def kv_LEAPS : List (Str × He.Dv) := [("short", .int 8), ("long", .int 32)]
def kv_READERS : List (Str × He.Dv) := [("p", .glo "_register_at"), ("c", .glo "_copied_at"), ("n", .glo "number_at"), ("x", .glo "_name_at"), ("k", .glo "_part_number_at"), ("P", .glo "_registers_at"), ("l", .glo "_leap_at")]
def tupleB (K : PySem.W.Frag) (a : Addr) : Bool := match K.lookup a with
  | some ⟨.type c, none, _, _⟩ => decide (c = "tuple")
  | _ => false
def ts84 : List He.Tab := [(fun K => He.ga K "MOST_OF_PLACES", kv_MOST_OF_PLACES.map Prod.fst), (fun K => He.ga K "INSTRUCTIONS", kv_INSTRUCTIONS.map Prod.fst), (fun K => He.ga K "LEAPS", kv_LEAPS.map Prod.fst), (fun K => He.ga K "READERS", kv_READERS.map Prod.fst)]
def ex84 (K : PySem.W.Frag) : Bool := sysB K && (excB K (He.ga K "BadRegisters") && (excB K (He.ga K "BadAddress") && (excB K (He.ga K "BadBits") && (excB K (He.ga K "BadInstruction") && (ownB K (He.ga K "BadBits") ["at"] && (ownB K (He.ga K "BadInstruction") ["at"] && (He.tupB K "KEPT" (K1.keptS.map He.Dv.str) && (He.tupB K "WORDS" ((K83.tab.map Prod.fst).map He.Dv.str) && (He.valsB K (He.ga K "MOST_OF_PLACES") kv_MOST_OF_PLACES && (He.valsB K (He.ga K "INSTRUCTIONS") kv_INSTRUCTIONS && (He.valsB K (He.ga K "LEAPS") kv_LEAPS && (He.valsB K (He.ga K "READERS") kv_READERS && (tupleB K (He.ga K "WORDS") && (decide (PySem.W.kitOne K (.ref (He.ga K "BadBits")) (.ref (He.ga K "BadBits")) = some true) && (decide (PySem.W.kitOne K (.ref (He.ga K "BadAddress")) (.ref (He.ga K "BadBits")) = some false) && (decide (PySem.W.kitOne K (.ref (He.ga K "BadAddress")) (.ref (He.ga K "BadAddress")) = some true)))))))))))))))))
abbrev Al : Type := He.AlT × Bool
def frag84 (g : Addr → Option Obj) : PySem.W.Frag := He.frT g (sysModules :: He.asD g 4)
def obs84 (g : Addr → Option Obj) : Al := (He.obsT fa84 fn84 ts84 (frag84 g), ex84 (frag84 g))
def val84 (w : World) : Al := (He.valT fn84 ts84 w, true)
/-- what the end leans on -/
structure Says84 (w : World) (K : PySem.W.Frag) : Prop where
  t : He.SaysT fa84 fn84 ts84 w K
  more : ex84 K = true
theorem says_of {w : World} {h : Heap} (e : obs84 h.get? = val84 w) : Says84 w (frag84 h.get?) :=
  ⟨congrArg (fun z : Al => z.1) e, congrArg (fun z : Al => z.2) e⟩
def hk84 : PySem.W.Hook where
  α := Al
  obs := fun s => obs84 s.heap.get?
  val := fun w => val84 w
  says := fun w h => ∃ K : PySem.W.Frag, K.In h ∧ Says84 w K
  of := fun _ _ e => ⟨_, He.frT_in, says_of e⟩
  keeps := fun _ _ _ ⟨K, hK, c⟩ k => ⟨K, PySem.W.Frag.In.keeps hK k, c⟩
theorem tab_at {fa : List He.Fa} {fn : List He.DefD} {ts : List He.Tab} {w : World} {K : PySem.W.Frag} (c : He.SaysT fa fn ts w K) {i : Nat} {t : He.Tab} (h : ts[i]? = some t) : He.dicW K (t.1 K) = some (He.keysIn w.params t.2) := by
  have e : ts.map (fun t => He.dicW K (t.1 K)) = ts.map (fun t => some (He.keysIn w.params t.2)) := congrArg (fun z : He.AlT => z.2) c
  have e2 := congrArg (fun l => l[i]?) e
  simp only [List.getElem?_map, h, Option.map_some] at e2
  exact Option.some.inj e2
abbrev R : PySem.W.OpenRow := PySem.W.OpenLaw.row PySem.Challenge.rw_stopanywhere_k84_bits_read_or_refused
def ob84 (s : PySem.W.SharedT) : Al := obs84 (HandSHeadRun.getT s)
theorem ob_eq (s : PySem.W.SharedT) : ob84 s = hk84.obs s.abs := by
  have e : HandSHeadRun.getT s = s.abs.heap.get? := funext (HandSHeadRun.getT_eq s)
  unfold ob84
  rw [e] <;> rfl
end SA

set_option Elab.async false
set_option linter.all false
set_option maxRecDepth 100000
set_option maxHeartbeats 0
namespace SA
open PySem PySem.W PySem.Calls PyProof.Rows
def names : List PySem.Str := [("is_number" : PySem.Str), ("is_number_between" : PySem.Str), ("is_tuple_of" : PySem.Str), ("is_list" : PySem.Str), ("StopError" : PySem.Str), ("BadRegisters" : PySem.Str), ("BadBits" : PySem.Str), ("BadInstruction" : PySem.Str), ("BadAddress" : PySem.Str), ("KEPT" : PySem.Str), ("LETTERS_words" : PySem.Str), ("is_name" : PySem.Str), ("MOST_OF_PLACES" : PySem.Str), ("is_place" : PySem.Str), ("place_number" : PySem.Str), ("INSTRUCTIONS" : PySem.Str), ("WORDS" : PySem.Str), ("MOST_PARTS" : PySem.Str), ("LETTERS_coding" : PySem.Str), ("LEAPS" : PySem.Str), ("is_bit_string" : PySem.Str), ("bits_of_count" : PySem.Str), ("bits_of_number" : PySem.Str), ("digits" : PySem.Str), ("count_at" : PySem.Str), ("number_at" : PySem.Str), ("has_instruction_form" : PySem.Str), ("_is_register" : PySem.Str), ("_are_copied" : PySem.Str), ("_has_part_form" : PySem.Str), ("_is_leap" : PySem.Str), ("_half_of" : PySem.Str), ("bits_of_instruction" : PySem.Str), ("_copied_bits" : PySem.Str), ("_register_bits" : PySem.Str), ("_part_bits" : PySem.Str), ("read_instruction" : PySem.Str), ("_digits_at" : PySem.Str), ("_register_at" : PySem.Str), ("_copied_at" : PySem.Str), ("_name_at" : PySem.Str), ("_part_number_at" : PySem.Str), ("_registers_at" : PySem.Str), ("_leap_at" : PySem.Str), ("READERS" : PySem.Str), ("_check_bits" : PySem.Str), ("_check_registers" : PySem.Str), ("bits_of" : PySem.Str), ("read_bits" : PySem.Str), ("instruction_at" : PySem.Str), ("_law_begun" : PySem.Str), ("_law_mixed" : PySem.Str), ("_law_take" : PySem.Str), ("_law_pick" : PySem.Str), ("_law_names" : PySem.Str), ("_law_figure" : PySem.Str), ("_law_digits" : PySem.Str), ("_law_count" : PySem.Str), ("_law_signed" : PySem.Str), ("_law_spelt" : PySem.Str), ("_law_registers" : PySem.Str), ("_law_copied" : PySem.Str), ("_law_first" : PySem.Str), ("_law_bits" : PySem.Str), ("_law_shapes" : PySem.Str), ("_law_part" : PySem.Str), ("_law_instruction" : PySem.Str), ("_law_leap_bits" : PySem.Str), ("_law_part_bits" : PySem.Str), ("_law_told_bits" : PySem.Str), ("_law_is_name" : PySem.Str), ("_law_read" : PySem.Str), ("_law_value" : PySem.Str), ("_law_refusal" : PySem.Str), ("_law_name_at" : PySem.Str), ("_law_register_at" : PySem.Str), ("_law_copied_at" : PySem.Str), ("_law_signed_at" : PySem.Str), ("_law_some_at" : PySem.Str), ("_law_leap_at" : PySem.Str), ("_law_part_at" : PySem.Str), ("_law_one_at" : PySem.Str), ("_law_due" : PySem.Str), ("_law_changed" : PySem.Str)]
theorem runF (w : World) : HandSHeadRun.RunEq R (view R.prog [91]) hk84 ob84 16000 names (w.withFollow "special-get-raises" false) := by
  intro os
  kernel_rfl
theorem runT (w : World) : HandSHeadRun.RunEq R (view R.prog [91]) hk84 ob84 16000 names (w.withFollow "special-get-raises" true) := by
  intro os
  kernel_rfl
theorem run (w : World) : HandSHeadRun.RunEq R (view R.prog [91]) hk84 ob84 16000 names w := byRow2 "special-get-raises" (P := fun w => HandSHeadRun.RunEq R (view R.prog [91]) hk84 ob84 16000 names w) runF runT w
end SA

set_option Elab.async false
set_option linter.all false
set_option maxRecDepth 100000
set_option maxHeartbeats 4000000
namespace K83
open PySem PySem.Spec
open K82 (L one tl)
theorem intT_dig {f : L} (h : f.all digit = true) (h1 : f ≠ []) (h2 : f.length ≤ 600) : PySem.intText? (mk f) = some ((dnum f : Nat) : Int) := by
  have e := intText_digits (x := mk f) (fun c hc => by
    rw [show (mk f).cps.toList = f from tl_mk f] at hc
    exact of_decide_eq_true (List.all_eq_true.mp h c hc)) (by rw [show (mk f).cps.toList = f from tl_mk f]; exact h1) (by show f.toArray.size ≤ 4300; rw [List.size_toArray]; omega)
  rw [show (mk f).cps.toList = f from tl_mk f] at e
  rw [e]
  show some ((NumText.digitsVal f : Nat) : Int) = _
  unfold NumText.digitsVal dnum
  rw [foldl10]
theorem mostLook (c : Nat) : ([("v", .int 9999), ("r", .int 8), ("s", .int 999)] : List (Str × L2.V)).lookup ⟨#[c]⟩ = (mostOf c).map fun m => L2.V.int (m : Nat) := by
  have ev : ∀ c d : Nat, ((⟨#[c]⟩ : Str) == ⟨#[d]⟩) = decide (c = d) := fun c d => by
    rw [Bool.eq_iff_iff, beq_iff_eq, decide_eq_true_eq]
    exact ⟨fun h => by injection h with h; simpa using h, fun h => by rw [h]⟩
  have e1 : ("v" : Str) = ⟨#[118]⟩ := by decide +kernel
  have e2 : ("r" : Str) = ⟨#[114]⟩ := by decide +kernel
  have e3 : ("s" : Str) = ⟨#[115]⟩ := by decide +kernel
  rw [e1, e2, e3]
  unfold mostOf
  simp only [List.lookup_cons, ev]
  by_cases h1 : c = 118
  · simp [h1]
  · by_cases h2 : c = 114
    · simp [h2]
    · by_cases h3 : c = 115
      · simp [h3]
      · simp [h1, h2, h3]
theorem dec_one (c : Nat) (d : Nat) : decide (L2.V.str ⟨#[c]⟩ = L2.V.str ⟨#[d]⟩) = decide (c = d) := by
  rw [decide_eq_decide]
  exact ⟨fun h => by injection h with h; injection h with h; simpa using h, fun h => by rw [h]⟩
theorem asc_all {f : L} (h : ∀ c ∈ f, c < 128) : Txt.isascii (mk f) = true := by
  show f.toArray.all _ = true
  rw [List.all_toArray, List.all_eq_true]
  exact fun c hc => decide_eq_true (h c hc)
theorem s0 : ("0" : Str) = ⟨#[48]⟩ := by decide +kernel
theorem cps_at {z : Str} {l : L} (e : tl z = l) {i c : Nat} (h : l[i]? = some c) : z.cps[i]? = some c := by
  rw [← e] at h
  simpa [tl] using h
end K83
namespace SA
open PySem PySem.Spec PyProof.Rows L2 K83
open K82 hiding mk tl_mk mk_tl
section
variable {P : Program} {w0 : World} {K : PySem.W.Frag} {mg : Str → Option Value} {base : Heap} {kA mA iA lA wA : Addr}
theorem ok_is_place {f : Addr} {fd : FuncData} (F : Fun K "is_place" "is_place" s_is_place f fd) (T : Top83 K w0 mg kA mA iA lA wA) (B : Bn3 mg) : FnOk P w0 K mg base CX0 1 f fd ["thing"] (spIsPlace K) := by
  obtain ⟨esM, nM, DM⟩ := T.mostD.D
  refine F.ok sc_is_place (fun vs H Q E h => ?_) (fun cdv A outer s H vs Q E hr h => ?_)
  · obtain ⟨x, rfl, _⟩ := h
    rfl
  · obtain ⟨x, rfl, h⟩ := h
    refine ⟨_, (pss_cons (ps_if (PW.pt (pw_or (pt_not (pt_val (pe_callB call_isi (by rfl) B.isinstance (by decide +kernel) (pa_cons (pv 0) (pa_cons (pe_bltn (v := .ty "str") (by rfl) B.str (by decide +kernel) rfl) pa_nil))))) (pw_or (pt_not (pt_chain op_le op_le pe_int (pe_callB call_len_str (by rfl) B.len PySem.boot_len (pa_cons (pv 0) pa_nil)) pe_int)) (pw_or1 (pt_cmpR (op_notIn_kd DM) (pe_item_str (pv 0) pe_int (fun _ _ => rfl)) (pe_glob (v := .ref mA) (by rfl) T.MOST_OF_PLACES rfl) (by rfl)))))) (pss_one (ps_ret pe_bl)) pss_nil)
      (pss_cons (ps_set (i := 1) sc_is_place.nd rfl (Or.inl rfl) (pe_slice sl_str (pv 0) (po_some pe_int) po_none))
      (pss_cons (ps_if (PW.pt (pw_or (pt_not (pt_val (pe_m0 PySem.F.slot_str_isascii PySem.F.type_str_isascii mt_isascii (pv 1)))) (pw_or (pt_not (pt_val (pe_m0 PySem.F.slot_str_isdigit PySem.F.type_str_isdigit mt_isdigit (pv 1)))) (pw_or1 (PW.pt (pw_and (pt_cmpR op_eq (pe_item_str (pv 1) pe_int (fun _ _ => rfl)) pe_str (nomark _)) (pw_and1 (pt_cmpR op_ne (pv 1) pe_str (nomark _))))))))) (pss_one (ps_ret pe_bl)) pss_nil)
      (pss_one (ps_ret (pe_cmpR op_le (pe_callTy call_int_str (by rfl) B.int PySem.Pv.boot_int (pa_cons (pv 1) pa_nil)) (pe_ix ix_kdict (pe_glob (v := .ref mA) (by rfl) T.MOST_OF_PLACES rfl) (pe_item_str (pv 0) pe_int (fun _ _ => rfl)) (fun _ _ => rfl)) (nomark _))))))), ?_⟩
    rcases h with ⟨z, rfl, hz, ha, q⟩ | ⟨t, hk, ht, k⟩
    · have hz2 : z.length ≤ sizeLine := Nat.le_trans hz (by decide)
      refine ⟨_, rfl, _, .ty "str", .type "str", .type "str", true, rfl, .ty _, Kd.ty (.str z), kit_ty (by decide +kernel), true, rfl, ?_⟩
      refine iteF ?_
      have len : ∀ {l : L}, tl z = l → z.length = l.length := fun e => by rw [← e]; rfl
      match hl : tl z with
      | [] =>
        rw [hl] at q
        have h0 : z.length = 0 := len hl
        refine ⟨_, rfl, z, rfl, hz2, _, _, rfl, rfl, _, rfl, ?_⟩
        rw [h0]
        exact iteF ⟨_, rfl, iteT q⟩
      | [c] =>
        rw [hl] at q
        have h0 : z.length = 1 := len hl
        have q : Q (.bl false) H := by
          have e : placeL [c] = false := by
            show (match mostOf c with
              | some m => figsB [] && (decide (([] : L).length ≤ 4) && decide (dnum [] ≤ m))
              | none => false) = false
            split <;> rfl
          rw [e] at q
          exact q
        refine ⟨_, rfl, z, rfl, hz2, _, _, rfl, rfl, _, rfl, ?_⟩
        rw [h0]
        exact iteF ⟨_, rfl, iteT q⟩
      | c :: a :: f =>
        rw [hl] at q
        have h0 : z.length = f.length + 2 := len hl
        have hasc : ∀ d ∈ a :: f, d < 128 := fun d hd => ha d (by rw [show z.cps.toList = c :: a :: f from hl]; exact List.mem_cons_of_mem _ hd)
        refine ⟨_, rfl, z, rfl, hz2, _, _, rfl, rfl, _, rfl, ?_⟩
        rw [h0, show decide ((2 : Int) ≤ ((f.length + 2 : Nat) : Int)) = true from decide_eq_true (by omega)]
        refine iteT ⟨_, _, rfl, rfl, _, rfl, ?_⟩
        by_cases h5 : f.length + 2 ≤ 5
        · rw [show decide (((f.length + 2 : Nat) : Int) ≤ 5) = true from decide_eq_true (by omega)]
          refine iteF ?_
          obtain ⟨r, hr1, hr2⟩ := T.mostD.is (⟨#[c]⟩ : Str)
          rw [mostLook, Option.isSome_map] at hr2
          refine ⟨_, rfl, z, 0, c, rfl, rfl, by decide, by decide, by rw [h0]; omega, cps_at hl rfl, ⟨#[c]⟩, r, rfl, rfl, hr1, _, rfl, ?_⟩
          rw [hr2]
          match hm : mostOf c with
          | none =>
            have q : Q (.bl false) H := by
              have e : placeL (c :: a :: f) = false := by
                show (match mostOf c with
                  | some m => figsB (a :: f) && (decide ((a :: f).length ≤ 4) && decide (dnum (a :: f) ≤ m))
                  | none => false) = false
                rw [hm]
              rw [e] at q
              exact q
            exact iteT q
          | some m =>
            have eq1 : placeL (c :: a :: f) = (figsB (a :: f) && (decide ((a :: f).length ≤ 4) && decide (dnum (a :: f) ≤ m))) := by
              show (match mostOf c with
                | some m => figsB (a :: f) && (decide ((a :: f).length ≤ 4) && decide (dnum (a :: f) ≤ m))
                | none => false) = _
              rw [hm]
            rw [eq1] at q
            refine iteF ?_
            refine ⟨_, rfl, 1, rfl, z, rfl, hz2, ?_⟩
            rw [show L2.cutS z (some (1 : Int)) none = mk (a :: f) from (K1.cut_n z 1).trans (by rw [show K1.tl z = c :: a :: f from hl]; rfl)]
            have hdig : Txt.isdigit (mk (a :: f)) = (a :: f).all digit := (K1.isdigit_mk (a :: f) hasc).trans rfl
            refine ⟨_, rfl, ⟨_, rfl⟩, _, rfl, rfl, trivial, _, rfl, ?_⟩
            rw [asc_all hasc]
            refine iteF ⟨_, rfl, ⟨_, rfl⟩, _, rfl, rfl, trivial, _, rfl, ?_⟩
            rw [hdig]
            by_cases hd : (a :: f).all digit = true
            · rw [hd]
              refine iteF ?_
              have fin : (decide (a = 48) && !decide (f = [])) = false → (L2.V.bl (decide (dnum (a :: f) ≤ m)) = L2.V.bl (figsB (a :: f) && (decide ((a :: f).length ≤ 4) && decide (dnum (a :: f) ≤ m)))) := by
                intro g
                have e1 : figsB (a :: f) = true := by
                  unfold figsB
                  rw [hd]
                  simp
                  simp at g
                  by_cases h48 : a = 48
                  · exact .inr (g h48)
                  · exact .inl h48
                rw [e1, show decide ((a :: f).length ≤ 4) = true from decide_eq_true (by simp; omega)]
                rfl
              have lk : ([("v", .int 9999), ("r", .int 8), ("s", .int 999)] : List (Str × L2.V)).lookup ⟨#[c]⟩ = some (.int (m : Nat)) := by rw [mostLook, hm]; rfl
              have z0 : ∀ {Q2 : VK} {x y : Nat}, Q2 (.bl (decide (dnum (a :: f) ≤ m))) H → Q2 (.bl (decide (((dnum (a :: f) : Nat) : Int) ≤ (m : Nat)))) H := fun h => by
                rw [show decide (((dnum (a :: f) : Nat) : Int) ≤ (m : Nat)) = decide (dnum (a :: f) ≤ m) from by rw [decide_eq_decide]; omega]
                exact h
              refine ⟨_, rfl, K83.mk (a :: f), 0, a, rfl, rfl, by decide, by decide, by show (0 : Int) < (((a :: f).toArray.size : Nat) : Int); simp <;> omega, cps_at (tl_mk (a :: f)) rfl, rfl, _, rfl, ?_⟩
              rw [K83.s0, dec_one]
              have hfe : decide (L2.V.str (K83.mk (a :: f)) = L2.V.str ⟨#[48]⟩) = (decide (a = 48) && decide (f = [])) := by
                rw [Bool.eq_iff_iff, decide_eq_true_eq, Bool.and_eq_true, decide_eq_true_eq, decide_eq_true_eq]
                constructor
                · intro h
                  injection h with h
                  have h2 := congrArg tl h
                  rw [tl_mk] at h2
                  simpa [tl] using h2
                · rintro ⟨rfl, rfl⟩
                  rfl
              have fin2 : (decide (a = 48) && !decide (f = [])) = false → Q (.bl (decide (dnum (a :: f) ≤ m))) H := fun g => by
                rw [fin g]
                exact q
              by_cases h48 : a = 48
              · rw [decide_eq_true h48]
                refine iteT ⟨_, rfl, rfl, _, rfl, ?_⟩
                rw [hfe, decide_eq_true h48, Bool.true_and]
                by_cases hf : f = []
                · rw [decide_eq_true hf]
                  refine iteF ⟨_, rfl, K83.mk (a :: f), _, rfl, intT_dig hd (by simp) (by simp; omega), (by show (a :: f).toArray.size ≤ 640; simp; omega), _, rfl, z, 0, c, rfl, rfl, by decide, by decide, by rw [h0]; omega, cps_at hl rfl, mA, ⟨#[c]⟩, _, rfl, rfl, T.mostD.kd lk, _, _, rfl, rfl, z0 (x := 0) (y := 0) (fin2 (by simp [hf]))⟩
                · rw [decide_eq_false hf]
                  refine iteT ?_
                  have e1 : figsB (a :: f) = false := by
                    unfold figsB
                    simp [h48, hf]
                  rw [e1] at q
                  exact q
              · rw [decide_eq_false h48]
                refine iteF (iteF ⟨_, rfl, K83.mk (a :: f), _, rfl, intT_dig hd (by simp) (by simp; omega), (by show (a :: f).toArray.size ≤ 640; simp; omega), _, rfl, z, 0, c, rfl, rfl, by decide, by decide, by rw [h0]; omega, cps_at hl rfl, mA, ⟨#[c]⟩, _, rfl, rfl, T.mostD.kd lk, _, _, rfl, rfl, z0 (x := 0) (y := 0) (fin2 (by simp [h48]))⟩)
            · rw [Bool.not_eq_true] at hd
              rw [hd]
              refine iteT ?_
              have e1 : figsB (a :: f) = false := by
                unfold figsB
                rw [hd]
                simp
              rw [e1] at q
              exact q
        · rw [show decide (((f.length + 2 : Nat) : Int) ≤ 5) = false from decide_eq_false (by omega)]
          refine iteT ?_
          have e : placeL (c :: a :: f) = false := by
            show (match mostOf c with
              | some m => figsB (a :: f) && (decide ((a :: f).length ≤ 4) && decide (dnum (a :: f) ≤ m))
              | none => false) = false
            split
            · rw [show decide ((a :: f).length ≤ 4) = false from decide_eq_false (by simp; omega)]
              simp
            · rfl
          rw [e] at q
          exact q
    · exact ⟨_, rfl, _, .ty "str", .type _, .type "str", false, rfl, .ty _, Kd.ty (hk), kd_no (hk) (by simp) ht, false, rfl, k⟩
theorem ok_place_number {f : Addr} {fd : FuncData} (F : Fun K "place_number" "place_number" s_place_number f fd) (B : Bn3 mg) : FnOk P w0 K mg base CX0 1 f fd ["place"] spPlaceN := by
  refine F.ok sc_place_number (fun vs H Q E h => ?_) (fun cdv A outer s H vs Q E hr h => ?_)
  · obtain ⟨z, f, c, rfl, _⟩ := h
    rfl
  · obtain ⟨z, f, c, rfl, hl, hf, h4, q⟩ := h
    refine ⟨_, (pss_one (ps_ret (pe_callTy call_int_str (by rfl) B.int PySem.Pv.boot_int (pa_cons (pe_slice sl_str (pv 0) (po_some pe_int) po_none) pa_nil)))), ?_⟩
    unfold figsB at hf
    rw [Bool.and_eq_true, Bool.and_eq_true] at hf
    have hne : f ≠ [] := by
      rintro rfl
      cases hf.1
    have h0 : z.length = f.length + 1 := by
      rw [show z.length = (tl z).length from rfl, hl]
      rfl
    refine ⟨_, rfl, 1, rfl, z, rfl, small1000' (by omega), ?_⟩
    rw [show L2.cutS z (some (1 : Int)) none = K83.mk f from (K1.cut_n z 1).trans (by rw [show K1.tl z = c :: f from hl]; rfl)]
    exact ⟨_, _, rfl, intT_dig hf.2.1 hne (by omega), (by show f.toArray.size ≤ 640; rw [List.size_toArray]; omega), q⟩
end
end SA

set_option Elab.async false
set_option linter.all false
set_option maxRecDepth 100000
set_option maxHeartbeats 4000000
namespace K82
open PySem
theorem binS_len (n : Nat) : (binS (n + 1)).length = Nat.log2 (n + 1) + 1 := by
  rw [len_tl, binS_tl, bdig_len]
theorem log60 {n k : Nat} (h : n + 1 < 2 ^ k) : Nat.log2 (n + 1) < k := (Nat.log2_lt (by omega)).mpr h
theorem zig_ge {i : Int} (h : i ≥ 0) : (2 * i : Int) = ((zig i : Nat) : Int) := by
  unfold zig
  rw [if_pos (by omega)]
  omega
theorem zig_lt {i : Int} (h : ¬ i ≥ 0) : (-2 * i - 1 : Int) = ((zig i : Nat) : Int) := by
  unfold zig
  rw [if_neg (by omega)]
  omega
theorem one_app (n : Nat) (l : L) : (⟨(List.replicate n 48).toArray⟩ : Str) ++ mk l = mk (List.replicate n 48 ++ l) := by
  show (⟨_⟩ : Str) = _
  simp [mk]
/-- where the first 1 stands -/
theorem tw_zs : ∀ (l : L), IsB l → (l.takeWhile (· != 49)).length = zs l ∧ (49 ∈ l ↔ zs l < l.length)
  | [], _ => by simp [zs]
  | c :: l, h => by
    have ih := tw_zs l fun d hd => h d (List.mem_cons_of_mem _ hd)
    rcases h c (List.mem_cons_self ..) with rfl | rfl
    · have e1 : zs (48 :: l) = zs l + 1 := by simp [zs]
      rw [e1]
      refine ⟨by simp [ih.1], ?_⟩
      simp only [List.mem_cons, List.length_cons]
      rw [show (49 = 48 ∨ 49 ∈ l) ↔ 49 ∈ l from ⟨fun z => z.elim (fun z => absurd z (by decide)) id, .inr⟩, ih.2]
      omega
    · have e1 : zs (49 :: l) = 0 := by simp [zs]
      rw [e1]
      simp
theorem cutS_nn (z : Str) (a b : Nat) : L2.cutS z (some (a : Int)) (some (b : Int)) = mk (((tl z).drop a).take (b - a)) := by
  unfold L2.cutS mk tl
  rw [HT.sIx_nat, HT.sIx_nat, show z.length = z.cps.toList.length from rfl]
  generalize z.cps.toList = l
  congr 1
  by_cases h : a ≤ l.length
  · rw [Nat.min_eq_left h]
    by_cases hb : b ≤ l.length
    · rw [Nat.min_eq_left hb]
    · rw [Nat.min_eq_right (by omega), List.take_of_length_le (by rw [List.length_drop]; omega), List.take_of_length_le (by rw [List.length_drop]; omega)]
  · have e : l.drop (min a l.length) = [] := List.drop_of_length_le (by omega)
    have e2 : l.drop a = [] := List.drop_of_length_le (by omega)
    rw [e, e2]
    simp
/-- what is read at a place: the number from 0 on, and the index behind -/
def rdC (l : L) (n : Nat) : Option (Int × Int) := (dec (l.drop n)).map fun p => ((p.1 : Int), ((n + p.2 : Nat) : Int))
def rdN (l : L) (n : Nat) : Option (Int × Int) := (dec (l.drop n)).map fun p => (zag p.1, ((n + p.2 : Nat) : Int))
theorem fold_pos : ∀ (l : L) (a : Nat), 1 ≤ a → 1 ≤ l.foldl (fun a c => 2 * a + dv c) a
  | [], a, h => h
  | c :: l, a, h => fold_pos l _ (show 1 ≤ 2 * a + dv c by omega)
theorem drop_zs : ∀ l : L, IsB l → zs l < l.length → ∃ r, l.drop (zs l) = 49 :: r
  | [], _, h => by simp [zs] at h
  | c :: l, hb, h => by
    rcases hb c (List.mem_cons_self ..) with rfl | rfl
    · have e1 : zs (48 :: l) = zs l + 1 := by simp [zs]
      rw [e1, List.drop_succ_cons]
      exact drop_zs l (fun d hd => hb d (List.mem_cons_of_mem _ hd)) (by rw [e1, List.length_cons] at h; omega)
    · exact ⟨l, by simp [zs]⟩
theorem rdC_some {l : L} {n : Nat} (hb : IsB l) (h : 2 * zs (l.drop n) + 1 ≤ (l.drop n).length) :
    rdC l n = some (((bval (((l.drop n).drop (zs (l.drop n))).take (zs (l.drop n) + 1)) : Nat) : Int) - 1, ((n + (2 * zs (l.drop n) + 1) : Nat) : Int)) := by
  have hbd : IsB (l.drop n) := fun c hc => hb c (List.mem_of_mem_drop hc)
  obtain ⟨r, e⟩ := drop_zs _ hbd (by omega)
  have h1 : 1 ≤ bval (((l.drop n).drop (zs (l.drop n))).take (zs (l.drop n) + 1)) := by
    rw [e, List.take_succ_cons]
    show 1 ≤ List.foldl (fun a c => 2 * a + dv c) (2 * 0 + dv 49) _
    exact fold_pos _ _ (by decide)
  unfold rdC dec
  rw [if_pos h]
  show some (((_ : Nat) : Int), _) = _
  rw [Int.natCast_sub h1]
  rfl
theorem rdC_none {l : L} {n : Nat} (h : ¬ 2 * zs (l.drop n) + 1 ≤ (l.drop n).length) : rdC l n = none := by
  unfold rdC dec
  rw [if_neg h]
  rfl
theorem rdN_of {l : L} {n : Nat} {a b : Int} (e : rdC l n = some (a, b)) : ∃ c : Nat, a = c ∧ rdN l n = some (zag c, b) := by
  unfold rdC at e
  obtain ⟨⟨c, k⟩, h1, h2⟩ := Option.map_eq_some_iff.mp e
  injection h2 with h2 h3
  refine ⟨c, h2.symm, ?_⟩
  unfold rdN
  rw [h1]
  show some (zag c, _) = _
  rw [h3]
end K82
namespace SA
open PySem PySem.Spec PyProof.Rows L2 K82
/-- None, or a new pair of numbers -/
def RdQ (o : Option (Int × Int)) (H : Hp) (Q : VK) : Prop := (o = none → ∀ H', Same H H' → Q .non H') ∧ ∀ a b, o = some (a, b) → ∀ (p : Addr) (H' : Hp), H p = none → Same H H' → H' p = some (.tup [.int a, .int b]) → Q (.ref p) H'
theorem RdQ.same {o : Option (Int × Int)} {H H1 : Hp} {Q : VK} (s : Same H H1) (h : RdQ o H Q) : RdQ o H1 Q := ⟨fun e H' s1 => h.1 e H' (s.trans s1), fun a b e p H' hp s1 q => h.2 a b e p H' (s.free hp) (s.trans s1) q⟩
def spBitsC : Sp := fun vs H Q _ => ∃ n : Nat, vs = [.int n] ∧ n + 1 < 2 ^ 60 ∧ Q (.str (mk (enc n))) H
def spBitsN : Sp := fun vs H Q _ => ∃ i : Int, vs = [.int i] ∧ i.natAbs < 2 ^ 58 ∧ Q (.str (mk (enc (zig i)))) H
def spCntAt : Sp := fun vs H Q _ => ∃ (z : Str) (n : Nat), vs = [.str z, .int n] ∧ n ≤ z.length ∧ z.length ≤ 1200 ∧ IsB (tl z) ∧ RdQ (rdC (tl z) n) H Q
def spNumAt : Sp := fun vs H Q _ => ∃ (z : Str) (n : Nat), vs = [.str z, .int n] ∧ n ≤ z.length ∧ z.length ≤ 1200 ∧ IsB (tl z) ∧ RdQ (rdN (tl z) n) H Q
def spCntB (K : PySem.W.Frag) (BN : Addr) : Sp := fun vs H Q E => ∃ x t, vs = [x] ∧ Kd K H x t ∧ (∀ i, x = .int i → 0 ≤ i → i + 1 < 2 ^ 60 ∧ Q (.str (mk (enc i.toNat))) H) ∧ ((t ≠ "int" ∨ ∃ i, x = .int i ∧ i < 0) → E (.ref BN) none H)
def spNumBt (K : PySem.W.Frag) (BN : Addr) : Sp := fun vs H Q E => ∃ x t, vs = [x] ∧ Kd K H x t ∧ (∀ i, x = .int i → i.natAbs < 2 ^ 58 ∧ Q (.str (mk (enc (zig i)))) H) ∧ (t ≠ "int" → E (.ref BN) none H)
section
variable {P : Program} {w0 : World} {K : PySem.W.Frag} {mg : Str → Option Value} {base : Heap} {BN : Addr}
theorem ok_bits_of_count {f : Addr} {fd : FuncData} (F : Fun K "bits_of_count" "bits_of_count" s_bits_of_count f fd) (B : Bn2 mg) : FnOk P w0 K mg base CX0 1 f fd ["number"] spBitsC := by
  refine F.ok sc_bits_of_count (fun vs H Q E h => ?_) (fun cdv A outer s H vs Q E hr h => ?_)
  · obtain ⟨n, rfl, _⟩ := h
    rfl
  · obtain ⟨n, rfl, hn, q⟩ := h
    refine ⟨_, (pss_cons (ps_set (i := 1) sc_bits_of_count.nd rfl (Or.inl rfl) (pe_joined1 (pe_fmtB (pe_op op_add (pv 0) pe_int) (pe_joined1 pe_str))))
      (pss_one (ps_ret (pe_op op_add_str (pe_op op_mul_str pe_str (pe_op op_sub (pe_callB call_len_str (by rfl) B.len PySem.boot_len (pa_cons (pv 1) pa_nil)) pe_int)) (pv 1))))), ?_⟩
    have hl := binS_len n
    have h60 := log60 hn
    refine ⟨_, rfl, _, _, rfl, rfl, n + 1, rfl, by omega, ?_⟩
    refine ⟨_, rfl, _, rfl, small5 (by omega), _, _, rfl, rfl, "0", _, rfl, rfl, ?_, _, rfl, _, _, rfl, rfl, ?_, ?_⟩
    · rw [hl, s0, show ((Nat.log2 (n + 1) + 1 : Nat) : Int) - 1 = ((Nat.log2 (n + 1) : Nat) : Int) by omega]
      exact mul_ok _ _ (by omega)
    · rw [hl, s0, show ((Nat.log2 (n + 1) + 1 : Nat) : Int) - 1 = ((Nat.log2 (n + 1) : Nat) : Int) by omega, mul_one]
      refine small5 ?_
      have e : (⟨(List.replicate (Nat.log2 (n + 1)) 48).toArray⟩ : Str).length = Nat.log2 (n + 1) := by simp [Str.length]
      rw [e]
      omega
    · rw [hl, s0, show ((Nat.log2 (n + 1) + 1 : Nat) : Int) - 1 = ((Nat.log2 (n + 1) : Nat) : Int) by omega, mul_one]
      have e : (⟨(List.replicate (Nat.log2 (n + 1)) 48).toArray⟩ : Str) ++ binS (n + 1) = mk (enc n) := by
        rw [← mk_tl (binS (n + 1)), binS_tl, one_app]
        rfl
      rw [e]
      exact q
theorem ok_bits_of_number {f : Addr} {fd : FuncData} (F : Fun K "bits_of_number" "bits_of_number" s_bits_of_number f fd) (c_bits_of_count : Dq P w0 K mg base CX0 1 "bits_of_count" ["number"] spBitsC) : FnOk P w0 K mg base CX0 2 f fd ["number"] spBitsN := by
  refine F.ok sc_bits_of_number (fun vs H Q E h => ?_) (fun cdv A outer s H vs Q E hr h => ?_)
  · obtain ⟨n, rfl, _⟩ := h
    rfl
  · obtain ⟨i, rfl, hi, q⟩ := h
    refine ⟨_, (pss_one (ps_ret (pe_q c_bits_of_count hr (by decide) (by rfl) (pa_cons (pe_ifExp (pt_cmpR op_ge (pv 0) pe_int (nomark _)) (pe_op op_mul pe_int (pv 0)) (pe_op op_sub (pe_op op_mul (pe_un un_neg pe_int) (pv 0)) pe_int)) pa_nil)))), ?_⟩
    refine ⟨_, rfl, _, _, rfl, rfl, _, rfl, ite2 (fun h => ?_) (fun h => ?_)⟩
    · have h := of_decide_eq_true h
      refine ⟨_, rfl, _, _, rfl, rfl, .inl ⟨by decide, by decide⟩, zig i, ?_, ?_, q⟩
      · show [V.int (2 * i)] = [V.int (zig i)]
        rw [zig_ge h]
      · unfold zig
        rw [if_pos h]
        omega
    · have h : ¬ i ≥ 0 := fun z => h (decide_eq_true z)
      refine ⟨_, rfl, _, rfl, _, _, rfl, rfl, .inl ⟨by decide, by decide⟩, _, _, rfl, rfl, zig i, ?_, ?_, q⟩
      · show [V.int (-2 * i - 1)] = [V.int (zig i)]
        rw [zig_lt h]
      · unfold zig
        rw [if_neg h]
        omega
theorem ok_count_at {f : Addr} {fd : FuncData} (F : Fun K "count_at" "count_at" s_count_at f fd) (B : Bn2 mg) : FnOk P w0 K mg base CX0 1 f fd ["bits", "at"] spCntAt := by
  refine F.ok sc_count_at (fun vs H Q E h => ?_) (fun cdv A outer s H vs Q E hr h => ?_)
  · obtain ⟨z, n, rfl, _⟩ := h
    rfl
  · obtain ⟨z, n, rfl, hn, hl, hb, q⟩ := h
    refine ⟨_, (pss_cons (ps_set (i := 2) sc_count_at.nd rfl (Or.inl rfl) (pe_bm PySem.F.plainAttrs_str PySem.F.slot_str_find PySem.F.type_str_find mt_find3 (pv 0) (pa_cons pe_str (pa_cons (pv 1) pa_nil))))
      (pss_cons (ps_if (pt_cmpR op_lt (pv 2) pe_int (nomark _)) (pss_one (ps_ret pe_non)) pss_nil)
      (pss_cons (ps_set (i := 3) sc_count_at.nd rfl (Or.inl rfl) (pe_op op_add (pe_op op_add (pv 2) (pe_op op_sub (pv 2) (pv 1))) pe_int))
      (pss_one (ps_ret (pe_ifExp (pt_cmpR op_le (pv 3) (pe_callB call_len_str (by rfl) B.len PySem.boot_len (pa_cons (pv 0) pa_nil)) (nomark _)) (pe_tup (pa_cons (pe_op op_sub (pe_callTy call_int_bin (by rfl) B.int PySem.Pv.boot_int (pa_cons (pe_slice sl_str (pv 0) (po_some (pv 2)) (po_some (pv 3))) (pa_cons pe_int pa_nil))) pe_int) (pa_cons (pv 3) pa_nil))) pe_non)))))), ?_⟩
    refine ⟨_, rfl, rfl, _, rfl, z, "1", n, rfl, rfl, ?_⟩
    rw [s1, find_one z 49 n hn]
    have hbd : IsB ((tl z).drop n) := fun c hc => hb c (List.mem_of_mem_drop hc)
    obtain ⟨t1, t2⟩ := tw_zs _ hbd
    rw [t1]
    have hlen : ((tl z).drop n).length = z.length - n := by rw [List.length_drop]; rfl
    have hzl := zs_le ((tl z).drop n)
    by_cases hm : 49 ∈ (tl z).drop n
    · rw [if_pos hm]
      have hm := t2.mp hm
      refine ⟨_, rfl, _, _, rfl, rfl, _, rfl, ?_⟩
      rw [decide_eq_false (by omega)]
      refine iteF ⟨_, rfl, _, rfl, _, rfl, _, _, rfl, rfl, _, _, rfl, rfl, _, _, rfl, rfl, ?_⟩
      have e1 : (((n + zs ((tl z).drop n) : Nat) : Int) + (((n + zs ((tl z).drop n) : Nat) : Int) - (n : Int)) + 1) = ((n + (2 * zs ((tl z).drop n) + 1) : Nat) : Int) := by omega
      dsimp only
      rw [e1]
      refine ⟨_, rfl, _, rfl, z, rfl, small5 (by omega), _, _, rfl, rfl, _, rfl, ite2 (fun h => ?_) (fun h => ?_)⟩
      · have h := of_decide_eq_true h
        have ez : cutS z (some ((n + zs ((tl z).drop n) : Nat) : Int)) (some ((n + (2 * zs ((tl z).drop n) + 1) : Nat) : Int)) = mk ((((tl z).drop n).drop (zs ((tl z).drop n))).take (zs ((tl z).drop n) + 1)) := by
          rw [cutS_nn, List.drop_drop]
          congr 2
          congr 1
          omega
        refine ⟨_, rfl, _, rfl, _, rfl, _, rfl, _, rfl, z, rfl, small5 (by omega), _, rfl, ?_⟩
        rw [ez]
        have hl2 : ((((tl z).drop n).drop (zs ((tl z).drop n))).take (zs ((tl z).drop n) + 1)).length = zs ((tl z).drop n) + 1 := by
          rw [List.length_take, List.length_drop]
          omega
        refine ⟨fun e => ?_, ?_, ?_, _, _, rfl, rfl, _, rfl, (by show 2 ≤ sizeLine; decide), fun p hp => q.2 _ _ ?_ p _ hp (Same.new hp) upd_same⟩
        · rw [tl_mk] at e
          rw [e] at hl2
          exact absurd hl2 (by simp)
        · rw [len_mk, hl2]
          omega
        · rw [tl_mk]
          exact fun c hc => hbd c (List.mem_of_mem_drop (List.mem_of_mem_take hc))
        · rw [rdC_some hb (by omega), tl_mk]
      · have h : ¬ ((n + (2 * zs ((tl z).drop n) + 1) : Nat) : Int) ≤ (z.length : Int) := fun z => h (decide_eq_true z)
        exact q.1 (rdC_none (by omega)) H (Same.refl H)
    · rw [if_neg hm]
      have hz : ¬ zs ((tl z).drop n) < ((tl z).drop n).length := fun h => hm (t2.mpr h)
      refine ⟨_, rfl, _, _, rfl, rfl, _, rfl, ?_⟩
      exact iteT (q.1 (rdC_none (by omega)) H (Same.refl H))
theorem ok_number_at {f : Addr} {fd : FuncData} (F : Fun K "number_at" "number_at" s_number_at f fd) (B : Bn2 mg) (c_count_at : Dq P w0 K mg base CX0 1 "count_at" ["bits", "at"] spCntAt) : FnOk P w0 K mg base CX0 2 f fd ["bits", "at"] spNumAt := by
  refine F.ok sc_number_at (fun vs H Q E h => ?_) (fun cdv A outer s H vs Q E hr h => ?_)
  · obtain ⟨z, n, rfl, _⟩ := h
    rfl
  · obtain ⟨z, n, rfl, hn, hl, hb, q⟩ := h
    refine ⟨_, (pss_cons (ps_set (i := 2) sc_number_at.nd rfl (Or.inl rfl) (pe_q c_count_at hr (by decide) (by rfl) (pa_cons (pv 0) (pa_cons (pv 1) pa_nil))))
      (pss_cons (ps_if (pt_cmpR op_isN (pv 2) pe_non (nomark _)) (pss_one (ps_ret pe_non)) pss_nil)
      (pss_cons (ps_asg (pv 2) (pg_tup (by rfl) (pgs_cons (pg_name (i := 3) sc_number_at.nd rfl (Or.inl rfl)) (pgs_cons (pg_name (i := 4) sc_number_at.nd rfl (Or.inl rfl)) pgs_nil))))
      (pss_one (ps_ret (pe_tup (pa_cons (pe_ifExp (pt_truth (pe_op op_and (pv 3) pe_int) (by intro _; rfl)) (pe_op op_sub pe_int (pe_op op_fdiv (pe_op op_add (pv 3) pe_int) pe_int)) (pe_op op_fdiv (pv 3) pe_int)) (pa_cons (pv 4) pa_nil)))))))), ?_⟩
    refine ⟨_, rfl, _, rfl, z, n, rfl, hn, hl, hb, fun e H' s1 => ?_, fun a b e p H' hp s1 hq => ?_⟩
    · refine ⟨_, rfl, rfl, _, rfl, iteT (q.1 ?_ H' s1)⟩
      unfold rdC at e
      unfold rdN
      rw [Option.map_eq_none_iff] at e ⊢
      exact e
    · obtain ⟨c, rfl, en⟩ := rdN_of e
      have q2 := q.2 _ _ en
      refine ⟨_, rfl, rfl, _, rfl, iteF ⟨_, rfl, p, _, rfl, SqT.of hq, rfl, _, _, rfl, _, _, rfl, rfl, ?_⟩⟩
      refine ⟨_, rfl, _, _, rfl, rfl, _, rfl, ?_⟩
      rw [PyProof.Rows.bitAnd_m1]
      by_cases h : c % 2 = 0
      · have e0 : (((c : Int) % 2) != 0) = false := by
          rw [show ((c : Int) % 2) = 0 by omega]
          rfl
        rw [e0]
        refine iteF ⟨_, rfl, _, _, rfl, rfl, ⟨by decide, by decide⟩, _, rfl, (by show 2 ≤ sizeLine; decide), fun p2 hp2 => ?_⟩
        refine q2 p2 _ (s1.free hp2) (s1.trans (Same.new hp2)) ?_
        rw [upd_same]
        unfold zag
        rw [if_pos h]
        rfl
      · have e0 : (((c : Int) % 2) != 0) = true := by
          rw [show ((c : Int) % 2) = 1 by omega]
          rfl
        rw [e0]
        refine iteT ⟨_, rfl, _, _, rfl, rfl, _, _, rfl, rfl, ⟨by decide, by decide⟩, _, _, rfl, rfl, _, rfl, (by show 2 ≤ sizeLine; decide), fun p2 hp2 => ?_⟩
        refine q2 p2 _ (s1.free hp2) (s1.trans (Same.new hp2)) ?_
        rw [upd_same]
        unfold zag
        rw [if_neg h]
        have e2 : (0 : Int) - ((c : Int) + 1) / 2 = -(((c + 1) / 2 : Nat) : Int) := by omega
        rw [← e2]
end
end SA

set_option Elab.async false
set_option linter.all false
set_option maxRecDepth 100000
set_option maxHeartbeats 4000000
namespace K83
open PySem PySem.Spec
open K82 (L one tl IsB bval bdig enc dec zig zag binS)
theorem bdig_pad : ∀ (k j n : Nat), n < 2 ^ j → bdig (j + k) n = List.replicate k 48 ++ bdig j n
  | 0, j, n, _ => rfl
  | k + 1, j, n, h => by
    have ih := bdig_pad k j n h
    have e : bdig (j + k + 1) n = (48 + n / 2 ^ (j + k) % 2) :: bdig (j + k) n := by
      have front : ∀ (k m : Nat), bdig (k + 1) m = (48 + m / 2 ^ k % 2) :: bdig k m := by
        intro k
        induction k with
        | zero => intro m; simp [bdig]
        | succ k ih =>
          intro m
          show bdig (k + 1) (m / 2) ++ [48 + m % 2] = _
          rw [ih (m / 2)]
          show _ = (48 + m / 2 ^ (k + 1) % 2) :: (bdig k (m / 2) ++ [48 + m % 2])
          rw [Nat.div_div_eq_div_mul, Nat.mul_comm 2, ← Nat.pow_succ]
          rfl
      exact front (j + k) n
    rw [show j + (k + 1) = j + k + 1 from rfl, e, ih, Nat.div_eq_of_lt (Nat.lt_of_lt_of_le h (Nat.pow_le_pow_right (by decide) (by omega)))]
    rfl
theorem binS_bdig (n : Nat) : ∃ j, tl (binS n) = bdig j n ∧ n < 2 ^ j ∧ 1 ≤ j ∧ ∀ k, 1 ≤ k → n < 2 ^ k → j ≤ k := by
  cases n with
  | zero => exact ⟨1, by decide, by decide, by decide, fun k h _ => h⟩
  | succ n =>
    refine ⟨Nat.log2 (n + 1) + 1, K82.binS_tl n, K82.log_lt n, by omega, fun k hk h => ?_⟩
    have := (Nat.log2_lt (by omega)).mpr h
    omega
theorem zfill_bin {n k : Nat} (h : n < 2 ^ k) (hk : 1 ≤ k) : Txt.zfill (binS n) (k : Nat) = mk (bdig k n) := by
  obtain ⟨j, e, hj, j1, jk⟩ := binS_bdig n
  have hle := jk k hk h
  have hl : (binS n).length = j := by
    show (tl (binS n)).length = j
    rw [e, K82.bdig_len]
  have hb : binS n = mk (bdig j n) := by rw [← e, mk_tl]
  unfold Txt.zfill
  rw [hl]
  by_cases hjk : k = j
  · subst hjk
    rw [if_pos (Int.le_refl _), hb]
  · rw [if_neg (by omega), show ((k : Nat) : Int).toNat - j = k - j from by omega]
    have hc : ∃ c r, tl (binS n) = c :: r ∧ (c = 48 ∨ c = 49) := by
      have hB := K82.bdig_isB j n
      rw [← e] at hB
      match hh : tl (binS n), hB with
      | [], _ =>
        have := congrArg List.length hh
        rw [e, K82.bdig_len] at this
        simp at this
        omega
      | c :: r, hB => exact ⟨c, r, rfl, hB c List.mem_cons_self⟩
    obtain ⟨c, r, hcr, h48⟩ := hc
    have h0 : (binS n).cps[0]? = some c := cps_at hcr rfl
    have hz : zfilled (binS n) (k - j) = Builtin.Str.padded (binS n) (k - j) 0 48 := by
      unfold zfilled
      rw [h0]
      rcases h48 with rfl | rfl <;> rfl
    rw [hz]
    have hp : tl (Builtin.Str.padded (binS n) (k - j) 0 48) = List.replicate (k - j) 48 ++ tl (binS n) := by
      simp [Builtin.Str.padded, tl]
    refine tl_inj ?_
    rw [hp, e, tl_mk, show k = j + (k - j) from by omega, ← bdig_pad _ _ _ hj]
    congr 1
    omega
/-! ### the data that the law draws -/
mutual
def okD : PyData → Bool
  | .str z => decide (z.length ≤ 1000) && z.cps.toList.all fun c => decide (c < 128)
  | .int i => decide (i.natAbs < 2 ^ 57)
  | .tuple ds => decide (ds.length ≤ 20) && okDs ds
  | .list ds => decide (ds.length ≤ 20) && okDs ds
  | _ => true
def okDs : List PyData → Bool
  | [] => true
  | d :: ds => okD d && okDs ds
end
theorem okD_str {z : Str} (h : okD (.str z) = true) : z.length ≤ 1000 ∧ SA.asc z := by
  have h : (decide (z.length ≤ 1000) && z.cps.toList.all fun c => decide (c < 128)) = true := h
  rw [Bool.and_eq_true, decide_eq_true_eq, List.all_eq_true] at h
  exact ⟨h.1, fun c hc => of_decide_eq_true (h.2 c hc)⟩
theorem okD_int {i : Int} (h : okD (.int i) = true) : i.natAbs < 2 ^ 57 := of_decide_eq_true h
theorem okD_tup {ds : List PyData} (h : okD (.tuple ds) = true) : ds.length ≤ 20 ∧ okDs ds = true := by
  have h : (decide (ds.length ≤ 20) && okDs ds) = true := h
  rw [Bool.and_eq_true, decide_eq_true_eq] at h
  exact h
theorem okDs_mem : ∀ {ds : List PyData} {d : PyData}, okDs ds = true → d ∈ ds → okD d = true
  | e :: ds, d, h, m => by
    have h : (okD e && okDs ds) = true := h
    rw [Bool.and_eq_true] at h
    rcases List.mem_cons.mp m with rfl | m
    · exact h.1
    · exact okDs_mem h.2 m
mutual
def okE : PyData → Bool
  | .str z => decide (z.length ≤ 1000) && z.cps.toList.all fun c => decide (c < 128)
  | .int i => true
  | .tuple ds => decide (ds.length ≤ 20) && okEs ds
  | .list ds => decide (ds.length ≤ 20) && okEs ds
  | _ => true
def okEs : List PyData → Bool
  | [] => true
  | d :: ds => okE d && okEs ds
end
theorem okE_str {z : Str} (h : okE (.str z) = true) : z.length ≤ 1000 ∧ SA.asc z := by
  have h : (decide (z.length ≤ 1000) && z.cps.toList.all fun c => decide (c < 128)) = true := h
  rw [Bool.and_eq_true, decide_eq_true_eq, List.all_eq_true] at h
  exact ⟨h.1, fun c hc => of_decide_eq_true (h.2 c hc)⟩
theorem okE_tup {ds : List PyData} (h : okE (.tuple ds) = true) : ds.length ≤ 20 ∧ okEs ds = true := by
  have h : (decide (ds.length ≤ 20) && okEs ds) = true := h
  rw [Bool.and_eq_true, decide_eq_true_eq] at h
  exact h
theorem okEs_mem : ∀ {ds : List PyData} {d : PyData}, okEs ds = true → d ∈ ds → okE d = true
  | e :: ds, d, h, m => by
    have h : (okE e && okEs ds) = true := h
    rw [Bool.and_eq_true] at h
    rcases List.mem_cons.mp m with rfl | m
    · exact h.1
    · exact okEs_mem h.2 m
mutual
theorem okD_E : ∀ d : PyData, okD d = true → okE d = true
  | .str z, h => h
  | .int i, _ => rfl
  | .tuple ds, h => by
    have h : (decide (ds.length ≤ 20) && okDs ds) = true := h
    rw [Bool.and_eq_true] at h
    show (decide (ds.length ≤ 20) && okEs ds) = true
    rw [h.1, okDs_E ds h.2]
    rfl
  | .list ds, h => by
    have h : (decide (ds.length ≤ 20) && okDs ds) = true := h
    rw [Bool.and_eq_true] at h
    show (decide (ds.length ≤ 20) && okEs ds) = true
    rw [h.1, okDs_E ds h.2]
    rfl
  | .none, _ => rfl
  | .bool _, _ => rfl
  | .dict _, _ => rfl
theorem okDs_E : ∀ ds : List PyData, okDs ds = true → okEs ds = true
  | [], _ => rfl
  | d :: ds, h => by
    have h : (okD d && okDs ds) = true := h
    rw [Bool.and_eq_true] at h
    show (okE d && okEs ds) = true
    rw [okD_E d h.1, okDs_E ds h.2]
    rfl
end
theorem padOk : ∀ k : Nat, k ≤ 40 → PadOk (k : Int) = true := fun k h => (by decide +kernel : ∀ k < 41, PadOk ((k : Nat) : Int) = true) k (by omega)
theorem sr : ("r" : Str) = ⟨#[114]⟩ := by decide +kernel
theorem ss : ("s" : Str) = ⟨#[115]⟩ := by decide +kernel
theorem placeL_ex {c : Nat} {g : L} (h : placeL (c :: g) = true) : figsB g = true ∧ g.length ≤ 4 ∧ dnum g ≤ 9999 ∧ (c = 118 ∨ c = 114 ∨ c = 115) := by
  have h : (match mostOf c with
    | some m => figsB g && (decide (g.length ≤ 4) && decide (dnum g ≤ m))
    | none => false) = true := h
  have hm : ∀ m, mostOf c = some m → m ≤ 9999 ∧ (c = 118 ∨ c = 114 ∨ c = 115) := by
    intro m e
    unfold mostOf at e
    split at e
    · rename_i e2
      injection e with e
      exact ⟨by omega, .inl e2⟩
    · split at e
      · rename_i e2
        injection e with e
        exact ⟨by omega, .inr (.inl e2)⟩
      · split at e
        · rename_i e2
          injection e with e
          exact ⟨by omega, .inr (.inr e2)⟩
        · cases e
  split at h
  · rename_i m e
    rw [Bool.and_eq_true, Bool.and_eq_true, decide_eq_true_eq, decide_eq_true_eq] at h
    obtain ⟨a, b⟩ := hm m e
    exact ⟨h.1, h.2.1, Nat.le_trans h.2.2 a, b⟩
  · cases h
theorem reg_no {r : Nat} {d : PyData} (h : SA.kindD d ≠ "str") : isReg r d = false := by
  cases d <;> first | rfl | exact absurd rfl h
theorem slot_no {d : PyData} (h : SA.kindD d ≠ "str") : isSlot d = false := by
  cases d <;> first | rfl | exact absurd rfl h
theorem leapLook : ∀ w : Str, w = "short" ∨ w = "long" → ∃ m : Nat, ([("short", .int 8), ("long", .int 32)] : List (Str × L2.V)).lookup w = some (.int (m : Nat)) ∧ (1 : Int) * 2 ^ (((m : Nat) : Int) - 1).toNat = halfOf w ∧ (m = 8 ∨ m = 32) := by
  rintro w (rfl | rfl)
  · exact ⟨8, by decide +kernel, by decide +kernel, .inl rfl⟩
  · exact ⟨32, by decide +kernel, by decide +kernel, .inr rfl⟩
end K83
namespace SA
open PySem PySem.Spec PyProof.Rows L2 K83
open K82 hiding mk tl_mk mk_tl
def spDigits : Sp := fun vs H Q _ => ∃ m k : Nat, vs = [.int m, .int k] ∧ m < 2 ^ k ∧ 1 ≤ k ∧ k ≤ 40 ∧ Q (.str (K83.mk (bdig k m))) H
def spHalf : Sp := fun vs H Q _ => ∃ w : Str, vs = [.str w] ∧ (w = "short" ∨ w = "long") ∧ Q (.int (halfOf w)) H
def spIsReg (K : PySem.W.Frag) : Sp := fun vs H Q _ => ∃ (r : Nat) (x : V) (d : PyData), vs = [.int r, x] ∧ Dn anyA H x d ∧ okE d = true ∧ r ≤ 9 ∧ Q (.bl (isReg r d)) H
def spRegBits : Sp := fun vs H Q _ => ∃ (r : Nat) (z : Str), vs = [.str z] ∧ isReg r (.str z) = true ∧ Q (.str (K83.mk (encReg (.str z)))) H
def spCopBits : Sp := fun vs H Q _ => ∃ (r : Nat) (z : Str), vs = [.str z] ∧ (isSlot (.str z) || isReg r (.str z)) = true ∧ Q (.str (K83.mk (encPart .c (.str z)))) H
section
variable {P : Program} {w0 : World} {K : PySem.W.Frag} {mg : Str → Option Value} {base : Heap} {kA mA iA lA wA : Addr}
theorem ok_digits {f : Addr} {fd : FuncData} (F : Fun K "digits" "digits" s_digits f fd) (B : Bn3 mg) : FnOk P w0 K mg base CX0 1 f fd ["number", "many"] spDigits := by
  refine F.ok sc_digits (fun vs H Q E h => ?_) (fun cdv A outer s H vs Q E hr h => ?_)
  · obtain ⟨m, k, rfl, _⟩ := h
    rfl
  · obtain ⟨m, k, rfl, hm, h1, h40, q⟩ := h
    refine ⟨_, (pss_one (ps_ret (pe_bm PySem.F.plainAttrs_str PySem.F.slot_str_zfill PySem.F.type_str_zfill mt_zfill (pe_joined1 (pe_fmtB (pv 0) (pe_joined1 pe_str))) (pa_cons (pv 1) pa_nil)))), ?_⟩
    obtain ⟨j, e, hj, j1, jk⟩ := binS_bdig m
    have hl : (binS m).length = j := by
      show (tl (binS m)).length = j
      rw [e, K82.bdig_len]
    have := jk k h1 hm
    refine ⟨_, rfl, m, rfl, by rw [hl]; omega, rfl, _, rfl, binS m, k, rfl, rfl, padOk k h40, ?_⟩
    rw [zfill_bin hm h1]
    exact q
theorem ok_half_of {f : Addr} {fd : FuncData} (F : Fun K "_half_of" "_half_of" s__half_of f fd) (T : Top83 K w0 mg kA mA iA lA wA) : FnOk P w0 K mg base CX0 1 f fd ["word"] spHalf := by
  refine F.ok sc__half_of (fun vs H Q E h => ?_) (fun cdv A outer s H vs Q E hr h => ?_)
  · obtain ⟨w, rfl, _⟩ := h
    rfl
  · obtain ⟨w, rfl, hw, q⟩ := h
    refine ⟨_, (pss_one (ps_ret (pe_op op_shl pe_int (pe_op op_sub (pe_ix ix_kdict (pe_glob (v := .ref lA) (by rfl) T.LEAPS rfl) (pv 0) (fun _ _ => rfl)) pe_int)))), ?_⟩
    obtain ⟨m, lk, e, hm⟩ := leapLook w hw
    refine ⟨_, rfl, lA, w, _, rfl, rfl, T.leapD.kd lk, _, _, rfl, rfl, _, _, rfl, rfl, ⟨by omega, by omega, by decide⟩, ?_⟩
    show Q (.int ((1 : Int) * 2 ^ (((m : Nat) : Int) - 1).toNat)) H
    rw [e]
    exact q
theorem ok_is_register {f : Addr} {fd : FuncData} (F : Fun K "_is_register" "_is_register" s__is_register f fd) (c_is_place : Dq P w0 K mg base CX0 1 "is_place" ["thing"] (spIsPlace K)) (c_place_number : Dq P w0 K mg base CX0 1 "place_number" ["place"] spPlaceN) :
    FnOk P w0 K mg base CX0 2 f fd ["registers", "thing"] (spIsReg K) := by
  refine F.ok sc__is_register (fun vs H Q E h => ?_) (fun cdv A outer s H vs Q E hr h => ?_)
  · obtain ⟨r, x, d, rfl, _⟩ := h
    rfl
  · obtain ⟨r, x, d, rfl, hd, ho, hr9, q⟩ := h
    refine ⟨_, (pss_one (ps_ret (pe_and (pe_q c_is_place hr (by decide) (by rfl) (pa_cons (pv 1) pa_nil)) (pe_and (pe_cmpR op_eq (pe_item_str (pv 1) pe_int (fun _ _ => rfl)) pe_str (nomark _)) (pe_one (pe_cmpR op_lt (pe_q c_place_number hr (by decide) (by rfl) (pa_cons (pv 1) pa_nil)) (pv 0) (nomark _))))))), ?_⟩
    by_cases hk : kindD d = "str"
    · obtain ⟨z, rfl, rfl⟩ := hd.str_of hk
      obtain ⟨o1, o2⟩ := okE_str ho
      have q : Q (.bl (regL r (tl z))) H := q
      rw [regL_place hr9] at q
      refine ⟨_, rfl, _, rfl, .inl ⟨z, rfl, by omega, o2, ?_⟩⟩
      cases hp : placeL (tl z) with
      | false =>
        rw [hp] at q
        exact ⟨_, rfl, iteF q⟩
      | true =>
        rw [hp] at q
        match hl : tl z, hp, q with
        | c :: g, hp, q =>
          have h0 : z.length = g.length + 1 := by
            rw [show z.length = (tl z).length from rfl, hl]
            rfl
          obtain ⟨f1, f2, _, _⟩ := placeL_ex hp
          refine ⟨_, rfl, iteT ⟨_, rfl, z, 0, c, rfl, rfl, by decide, by decide, by rw [h0]; omega, cps_at hl rfl, rfl, _, rfl, ?_⟩⟩
          rw [K83.sr, dec_one]
          have q : Q (.bl (decide (some c = some 114) && decide (dnum g < r))) H := q
          by_cases hc : c = 114
          · rw [decide_eq_true hc]
            refine iteT ⟨_, rfl, z, g, c, rfl, hl, f1, f2, _, rfl, _, _, rfl, rfl, ?_⟩
            rw [show decide (some c = some 114) = true from decide_eq_true (by rw [hc]), Bool.true_and] at q
            show Q (.bl (decide (((dnum g : Nat) : Int) < (r : Nat)))) H
            rw [show decide (((dnum g : Nat) : Int) < (r : Nat)) = decide (dnum g < r) from by rw [decide_eq_decide]; omega]
            exact q
          · rw [decide_eq_false hc]
            refine iteF ?_
            rw [show decide (some c = some 114) = false from decide_eq_false fun h => hc (Option.some.inj h), Bool.false_and] at q
            exact q
    · rw [reg_no hk] at q
      exact ⟨_, rfl, _, rfl, .inr ⟨_, hd.kd, hk, false, rfl, q⟩⟩
theorem ok_register_bits {f : Addr} {fd : FuncData} (F : Fun K "_register_bits" "_register_bits" s__register_bits f fd) (c_digits : Dq P w0 K mg base CX0 1 "digits" ["number", "many"] spDigits) (c_place_number : Dq P w0 K mg base CX0 1 "place_number" ["place"] spPlaceN) :
    FnOk P w0 K mg base CX0 2 f fd ["place"] spRegBits := by
  refine F.ok sc__register_bits (fun vs H Q E h => ?_) (fun cdv A outer s H vs Q E hr h => ?_)
  · obtain ⟨r, z, rfl, _⟩ := h
    rfl
  · obtain ⟨r, z, rfl, hz, q⟩ := h
    refine ⟨_, (pss_one (ps_ret (pe_q c_digits hr (by decide) (by rfl) (pa_cons (pe_q c_place_number hr (by decide) (by rfl) (pa_cons (pv 0) pa_nil)) (pa_cons pe_int pa_nil))))), ?_⟩
    obtain ⟨z', a, e0, ha, har, e⟩ := isReg_ex hz
    injection e0 with e0
    subst e0
    have hd : dnum [48 + a] = a := by simp [dnum, dnum.dv10]
    refine ⟨_, rfl, z, [48 + a], 114, rfl, e, figs1 ha, by simp, _, 4, rfl, by rw [hd]; omega, by decide, by decide, ?_⟩
    have e2 : encReg (.str z) = bdig 4 (dnum [48 + a]) := by
      show bdig 4 (dnum ((tl z).drop 1)) = _
      rw [e]
      rfl
    rw [e2] at q
    exact q
theorem ok_copied_bits {f : Addr} {fd : FuncData} (F : Fun K "_copied_bits" "_copied_bits" s__copied_bits f fd) (c_bits_of_count : Dq P w0 K mg base CX0 1 "bits_of_count" ["number"] spBitsC) (c_place_number : Dq P w0 K mg base CX0 1 "place_number" ["place"] spPlaceN) (c__register_bits : Dq P w0 K mg base CX0 2 "_register_bits" ["place"] spRegBits) :
    FnOk P w0 K mg base CX0 3 f fd ["place"] spCopBits := by
  refine F.ok sc__copied_bits (fun vs H Q E h => ?_) (fun cdv A outer s H vs Q E hr h => ?_)
  · obtain ⟨r, z, rfl, _⟩ := h
    rfl
  · obtain ⟨r, z, rfl, hz, q⟩ := h
    refine ⟨_, (pss_one (ps_ret (pe_ifExp (pt_cmpR op_eq (pe_item_str (pv 0) pe_int (fun _ _ => rfl)) pe_str (nomark _)) (pe_op op_add_str pe_str (pe_q c_bits_of_count hr (by decide) (by rfl) (pa_cons (pe_q c_place_number hr (by decide) (by rfl) (pa_cons (pv 0) pa_nil)) pa_nil))) (pe_op op_add_str pe_str (pe_q c__register_bits hr (by decide) (by rfl) (pa_cons (pv 0) pa_nil)))))), ?_⟩
    have app : ∀ a b : L, (K83.mk a : Str) ++ K83.mk b = K83.mk (a ++ b) := fun a b => K83.tl_inj (by
      show (Str.append _ _).cps.toList = _
      simp [Str.append, tl])
    by_cases hs : isSlot (.str z) = true
    · obtain ⟨z', g, e0, e, hf, h3⟩ := isSlot_ex hs
      injection e0 with e0
      subst e0
      have h0 : z.length = g.length + 1 := by
        rw [show z.length = (tl z).length from rfl, e]
        rfl
      have e2 : encPart .c (.str z) = [49] ++ enc (dnum g) := by
        show (if (tl z).head? = some 115 then 49 :: enc (dnum ((tl z).drop 1)) else 48 :: encReg (.str z)) = _
        rw [e]
        rfl
      have hd : dnum g ≤ 9999 := by
        have hp : placeL (115 :: g) = true := by
          have hs2 : slotL (tl z) = true := hs
          rw [slotL_place, e, Bool.and_eq_true] at hs2
          exact hs2.1
        exact (placeL_ex hp).2.2.1
      refine ⟨_, rfl, z, 0, 115, rfl, rfl, by decide, by decide, by rw [h0]; omega, cps_at e rfl, rfl, _, rfl, ?_⟩
      rw [K83.ss, dec_one]
      refine iteT ⟨_, rfl, z, g, 115, rfl, e, hf, by omega, _, rfl, by omega, _, _, rfl, rfl, ?_, ?_⟩
      · show ("1" : Str).length + (K83.mk (enc (dnum g))).length ≤ sizeLine
        have hl := K82.enc_len (dnum g)
        have h2 := (Nat.log2_lt (n := dnum g + 1) (k := 20) (by omega)).mpr (by omega)
        rw [show ("1" : Str) = K83.mk [49] from by decide +kernel, show (K83.mk [49]).length = 1 from rfl, show (K83.mk (enc (dnum g))).length = (enc (dnum g)).length from by show (enc (dnum g)).toArray.size = _; simp, hl]
        exact small1000' (by omega)
      · rw [show ("1" : Str) = K83.mk [49] from by decide +kernel]
        rw [e2, ← app] at q
        exact q
    · have hr : isReg r (.str z) = true := by
        rw [Bool.or_eq_true] at hz
        exact hz.resolve_left hs
      obtain ⟨z', a, e0, ha, har, e⟩ := isReg_ex hr
      injection e0 with e0
      subst e0
      have h0 : z.length = 2 := by
        rw [show z.length = (tl z).length from rfl, e]
        rfl
      have e2 : encPart .c (.str z) = [48] ++ encReg (.str z) := by
        show (if (tl z).head? = some 115 then 49 :: enc (dnum ((tl z).drop 1)) else 48 :: encReg (.str z)) = _
        rw [e]
        rfl
      refine ⟨_, rfl, z, 0, 114, rfl, rfl, by decide, by decide, by rw [h0]; omega, cps_at e rfl, rfl, _, rfl, ?_⟩
      rw [K83.ss, dec_one]
      refine iteF ⟨_, rfl, r, z, rfl, hr, _, _, rfl, rfl, ?_, ?_⟩
      · show ("0" : Str).length + (K83.mk (bdig 4 _)).length ≤ sizeLine
        rw [show ("0" : Str) = K83.mk [48] from by decide +kernel, show (K83.mk [48]).length = 1 from rfl, show ∀ l : L, (K83.mk l).length = l.length from fun l => by show l.toArray.size = _; simp, K82.bdig_len]
        exact small1000' (by omega)
      · rw [show ("0" : Str) = K83.mk [48] from by decide +kernel]
        rw [e2, ← app] at q
        exact q
end
end SA

set_option Elab.async false
set_option linter.all false
set_option maxRecDepth 100000
set_option maxHeartbeats 4000000
namespace K83
open PySem PySem.Spec
open K82 (L one tl)
theorem slot_str (z : Str) : isSlot (.str z) = (placeL (tl z) && decide ((tl z).head? = some 115)) := slotL_place (tl z)
theorem take_map {α β : Type} {l : List α} {f : α → β} {i : Nat} {c : α} (h : l[i]? = some c) : (l.take (i + 1)).map f = (l.take i).map f ++ [f c] := by
  rw [List.take_add_one, h, List.map_append]
  rfl
theorem all_mapB {α : Type} (p : α → Bool) : ∀ l : List α, (l.map p).all id = l.all p
  | [] => rfl
  | c :: l => by rw [List.map_cons, List.all_cons, List.all_cons, all_mapB p l]; rfl
end K83
namespace SA
open PySem PySem.Spec PyProof.Rows L2 K83
open K82 hiding mk tl_mk mk_tl
theorem small20 {n : Nat} (h : n ≤ 20) : n < sizeLine := by
  have := sizeLine_eq
  omega
theorem Same.upd' {H H' : Hp} {p : Addr} {o : HO} (s : Same H H') (h : H p = none) : Same H (upd H' p o) := fun b u e => by
  rw [upd_ne (ne_of_none e h)]
  exact s b u e
def spCopied (K : PySem.W.Frag) : Sp := fun vs H Q _ => ∃ (r : Nat) (a : Addr) (xs : List V) (d1 d2 : PyData), vs = [.int r, .ref a] ∧ H a = some (.tup xs) ∧ DnAll anyA H xs [d1, d2] ∧ okEs [d1, d2] = true ∧ r ≤ 9 ∧ ∀ H', Same H H' → Q (.bl (((isSlot d1 || isReg r d1) && (isSlot d2 || isReg r d2)) && !(isSlot d1 && isSlot d2))) H'
section
variable {P : Program} {w0 : World} {K : PySem.W.Frag} {mg : Str → Option Value} {base : Heap} {kA mA iA lA wA : Addr}
theorem ok_are_copied {f : Addr} {fd : FuncData} (F : Fun K "_are_copied" "_are_copied" s__are_copied f fd) (B : Bn3 mg) (c_is_place : Dq P w0 K mg base CX0 1 "is_place" ["thing"] (spIsPlace K)) (c__is_register : Dq P w0 K mg base CX0 2 "_is_register" ["registers", "thing"] (spIsReg K)) :
    FnOk P w0 K mg base CX0 3 f fd ["registers", "places"] (spCopied K) := by
  refine F.ok sc__are_copied (fun vs H Q E h => ?_) (fun cdv A outer s H vs Q E hr h => ?_)
  · obtain ⟨r, a, xs, d1, d2, rfl, _⟩ := h
    rfl
  · obtain ⟨r, a, xs, d1, d2, rfl, hx, hd, ho, hr9, q⟩ := h
    refine ⟨_, (Evl.pss_cut (ps_setLc (i := 2) (own := [("place", 3)]) (g := (gName 3)) (tt := tYes) (by rfl) sc__are_copied.nd rfl rfl (sw_true rfl rfl rfl (by decide +kernel)) (pi_tup (pv 1)) (blkOk_by (N := n__are_copied) (sc := defScope s__are_copied) (by decide +kernel)) (fun _ _ _ _ _ => (pg_name (i := 3) sc__are_copied.nd rfl (Or.inl rfl))) (fun _ _ _ _ _ => pts_nil) (fun _ _ _ _ _ => (pe_and (pe_q c_is_place hr (by decide) (by rfl) (pa_cons (pv 3) pa_nil)) (pe_one (pe_cmpR op_eq (pe_item_str (pv 3) pe_int (fun _ _ => rfl)) pe_str (nomark _))))))
      (pss_cons (ps_if (pt_not (pt_val (pe_callB (cr_all rfl) (by rfl) B.all (by decide +kernel) (pa_cons (pe_lc (own := [("slot", 4), ("place", 3)]) (g := (gTup K 2 (gCons (gName 4) (gCons (gName 3) gNil)))) (tt := tYes) (by rfl) sc__are_copied.nd (pi_zipX (by rfl) B.zip (pa_cons (pv 2) (pa_cons (pv 1) pa_nil))) (blkOk_by (N := n__are_copied) (sc := defScope s__are_copied) (by decide +kernel)) (fun _ _ _ _ _ => (pg_tup (by rfl) (pgs_cons (pg_name (i := 4) sc__are_copied.nd rfl (Or.inl rfl)) (pgs_cons (pg_name (i := 3) sc__are_copied.nd rfl (Or.inl rfl)) pgs_nil)))) (fun _ _ _ _ _ => pts_nil) (fun _ _ _ _ _ => (pe_or (pv 4) (pe_one (pe_q c__is_register hr (by decide) (by rfl) (pa_cons (pv 0) (pa_cons (pv 3) pa_nil))))))) pa_nil)))) (pss_one (ps_ret pe_bl)) pss_nil)
      (pss_one (ps_ret (pe_cmpR (op_neD hr.units) (pv 2) (pe_lst (pa_cons pe_bl (pa_cons pe_bl pa_nil))) (nomark _)))))), ?_⟩
    have hl := hd.len
    refine ⟨fun σ H1 => ∃ p, σ = [some (.int r), some (.ref a), some (.ref p), none, none] ∧ Same H H1 ∧ H1 p = some (.lst (([d1, d2].map isSlot).map V.bl)), ?_, ?_⟩
    · refine ⟨_, rfl, a, rfl, ⟨xs, SqT.of hx⟩, fun p hp => lc_it walk_tup (fun i H' => Same H H' ∧ H' p = some (.lst ((([d1, d2].take i).map isSlot).map V.bl))) ⟨Same.new hp, upd_same⟩ (fun i H' _ h => SqT.of (h.1 _ _ hx)) ?_ ?_⟩
      · rintro i x H1 H' hi ⟨s1, e1⟩ ⟨rfl, hxi⟩
        obtain ⟨d, hdi, hdn⟩ := hd.at hxi
        have hdn := hdn.same s1
        have hod := okEs_mem ho (List.mem_of_getElem? hdi)
        have fin : ∃ acc, H' p = some (.lst acc) ∧ acc.length < sizeLine ∧ (Same H (upd H' p (.lst (acc ++ [.bl (isSlot d)]))) ∧ upd H' p (.lst (acc ++ [.bl (isSlot d)])) p = some (.lst ((([d1, d2].take (i + 1)).map isSlot).map V.bl))) := by
          refine ⟨_, e1, ?_, Same.upd' s1 hp, ?_⟩
          · rw [List.length_map, List.length_map, List.length_take]
            exact small20 (Nat.le_trans (Nat.min_le_right _ _) (by simp))
          · rw [upd_same, take_map hdi, List.map_append]
            rfl
        refine ⟨rfl, yes ?_⟩
        by_cases hk : kindD d = "str"
        · obtain ⟨z, rfl, rfl⟩ := hdn.str_of hk
          obtain ⟨o1, o2⟩ := okE_str hod
          rw [slot_str] at fin
          refine ⟨_, rfl, _, rfl, .inl ⟨z, rfl, by omega, o2, ?_⟩⟩
          cases hp2 : placeL (tl z) with
          | false =>
            rw [hp2] at fin
            exact ⟨_, rfl, iteF fin⟩
          | true =>
            rw [hp2] at fin
            match hl : tl z, hp2, fin with
            | c :: g, hp2, fin =>
              have h0 : z.length = g.length + 1 := by
                rw [show z.length = (tl z).length from rfl, hl]
                rfl
              refine ⟨_, rfl, iteT ⟨_, rfl, z, 0, c, rfl, rfl, by decide, by decide, by rw [h0]; omega, cps_at hl rfl, rfl, ?_⟩⟩
              rw [K83.ss, dec_one]
              have e : decide ((c :: g).head? = some 115) = decide (c = 115) := by
                rw [decide_eq_decide]
                exact ⟨fun h => Option.some.inj h, fun h => by rw [h]; rfl⟩
              rw [e, Bool.true_and] at fin
              exact fin
        · rw [slot_no hk] at fin
          exact ⟨_, rfl, _, rfl, .inr ⟨_, hdn.kd, hk, _, rfl, fin⟩⟩
      · rintro H1 ⟨s1, e1⟩
        rw [hl] at e1
        exact ⟨p, rfl, s1, e1⟩
    rintro σ H1 ⟨p, rfl, s1, e1⟩
    have hd1 := hd.same s1
    have hx1 := s1 _ _ hx
    have slen : (([d1, d2].map isSlot).map V.bl).length = 2 := rfl
    refine ⟨_, rfl, _, rfl, .lst p, .tup a, _, xs, rfl, SqL.of e1, SqT.of hx1, fun p2 hp2 => lc_it (walk_zipX (n := 2) (by rw [slen, hl]; rfl)) (fun i H' => Same H1 H' ∧ H' p2 = some (.lst ((([d1, d2].take i).map fun d => isSlot d || isReg r d).map V.bl))) ⟨Same.new hp2, upd_same⟩ (fun i H' _ h => ⟨SqL.of (h.1 _ _ e1), SqT.of (h.1 _ _ hx1)⟩) ?_ ?_⟩
    · rintro i x H2 H' hi ⟨s2, e2⟩ ⟨T, y, x', rfl, hT, rfl, hy, hxi⟩
      obtain ⟨d, hdi, hdn⟩ := hd1.at hxi
      have hdn := (hdn.same s2).same (Same.new hT (o := .tup [y, x']))
      have hod := okEs_mem ho (List.mem_of_getElem? hdi)
      have hy2 : y = .bl (isSlot d) := by
        have hy : (([d1, d2].map isSlot).map V.bl)[i]? = some y := hy
        rw [List.getElem?_map, List.getElem?_map, hdi] at hy
        exact (Option.some.inj hy).symm
      subst hy2
      have npT : p2 ≠ T := ne_of_none e2 hT
      have fin : ∃ acc, upd H2 T (.tup [.bl (isSlot d), x']) p2 = some (.lst acc) ∧ acc.length < sizeLine ∧ (Same H1 (upd (upd H2 T (.tup [.bl (isSlot d), x'])) p2 (.lst (acc ++ [.bl (isSlot d || isReg r d)]))) ∧
          upd (upd H2 T (.tup [.bl (isSlot d), x'])) p2 (.lst (acc ++ [.bl (isSlot d || isReg r d)])) p2 = some (.lst ((([d1, d2].take (i + 1)).map fun d => isSlot d || isReg r d).map V.bl))) := by
        refine ⟨_, by rw [upd_ne npT]; exact e2, ?_, Same.upd' (s2.trans (Same.new hT)) hp2, ?_⟩
        · rw [List.length_map, List.length_map, List.length_take]
          exact small20 (Nat.le_trans (Nat.min_le_right _ _) (by simp))
        · rw [upd_same, take_map hdi, List.map_append]
          rfl
      refine ⟨T, _, rfl, SqT.of upd_same, rfl, _, _, rfl, _, _, rfl, ⟨rfl, rfl, yes ?_⟩⟩
      refine ⟨_, rfl, _, rfl, ?_⟩
      cases hsl : isSlot d with
      | true =>
        rw [hsl] at fin
        exact iteT fin
      | false =>
        rw [hsl] at fin hdn
        exact iteF ⟨_, rfl, _, rfl, r, x', d, rfl, hdn, hod, hr9, fin⟩
    · rintro H2 ⟨s2, e2⟩
      refine ⟨p2, _, rfl, SqL.of e2, _, rfl, ?_⟩
      rw [show ([d1, d2].take 2) = [d1, d2] from rfl, all_mapB]
      have e1' := s2 _ _ e1
      have q2 : ∀ H', Same H2 H' → Q (.bl (([d1, d2].all fun d => isSlot d || isReg r d) && !(isSlot d1 && isSlot d2))) H' := fun H' s3 => by
        have := q H' ((s1.trans s2).trans s3)
        simpa using this
      cases hal : ([d1, d2].all fun d => isSlot d || isReg r d) with
      | false =>
        rw [hal] at q2
        exact iteT (q2 _ (Same.refl _))
      | true =>
        rw [hal] at q2
        refine iteF ⟨_, rfl, by show 2 ≤ sizeLine; decide, fun p3 hp3 => ?_⟩
        have q3 := q2 _ (Same.new hp3 (o := .lst [.bl true, .bl true]))
        have hp31 : p ≠ p3 := ne_of_none e1' hp3
        refine ⟨.list [.bool (isSlot d1), .bool (isSlot d2)], .list [.bool true, .bool true], .lst (SqL.of (by rw [upd_ne hp31]; exact e1')) (.cons (.bl _) (.cons (.bl _) .nil)), .lst (SqL.of upd_same) (.cons (.bl _) (.cons (.bl _) .nil)), rfl, rfl, ?_⟩
        have e : (!PyData.eqv (.list [.bool (isSlot d1), .bool (isSlot d2)]) (.list [.bool true, .bool true])) = (true && !(isSlot d1 && isSlot d2)) := by
          cases isSlot d1 <;> cases isSlot d2 <;> decide
        rw [e]
        exact q3
end
end SA

set_option Elab.async false
set_option linter.all false
set_option maxRecDepth 100000
set_option maxHeartbeats 4000000
namespace K83
open PySem PySem.Spec
open K82 (L one tl)
theorem leap_none {w : Str} (h : ([("short", .int 8), ("long", .int 32)] : List (Str × L2.V)).lookup w = none) : w ≠ "short" ∧ w ≠ "long" := by
  rw [List.lookup_cons, List.lookup_cons] at h
  refine ⟨?_, ?_⟩
  · rintro rfl
    simp at h
  · rintro rfl
    split at h <;> simp at h
theorem leap_some {w : Str} {v : L2.V} (h : ([("short", .int 8), ("long", .int 32)] : List (Str × L2.V)).lookup w = some v) : w = "short" ∨ w = "long" := by
  rw [List.lookup_cons, List.lookup_cons] at h
  split at h
  · rename_i e
    exact .inl (eq_of_beq e)
  · split at h
    · rename_i e
      exact .inr (eq_of_beq e)
    · cases h
theorem isLeap2 (w : Str) (d : PyData) : isLeap (.tuple [.str w, d]) = ((decide (w = "short") || decide (w = "long")) && isBetw (0 - halfOf w) (halfOf w - 1) d) := by
  cases d with
  | int i =>
    show ((decide (w = "short") || decide (w = "long")) && decide (-halfOf w ≤ i ∧ i ≤ halfOf w - 1)) = _
    congr 1
    show _ = decide (0 - halfOf w ≤ i ∧ i ≤ halfOf w - 1)
    rw [decide_eq_decide]
    omega
  | _ => exact (Bool.and_false _).symm
theorem lookup_map {α β : Type} (f : Str → α → β) (z : Str) : ∀ l : List (Str × α), (l.map fun q => (q.1, f q.1 q.2)).lookup z = (l.lookup z).map (f z)
  | [] => rfl
  | (a, b) :: l => by
    rw [List.map_cons, List.lookup_cons, List.lookup_cons]
    cases h : z == a with
    | true =>
      rw [eq_of_beq h]
      rfl
    | false => exact lookup_map f z l
theorem arePs_zip (r : Nat) : ∀ (ls : List Lt) (ps : List PyData), ps.length = ls.length → arePs r ls ps = (ps.zip ls).all fun q => isPart r q.2 q.1
  | [], [], _ => rfl
  | c :: cs, d :: ds, h => by
    show (isPart r c d && arePs r cs ds) = _
    rw [arePs_zip r cs ds (by simpa using h), List.zip_cons_cons, List.all_cons]
  | [], _ :: _, h => by simp at h
  | _ :: _, [], h => by simp at h
theorem arePs_len (r : Nat) : ∀ (ls : List Lt) (ps : List PyData), ps.length ≠ ls.length → arePs r ls ps = false
  | [], [], h => absurd rfl h
  | c :: cs, d :: ds, h => by
    show (isPart r c d && arePs r cs ds) = _
    rw [arePs_len r cs ds (by simpa using h), Bool.and_false]
  | [], _ :: _, _ => rfl
  | _ :: _, [], _ => rfl
theorem tab_copy : ∀ q ∈ tab, (q.1 = "copy" → q.2 = [.c, .c]) ∧ (q.1 ≠ "copy" → .c ∉ q.2) ∧ q.2.length ≤ 4 := by decide +kernel
end K83
namespace SA
open PySem PySem.Spec PyProof.Rows L2 K83
open K82 hiding mk tl_mk mk_tl
abbrev sg (c : Lt) : Str := ⟨#[lettersOf c]⟩
theorem iteTd {b : Bool} {p q : Prop} (h : b = true) (x : p) : if b = true then p else q := by
  rw [if_pos h]
  exact x
theorem iteFd {b : Bool} {p q : Prop} (h : b = false) (x : q) : if b = true then p else q := by
  rw [if_neg (by rw [h]; decide)]
  exact x
theorem op_eq_nilT {X : Cx} (hu : X.A.units + 64 < cLine) : OpR X (compareOp .Eq) (fun x y H Q => ∃ (a b : Addr) (xs : List V), x = .ref a ∧ y = .ref b ∧ SqT X.K H a xs ∧ SqT X.K H b [] ∧ Q (.bl xs.isEmpty) H) := by
  intro pins s σ H x y v u Q I rx ry h
  obtain ⟨a, b, xs, rfl, rfl, ha, hb, q⟩ := h
  obtain rfl : v = .ref a := rx
  obtain rfl : u = .ref b := ry
  obtain ⟨its, r1, p1, _⟩ := I.tuple ha
  obtain ⟨its2, r2, p2, _⟩ := I.tuple hb
  have e2 : its2 = [] := by
    cases r2
    rfl
  subst e2
  refine SeqAt.eq_tupleAt (e := fun _ => true) p1 p2 (by omega) (fun j _ h2 => absurd h2 (Nat.not_lt_zero _)) ⟨.bl xs.isEmpty, H, I, ?_, q⟩
  have hl := r1.length
  have e : ((List.range (min its.toArray.size ([] : List Value).toArray.size)).all (fun _ => true) && its.toArray.size == ([] : List Value).toArray.size) = xs.isEmpty := by
    rw [List.size_toArray, ← hl]
    cases xs <;> simp
  rw [e]
  rfl
def spIsLeap : Sp := fun vs H Q _ => ∃ (x : V) (d : PyData), vs = [x] ∧ Dn anyA H x d ∧ Q (.bl (isLeap d)) H
def spPartF (K : PySem.W.Frag) : Sp := fun vs H Q _ => ∃ (r : Nat) (x : V) (d : PyData) (c : Lt), vs = [.int r, x, .str (sg c)] ∧ c ≠ .c ∧ Dn anyA H x d ∧ okE d = true ∧ r ≤ 9 ∧ ∀ H', Same H H' → Q (.bl (isPart r c d)) H'
def spInsF (K : PySem.W.Frag) : Sp := fun vs H Q _ => ∃ (r : Nat) (x : V) (d : PyData), vs = [.int r, x] ∧ Dn anyA H x d ∧ okE d = true ∧ r ≤ 9 ∧ ∀ H', Same H H' → Q (.bl (judged r d)) H'
section
variable {P : Program} {w0 : World} {K : PySem.W.Frag} {mg : Str → Option Value} {base : Heap} {kA mA iA lA wA : Addr}
theorem ok_is_leap {f : Addr} {fd : FuncData} (F : Fun K "_is_leap" "_is_leap" s__is_leap f fd) (T : Top83 K w0 mg kA mA iA lA wA) (B : Bn3 mg) (c_is_tuple_of : Dq P w0 K mg base CX0 1 "is_tuple_of" ["thing", "many"] (spTupOf K))
    (c__half_of : Dq P w0 K mg base CX0 1 "_half_of" ["word"] spHalf) (c_is_number_between : Dq P w0 K mg base CX0 2 "is_number_between" ["thing", "low", "high"] (spNumB K)) : FnOk P w0 K mg base CX0 3 f fd ["thing"] spIsLeap := by
  obtain ⟨esL, nL, DL⟩ := T.leapD.D
  refine F.ok sc__is_leap (fun vs H Q E h => ?_) (fun cdv A outer s H vs Q E hr h => ?_)
  · obtain ⟨x, d, rfl, _⟩ := h
    rfl
  · obtain ⟨x, d, rfl, hd, q⟩ := h
    refine ⟨_, (pss_cons (ps_if (PW.pt (pw_or (pt_not (pt_val (pe_q c_is_tuple_of hr (by decide) (by rfl) (pa_cons (pv 0) (pa_cons pe_int pa_nil))))) (pw_or (pt_not (pt_val (pe_callB call_isi (by rfl) B.isinstance (by decide +kernel) (pa_cons (pe_ix ix_tup (pv 0) pe_int (fun _ _ => rfl)) (pa_cons (pe_bltn (v := .ty "str") (by rfl) B.str (by decide +kernel) rfl) pa_nil))))) (pw_or1 (pt_cmpR (op_notIn_kd DL) (pe_ix ix_tup (pv 0) pe_int (fun _ _ => rfl)) (pe_glob (v := .ref lA) (by rfl) T.LEAPS rfl) (by rfl)))))) (pss_one (ps_ret pe_bl)) pss_nil)
      (pss_cons (ps_set (i := 1) sc__is_leap.nd rfl (Or.inl rfl) (pe_q c__half_of hr (by decide) (by rfl) (pa_cons (pe_ix ix_tup (pv 0) pe_int (fun _ _ => rfl)) pa_nil)))
      (pss_one (ps_ret (pe_q c_is_number_between hr (by decide) (by rfl) (pa_cons (pe_ix ix_tup (pv 0) pe_int (fun _ _ => rfl)) (pa_cons (pe_op op_sub pe_int (pv 1)) (pa_cons (pe_op op_sub (pv 1) pe_int) pa_nil)))))))), ?_⟩
    by_cases hk : kindD d = "tuple"
    · obtain ⟨a, xs, ds, rfl, rfl, _, hx, hds⟩ := hd.tup_of hk
      have hl := hds.len
      refine ⟨_, rfl, _, 2, rfl, .inl ⟨a, xs, rfl, hx, _, rfl, ?_⟩⟩
      match ds, xs, hds, hl, hx, q with
      | [], xs, _, hl, _, q =>
        rw [hl]
        exact iteT q
      | [_], xs, _, hl, _, q =>
        rw [hl]
        have e : ∀ a : PyData, isLeap (.tuple [a]) = false := fun a => by cases a <;> rfl
        rw [e] at q
        exact iteT q
      | _ :: _ :: _ :: _, xs, _, hl, _, q =>
        rw [hl]
        refine iteTd (by simp; omega) ?_
        have e : ∀ (a b c : PyData) (t : List PyData), isLeap (.tuple (a :: b :: c :: t)) = false := fun a b c t => by cases a <;> first | rfl | (cases b <;> rfl)
        rw [e] at q
        exact q
      | [d1, d2], [x1, x2], .cons h1 (.cons h2 .nil), _, hx, q =>
        refine iteF ?_
        by_cases hk1 : kindD d1 = "str"
        · obtain ⟨w, rfl, rfl⟩ := h1.str_of hk1
          rw [isLeap2] at q
          refine ⟨_, rfl, a, _, 0, _, rfl, rfl, SqT.of hx, rfl, _, .ty "str", .type "str", .type "str", true, rfl, .ty _, Kd.ty (.str w), kit_ty (by decide +kernel), true, rfl, iteF ?_⟩
          obtain ⟨r, hr1, hr2⟩ := T.leapD.is w
          refine ⟨_, rfl, a, _, 0, _, rfl, rfl, SqT.of hx, rfl, w, r, rfl, rfl, hr1, _, rfl, ?_⟩
          rw [hr2]
          match hlk : ([("short", .int 8), ("long", .int 32)] : List (Str × L2.V)).lookup w with
          | none =>
            obtain ⟨n1, n2⟩ := leap_none hlk
            rw [decide_eq_false n1, decide_eq_false n2] at q
            exact iteT q
          | some v =>
            have hw := leap_some hlk
            have e : (decide (w = "short") || decide (w = "long")) = true := by simpa using hw
            rw [e, Bool.true_and] at q
            refine iteF ⟨_, rfl, a, _, 0, _, rfl, rfl, SqT.of hx, rfl, w, rfl, hw, ?_⟩
            refine ⟨_, rfl, a, _, 1, _, rfl, rfl, SqT.of hx, rfl, _, rfl, _, _, rfl, rfl, _, rfl, _, _, rfl, rfl, x2, _, _, _, rfl, h2.kd, fun i hi => ?_, fun hn => ?_⟩
            · subst hi
              obtain ⟨_, e1, rfl⟩ := h2.int_of (by cases h2; rfl)
              injection e1 with e1
              subst e1
              exact q
            · have e2 : isBetw (0 - halfOf w) (halfOf w - 1) d2 = false := by cases d2 <;> first | rfl | exact absurd rfl hn
              rw [e2] at q
              exact q
        · have e : ∀ b : PyData, isLeap (.tuple [d1, b]) = false := fun b => by cases d1 <;> first | rfl | exact absurd rfl hk1
          rw [e] at q
          exact ⟨_, rfl, a, _, 0, _, rfl, rfl, SqT.of hx, rfl, _, .ty "str", .type _, .type "str", false, rfl, .ty _, Kd.ty (h1.kd), kd_no (h1.kd) (by simp) hk1, false, rfl, iteT q⟩
    · have e : isLeap d = false := by cases d <;> first | rfl | exact absurd rfl hk
      rw [e] at q
      exact ⟨_, rfl, _, 2, rfl, .inr ⟨_, hd.kd, hk, _, rfl, iteT q⟩⟩
end
end SA

set_option Elab.async false
set_option linter.all false
set_option maxRecDepth 100000
set_option maxHeartbeats 4000000
namespace K83
open PySem PySem.Spec
open K82 (L one tl)
theorem isInt_kd (d : PyData) : decide (SA.kindD d = "int") = isInt d := by cases d <;> rfl
theorem betw_no {lo hi : Int} {d : PyData} (h : SA.kindD d ≠ "int") : isBetw lo hi d = false := by cases d <;> first | rfl | exact absurd rfl h
theorem nm_no {d : PyData} (h : SA.kindD d ≠ "str") : isNm d = false := by cases d <;> first | rfl | exact absurd rfl h
theorem regs_no {r : Nat} {d : PyData} (h : SA.kindD d ≠ "tuple") : isRegs r d = false := by cases d <;> first | rfl | exact absurd rfl h
theorem judged_no {r : Nat} {d : PyData} (h : SA.kindD d ≠ "tuple") : judged r d = false := by cases d <;> first | rfl | exact absurd rfl h
theorem judged_no2 {r : Nat} {d : PyData} {ds : List PyData} (h : SA.kindD d ≠ "str") : judged r (.tuple (d :: ds)) = false := by cases d <;> first | rfl | exact absurd rfl h
theorem judged_w (r : Nat) (w : Str) (ps : List PyData) : judged r (.tuple (.str w :: ps)) = (match tab.lookup w with
    | none => false
    | some ls => arePs r ls ps && !(decide (w = "copy") && ps.all isSlot)) := rfl
end K83
namespace SA
open PySem PySem.Spec PyProof.Rows L2 K83
open K82 hiding mk tl_mk mk_tl
section
variable {P : Program} {w0 : World} {K : PySem.W.Frag} {mg : Str → Option Value} {base : Heap} {kA mA iA lA wA : Addr}
theorem ok_has_part_form {f : Addr} {fd : FuncData} (F : Fun K "_has_part_form" "_has_part_form" s__has_part_form f fd) (T : Top83 K w0 mg kA mA iA lA wA) (B : Bn3 mg) (c__is_register : Dq P w0 K mg base CX0 2 "_is_register" ["registers", "thing"] (spIsReg K))
    (c_is_number : Dq P w0 K mg base CX0 1 "is_number" ["thing"] (spIsNum K)) (c_is_name : Dq P w0 K mg base CX0 1 "is_name" ["thing"] (spIsName K)) (c_is_number_between : Dq P w0 K mg base CX0 2 "is_number_between" ["thing", "low", "high"] (spNumB K))
    (c__is_leap : Dq P w0 K mg base CX0 3 "_is_leap" ["thing"] spIsLeap) : FnOk P w0 K mg base CX0 4 f fd ["registers", "part", "letter"] (spPartF K) := by
  obtain ⟨t3, mM⟩ := T.most
  refine F.ok sc__has_part_form (fun vs H Q E h => ?_) (fun cdv A outer s H vs Q E hr h => ?_)
  · obtain ⟨r, x, d, c, rfl, _⟩ := h
    rfl
  · obtain ⟨r, x, d, c, rfl, hc, hd, ho, hr9, q⟩ := h
    refine ⟨_, (pss_cons (ps_if (pt_cmpR op_eq (pv 2) pe_str (nomark _)) (pss_one (ps_ret (pe_q c__is_register hr (by decide) (by rfl) (pa_cons (pv 0) (pa_cons (pv 1) pa_nil))))) pss_nil)
      (pss_cons (ps_if (pt_cmpR op_eq (pv 2) pe_str (nomark _)) (pss_one (ps_ret (pe_q c_is_number hr (by decide) (by rfl) (pa_cons (pv 1) pa_nil)))) pss_nil)
      (pss_cons (ps_if (pt_cmpR op_eq (pv 2) pe_str (nomark _)) (pss_one (ps_ret (pe_q c_is_name hr (by decide) (by rfl) (pa_cons (pv 1) pa_nil)))) pss_nil)
      (pss_cons (ps_if (pt_cmpR op_eq (pv 2) pe_str (nomark _)) (pss_one (ps_ret (pe_q c_is_number_between hr (by decide) (by rfl) (pa_cons (pv 1) (pa_cons pe_int (pa_cons (pe_op op_sub (pe_glob (v := .int 3) (by rfl) mM ⟨_, rfl⟩) pe_int) pa_nil)))))) pss_nil)
      (pss_cons (ps_if (pt_cmpR op_eq (pv 2) pe_str (nomark _)) (pss_cons (ps_if (PW.pt (pw_or (pt_not (pt_val (pe_callB call_isi (by rfl) B.isinstance (by decide +kernel) (pa_cons (pv 1) (pa_cons (pe_bltn (v := .ty "tuple") (by rfl) B.tuple (by decide +kernel) rfl) pa_nil))))) (pw_or1 (pt_cmpR op_gt (pe_callB call_len_seq (by rfl) B.len PySem.boot_len (pa_cons (pv 1) pa_nil)) (pe_glob (v := .int 3) (by rfl) mM ⟨_, rfl⟩) (nomark _))))) (pss_one (ps_ret pe_bl)) pss_nil)
      (pss_one (ps_ret (pe_callB (cr_all rfl) (by rfl) B.all (by decide +kernel) (pa_cons (pe_lc (own := [("place", 3)]) (g := (gName 3)) (tt := tYes) (by rfl) sc__has_part_form.nd (pi_tup (pv 1)) (blkOk_by (N := n__has_part_form) (sc := defScope s__has_part_form) (by decide +kernel)) (fun _ _ _ _ _ => (pg_name (i := 3) sc__has_part_form.nd rfl (Or.inl rfl))) (fun _ _ _ _ _ => pts_nil) (fun _ _ _ _ _ => (pe_q c__is_register hr (by decide) (by rfl) (pa_cons (pv 0) (pa_cons (pv 3) pa_nil))))) pa_nil))))) pss_nil)
      (pss_one (ps_ret (pe_q c__is_leap hr (by decide) (by rfl) (pa_cons (pv 1) pa_nil))))))))), ?_⟩
    have q0 := q H (Same.refl H)
    cases c with
    | c => exact absurd rfl hc
    | p => exact ⟨_, rfl, rfl, _, rfl, iteTd (by decide +kernel) ⟨_, rfl, _, rfl, r, x, d, rfl, hd, ho, hr9, q0⟩⟩
    | n =>
      have q0 : Q (.bl (isInt d)) H := q0
      rw [← isInt_kd] at q0
      exact ⟨_, rfl, rfl, _, rfl, iteFd (by decide +kernel) ⟨_, rfl, rfl, _, rfl, iteTd (by decide +kernel) ⟨_, rfl, x, _, rfl, hd.kd, q0⟩⟩⟩
    | x =>
      refine ⟨_, rfl, rfl, _, rfl, iteFd (by decide +kernel) ⟨_, rfl, rfl, _, rfl, iteFd (by decide +kernel) ⟨_, rfl, rfl, _, rfl, iteTd (by decide +kernel) ⟨_, rfl, x, rfl, ?_⟩⟩⟩⟩
      by_cases hk : kindD d = "str"
      · obtain ⟨z, rfl, rfl⟩ := hd.str_of hk
        obtain ⟨o1, o2⟩ := okE_str ho
        exact .inl ⟨z, rfl, by omega, q⟩
      · have q0 : Q (.bl (isNm d)) H := q0
        rw [nm_no hk] at q0
        exact .inr ⟨_, hd.kd, hk, q0⟩
    | k =>
      refine ⟨_, rfl, rfl, _, rfl, iteFd (by decide +kernel) ⟨_, rfl, rfl, _, rfl, iteFd (by decide +kernel) ⟨_, rfl, rfl, _, rfl, iteFd (by decide +kernel) ⟨_, rfl, rfl, _, rfl, iteTd (by decide +kernel) ⟨_, rfl, _, _, rfl, rfl, x, _, 0, 2, rfl, hd.kd, fun i hi => ?_, fun hn => ?_⟩⟩⟩⟩⟩
      · subst hi
        obtain ⟨_, e1, rfl⟩ := hd.int_of (by cases hd; rfl)
        injection e1 with e1
        subst e1
        exact q0
      · have q0 : Q (.bl (isBetw 0 2 d)) H := q0
        rw [betw_no hn] at q0
        exact q0
    | P =>
      refine ⟨_, rfl, rfl, _, rfl, iteFd (by decide +kernel) ⟨_, rfl, rfl, _, rfl, iteFd (by decide +kernel) ⟨_, rfl, rfl, _, rfl, iteFd (by decide +kernel) ⟨_, rfl, rfl, _, rfl, iteFd (by decide +kernel) ⟨_, rfl, rfl, _, rfl, iteTd (by decide +kernel) ?_⟩⟩⟩⟩⟩
      by_cases hk : kindD d = "tuple"
      · obtain ⟨a, xs, ds, rfl, rfl, _, hx, hds⟩ := hd.tup_of hk
        obtain ⟨ho1, ho2⟩ := okE_tup ho
        have hl := hds.len
        have q0 : Q (.bl (decide (ds.length ≤ 3) && ds.all (isReg r))) H := q0
        have q : ∀ H', Same H H' → Q (.bl (decide (ds.length ≤ 3) && ds.all (isReg r))) H' := q
        refine ⟨_, rfl, _, .ty "tuple", .type "tuple", .type "tuple", true, rfl, .ty _, Kd.ty (.tup (.base (.tup hx))), kit_ty (by decide +kernel), true, rfl, iteF ⟨_, rfl, a, xs, rfl, .inr (SqT.of hx), _, _, rfl, rfl, _, rfl, ?_⟩⟩
        by_cases h3 : ds.length ≤ 3
        · refine iteFd (decide_eq_false (by omega)) ?_
          rw [decide_eq_true h3] at q
          refine ⟨_, rfl, a, rfl, ⟨xs, SqT.of hx⟩, fun p hp => lc_it walk_tup (fun i H' => Same H H' ∧ H' p = some (.lst (((ds.take i).map (isReg r)).map V.bl))) ⟨Same.new hp, upd_same⟩ (fun i H' _ h => SqT.of (h.1 _ _ hx)) ?_ ?_⟩
          · rintro i x H1 H' hi ⟨s1, e1⟩ ⟨rfl, hxi⟩
            obtain ⟨d, hdi, hdn⟩ := hds.at hxi
            have hdn := hdn.same s1
            have hod := okEs_mem ho2 (List.mem_of_getElem? hdi)
            refine ⟨rfl, yes ⟨_, rfl, _, rfl, r, x, d, rfl, hdn, hod, hr9, _, e1, ?_, Same.upd' s1 hp, ?_⟩⟩
            · rw [List.length_map, List.length_map, List.length_take]
              exact small20 (Nat.le_trans (Nat.min_le_right _ _) (by omega))
            · rw [upd_same, take_map hdi, List.map_append]
              rfl
          · rintro H1 ⟨s1, e1⟩
            rw [hl, List.take_length] at e1
            refine ⟨p, _, rfl, SqL.of e1, ?_⟩
            rw [all_mapB]
            exact q H1 s1
        · refine iteTd (decide_eq_true (by omega)) ?_
          rw [decide_eq_false h3] at q0
          exact q0
      · have q0 : Q (.bl (isRegs r d)) H := q0
        rw [regs_no hk] at q0
        exact ⟨_, rfl, _, .ty "tuple", .type _, .type "tuple", false, rfl, .ty _, Kd.ty (hd.kd), kd_no (hd.kd) (by simp) hk, false, rfl, q0⟩
    | l => exact ⟨_, rfl, rfl, _, rfl, iteFd (by decide +kernel) ⟨_, rfl, rfl, _, rfl, iteFd (by decide +kernel) ⟨_, rfl, rfl, _, rfl, iteFd (by decide +kernel) ⟨_, rfl, rfl, _, rfl, iteFd (by decide +kernel) ⟨_, rfl, rfl, _, rfl, iteFd (by decide +kernel) ⟨_, rfl, x, d, rfl, hd, q0⟩⟩⟩⟩⟩⟩
end
end SA

set_option Elab.async false
set_option linter.all false
set_option maxRecDepth 100000
set_option maxHeartbeats 4000000
namespace SA
open PySem PySem.Spec PyProof.Rows L2 K83
open K82 hiding mk tl_mk mk_tl
theorem signs_letters {w : Str} (h : w ≠ "copy") (ls : List Lt) : signs (lettersW w ls) = ls.map fun c => .str (sg c) := by
  unfold signs lettersW
  rw [if_neg h]
  simp
theorem cutV_1 (x : V) (xs : List V) : cutV (x :: xs) (some 1) none = xs := by
  unfold cutV
  simp [HT.sIx]
theorem lettersW_len {w : Str} (h : w ≠ "copy") (ls : List Lt) : (lettersW w ls).length = ls.length := by
  unfold lettersW
  rw [if_neg h]
  show (ls.map lettersOf).toArray.size = _
  simp
theorem noslice {n : Nat} : ¬ (HT.sIx (n + 1) 0 (some 1) = 0 ∧ HT.sIx (n + 1) (n + 1) none = n + 1) := by
  intro h
  have := h.1
  simp [HT.sIx] at this
theorem at0 (x : V) (ys : List V) : atI (x :: ys) 0 = some x := atI_nat (j := 0) (show (x :: ys)[0]? = some x from rfl)
section
variable {P : Program} {w0 : World} {K : PySem.W.Frag} {mg : Str → Option Value} {base : Heap} {kA mA iA lA wA : Addr}
theorem ok_has_instruction_form {f : Addr} {fd : FuncData} (F : Fun K "has_instruction_form" "has_instruction_form" s_has_instruction_form f fd) (T : Top83 K w0 mg kA mA iA lA wA) (B : Bn3 mg)
    (c__are_copied : Dq P w0 K mg base CX0 3 "_are_copied" ["registers", "places"] (spCopied K)) (c__has_part_form : Dq P w0 K mg base CX0 4 "_has_part_form" ["registers", "part", "letter"] (spPartF K)) : FnOk P w0 K mg base CX0 5 f fd ["registers", "thing"] (spInsF K) := by
  obtain ⟨esI, nI, DI⟩ := T.instD.D
  refine F.ok sc_has_instruction_form (fun vs H Q E h => ?_) (fun cdv A outer s H vs Q E hr h => ?_)
  · obtain ⟨r, x, d, rfl, _⟩ := h
    rfl
  · obtain ⟨r, x, d, rfl, hd, ho, hr9, q⟩ := h
    refine ⟨_, (pss_cons (ps_if (PW.pt (pw_or (pt_not (pt_val (pe_callB call_isi (by rfl) B.isinstance (by decide +kernel) (pa_cons (pv 1) (pa_cons (pe_bltn (v := .ty "tuple") (by rfl) B.tuple (by decide +kernel) rfl) pa_nil))))) (pw_or (pt_cmpR (op_eq_nilT hr.units) (pv 1) (pe_tup pa_nil) (nomark _)) (pw_or (pt_not (pt_val (pe_callB call_isi (by rfl) B.isinstance (by decide +kernel) (pa_cons (pe_ix ix_tup (pv 1) pe_int (fun _ _ => rfl)) (pa_cons (pe_bltn (v := .ty "str") (by rfl) B.str (by decide +kernel) rfl) pa_nil))))) (pw_or1 (pt_cmpR (op_notIn_kd DI) (pe_ix ix_tup (pv 1) pe_int (fun _ _ => rfl)) (pe_glob (v := .ref iA) (by rfl) T.INSTRUCTIONS rfl) (by rfl))))))) (pss_one (ps_ret pe_bl)) pss_nil)
      (pss_cons (ps_if (pt_cmpR op_eq (pe_ix ix_tup (pv 1) pe_int (fun _ _ => rfl)) pe_str (nomark _)) (pss_one (ps_ret (pe_and (pe_cmpR op_eq (pe_callB call_len_seq (by rfl) B.len PySem.boot_len (pa_cons (pv 1) pa_nil)) pe_int (nomark _)) (pe_one (pe_q c__are_copied hr (by decide) (by rfl) (pa_cons (pv 0) (pa_cons (pe_slice sl_tup (pv 1) (po_some pe_int) po_none) pa_nil))))))) pss_nil)
      (pss_cons (ps_set (i := 2) sc_has_instruction_form.nd rfl (Or.inl rfl) (pe_ix ix_kdict (pe_glob (v := .ref iA) (by rfl) T.INSTRUCTIONS rfl) (pe_ix ix_tup (pv 1) pe_int (fun _ _ => rfl)) (fun _ _ => rfl)))
      (pss_cons (ps_if (pt_cmpR op_ne (pe_callB call_len_seq (by rfl) B.len PySem.boot_len (pa_cons (pv 1) pa_nil)) (pe_op op_add (pe_callB call_len_str (by rfl) B.len PySem.boot_len (pa_cons (pv 2) pa_nil)) pe_int) (nomark _)) (pss_one (ps_ret pe_bl)) pss_nil)
      (pss_one (ps_ret (pe_callB (cr_all rfl) (by rfl) B.all (by decide +kernel) (pa_cons (pe_lc (own := [("part", 3), ("letter", 4)]) (g := (gTup K 2 (gCons (gName 3) (gCons (gName 4) gNil)))) (tt := tYes) (by rfl) sc_has_instruction_form.nd (pi_zipX (by rfl) B.zip (pa_cons (pe_slice sl_tup (pv 1) (po_some pe_int) po_none) (pa_cons (pv 2) pa_nil))) (blkOk_by (N := n_has_instruction_form) (sc := defScope s_has_instruction_form) (by decide +kernel)) (fun _ _ _ _ _ => (pg_tup (by rfl) (pgs_cons (pg_name (i := 3) sc_has_instruction_form.nd rfl (Or.inl rfl)) (pgs_cons (pg_name (i := 4) sc_has_instruction_form.nd rfl (Or.inl rfl)) pgs_nil)))) (fun _ _ _ _ _ => pts_nil) (fun _ _ _ _ _ => (pe_q c__has_part_form hr (by decide) (by rfl) (pa_cons (pv 0) (pa_cons (pv 3) (pa_cons (pv 4) pa_nil)))))) pa_nil)))))))), ?_⟩
    by_cases hk : kindD d = "tuple"
    · obtain ⟨a, xs, ds, rfl, rfl, _, hx, hds⟩ := hd.tup_of hk
      obtain ⟨ho1, ho2⟩ := okE_tup ho
      refine ⟨_, rfl, _, .ty "tuple", .type "tuple", .type "tuple", true, rfl, .ty _, Kd.ty (.tup (.base (.tup hx))), kit_ty (by decide +kernel), true, rfl, iteF ⟨_, rfl, (by show 0 ≤ sizeLine; exact Nat.zero_le _), fun p hp => ?_⟩⟩
      have s1 : Same H (upd H p (.tup [])) := Same.new hp
      have hx1 := s1 _ _ hx
      refine ⟨a, p, xs, rfl, rfl, SqT.of hx1, SqT.of upd_same, _, rfl, ?_⟩
      match ds, xs, hds, hx1, q with
      | [], [], _, _, q => exact iteT (q _ s1)
      | d0 :: ps, x0 :: ys, .cons h0 hps, hx1, q =>
        have hl := hps.len
        refine iteF ?_
        by_cases hk0 : kindD d0 = "str"
        · obtain ⟨w, rfl, rfl⟩ := h0.str_of hk0
          refine ⟨_, rfl, a, _, 0, _, rfl, rfl, SqT.of hx1, at0 _ _, _, .ty "str", .type "str", .type "str", true, rfl, .ty _, Kd.ty (.str w), kit_ty (by decide +kernel), true, rfl, iteF ?_⟩
          obtain ⟨ro, hr1, hr2⟩ := T.instD.is w
          rw [lookup_map (fun w ls => V.str (lettersW w ls)), Option.isSome_map] at hr2
          refine ⟨_, rfl, a, _, 0, _, rfl, rfl, SqT.of hx1, at0 _ _, w, ro, rfl, rfl, hr1, _, rfl, ?_⟩
          rw [hr2]
          simp only [judged_w] at q
          match hlk : tab.lookup w, q with
          | none, q => exact iteT (q _ s1)
          | some ls, q =>
            have hm := tab_copy _ (lookup_mem hlk)
            have hl4 : ls.length ≤ 4 := hm.2.2
            have lk : (tab.map fun q => (q.1, V.str (lettersW q.1 q.2))).lookup w = some (V.str (lettersW w ls)) := by rw [lookup_map (fun w ls => V.str (lettersW w ls)), hlk]; rfl
            refine iteF ⟨_, rfl, a, _, 0, _, rfl, rfl, SqT.of hx1, at0 _ _, rfl, _, rfl, ?_⟩
            have ho3 : okEs ps = true := by
              have h : (okE (.str w) && okEs ps) = true := ho2
              rw [Bool.and_eq_true] at h
              exact h.2
            by_cases hw : w = "copy"
            · refine iteTd (decide_eq_true (by rw [hw])) ?_
              have hls := hm.1 hw
              subst hls
              refine ⟨_, rfl, a, _, rfl, .inr (SqT.of hx1), rfl, _, rfl, ?_⟩
              match ps, ys, hps, hl, hx1, ho3, q with
              | [d1, d2], [x1, x2], hps, _, hx1, ho3, q =>
                refine iteTd (decide_eq_true rfl) ⟨_, rfl, _, rfl, 1, rfl, a, _, rfl, SqT.of hx1, noslice (n := 2), fun p2 hp2 => ?_⟩
                have s2 : Same _ (upd (upd H p (.tup [])) p2 (.tup (cutV [V.str w, x1, x2] (some 1) none))) := Same.new hp2
                rw [cutV_1] at s2 ⊢
                refine ⟨r, p2, [x1, x2], d1, d2, rfl, upd_same, (hps.same s1).same s2, ho3, hr9, fun H' s3 => ?_⟩
                have := q H' ((s1.trans s2).trans s3)
                simpa [arePs, isPart, hw] using this
              | [], [], _, _, _, _, q =>
                refine iteFd (decide_eq_false fun h => by injection h with h; simp at h) ?_
                exact q _ s1
              | [_], [_], _, _, _, _, q =>
                refine iteFd (decide_eq_false fun h => by injection h with h; simp at h) ?_
                have := q _ s1
                simpa [arePs] using this
              | _ :: _ :: _ :: _, ys, _, hl, _, _, q =>
                refine iteFd (decide_eq_false fun h => ?_) ?_
                · injection h with h
                  simp [hl] at h
                  omega
                · have := q _ s1
                  simpa [arePs] using this
            · have e0 : decide (V.str w = V.str "copy") = false := decide_eq_false fun h => hw (by injection h)
              refine iteFd e0 ?_
              refine ⟨_, rfl, a, _, 0, _, rfl, rfl, SqT.of hx1, at0 _ _, iA, w, _, rfl, rfl, T.instD.kd lk, ?_⟩
              have q : ∀ H', Same H H' → Q (.bl (arePs r ls ps)) H' := fun H' s => by
                have := q H' s
                simpa [hw] using this
              have hll := lettersW_len hw ls
              refine ⟨_, rfl, a, _, rfl, .inr (SqT.of hx1), _, rfl, _, rfl, (by rw [hll]; exact Nat.le_of_lt (small20 (by omega))), _, _, rfl, rfl, rfl, _, rfl, ?_⟩
              by_cases hlen : ps.length = ls.length
              · refine iteFd ?_ ?_
                · have e : decide (V.int (((V.str w :: ys).length : Nat) : Int) = V.int (((lettersW w ls).length : Nat) + 1 : Int)) = true := decide_eq_true (by rw [hll, List.length_cons, hl, hlen]; rfl)
                  show (!decide _) = false
                  rw [e]
                  rfl
                refine ⟨_, rfl, 1, rfl, a, _, rfl, SqT.of hx1, noslice (n := ys.length), fun p2 hp2 => ?_⟩
                have s2 : Same _ (upd (upd H p (.tup [])) p2 (.tup (cutV (V.str w :: ys) (some 1) none))) := Same.new hp2
                rw [cutV_1] at s2 ⊢
                have s12 := s1.trans s2
                have hps2 := (hps.same s1).same s2
                refine ⟨_, rfl, .tup p2, .txt (lettersW w ls), ys, _, rfl, SqT.of upd_same, rfl, fun p3 hp3 => lc_it (walk_zipX (n := ps.length) (by rw [signs_len, hl, show (lettersW w ls).cps.size = ls.length from hll, hlen, Nat.min_self]))
                  (fun i H' => Same H H' ∧ Same (upd (upd H p (.tup [])) p2 (.tup ys)) H' ∧ H' p3 = some (.lst ((((ps.zip ls).take i).map fun q => isPart r q.2 q.1).map V.bl))) ⟨s12.trans (Same.new hp3), Same.new hp3, upd_same⟩ (fun i H' _ h => ⟨SqT.of (h.2.1 _ _ upd_same), rfl⟩) ?_ ?_⟩
                · rintro i x H2 H' hi ⟨s2, s3, e2⟩ ⟨T, x', y, rfl, hT, rfl, hxi, hy⟩
                  have hxi : ys[i]? = some x' := hxi
                  have hy : (signs (lettersW w ls))[i]? = some y := hy
                  obtain ⟨d, hdi, hdn⟩ := hps2.at hxi
                  rw [signs_letters hw, List.getElem?_map] at hy
                  obtain ⟨c, hci, rfl⟩ := Option.map_eq_some_iff.mp hy
                  have hzi : (ps.zip ls)[i]? = some (d, c) := List.getElem?_zip_eq_some.mpr ⟨hdi, hci⟩
                  have hc : c ≠ .c := fun e => hm.2.1 hw (by rw [← e]; exact List.mem_of_getElem? hci)
                  have hdn := (hdn.same s3).same (Same.new hT (o := .tup [x', .str (sg c)]))
                  have hod := okEs_mem ho3 (List.mem_of_getElem? hdi)
                  have npT : p3 ≠ T := ne_of_none e2 hT
                  refine ⟨T, _, rfl, SqT.of upd_same, rfl, _, _, rfl, _, _, rfl, ⟨rfl, rfl, yes ?_⟩⟩
                  refine ⟨_, rfl, _, rfl, _, rfl, r, x', d, c, rfl, hc, hdn, hod, hr9, fun H3 s4 => ⟨_, s4 _ _ (by rw [upd_ne npT]; exact e2), ?_, ?_, ?_, ?_⟩⟩
                  · rw [List.length_map, List.length_map, List.length_take]
                    exact small20 (Nat.le_trans (Nat.min_le_right _ _) (by rw [List.length_zip]; omega))
                  · exact Same.upd' ((s2.trans (Same.new hT)).trans s4) ((s12.trans (Same.refl _)).free hp3)
                  · exact Same.upd' ((s3.trans (Same.new hT)).trans s4) hp3
                  · rw [upd_same, take_map hzi, List.map_append]
                    rfl
                · rintro H2 ⟨s2, s3, e2⟩
                  rw [show ps.length = (ps.zip ls).length from by rw [List.length_zip, hlen, Nat.min_self], List.take_length] at e2
                  refine ⟨p3, _, rfl, SqL.of e2, ?_⟩
                  rw [all_mapB, ← arePs_zip r ls ps hlen]
                  exact q H2 s2
              · refine iteTd ?_ ?_
                · have e : decide (V.int (((V.str w :: ys).length : Nat) : Int) = V.int (((lettersW w ls).length : Nat) + 1 : Int)) = false := decide_eq_false fun h => by
                    injection h with h
                    rw [hll, List.length_cons, hl] at h
                    omega
                  show (!decide _) = true
                  rw [e]
                  rfl
                have := q _ s1
                rw [arePs_len r ls ps hlen] at this
                exact this
        · have := q _ s1
          rw [judged_no2 hk0] at this
          exact ⟨_, rfl, a, _, 0, _, rfl, rfl, SqT.of hx1, at0 _ _, _, .ty "str", .type _, .type "str", false, rfl, .ty _, Kd.ty ((h0.same s1).kd), kd_no ((h0.same s1).kd) (by simp) hk0, false, rfl, iteT this⟩
    · have q0 := q H (Same.refl H)
      rw [judged_no hk] at q0
      exact ⟨_, rfl, _, .ty "tuple", .type _, .type "tuple", false, rfl, .ty _, Kd.ty (hd.kd), kd_no (hd.kd) (by simp) hk, false, rfl, q0⟩
end
end SA

set_option Elab.async false
set_option linter.all false
set_option maxRecDepth 100000
set_option maxHeartbeats 1000000
namespace K83
open PySem PySem.Spec
open K82 (L one tl IsB bval bdig enc dec zig zag)
theorem idx : ∀ k < 26, Txt.index0 lettersS ⟨#[97 + k]⟩ = some k := by decide +kernel
theorem idx_of {c : Nat} (h : K1.small c = true) : Txt.index0 lettersS ⟨#[c]⟩ = some (c - 97) := by
  have h := of_decide_eq_true h
  have := idx (c - 97) (by omega)
  rwa [show 97 + (c - 97) = c by omega] at this
theorem join_flat (ls : List L) : Txt.join "" (ls.map mk) = mk ls.flatten := by
  rw [TL.join_eq]
  have e : ∀ ls : List L, tl (Str.join "" (ls.map mk)) = ls.flatten := by
    intro ls
    induction ls with
    | nil => rfl
    | cons c l ih =>
      rw [List.map_cons]
      cases hl : l.map mk with
      | nil =>
        have : l = [] := by simpa using hl
        subst this
        show tl (mk c) = _
        rw [tl_mk]
        simp
      | cons y r =>
        rw [hl] at ih
        show (mk c ++ "" ++ Str.join "" (y :: r)).cps.toList = _
        have e1 : ∀ a b : Str, (a ++ b).cps.toList = a.cps.toList ++ b.cps.toList := fun a b => by
          show (a.cps ++ b.cps).toList = _
          rw [Array.toList_append]
        have ih : (Str.join "" (y :: r)).cps.toList = l.flatten := ih
        rw [e1, e1, ih, show (mk c).cps.toList = c from tl_mk c, show ("" : Str).cps.toList = [] from by decide +kernel, List.append_nil]
        simp
  exact tl_inj (by rw [e, tl_mk])
theorem mk_app (a b : L) : (mk a : Str) ++ mk b = mk (a ++ b) := tl_inj (by
  show (Str.append _ _).cps.toList = _
  simp [Str.append, tl])
theorem mk_len (l : L) : (mk l).length = l.length := by show l.toArray.size = _; simp
theorem sum_const (k : Nat) : ∀ ls : List L, (∀ l ∈ ls, l.length = k) → ((ls.map mk).map (·.length)).sum = ls.length * k
  | [], _ => by simp
  | l :: ls, h => by
    rw [List.map_cons, List.map_cons, List.sum_cons, sum_const k ls fun x hx => h x (List.mem_cons_of_mem _ hx), mk_len, h l List.mem_cons_self, List.length_cons, Nat.succ_mul]
    omega
theorem sum_len (k : Nat) : ∀ ls : List L, (∀ l ∈ ls, l.length = k) → (ls.map List.length).sum = ls.length * k
  | [], _ => by simp
  | l :: ls, h => by
    rw [List.map_cons, List.sum_cons, sum_len k ls fun x hx => h x (List.mem_cons_of_mem _ hx), h l List.mem_cons_self, List.length_cons, Nat.succ_mul]
    omega
theorem leapN_int {m : Nat} {i : Int} (h : 0 ≤ i + 2 ^ m) : ((leapN m i : Nat) : Int) = if 0 ≤ i then i else i + 1 * 2 ^ (((m : Nat) : Int)).toNat := by
  unfold leapN
  split
  · rw [Int.toNat_of_nonneg (by omega)]
  · rw [Int.toNat_of_nonneg h, Int.one_mul, Int.toNat_natCast]
end K83
namespace SA
open PySem PySem.Spec PyProof.Rows L2 K83
open K82 hiding mk tl_mk mk_tl
theorem takesNo {X : Cx} : Takes X fun _ _ _ _ => False := fun _ _ ⟨_, _, _, _, _, _, _, _, _, _, _, _, _, _, _, _, w⟩ => w.elim
theorem mt_index_in {X : Cx} (hc : X.calm = true) : MtR X "str.index" (fun x xs H Q => ∃ (a b : Str) (k : Nat), x = .str a ∧ xs = [.str b] ∧ Txt.index0 a b = some k ∧ Q (.int (k : Nat)) H) := by
  intro pins s σ H x xs v us Q I rx rs h
  obtain ⟨a, b, k, rfl, rfl, e, q⟩ := h
  refine mt_indexX (W := fun _ _ _ _ => False) hc takesNo pins s σ H _ _ v us Q I rx rs ⟨a, b, rfl, rfl, fun k2 h2 => ?_, fun h2 => ?_⟩
  · rw [e] at h2
    obtain rfl := Option.some.inj h2
    exact q
  · rw [e] at h2
    cases h2
theorem PE.K_bm {X : Cx} {K : PySem.W.Frag} {ex : Expr} {T : String} {r : V → List V → Hp → VK → Prop} {to : TE} {t : TA} (hK : X.K = K) (h : PE X ex (tBM X.K T r to t)) : PE X ex (tBM K T r to t) := hK ▸ h
def spPartB : Sp := fun vs H Q _ => ∃ (r : Nat) (x : V) (d : PyData) (c : Lt), vs = [x, .str (sg c)] ∧ c ≠ .c ∧ Dn anyA H x d ∧ okD d = true ∧ isPart r c d = true ∧ ∀ H', Same H H' → Q (.str (K83.mk (encPart c d))) H'
section
variable {P : Program} {w0 : World} {K : PySem.W.Frag} {mg : Str → Option Value} {base : Heap} {kA mA iA lA wA : Addr}
theorem ok_part_bits {f : Addr} {fd : FuncData} (F : Fun K "_part_bits" "_part_bits" s__part_bits f fd) (T : Top83 K w0 mg kA mA iA lA wA) (B : Bn3 mg) (c__register_bits : Dq P w0 K mg base CX0 2 "_register_bits" ["place"] spRegBits)
    (c_bits_of_number : Dq P w0 K mg base CX0 2 "bits_of_number" ["number"] spBitsN) (c_digits : Dq P w0 K mg base CX0 1 "digits" ["number", "many"] spDigits) : FnOk P w0 K mg base CX0 4 f fd ["part", "letter"] spPartB := by
  obtain ⟨tL, mL⟩ := T.lettersC
  refine F.ok sc__part_bits (fun vs H Q E h => ?_) (fun cdv A outer s H vs Q E hr h => ?_)
  · obtain ⟨r, x, d, c, rfl, _⟩ := h
    rfl
  · obtain ⟨r, x, d, c, rfl, hc, hd, ho, hp, q⟩ := h
    refine ⟨_, (pss_cons (ps_if (pt_cmpR op_eq (pv 1) pe_str (nomark _)) (pss_one (ps_ret (pe_q c__register_bits hr (by decide) (by rfl) (pa_cons (pv 0) pa_nil)))) pss_nil)
      (pss_cons (ps_if (pt_cmpR op_eq (pv 1) pe_str (nomark _)) (pss_one (ps_ret (pe_q c_bits_of_number hr (by decide) (by rfl) (pa_cons (pv 0) pa_nil)))) pss_nil)
      (pss_cons (ps_if (pt_cmpR op_eq (pv 1) pe_str (nomark _)) (pss_one (ps_ret (pe_op op_add_str (pe_join pe_str (pe_lc (own := [("sign", 5)]) (g := (gName 5)) (tt := tYes) (by rfl) sc__part_bits.nd (pi_str (pv 0)) (blkOk_by (N := n__part_bits) (sc := defScope s__part_bits) (by decide +kernel)) (fun _ _ _ _ _ => (pg_name (i := 5) sc__part_bits.nd rfl (Or.inl rfl))) (fun _ _ _ _ _ => pts_nil) (fun _ _ _ _ _ => (pe_q c_digits hr (by decide) (by rfl) (pa_cons (pe_op op_add (PE.K_bm (K := K) rfl (pe_bm PySem.F.plainAttrs_str PySem.F.slot_str_index PySem.F.type_str_index (mt_index_in rfl) (pe_glob (v := .str lettersS) (by rfl) mL ⟨_, rfl⟩) (pa_cons (pv 5) pa_nil))) pe_int) (pa_cons pe_int pa_nil)))))) pe_str))) pss_nil)
      (pss_cons (ps_if (pt_cmpR op_eq (pv 1) pe_str (nomark _)) (pss_one (ps_ret (pe_q c_digits hr (by decide) (by rfl) (pa_cons (pv 0) (pa_cons pe_int pa_nil))))) pss_nil)
      (pss_cons (ps_if (pt_cmpR op_eq (pv 1) pe_str (nomark _)) (pss_one (ps_ret (pe_op op_add_str (pe_q c_digits hr (by decide) (by rfl) (pa_cons (pe_callB call_len_seq (by rfl) B.len PySem.boot_len (pa_cons (pv 0) pa_nil)) (pa_cons pe_int pa_nil))) (pe_join pe_str (pe_lc (own := [("place", 6)]) (g := (gName 6)) (tt := tYes) (by rfl) sc__part_bits.nd (pi_tup (pv 0)) (blkOk_by (N := n__part_bits) (sc := defScope s__part_bits) (by decide +kernel)) (fun _ _ _ _ _ => (pg_name (i := 6) sc__part_bits.nd rfl (Or.inl rfl))) (fun _ _ _ _ _ => pts_nil) (fun _ _ _ _ _ => (pe_q c__register_bits hr (by decide) (by rfl) (pa_cons (pv 6) pa_nil)))))))) pss_nil)
      (pss_cons (ps_asg (pv 0) (pg_tup (by rfl) (pgs_cons (pg_name (i := 2) sc__part_bits.nd rfl (Or.inl rfl)) (pgs_cons (pg_name (i := 3) sc__part_bits.nd rfl (Or.inl rfl)) pgs_nil))))
      (pss_cons (ps_set (i := 4) sc__part_bits.nd rfl (Or.inl rfl) (pe_ix ix_kdict (pe_glob (v := .ref lA) (by rfl) T.LEAPS rfl) (pv 2) (fun _ _ => rfl)))
      (pss_one (ps_ret (pe_op op_add_str (pe_ifExp (pt_cmpR op_eq (pv 2) pe_str (nomark _)) pe_str pe_str) (pe_q c_digits hr (by decide) (by rfl) (pa_cons (pe_ifExp (pt_cmpR op_ge (pv 3) pe_int (nomark _)) (pv 3) (pe_op op_add (pv 3) (pe_op op_shl pe_int (pv 4)))) (pa_cons (pv 4) pa_nil))))))))))))), ?_⟩
    have q0 := q H (Same.refl H)
    cases c with
    | c => exact absurd rfl hc
    | p =>
      obtain ⟨z, a, rfl, _, _, _⟩ := isReg_ex hp
      cases hd
      exact ⟨_, rfl, rfl, _, rfl, iteTd (by decide +kernel) ⟨_, rfl, r, z, rfl, hp, q0⟩⟩
    | n =>
      match d, hp, hd with
      | .int i, _, .int _ =>
        have := okD_int ho
        exact ⟨_, rfl, rfl, _, rfl, iteFd (by decide +kernel) ⟨_, rfl, rfl, _, rfl, iteTd (by decide +kernel) ⟨_, rfl, i, rfl, by omega, q0⟩⟩⟩
    | x =>
      match d, hp, hd with
      | .str z, hp, .str _ =>
        have hn : K1.isName z = true := hp
        have hs : (tl z).all K1.small = true ∧ z.length ≤ 8 := by
          unfold K1.isName at hn
          rw [Bool.and_eq_true, Bool.and_eq_true, Bool.and_eq_true, decide_eq_true_eq] at hn
          exact ⟨hn.2.2.2, of_decide_eq_true hn.2.1⟩
        refine ⟨_, rfl, rfl, _, rfl, iteFd (by decide +kernel) ⟨_, rfl, rfl, _, rfl, iteFd (by decide +kernel) ⟨_, rfl, rfl, _, rfl, iteTd (by decide +kernel) ⟨⟨_, rfl⟩, _, rfl, z, rfl, fun p hp => lc_it walk_str
          (fun i H' => Same H H' ∧ H' p = some (.lst (((((tl z).take i).map fun c => bdig 5 (c - 96)).map K83.mk).map V.str))) ⟨Same.new hp, upd_same⟩ (fun _ _ _ _ => trivial) ?_ ?_⟩⟩⟩⟩
        · rintro i x H1 H' hi ⟨s1, e1⟩ ⟨rfl, c, hc, rfl⟩
          have hci := K83.at_tl hc
          have hcs : K1.small c = true := List.all_eq_true.mp hs.1 c (List.mem_of_getElem? hci)
          have hc2 := of_decide_eq_true hcs
          refine ⟨rfl, yes ⟨rfl, _, rfl, lettersS, _, c - 97, rfl, rfl, idx_of hcs, ?_⟩⟩
          · refine ⟨_, _, rfl, rfl, c - 96, 5, ?_, by omega, by decide, by decide, _, e1, ?_, Same.upd' s1 hp, ?_⟩
            · show [V.int (((c - 97 : Nat) : Int) + 1), V.int 5] = [V.int ((c - 96 : Nat) : Int), V.int ((5 : Nat) : Int)]
              rw [show ((c - 97 : Nat) : Int) + 1 = ((c - 96 : Nat) : Int) by omega]
              rfl
            · rw [List.length_map, List.length_map, List.length_map, List.length_take]
              exact small20 (Nat.le_trans (Nat.min_le_right _ _) (by show z.length ≤ 20; omega))
            · rw [upd_same, take_map hci, List.map_append, List.map_append]
              rfl
        · rintro H1 ⟨s1, e1⟩
          rw [List.take_of_length_le (Nat.le_of_eq (by simp))] at e1
          have hl5 : ∀ l ∈ (tl z).map fun c => bdig 5 (c - 96), l.length = 5 := by
            intro l hl
            obtain ⟨c, _, rfl⟩ := List.mem_map.mp hl
            exact K82.bdig_len _ _
          have hz : (tl z).length ≤ 8 := hs.2
          refine ⟨_, p, _, rfl, rfl, .inl (SqL.of e1), ?_, _, _, rfl, rfl, ?_, ?_⟩
          · rw [sum_const 5 _ hl5, List.length_map, List.length_map, show ("" : Str).length = 0 by decide +kernel, List.length_map]
            omega
          · rw [join_flat, mk_len, List.length_flatten, show ("00000" : Str).length = 5 by decide +kernel]
            have := sum_len 5 _ hl5
            rw [List.length_map] at this
            rw [this]
            exact small1000' (by omega)
          · rw [join_flat, show ("00000" : Str) = K83.mk [48, 48, 48, 48, 48] by decide +kernel, K83.mk_app]
            exact q H1 s1
    | k =>
      match d, hp, hd with
      | .int i, hp, .int _ =>
        have hi : 0 ≤ i ∧ i ≤ 2 := of_decide_eq_true hp
        obtain ⟨n, rfl⟩ := Int.eq_ofNat_of_zero_le hi.1
        refine ⟨_, rfl, rfl, _, rfl, iteFd (by decide +kernel) ⟨_, rfl, rfl, _, rfl, iteFd (by decide +kernel) ⟨_, rfl, rfl, _, rfl, iteFd (by decide +kernel) ⟨_, rfl, rfl, _, rfl, iteTd (by decide +kernel) ⟨_, rfl, n, 2, rfl, by show n < 4; omega, by decide, by decide, q0⟩⟩⟩⟩⟩
    | P =>
      match d, hp, hd with
      | .tuple ds, hp, .tup (a := a) (xs := xs) _ hx hds =>
        have hp : (decide (ds.length ≤ 3) && ds.all (isReg r)) = true := hp
        rw [Bool.and_eq_true, decide_eq_true_eq] at hp
        have hl := hds.len
        refine ⟨_, rfl, rfl, _, rfl, iteFd (by decide +kernel) ⟨_, rfl, rfl, _, rfl, iteFd (by decide +kernel) ⟨_, rfl, rfl, _, rfl, iteFd (by decide +kernel) ⟨_, rfl, rfl, _, rfl, iteFd (by decide +kernel) ⟨_, rfl, rfl, _, rfl, iteTd (by decide +kernel)
          ⟨_, rfl, a, xs, rfl, .inr (SqT.of hx), xs.length, 2, rfl, by show xs.length < 4; omega, by decide, by decide, ⟨_, rfl⟩, _, rfl, a, rfl, ⟨xs, SqT.of hx⟩, fun p hp2 => lc_it walk_tup
          (fun i H' => Same H H' ∧ H' p = some (.lst ((((ds.take i).map encReg).map K83.mk).map V.str))) ⟨Same.new hp2, upd_same⟩ (fun i H' _ h => SqT.of (h.1 _ _ hx)) ?_ ?_⟩⟩⟩⟩⟩⟩
        · rintro i x H1 H' hi ⟨s1, e1⟩ ⟨rfl, hxi⟩
          obtain ⟨d, hdi, hdn⟩ := hds.at hxi
          have hr := List.all_eq_true.mp hp.2 d (List.mem_of_getElem? hdi)
          obtain ⟨z, b, rfl, _, _, _⟩ := isReg_ex hr
          cases hdn
          refine ⟨rfl, yes ⟨_, rfl, r, z, rfl, hr, _, e1, ?_, Same.upd' s1 hp2, ?_⟩⟩
          · rw [List.length_map, List.length_map, List.length_map, List.length_take]
            exact small20 (Nat.le_trans (Nat.min_le_right _ _) (by omega))
          · rw [upd_same, take_map hdi, List.map_append, List.map_append]
            rfl
        · rintro H1 ⟨s1, e1⟩
          rw [hl, List.take_length] at e1
          have hl4 : ∀ l ∈ ds.map encReg, l.length = 4 := by
            intro l hl
            obtain ⟨d, hd, rfl⟩ := List.mem_map.mp hl
            obtain ⟨z, b, rfl, _, _, _⟩ := isReg_ex (List.all_eq_true.mp hp.2 d hd)
            exact K82.bdig_len _ _
          refine ⟨_, p, _, rfl, rfl, .inl (SqL.of e1), ?_, _, _, rfl, rfl, ?_, ?_⟩
          · rw [sum_const 4 _ hl4, List.length_map, List.length_map, show ("" : Str).length = 0 by decide +kernel, List.length_map]
            omega
          · rw [join_flat, mk_len, mk_len, K82.bdig_len, List.length_flatten]
            have := sum_len 4 _ hl4
            rw [this, List.length_map]
            exact small1000' (by omega)
          · rw [join_flat, K83.mk_app, hl]
            exact q H1 s1
    | l =>
      obtain ⟨w, i, rfl, hw⟩ := isLeap_ex hp
      cases hd with
      | tup _ hx hds =>
        cases hds with
        | cons h1 h2 =>
          cases h1
          cases h2 with
          | cons h2 h3 =>
            cases h2
            cases h3
            rename_i a _
            refine ⟨_, rfl, rfl, _, rfl, iteFd (by decide +kernel) ⟨_, rfl, rfl, _, rfl, iteFd (by decide +kernel) ⟨_, rfl, rfl, _, rfl, iteFd (by decide +kernel) ⟨_, rfl, rfl, _, rfl, iteFd (by decide +kernel) ⟨_, rfl, rfl, _, rfl, iteFd (by decide +kernel)
              ⟨_, rfl, a, _, rfl, SqT.of hx, rfl, _, _, rfl, _, _, rfl, rfl, ?_⟩⟩⟩⟩⟩⟩
            have hw2 : ∃ m : Nat, ([("short", .int 8), ("long", .int 32)] : List (Str × L2.V)).lookup w = some (.int (m : Nat)) ∧ (m = 8 ∨ m = 32) ∧ leapN m i < 2 ^ m ∧ 0 ≤ i + 2 ^ m ∧ encPart .l (.tuple [.str w, .int i]) = (if w = "short" then [48] else [49]) ++ bdig m (leapN m i) := by
              rcases hw with ⟨rfl, g1, g2⟩ | ⟨rfl, g1, g2⟩
              · refine ⟨8, by decide +kernel, .inl rfl, (leap_back8 g1 g2).1, by show 0 ≤ i + 256; omega, ?_⟩
                show (if ("short" : Str) = "short" then 48 :: bdig 8 (leapN 8 i) else 49 :: bdig 32 (leapN 32 i)) = (if ("short" : Str) = "short" then [48] else [49]) ++ bdig 8 (leapN 8 i)
                rw [if_pos rfl, if_pos rfl, List.singleton_append]
              · refine ⟨32, by decide +kernel, .inr rfl, (leap_back32 g1 g2).1, by show 0 ≤ i + 4294967296; omega, ?_⟩
                show (if ("long" : Str) = "short" then 48 :: bdig 8 (leapN 8 i) else 49 :: bdig 32 (leapN 32 i)) = (if ("long" : Str) = "short" then [48] else [49]) ++ bdig 32 (leapN 32 i)
                have e9 : ¬ ("long" : Str) = "short" := by decide +kernel
                rw [if_neg e9, if_neg e9, List.singleton_append]
            obtain ⟨m, lk, hm, hlt, h0, he⟩ := hw2
            rw [he, ← K83.mk_app] at q0
            have hlen : ∀ k : Nat, k ≤ 40 → (K83.mk [48]).length + (K83.mk (bdig k (leapN m i))).length ≤ sizeLine := fun k hk => by
              rw [mk_len, mk_len, K82.bdig_len]
              exact small1000' (by simp; omega)
            have num := leapN_int h0
            have z0 : ("0" : Str) = K83.mk [48] := by decide +kernel
            have z1 : ("1" : Str) = K83.mk [49] := by decide +kernel
            refine ⟨_, rfl, lA, w, _, rfl, rfl, T.leapD.kd lk, ?_⟩
            refine ⟨_, rfl, rfl, _, rfl, ?_⟩
            by_cases hs : w = "short"
            · rw [if_pos hs] at q0
              refine iteTd (decide_eq_true (by rw [hs])) ?_
              refine ⟨_, rfl, _, _, rfl, rfl, _, rfl, ite2 (fun hge => ?_) (fun hge => ?_)⟩
              · refine ⟨_, rfl, _, rfl, leapN m i, m, ?_, hlt, by omega, by omega, _, _, rfl, rfl, ?_, ?_⟩
                · show [V.int i, V.int ((m : Nat) : Int)] = [V.int ((leapN m i : Nat) : Int), V.int ((m : Nat) : Int)]
                  rw [num, if_pos (of_decide_eq_true hge)]
                · show ("0" : Str).length + (K83.mk (bdig m (leapN m i))).length ≤ sizeLine
                  rw [z0]
                  exact hlen m (by omega)
                · show Q (.str (("0" : Str) ++ K83.mk (bdig m (leapN m i)))) H
                  rw [z0]
                  exact q0
              · refine ⟨_, rfl, _, rfl, _, _, rfl, rfl, ⟨by omega, by omega, by decide⟩, _, _, rfl, rfl, _, rfl, leapN m i, m, ?_, hlt, by omega, by omega, _, _, rfl, rfl, ?_, ?_⟩
                · show [V.int (i + 1 * 2 ^ ((m : Nat) : Int).toNat), V.int ((m : Nat) : Int)] = [V.int ((leapN m i : Nat) : Int), V.int ((m : Nat) : Int)]
                  rw [num, if_neg fun z => hge (decide_eq_true z)]
                · show ("0" : Str).length + (K83.mk (bdig m (leapN m i))).length ≤ sizeLine
                  rw [z0]
                  exact hlen m (by omega)
                · show Q (.str (("0" : Str) ++ K83.mk (bdig m (leapN m i)))) H
                  rw [z0]
                  exact q0
            · rw [if_neg hs] at q0
              refine iteFd (decide_eq_false fun h => hs (by injection h)) ?_
              refine ⟨_, rfl, _, _, rfl, rfl, _, rfl, ite2 (fun hge => ?_) (fun hge => ?_)⟩
              · refine ⟨_, rfl, _, rfl, leapN m i, m, ?_, hlt, by omega, by omega, _, _, rfl, rfl, ?_, ?_⟩
                · show [V.int i, V.int ((m : Nat) : Int)] = [V.int ((leapN m i : Nat) : Int), V.int ((m : Nat) : Int)]
                  rw [num, if_pos (of_decide_eq_true hge)]
                · show ("1" : Str).length + (K83.mk (bdig m (leapN m i))).length ≤ sizeLine
                  rw [z1]
                  exact hlen m (by omega)
                · show Q (.str (("1" : Str) ++ K83.mk (bdig m (leapN m i)))) H
                  rw [z1]
                  exact q0
              · refine ⟨_, rfl, _, rfl, _, _, rfl, rfl, ⟨by omega, by omega, by decide⟩, _, _, rfl, rfl, _, rfl, leapN m i, m, ?_, hlt, by omega, by omega, _, _, rfl, rfl, ?_, ?_⟩
                · show [V.int (i + 1 * 2 ^ ((m : Nat) : Int).toNat), V.int ((m : Nat) : Int)] = [V.int ((leapN m i : Nat) : Int), V.int ((m : Nat) : Int)]
                  rw [num, if_neg fun z => hge (decide_eq_true z)]
                · show ("1" : Str).length + (K83.mk (bdig m (leapN m i))).length ≤ sizeLine
                  rw [z1]
                  exact hlen m (by omega)
                · show Q (.str (("1" : Str) ++ K83.mk (bdig m (leapN m i)))) H
                  rw [z1]
                  exact q0
end
end SA

set_option Elab.async false
set_option linter.all false
set_option maxRecDepth 100000
set_option maxHeartbeats 1000000
namespace K83
open PySem PySem.Spec
open K82 (L one tl IsB bval bdig enc dec zig zag)
theorem tab_first : ∀ q ∈ tab, (tab.map Prod.fst)[wix q.1]? = some q.1 ∧ ∀ m < wix q.1, (tab.map Prod.fst)[m]? ≠ some q.1 := by decide +kernel
theorem arePs_all (r : Nat) : ∀ (ls : List Lt) (ps : List PyData), arePs r ls ps = true → ps.length = ls.length ∧ ∀ q ∈ ps.zip ls, isPart r q.2 q.1 = true
  | [], [], _ => ⟨rfl, fun q h => by simp at h⟩
  | c :: cs, d :: ds, h => by
    have h : (isPart r c d && arePs r cs ds) = true := h
    rw [Bool.and_eq_true] at h
    obtain ⟨i1, i2⟩ := arePs_all r cs ds h.2
    refine ⟨by simp [i1], fun q hq => ?_⟩
    rw [List.zip_cons_cons] at hq
    rcases List.mem_cons.mp hq with rfl | hq
    · exact h.1
    · exact i2 q hq
  | [], _ :: _, h => by cases h
  | _ :: _, [], h => by cases h
theorem encPs_zip : ∀ (ls : List Lt) (ps : List PyData), ps.length = ls.length → encPs ls ps = ((ps.zip ls).map fun q => encPart q.2 q.1).flatten
  | [], [], _ => rfl
  | c :: cs, d :: ds, h => by
    show encPart c d ++ encPs cs ds = _
    rw [encPs_zip cs ds (by simpa using h), List.zip_cons_cons, List.map_cons, List.flatten_cons]
  | [], _ :: _, h => by simp at h
  | _ :: _, [], h => by simp at h
/-- how long a part's bits are -/
theorem log_bound {n k : Nat} (h : n < 2 ^ k) : (enc n).length ≤ 2 * k + 1 := by
  rw [K82.enc_len]
  have : Nat.log2 (n + 1) ≤ k := by
    have h2 : n + 1 < 2 ^ (k + 1) := by rw [Nat.pow_succ]; have := Nat.one_le_two_pow (n := k); omega
    have := (Nat.log2_lt (n := n + 1) (by omega)).mpr h2
    omega
  omega
theorem encPart_len {r : Nat} {c : Lt} {d : PyData} (h : isPart r c d = true) (ho : okD d = true) : (encPart c d).length ≤ 130 := by
  cases c with
  | p =>
    obtain ⟨z, a, rfl, _⟩ := isReg_ex h
    show (bdig 4 _).length ≤ 130
    rw [K82.bdig_len]
    decide
  | n =>
    match d, h with
    | .int i, _ =>
      have hi := okD_int ho
      have hz : zig i < 2 ^ 58 := by
        unfold zig
        split <;> omega
      exact Nat.le_trans (log_bound hz) (by decide)
  | c =>
    by_cases hs : isSlot d = true
    · obtain ⟨z, g, rfl, e, hf, h3⟩ := isSlot_ex hs
      have e2 : encPart .c (.str z) = 49 :: enc (dnum g) := by
        show (if (tl z).head? = some 115 then 49 :: enc (dnum ((tl z).drop 1)) else 48 :: encReg (.str z)) = _
        rw [e]
        rfl
      have hd : dnum g ≤ 9999 := by
        have hp : placeL (115 :: g) = true := by
          have hs2 : slotL (tl z) = true := hs
          rw [slotL_place, e, Bool.and_eq_true] at hs2
          exact hs2.1
        exact (placeL_ex hp).2.2.1
      have := log_bound (n := dnum g) (k := 20) (by omega)
      rw [e2, List.length_cons]
      omega
    · have hr : isReg r d = true := by
        have h : (isSlot d || isReg r d) = true := h
        rw [Bool.or_eq_true] at h
        exact h.resolve_left hs
      obtain ⟨z, a, rfl, _, _, e⟩ := isReg_ex hr
      have e2 : encPart .c (.str z) = 48 :: encReg (.str z) := by
        show (if (tl z).head? = some 115 then 49 :: enc (dnum ((tl z).drop 1)) else 48 :: encReg (.str z)) = _
        rw [e]
        rfl
      rw [e2, List.length_cons, show encReg (.str z) = bdig 4 (dnum ((tl z).drop 1)) from rfl, K82.bdig_len]
      decide
  | x =>
    match d, h with
    | .str z, h =>
      have hn : K1.isName z = true := h
      have hz : (tl z).length ≤ 8 := by
        unfold K1.isName at hn
        rw [Bool.and_eq_true, Bool.and_eq_true] at hn
        exact of_decide_eq_true hn.2.1
      show ((tl z).flatMap (fun c => bdig 5 (c - 96)) ++ [48, 48, 48, 48, 48]).length ≤ 130
      rw [List.length_append, List.flatMap, List.length_flatten, sum_len 5 _ (fun l hl => by obtain ⟨c, _, rfl⟩ := List.mem_map.mp hl; exact K82.bdig_len _ _), List.length_map]
      show _ + 5 ≤ 130
      omega
  | k =>
    match d, h with
    | .int i, _ =>
      show (bdig 2 _).length ≤ 130
      rw [K82.bdig_len]
      decide
  | P =>
    match d, h with
    | .tuple ds, h =>
      have h : (decide (ds.length ≤ 3) && ds.all (isReg r)) = true := h
      rw [Bool.and_eq_true, decide_eq_true_eq] at h
      show (bdig 2 ds.length ++ ds.flatMap encReg).length ≤ 130
      rw [List.length_append, K82.bdig_len, List.flatMap, List.length_flatten, sum_len 4 _ (fun l hl => by
        obtain ⟨d, hd, rfl⟩ := List.mem_map.mp hl
        obtain ⟨z, b, rfl, _⟩ := isReg_ex (List.all_eq_true.mp h.2 d hd)
        exact K82.bdig_len _ _), List.length_map]
      omega
  | l =>
    obtain ⟨w, i, rfl, _⟩ := isLeap_ex h
    show (if w = "short" then 48 :: bdig 8 (leapN 8 i) else 49 :: bdig 32 (leapN 32 i)).length ≤ 130
    split
    · rw [List.length_cons, K82.bdig_len]; decide
    · rw [List.length_cons, K82.bdig_len]; decide
theorem sum_le {k : Nat} : ∀ ls : List L, (∀ l ∈ ls, l.length ≤ k) → ((ls.map mk).map (·.length)).sum ≤ ls.length * k
  | [], _ => by simp
  | l :: ls, h => by
    have ih := sum_le ls fun x hx => h x (List.mem_cons_of_mem _ hx)
    have h1 := h l List.mem_cons_self
    rw [List.map_cons, List.map_cons, List.sum_cons, mk_len, List.length_cons, Nat.succ_mul]
    omega
end K83
namespace SA
open PySem PySem.Spec PyProof.Rows L2 K83
open K82 hiding mk tl_mk mk_tl
def spInsB : Sp := fun vs H Q _ => ∃ (r : Nat) (x : V) (d : PyData), vs = [x] ∧ Dn anyA H x d ∧ okD d = true ∧ judged r d = true ∧ ∀ H', Same H H' → Q (.str (K83.mk (encI d))) H'
section
variable {P : Program} {w0 : World} {K : PySem.W.Frag} {mg : Str → Option Value} {base : Heap} {kA mA iA lA wA : Addr}
theorem ok_bits_of_instruction {f : Addr} {fd : FuncData} (F : Fun K "bits_of_instruction" "bits_of_instruction" s_bits_of_instruction f fd) (T : Top83 K w0 mg kA mA iA lA wA) (B : Bn3 mg) (c_digits : Dq P w0 K mg base CX0 1 "digits" ["number", "many"] spDigits)
    (c__copied_bits : Dq P w0 K mg base CX0 3 "_copied_bits" ["place"] spCopBits) (c__part_bits : Dq P w0 K mg base CX0 4 "_part_bits" ["part", "letter"] spPartB) : FnOk P w0 K mg base CX0 5 f fd ["told"] spInsB := by
  refine F.ok sc_bits_of_instruction (fun vs H Q E h => ?_) (fun cdv A outer s H vs Q E hr h => ?_)
  · obtain ⟨r, x, d, rfl, _⟩ := h
    rfl
  · obtain ⟨r, x, d, rfl, hd, ho, hj, q⟩ := h
    refine ⟨_, (pss_cons (ps_set (i := 1) sc_bits_of_instruction.nd rfl (Or.inl rfl) (pe_ix ix_tup (pv 0) pe_int (fun _ _ => rfl)))
      (Evl.pss_cut (ps_set (i := 2) sc_bits_of_instruction.nd rfl (Or.inl rfl) (pe_lst (pa_cons (pe_q c_digits hr (by decide) (by rfl) (pa_cons (pe_bm PySem.F.plainAttrs_tuple PySem.F.slot_tuple_index PySem.F.type_tuple_index mt_tup_index (pe_glob (v := .ref wA) (by rfl) T.words rfl) (pa_cons (pv 1) pa_nil)) (pa_cons pe_int pa_nil))) pa_nil)))
      (Evl.pss_cut (ps_if (pt_cmpR op_eq (pv 1) pe_str (nomark _)) (pss_one (ps_expr (pe_bm PySem.F.plainAttrs_list PySem.F.slot_list_extend PySem.F.type_list_extend mt_extend (pv 2) (pa_cons (pe_lc (own := [("place", 3)]) (g := (gName 3)) (tt := tYes) (by rfl) sc_bits_of_instruction.nd (pi_tup (pe_slice sl_tup (pv 0) (po_some pe_int) po_none)) (blkOk_by (N := n_bits_of_instruction) (sc := defScope s_bits_of_instruction) (by decide +kernel)) (fun _ _ _ _ _ => (pg_name (i := 3) sc_bits_of_instruction.nd rfl (Or.inl rfl))) (fun _ _ _ _ _ => pts_nil) (fun _ _ _ _ _ => (pe_q c__copied_bits hr (by decide) (by rfl) (pa_cons (pv 3) pa_nil)))) pa_nil)))) (pss_one (ps_expr (pe_bm PySem.F.plainAttrs_list PySem.F.slot_list_extend PySem.F.type_list_extend mt_extend (pv 2) (pa_cons (pe_lc (own := [("part", 4), ("letter", 5)]) (g := (gTup K 2 (gCons (gName 4) (gCons (gName 5) gNil)))) (tt := tYes) (by rfl) sc_bits_of_instruction.nd (pi_zipX (by rfl) B.zip (pa_cons (pe_slice sl_tup (pv 0) (po_some pe_int) po_none) (pa_cons (pe_ix ix_kdict (pe_glob (v := .ref iA) (by rfl) T.INSTRUCTIONS rfl) (pv 1) (fun _ _ => rfl)) pa_nil))) (blkOk_by (N := n_bits_of_instruction) (sc := defScope s_bits_of_instruction) (by decide +kernel)) (fun _ _ _ _ _ => (pg_tup (by rfl) (pgs_cons (pg_name (i := 4) sc_bits_of_instruction.nd rfl (Or.inl rfl)) (pgs_cons (pg_name (i := 5) sc_bits_of_instruction.nd rfl (Or.inl rfl)) pgs_nil)))) (fun _ _ _ _ _ => pts_nil) (fun _ _ _ _ _ => (pe_q c__part_bits hr (by decide) (by rfl) (pa_cons (pv 4) (pa_cons (pv 5) pa_nil))))) pa_nil)))))
      (pss_one (ps_ret (pe_join pe_str (pv 2))))))), ?_⟩
    obtain ⟨w, ps, ls, rfl, hm, hlk, hps⟩ := judged_ex hj
    obtain ⟨t1, t2, t3⟩ := tab_ix _ hm
    obtain ⟨u1, u2⟩ := tab_first _ hm
    have hcp := tab_copy _ hm
    have hl4 : ls.length ≤ 4 := hcp.2.2
    obtain ⟨hlen, hall⟩ := arePs_all r ls ps hps
    obtain ⟨ho1, ho2⟩ := okD_tup ho
    have ho3 : okDs ps = true := by
      have h : (okD (.str w) && okDs ps) = true := ho2
      rw [Bool.and_eq_true] at h
      exact h.2
    obtain ⟨a, xs, ds, rfl, e0, _, hx, hds⟩ := hd.tup_of rfl
    injection e0 with e0
    subst e0
    match xs, hds, hx with
    | x0 :: ys, .cons h0 hys, hx =>
    cases h0
    have hl := hys.len
    have q : ∀ H', Same H H' → Q (.str (K83.mk (bdig 5 (wix w) ++ ((ps.zip ls).map fun q => encPart q.2 q.1).flatten))) H' := fun H' s => by
      have := q H' s
      rw [show encI (.tuple (.str w :: ps)) = bdig 5 (wix w) ++ encPs ((tab.lookup w).getD []) ps from rfl, hlk, show (some ls).getD [] = ls from rfl, encPs_zip ls ps hlen] at this
      exact this
    refine ⟨_, rfl, a, _, 0, _, rfl, rfl, SqT.of hx, at0 _ _, ?_⟩
    refine ⟨fun σ H1 => ∃ p, σ = [some (.ref a), some (.str w), some (.ref p), none, none, none] ∧ Same H H1 ∧ H p = none ∧ H1 p = some (.lst [.str (K83.mk (bdig 5 (wix w)))]), ?_, ?_⟩
    · refine ⟨.inr (.inl ⟨rfl, T.wordsK⟩), _, rfl, wA, tab.map Prod.fst, w, wix w, rfl, rfl, T.wordsT _, u1, u2, wix w, 5, rfl, t2, by decide, by decide, (by show 1 ≤ sizeLine; decide), fun p hp => ⟨p, rfl, Same.new hp, hp, upd_same⟩⟩
    rintro σ H1 ⟨p, rfl, s1, hp, e1⟩
    have hx1 := s1 _ _ hx
    have hys1 := hys.same s1
    refine ⟨fun σ H2 => ∃ σ3 σ4 σ5, σ = [some (.ref a), some (.str w), some (.ref p), σ3, σ4, σ5] ∧ Same H H2 ∧ H2 p = some (.lst ((K83.mk (bdig 5 (wix w)) :: ((ps.zip ls).map fun q => encPart q.2 q.1).map K83.mk).map V.str)), ?_, ?_⟩
    · refine ⟨_, rfl, rfl, _, rfl, ?_⟩
      by_cases hw : w = "copy"
      · have hls := hcp.1 hw
        subst hls
        refine iteTd (decide_eq_true (by rw [hw])) ?_
        refine ⟨_, rfl, .inl ⟨rfl, _, SqL.of e1⟩, ?_⟩
        refine ⟨_, rfl, 1, rfl, a, _, rfl, SqT.of hx1, noslice (n := ys.length), fun p2 hp2 => ?_⟩
        have s3 : Same H1 (upd H1 p2 (.tup (cutV (V.str w :: ys) (some 1) none))) := Same.new hp2
        rw [cutV_1] at s3 ⊢
        have hys3 := hys1.same s3
        have e3 := s3 _ _ e1
        refine ⟨p2, rfl, ⟨ys, SqT.of upd_same⟩, fun p3 hp3 => lc_it walk_tup
          (fun i H' => Same (upd H1 p2 (.tup ys)) H' ∧ H' p3 = some (.lst (((((ps.zip [Lt.c, Lt.c]).map fun q => encPart q.2 q.1).take i).map K83.mk).map V.str))) ⟨Same.new hp3, upd_same⟩ (fun i H' _ h => SqT.of (h.1 _ _ upd_same)) ?_ ?_⟩
        · rintro i x H2 H' hi ⟨s4, e4⟩ ⟨rfl, hxi⟩
          obtain ⟨d, hdi, hdn⟩ := hys3.at hxi
          have hi2 : i < 2 := by
            have h2 : ps.length = 2 := hlen
            omega
          have hci : ([Lt.c, Lt.c])[i]? = some Lt.c := by
            match i, hi2 with
            | 0, _ => rfl
            | 1, _ => rfl
          have hzi : (ps.zip [Lt.c, Lt.c])[i]? = some (d, Lt.c) := List.getElem?_zip_eq_some.mpr ⟨hdi, hci⟩
          have hmi : ((ps.zip [Lt.c, Lt.c]).map fun q => encPart q.2 q.1)[i]? = some (encPart .c d) := by rw [List.getElem?_map, hzi]; rfl
          have hpt : (isSlot d || isReg r d) = true := hall _ (List.mem_of_getElem? hzi)
          obtain ⟨z, rfl⟩ : ∃ z, d = .str z := by
            cases d <;> first | exact ⟨_, rfl⟩ | cases hpt
          cases hdn
          refine ⟨rfl, yes ⟨_, rfl, r, z, rfl, hpt, _, e4, ?_, Same.upd' s4 hp3, ?_⟩⟩
          · rw [List.length_map, List.length_map, List.length_take]
            exact small20 (Nat.le_trans (Nat.min_le_left _ _) (by omega))
          · rw [upd_same, take_map hmi, List.map_append]
            rfl
        · rintro H2 ⟨s4, e4⟩
          rw [hl, show ps.length = ((ps.zip [Lt.c, Lt.c]).map fun q => encPart q.2 q.1).length from by rw [List.length_map, List.length_zip, hlen, Nat.min_self], List.take_length] at e4
          refine ⟨p, p3, _, _, rfl, rfl, s4 _ _ e3, e4, ?_, _, _, _, rfl, ?_, ?_⟩
          · rw [List.length_map, List.length_map, List.length_map, List.length_zip]
            have := sizeLine_eq
            simp
            omega
          · exact Same.upd' ((s1.trans s3).trans s4) hp
          · rw [upd_same]
            rfl
      · have e9 : decide (V.str w = V.str "copy") = false := decide_eq_false fun h => hw (by injection h)
        refine iteFd e9 ?_
        have lk : (tab.map fun q => (q.1, V.str (lettersW q.1 q.2))).lookup w = some (V.str (lettersW w ls)) := by rw [lookup_map (fun w ls => V.str (lettersW w ls)), hlk]; rfl
        refine ⟨_, rfl, .inl ⟨rfl, _, SqL.of e1⟩, ?_⟩
        refine ⟨_, rfl, 1, rfl, a, _, rfl, SqT.of hx1, noslice (n := ys.length), fun p2 hp2 => ?_⟩
        have s3 : Same H1 (upd H1 p2 (.tup (cutV (V.str w :: ys) (some 1) none))) := Same.new hp2
        rw [cutV_1] at s3 ⊢
        have hys3 := hys1.same s3
        have e3 := s3 _ _ e1
        have hll : (lettersW w ls).cps.size = ls.length := lettersW_len hw ls
        refine ⟨_, rfl, iA, w, _, rfl, rfl, T.instD.kd lk, .tup p2, .txt (lettersW w ls), ys, _, rfl, SqT.of upd_same, rfl, fun p3 hp3 => lc_it (walk_zipX (n := ps.length) (by rw [signs_len, hl, hll, hlen, Nat.min_self]))
          (fun i H' => Same (upd H1 p2 (.tup ys)) H' ∧ H' p3 = some (.lst (((((ps.zip ls).map fun q => encPart q.2 q.1).take i).map K83.mk).map V.str))) ⟨Same.new hp3, upd_same⟩ (fun i H' _ h => ⟨SqT.of (h.1 _ _ upd_same), rfl⟩) ?_ ?_⟩
        · rintro i x H2 H' hi ⟨s4, e4⟩ ⟨T', x', y, rfl, hT, rfl, hxi, hy⟩
          have hxi : ys[i]? = some x' := hxi
          have hy : (signs (lettersW w ls))[i]? = some y := hy
          obtain ⟨d, hdi, hdn⟩ := hys3.at hxi
          rw [signs_letters hw, List.getElem?_map] at hy
          obtain ⟨c, hci, rfl⟩ := Option.map_eq_some_iff.mp hy
          have hzi : (ps.zip ls)[i]? = some (d, c) := List.getElem?_zip_eq_some.mpr ⟨hdi, hci⟩
          have hmi : ((ps.zip ls).map fun q => encPart q.2 q.1)[i]? = some (encPart c d) := by rw [List.getElem?_map, hzi]; rfl
          have hc : c ≠ .c := fun e => hcp.2.1 hw (by rw [← e]; exact List.mem_of_getElem? hci)
          have hdn := (hdn.same s4).same (Same.new hT (o := .tup [x', .str (sg c)]))
          have hod := okDs_mem ho3 (List.mem_of_getElem? hdi)
          have hpt : isPart r c d = true := hall _ (List.mem_of_getElem? hzi)
          have npT : p3 ≠ T' := ne_of_none e4 hT
          refine ⟨T', _, rfl, SqT.of upd_same, rfl, _, _, rfl, _, _, rfl, ⟨rfl, rfl, yes ?_⟩⟩
          refine ⟨_, rfl, _, rfl, r, x', d, c, rfl, hc, hdn, hod, hpt, fun H3 s5 => ⟨_, s5 _ _ (by rw [upd_ne npT]; exact e4), ?_, ?_, ?_⟩⟩
          · rw [List.length_map, List.length_map, List.length_take]
            exact small20 (Nat.le_trans (Nat.min_le_left _ _) (by omega))
          · exact Same.upd' ((s4.trans (Same.new hT)).trans s5) hp3
          · rw [upd_same, take_map hmi, List.map_append]
            rfl
        · rintro H2 ⟨s4, e4⟩
          rw [show ps.length = ((ps.zip ls).map fun q => encPart q.2 q.1).length from by rw [List.length_map, List.length_zip, hlen, Nat.min_self], List.take_length] at e4
          refine ⟨p, p3, _, _, rfl, rfl, s4 _ _ e3, e4, ?_, _, _, _, rfl, ?_, ?_⟩
          · rw [List.length_map, List.length_map, List.length_map, List.length_zip]
            have := sizeLine_eq
            simp
            omega
          · exact Same.upd' ((s1.trans s3).trans s4) hp
          · rw [upd_same]
            rfl
    rintro σ H2 ⟨σ3, σ4, σ5, rfl, s2, e2⟩
    refine ⟨⟨_, rfl⟩, _, rfl, _, p, _, rfl, rfl, .inl (SqL.of e2), ?_, ?_⟩
    · have hz : ((ps.zip ls).map fun q => encPart q.2 q.1).length ≤ 4 := by
        rw [List.length_map, List.length_zip]
        omega
      have := sum_le (k := 130) (bdig 5 (wix w) :: ((ps.zip ls).map fun q => encPart q.2 q.1)) fun l hl => by
        rcases List.mem_cons.mp hl with rfl | hl
        · rw [K82.bdig_len]
          decide
        · obtain ⟨q, hq, rfl⟩ := List.mem_map.mp hl
          exact encPart_len (hall q hq) (okDs_mem ho3 (List.of_mem_zip hq).1)
      rw [List.map_cons, List.length_cons] at this
      rw [show ("" : Str).length = 0 by decide +kernel]
      omega
    · have e := join_flat (bdig 5 (wix w) :: ((ps.zip ls).map fun q => encPart q.2 q.1))
      rw [List.map_cons] at e
      rw [e, List.flatten_cons]
      exact q H2 s2
end
end SA

set_option Elab.async false
set_option linter.all false
set_option maxRecDepth 100000
set_option maxHeartbeats 1000000
namespace K83
open PySem PySem.Spec
open K82 (L one tl IsB bval bdig enc dec zig zag)
theorem isB_cut {l : L} (h : IsB l) (a b : Nat) : IsB ((l.drop a).take b) := fun c hc => h c (List.mem_of_mem_drop (List.mem_of_mem_take hc))
theorem bval_lt {l : L} (h : IsB l) : bval l < 2 ^ l.length := by
  have go : ∀ (l : L), IsB l → ∀ a, l.foldl (fun a c => 2 * a + K82.dv c) a + 1 ≤ 2 ^ l.length * (a + 1) := by
    intro l
    induction l with
    | nil => intro _ a; simp
    | cons c l ih =>
      intro h a
      have hc : K82.dv c ≤ 1 := by
        rcases h c List.mem_cons_self with rfl | rfl <;> decide
      have := ih (fun x hx => h x (List.mem_cons_of_mem _ hx)) (2 * a + K82.dv c)
      rw [List.foldl_cons, List.length_cons, Nat.pow_succ]
      refine Nat.le_trans this ?_
      have h2 : 2 * a + K82.dv c + 1 ≤ 2 * (a + 1) := by omega
      calc 2 ^ l.length * (2 * a + K82.dv c + 1) ≤ 2 ^ l.length * (2 * (a + 1)) := Nat.mul_le_mul_left _ h2
        _ = 2 ^ l.length * 2 * (a + 1) := by rw [Nat.mul_assoc]
  have := go l h 0
  unfold bval
  simp at this
  omega
theorem digAt_lt {l : L} {n m v b : Nat} (h : IsB l) (e : digAt l n m = some (v, b)) : v < 2 ^ m ∧ b = n + m ∧ n + m ≤ l.length := by
  unfold digAt at e
  split at e
  · rename_i hle
    injection e with e
    injection e with e1 e2
    refine ⟨?_, e2.symm, hle⟩
    rw [← e1]
    have := bval_lt (isB_cut h n m)
    rwa [List.length_take, List.length_drop, Nat.min_eq_left (by omega)] at this
  · cases e
theorem head_cut {z : Str} {n : Nat} (hn : n ≤ (tl z).length) (c : Nat) : (mk (((tl z).drop n).take 1) = mk [c]) ↔ ((tl z).drop n).head? = some c := by
  constructor
  · intro h
    have := congrArg tl h
    rw [tl_mk, tl_mk] at this
    match hd : (tl z).drop n, this with
    | [], h => simp at h
    | a :: r, h =>
      have h : [a] = [c] := h
      rw [List.head?_cons]
      injection h with h
      rw [h]
  · intro h
    match hd : (tl z).drop n, h with
    | a :: r, h =>
      obtain rfl : a = c := Option.some.inj h
      rfl
end K83
namespace SA
open PySem PySem.Spec PyProof.Rows L2 K83
open K82 hiding mk tl_mk mk_tl
theorem rdC_ex {l : L} {n : Nat} {a b : Int} (h : IsB l) (hl : l.length ≤ 1200) (e : rdC l n = some (a, b)) : ∃ c k : Nat, decAt l n = some (c, k) ∧ a = (c : Nat) ∧ b = (k : Nat) ∧ c < 2 ^ 1300 ∧ k ≤ l.length := by
  unfold rdC at e
  obtain ⟨⟨c, k⟩, h1, h2⟩ := Option.map_eq_some_iff.mp e
  injection h2 with h2 h3
  refine ⟨c, n + k, by unfold decAt; rw [h1]; rfl, h2.symm, h3.symm, ?_, ?_⟩
  · unfold dec at h1
    split at h1
    · injection h1 with h1
      injection h1 with h1 h4
      have hb : IsB (((l.drop n).drop (K82.zs (l.drop n))).take (K82.zs (l.drop n) + 1)) := fun x hx => h x (List.mem_of_mem_drop (List.mem_of_mem_drop (List.mem_of_mem_take hx)))
      have := K83.bval_lt hb
      have h5 : (((l.drop n).drop (K82.zs (l.drop n))).take (K82.zs (l.drop n) + 1)).length ≤ 1300 := by
        rw [List.length_take, List.length_drop, List.length_drop]
        omega
      have h6 : (2 : Nat) ^ (((l.drop n).drop (K82.zs (l.drop n))).take (K82.zs (l.drop n) + 1)).length ≤ 2 ^ 1300 := Nat.pow_le_pow_right (by decide) h5
      omega
    · cases h1
  · unfold dec at h1
    split at h1
    · rename_i hle
      injection h1 with h1
      injection h1 with h1 h4
      rw [List.length_drop] at hle
      omega
    · cases h1
theorem rdC_no {l : L} {n : Nat} (e : rdC l n = none) : decAt l n = none := by
  unfold rdC at e
  rw [Option.map_eq_none_iff] at e
  unfold decAt
  rw [e]
  rfl
def DigQ (o : Option (Nat × Nat)) (H : Hp) (Q : VK) : Prop := (o = none → Q .non H) ∧ ∀ v b, o = some (v, b) → ∀ (p : Addr) (H' : Hp), H p = none → Same H H' → H' p = some (.tup [.int (v : Nat), .int (b : Nat)]) → Q (.ref p) H'
def RQ (o : Option (PyData × Nat)) (H : Hp) (Q : VK) : Prop := (o = none → ∀ H', Same H H' → Q .non H') ∧ ∀ d b, o = some (d, b) → ∀ (p : Addr) (x : V) (H' : Hp), H p = none → Same H H' → H' p = some (.tup [x, .int (b : Nat)]) → Dn anyA H' x d → Q (.ref p) H'
def spDigAt : Sp := fun vs H Q _ => ∃ (z : Str) (n m : Nat), vs = [.str z, .int n, .int m] ∧ 1 ≤ m ∧ m ≤ 40 ∧ z.length ≤ 1200 ∧ IsB (tl z) ∧ DigQ (digAt (tl z) n m) H Q
def spRegAt : Sp := fun vs H Q _ => ∃ (z : Str) (n : Nat), vs = [.str z, .int n] ∧ z.length ≤ 1200 ∧ IsB (tl z) ∧ RQ (regAt (tl z) n) H Q
def spRdP (c : Lt) : Sp := fun vs H Q _ => ∃ (z : Str) (n : Nat), vs = [.str z, .int n] ∧ n ≤ z.length ∧ z.length ≤ 1200 ∧ IsB (tl z) ∧ RQ (rdPart (tl z) c n) H Q
section
variable {P : Program} {w0 : World} {K : PySem.W.Frag} {mg : Str → Option Value} {base : Heap} {kA mA iA lA wA : Addr}
theorem ok_digits_at {f : Addr} {fd : FuncData} (F : Fun K "_digits_at" "_digits_at" s__digits_at f fd) (B : Bn3 mg) : FnOk P w0 K mg base CX0 1 f fd ["bits", "at", "many"] spDigAt := by
  refine F.ok sc__digits_at (fun vs H Q E h => ?_) (fun cdv A outer s H vs Q E hr h => ?_)
  · obtain ⟨z, n, m, rfl, _⟩ := h
    rfl
  · obtain ⟨z, n, m, rfl, h1, h40, hz, hb, q1, q2⟩ := h
    refine ⟨_, (pss_one (ps_ret (pe_ifExp (pt_cmpR op_le (pe_op op_add (pv 1) (pv 2)) (pe_callB call_len_str (by rfl) B.len PySem.boot_len (pa_cons (pv 0) pa_nil)) (nomark _)) (pe_tup (pa_cons (pe_callTy call_int_bin (by rfl) B.int PySem.Pv.boot_int (pa_cons (pe_slice sl_str (pv 0) (po_some (pv 1)) (po_some (pe_op op_add (pv 1) (pv 2)))) (pa_cons pe_int pa_nil))) (pa_cons (pe_op op_add (pv 1) (pv 2)) pa_nil))) pe_non))), ?_⟩
    refine ⟨_, rfl, _, rfl, _, _, rfl, rfl, _, rfl, z, rfl, small5 (by omega), _, _, rfl, rfl, _, rfl, ?_⟩
    have hzl : z.length = (tl z).length := rfl
    by_cases hle : n + m ≤ (tl z).length
    · refine iteTd (decide_eq_true (by omega)) ?_
      have e : digAt (tl z) n m = some (bval (((tl z).drop n).take m), n + m) := by unfold digAt; rw [if_pos hle]
      have hlen : (((tl z).drop n).take m).length = m := by rw [List.length_take, List.length_drop]; omega
      refine ⟨_, rfl, _, rfl, _, rfl, _, rfl, _, rfl, _, _, rfl, rfl, _, rfl, z, rfl, small5 (by omega), ?_⟩
      rw [show L2.cutS z (some ((n : Nat) : Int)) (some (((n : Nat) : Int) + ((m : Nat) : Int))) = K83.mk (((tl z).drop n).take m) from by
        rw [show ((n : Nat) : Int) + ((m : Nat) : Int) = ((n + m : Nat) : Int) from by omega, K82.cutS_nn, Nat.add_sub_cancel_left]]
      refine ⟨K83.mk (((tl z).drop n).take m), rfl, ?_, by rw [mk_len, hlen]; omega, by rw [tl_mk]; exact isB_cut hb n m, _, rfl, _, rfl, _, _, rfl, rfl, (by show 2 ≤ sizeLine; decide), fun p hp => ?_⟩
      · rw [tl_mk]
        intro h0
        rw [h0] at hlen
        simp at hlen
        omega
      · refine q2 _ _ e p _ hp (Same.new hp) ?_
        rw [upd_same, tl_mk]
        rfl
    · refine iteFd (decide_eq_false (by omega)) ?_
      exact q1 (by unfold digAt; rw [if_neg hle])
theorem empR : Str.empty ++ ("r" : Str) = one 114 := by decide +kernel
theorem empS : Str.empty ++ ("s" : Str) = one 115 := by decide +kernel
theorem log4 {n k : Nat} (h : n < 2 ^ k) (h1 : 1 ≤ k) : n.log2 < k := by
  by_cases h0 : n = 0
  · subst h0
    show Nat.log2 0 < k
    rw [Nat.log2_zero]
    omega
  · exact (Nat.log2_lt h0).mpr h
theorem atT0 {p : Addr} {H : Hp} {x y : V} (h : H p = some (.tup [x, y])) : ∀ {Q : VK}, Q x H → rIxT K (.ref p) (.int 0) H Q := fun q => ⟨p, _, 0, x, rfl, rfl, SqT.of h, at0 _ _, q⟩
theorem pl_str (c v : Nat) (s : Str) (hs : s = ⟨#[c]⟩) : s ++ ((toString ((v : Nat) : Int) : String) : Str) = pl c v := by
  subst hs
  rfl
theorem natS_len {v : Nat} (h : v < 2 ^ 1300) : (natS v).length ≤ 600 := by
  have e := int_text_length_le10 (a := ((v : Nat) : Int)) (k := 599) (by decide) (Nat.lt_of_lt_of_le h (by decide +kernel))
  show (Str.ofString (toString v)).length ≤ 600
  rw [PySem.ofString_length]
  exact e
theorem pl_small {c v : Nat} (h : v < 2 ^ 1300) : (one c ++ natS v).length ≤ sizeLine := by
  have h1 := natS_len h
  have : (one c ++ natS v).length = 1 + (natS v).length := by
    show (Str.append _ _).cps.size = _
    simp [Str.append, one, Str.length]
  rw [this]
  exact small1000' (by omega)
theorem strD {n : Addr → Prop} {H : Hp} (z : Str) : Dn n H (.str z) (.str z) := .str z
theorem ok_register_at {f : Addr} {fd : FuncData} (F : Fun K "_register_at" "_register_at" s__register_at f fd) (c__digits_at : Dq P w0 K mg base CX0 1 "_digits_at" ["bits", "at", "many"] spDigAt) : FnOk P w0 K mg base CX0 2 f fd ["bits", "at"] spRegAt := by
  refine F.ok sc__register_at (fun vs H Q E h => ?_) (fun cdv A outer s H vs Q E hr h => ?_)
  · obtain ⟨z, n, rfl, _⟩ := h
    rfl
  · obtain ⟨z, n, rfl, hz, hb, q1, q2⟩ := h
    refine ⟨_, (pss_cons (ps_set (i := 2) sc__register_at.nd rfl (Or.inl rfl) (pe_q c__digits_at hr (by decide) (by rfl) (pa_cons (pv 0) (pa_cons (pv 1) (pa_cons pe_int pa_nil)))))
      (pss_one (ps_ret (pe_ifExp (pt_cmpR op_isN (pv 2) pe_non (nomark _)) pe_non (pe_tup (pa_cons (pe_joined (PJ.cons pe_str (PJ.cons (pe_fmt (pe_ix ix_tup (pv 2) pe_int (fun _ _ => rfl))) PJ.nil))) (pa_cons (pe_ix ix_tup (pv 2) pe_int (fun _ _ => rfl)) pa_nil))))))), ?_⟩
    refine ⟨_, rfl, _, rfl, z, n, 4, rfl, by decide, by decide, hz, hb, fun e => ?_, fun v b e p H1 hp s1 e1 => ?_⟩
    · have e2 : regAt (tl z) n = none := by unfold regAt; rw [e]; rfl
      exact ⟨_, rfl, rfl, _, rfl, iteTd rfl (q1 e2 H (Same.refl H))⟩
    · obtain ⟨v1, v2, v3⟩ := digAt_lt hb e
      have e2 : regAt (tl z) n = some (.str (pl 114 v), b) := by unfold regAt; rw [e]; rfl
      refine ⟨_, rfl, rfl, _, rfl, iteFd rfl ?_⟩
      refine ⟨_, rfl, ?_, _, rfl, p, _, 0, _, rfl, rfl, SqT.of e1, at0 _ _, .inr ⟨(v : Nat), rfl, ?_, ?_⟩⟩
      · show (Str.empty ++ ("r" : Str)).length ≤ sizeLine
        rw [empR]
        decide
      · have := log4 (n := v) (k := 4) (by omega) (by decide)
        show ((v : Int).natAbs).log2 < 1920
        rw [Int.natAbs_natCast]
        omega
      · refine ⟨_, rfl, ?_, _, rfl, p, _, 1, _, rfl, rfl, SqT.of e1, rfl, (by show 2 ≤ sizeLine; decide), fun p2 hp2 => ?_⟩
        · show ((Str.empty ++ ("r" : Str)) ++ natS v).length ≤ sizeLine
          rw [empR]
          exact pl_small (by show v < 2 ^ 1300; exact Nat.lt_trans v1 (by decide +kernel))
        · refine q2 _ _ e2 p2 _ _ (s1.free hp2) (s1.trans (Same.new hp2)) upd_same ?_
          rw [empR]
          exact .str _
theorem ok_part_number_at {f : Addr} {fd : FuncData} (F : Fun K "_part_number_at" "_part_number_at" s__part_number_at f fd) (c__digits_at : Dq P w0 K mg base CX0 1 "_digits_at" ["bits", "at", "many"] spDigAt) : FnOk P w0 K mg base CX0 2 f fd ["bits", "at"] (spRdP .k) := by
  refine F.ok sc__part_number_at (fun vs H Q E h => ?_) (fun cdv A outer s H vs Q E hr h => ?_)
  · obtain ⟨z, n, rfl, _⟩ := h
    rfl
  · obtain ⟨z, n, rfl, hn, hz, hb, q1, q2⟩ := h
    refine ⟨_, (pss_one (ps_ret (pe_q c__digits_at hr (by decide) (by rfl) (pa_cons (pv 0) (pa_cons (pv 1) (pa_cons pe_int pa_nil)))))), ?_⟩
    refine ⟨_, rfl, _, rfl, z, n, 2, rfl, by decide, by decide, hz, hb, fun e => ?_, fun v b e p H1 hp s1 e1 => ?_⟩
    · exact q1 (by show (digAt (tl z) n 2).map _ = none; rw [e]; rfl) H (Same.refl H)
    · exact q2 (.int (v : Nat)) b (by show (digAt (tl z) n 2).map _ = _; rw [e]; rfl) p _ H1 hp s1 e1 (.int _)
theorem ok_copied_at {f : Addr} {fd : FuncData} (F : Fun K "_copied_at" "_copied_at" s__copied_at f fd) (c__register_at : Dq P w0 K mg base CX0 2 "_register_at" ["bits", "at"] spRegAt) (c_count_at : Dq P w0 K mg base CX0 1 "count_at" ["bits", "at"] spCntAt) : FnOk P w0 K mg base CX0 3 f fd ["bits", "at"] (spRdP .c) := by
  refine F.ok sc__copied_at (fun vs H Q E h => ?_) (fun cdv A outer s H vs Q E hr h => ?_)
  · obtain ⟨z, n, rfl, _⟩ := h
    rfl
  · obtain ⟨z, n, rfl, hn, hz, hb, q1, q2⟩ := h
    refine ⟨_, (pss_cons (ps_if (pt_cmpR op_ne (pe_slice sl_str (pv 0) (po_some (pv 1)) (po_some (pe_op op_add (pv 1) pe_int))) pe_str (nomark _)) (pss_one (ps_ret (pe_q c__register_at hr (by decide) (by rfl) (pa_cons (pv 0) (pa_cons (pe_op op_add (pv 1) pe_int) pa_nil))))) pss_nil)
      (pss_cons (ps_set (i := 2) sc__copied_at.nd rfl (Or.inl rfl) (pe_q c_count_at hr (by decide) (by rfl) (pa_cons (pv 0) (pa_cons (pe_op op_add (pv 1) pe_int) pa_nil))))
      (pss_one (ps_ret (pe_ifExp (pt_cmpR op_isN (pv 2) pe_non (nomark _)) pe_non (pe_tup (pa_cons (pe_joined (PJ.cons pe_str (PJ.cons (pe_fmt (pe_ix ix_tup (pv 2) pe_int (fun _ _ => rfl))) PJ.nil))) (pa_cons (pe_ix ix_tup (pv 2) pe_int (fun _ _ => rfl)) pa_nil)))))))), ?_⟩
    have q1 : copAt (tl z) n = none → ∀ H', Same H H' → Q .non H' := q1
    have q2 : ∀ d b, copAt (tl z) n = some (d, b) → ∀ (p : Addr) (x : V) (H' : Hp), H p = none → Same H H' → H' p = some (.tup [x, .int (b : Nat)]) → Dn anyA H' x d → Q (.ref p) H' := q2
    refine ⟨_, rfl, _, rfl, _, rfl, _, rfl, _, _, rfl, rfl, _, rfl, z, rfl, small5 (by omega), rfl, _, rfl, ?_⟩
    rw [show L2.cutS z (some ((n : Nat) : Int)) (some (((n : Nat) : Int) + 1)) = K83.mk (((tl z).drop n).take 1) from by
      rw [show ((n : Nat) : Int) + 1 = ((n + 1 : Nat) : Int) from by omega, K82.cutS_nn, Nat.add_sub_cancel_left]]
    have hone : ("1" : Str) = K83.mk [49] := by decide +kernel
    rw [hone]
    by_cases h1 : ((tl z).drop n).head? = some 49
    · have e9 : decide (V.str (K83.mk (((tl z).drop n).take 1)) = V.str (K83.mk [49])) = true := decide_eq_true (by rw [(head_cut hn 49).mpr h1])
      refine iteFd (by rw [e9]; rfl) ?_
      have hlt : n + 1 ≤ (tl z).length := by
        match hd : (tl z).drop n, h1 with
        | a :: r, _ =>
          have := congrArg List.length hd
          rw [List.length_drop, List.length_cons] at this
          omega
      have hc : copAt (tl z) n = (decAt (tl z) (n + 1)).map fun q => (.str (pl 115 q.1), q.2) := by unfold copAt; rw [if_pos h1]
      refine ⟨_, rfl, _, rfl, _, _, rfl, rfl, z, n + 1, ?_, hlt, hz, hb, fun e H1 s1 => ?_, fun a b e p H1 hp s1 e1 => ?_⟩
      · show [V.str z, V.int ((n : Int) + 1)] = [V.str z, V.int ((n + 1 : Nat) : Int)]
        rw [show ((n : Nat) : Int) + 1 = ((n + 1 : Nat) : Int) from by omega]
      · exact ⟨_, rfl, rfl, _, rfl, iteTd rfl (q1 (by rw [hc, rdC_no e]; rfl) H1 s1)⟩
      · obtain ⟨v, k, ed, rfl, rfl, hv, hk⟩ := rdC_ex hb hz e
        have e2 : copAt (tl z) n = some (.str (pl 115 v), k) := by rw [hc, ed]; rfl
        refine ⟨_, rfl, rfl, _, rfl, iteFd rfl ?_⟩
        refine ⟨_, rfl, ?_, _, rfl, p, _, 0, _, rfl, rfl, SqT.of e1, at0 _ _, .inr ⟨(v : Nat), rfl, ?_, ?_⟩⟩
        · show (Str.empty ++ ("s" : Str)).length ≤ sizeLine
          rw [empS]
          decide
        · have := log4 (n := v) (k := 1300) hv (by decide)
          show ((v : Int).natAbs).log2 < 1920
          rw [Int.natAbs_natCast]
          omega
        · refine ⟨_, rfl, ?_, _, rfl, p, _, 1, _, rfl, rfl, SqT.of e1, rfl, (by show 2 ≤ sizeLine; decide), fun p2 hp2 => ?_⟩
          · show ((Str.empty ++ ("s" : Str)) ++ natS v).length ≤ sizeLine
            rw [empS]
            exact pl_small hv
          · refine q2 _ _ e2 p2 _ _ (s1.free hp2) (s1.trans (Same.new hp2)) upd_same ?_
            rw [empS]
            exact .str _
    · have e9 : decide (V.str (K83.mk (((tl z).drop n).take 1)) = V.str (K83.mk [49])) = false := decide_eq_false fun h => h1 ((head_cut hn 49).mp (by injection h))
      refine iteTd (by rw [e9]; rfl) ?_
      have hc : copAt (tl z) n = regAt (tl z) (n + 1) := by unfold copAt; rw [if_neg h1]
      rw [hc] at q1 q2
      exact ⟨_, rfl, _, rfl, _, _, rfl, rfl, z, n + 1, rfl, hz, hb, q1, q2⟩
end
end SA

set_option Elab.async false
set_option linter.all false
set_option maxRecDepth 100000
set_option maxHeartbeats 1000000
namespace SA
open PySem PySem.Spec PyProof.Rows L2 K83
open K82 hiding mk tl_mk mk_tl
theorem rdN_ex {l : L} {n : Nat} {a b : Int} (e : rdN l n = some (a, b)) : ∃ k : Nat, K83.numAt l n = some (.int a, k) ∧ b = (k : Nat) := by
  unfold rdN at e
  obtain ⟨⟨c, k⟩, h1, h2⟩ := Option.map_eq_some_iff.mp e
  injection h2 with h2 h3
  refine ⟨n + k, ?_, h3.symm⟩
  unfold K83.numAt decAt
  rw [h1, ← h2]
  rfl
theorem rdN_no {l : L} {n : Nat} (e : rdN l n = none) : K83.numAt l n = none := by
  unfold rdN at e
  rw [Option.map_eq_none_iff] at e
  unfold K83.numAt decAt
  rw [e]
  rfl
section
variable {P : Program} {w0 : World} {K : PySem.W.Frag} {mg : Str → Option Value} {base : Heap} {kA mA iA lA wA : Addr}
theorem num_imp {vs : List V} {H : Hp} {Q : VK} {E : XK} (h : spRdP .n vs H Q E) : spNumAt vs H Q E := by
  obtain ⟨z, n, rfl, hn, hz, hb, q1, q2⟩ := h
  refine ⟨z, n, rfl, hn, hz, hb, fun e => q1 (rdN_no e), fun a b e p H' hp s1 e1 => ?_⟩
  obtain ⟨k, e2, rfl⟩ := rdN_ex e
  exact q2 _ _ e2 p _ H' hp s1 e1 (.int _)
theorem num_rd {k : Nat} {f : Addr} {fd : FuncData} {ps : List Str} (F : FnOk P w0 K mg base CX0 k f fd ps spNumAt) : FnOk P w0 K mg base CX0 k f fd ps (spRdP .n) :=
  ⟨fun vs H Q E h => F.len vs H Q E (num_imp h), fun A outer s H args us vs Q E hr he hb hv h => F.run A outer s H args us vs Q E hr he hb hv (num_imp h)⟩
theorem reg_rd {k : Nat} {f : Addr} {fd : FuncData} {ps : List Str} (F : FnOk P w0 K mg base CX0 k f fd ps spRegAt) : FnOk P w0 K mg base CX0 k f fd ps (spRdP .p) := by
  have imp : ∀ {vs : List V} {H : Hp} {Q : VK} {E : XK}, spRdP .p vs H Q E → spRegAt vs H Q E := fun ⟨z, n, e, _, hz, hb, q⟩ => ⟨z, n, e, hz, hb, q⟩
  exact ⟨fun vs H Q E h => F.len vs H Q E (imp h), fun A outer s H args us vs Q E hr he hb hv h => F.run A outer s H args us vs Q E hr he hb hv (imp h)⟩
theorem ok_leap_at {f : Addr} {fd : FuncData} (F : Fun K "_leap_at" "_leap_at" s__leap_at f fd) (T : Top83 K w0 mg kA mA iA lA wA) (c__digits_at : Dq P w0 K mg base CX0 1 "_digits_at" ["bits", "at", "many"] spDigAt) (c__half_of : Dq P w0 K mg base CX0 1 "_half_of" ["word"] spHalf) : FnOk P w0 K mg base CX0 3 f fd ["bits", "at"] (spRdP .l) := by
  refine F.ok sc__leap_at (fun vs H Q E h => ?_) (fun cdv A outer s H vs Q E hr h => ?_)
  · obtain ⟨z, n, rfl, _⟩ := h
    rfl
  · obtain ⟨z, n, rfl, hn, hz, hb, q1, q2⟩ := h
    refine ⟨_, (Evl.pss_cut (ps_set (i := 2) sc__leap_at.nd rfl (Or.inl rfl) (pe_ifExp (pt_cmpR op_eq (pe_slice sl_str (pv 0) (po_some (pv 1)) (po_some (pe_op op_add (pv 1) pe_int))) pe_str (nomark _)) pe_str pe_str))
      (pss_cons (ps_set (i := 3) sc__leap_at.nd rfl (Or.inl rfl) (pe_q c__digits_at hr (by decide) (by rfl) (pa_cons (pv 0) (pa_cons (pe_op op_add (pv 1) pe_int) (pa_cons (pe_ix ix_kdict (pe_glob (v := .ref lA) (by rfl) T.LEAPS rfl) (pv 2) (fun _ _ => rfl)) pa_nil)))))
      (pss_cons (ps_if (pt_cmpR op_isN (pv 3) pe_non (nomark _)) (pss_one (ps_ret pe_non)) pss_nil)
      (pss_cons (ps_asg (pv 3) (pg_tup (by rfl) (pgs_cons (pg_name (i := 4) sc__leap_at.nd rfl (Or.inl rfl)) (pgs_cons (pg_name (i := 5) sc__leap_at.nd rfl (Or.inl rfl)) pgs_nil))))
      (pss_cons (ps_set (i := 6) sc__leap_at.nd rfl (Or.inl rfl) (pe_q c__half_of hr (by decide) (by rfl) (pa_cons (pv 2) pa_nil)))
      (pss_one (ps_ret (pe_tup (pa_cons (pe_tup (pa_cons (pv 2) (pa_cons (pe_ifExp (pt_cmpR op_ge (pv 4) (pv 6) (nomark _)) (pe_op op_sub (pv 4) (pe_op op_mul pe_int (pv 6))) (pv 4)) pa_nil))) (pa_cons (pv 5) pa_nil)))))))))), ?_⟩
    have q1 : leapAt (tl z) n = none → ∀ H', Same H H' → Q .non H' := q1
    have q2 : ∀ d b, leapAt (tl z) n = some (d, b) → ∀ (p : Addr) (x : V) (H' : Hp), H p = none → Same H H' → H' p = some (.tup [x, .int (b : Nat)]) → Dn anyA H' x d → Q (.ref p) H' := q2
    have hone : ("1" : Str) = K83.mk [49] := by decide +kernel
    refine ⟨fun σ H1 => H1 = H ∧ ∃ (w : Str) (m : Nat), σ = [some (.str z), some (.int (n : Nat)), some (.str w), none, none, none, none] ∧ ([("short", .int 8), ("long", .int 32)] : List (Str × L2.V)).lookup w = some (.int (m : Nat)) ∧ (w = "short" ∨ w = "long") ∧ (m = 8 ∨ m = 32) ∧ halfOf w = 2 ^ (m - 1) ∧
      leapAt (tl z) n = (digAt (tl z) (n + 1) m).map (fun q => (.tuple [.str w, .int (leapV m q.1)], q.2)), ?_, ?_⟩
    · refine ⟨_, rfl, _, rfl, _, rfl, _, rfl, _, _, rfl, rfl, _, rfl, z, rfl, small5 (by omega), rfl, _, rfl, ?_⟩
      rw [show L2.cutS z (some ((n : Nat) : Int)) (some (((n : Nat) : Int) + 1)) = K83.mk (((tl z).drop n).take 1) from by
        rw [show ((n : Nat) : Int) + 1 = ((n + 1 : Nat) : Int) from by omega, K82.cutS_nn, Nat.add_sub_cancel_left]]
      rw [hone]
      by_cases h1 : ((tl z).drop n).head? = some 49
      · have e9 : decide (V.str (K83.mk (((tl z).drop n).take 1)) = V.str (K83.mk [49])) = true := decide_eq_true (by rw [(head_cut hn 49).mpr h1])
        refine iteTd e9 ⟨rfl, "long", 32, rfl, by decide +kernel, .inr rfl, .inr rfl, by decide +kernel, ?_⟩
        unfold leapAt isLong
        rw [if_pos (decide_eq_true h1)]
      · have e9 : decide (V.str (K83.mk (((tl z).drop n).take 1)) = V.str (K83.mk [49])) = false := decide_eq_false fun h => h1 ((head_cut hn 49).mp (by injection h))
        refine iteFd e9 ⟨rfl, "short", 8, rfl, by decide +kernel, .inl rfl, .inl rfl, by decide +kernel, ?_⟩
        unfold leapAt isLong
        rw [if_neg (by rw [decide_eq_true_eq]; exact h1)]
    rintro σ H1 ⟨rfl, w, m, rfl, lk, hw, hm, hh, hL⟩
    rw [hL] at q1 q2
    refine ⟨_, rfl, _, rfl, _, _, rfl, rfl, _, rfl, lA, w, _, rfl, rfl, T.leapD.kd lk, z, n + 1, m, ?_, by omega, by omega, hz, hb, fun e => ?_, fun v b e p H1 hp s1 e1 => ?_⟩
    · show [V.str z, V.int ((n : Int) + 1), V.int (m : Nat)] = [V.str z, V.int ((n + 1 : Nat) : Int), V.int (m : Nat)]
      rw [show ((n : Nat) : Int) + 1 = ((n + 1 : Nat) : Int) from by omega]
    · exact ⟨_, rfl, rfl, _, rfl, iteTd rfl (q1 (by rw [e]; rfl) _ (Same.refl _))⟩
    · obtain ⟨v1, v2, v3⟩ := digAt_lt hb e
      have q2 := q2 (.tuple [.str w, .int (leapV m v)]) b (by rw [e]; rfl)
      refine ⟨_, rfl, rfl, _, rfl, iteFd rfl ⟨_, rfl, p, _, rfl, SqT.of e1, rfl, _, _, rfl, _, _, rfl, rfl, ?_⟩⟩
      refine ⟨_, rfl, w, rfl, hw, ?_⟩
      have fin : ∀ y : V, y = .int (leapV m v) → ∀ p2 : Addr, H1 p2 = none → ∀ p3 : Addr, (upd H1 p2 (.tup [.str w, y])) p3 = none → Q (.ref p3) (upd (upd H1 p2 (.tup [.str w, y])) p3 (.tup [.ref p2, .int (b : Nat)])) := by
        rintro y rfl p2 hp2 p3 hp3
        have n23 : p2 ≠ p3 := ne_of_none upd_same hp3
        refine q2 p3 (.ref p2) _ (s1.free ((Same.new hp2).free hp3)) (s1.trans ((Same.new hp2).trans (Same.new hp3))) upd_same ?_
        refine .tup trivial (xs := [.str w, .int (leapV m v)]) ?_ (.cons (.str _) (.cons (.int _) .nil))
        rw [upd_ne n23, upd_same]
      have hpow : (2 : Int) ^ m = 2 * 2 ^ (m - 1) := by
        rcases hm with rfl | rfl <;> decide
      have hpn : ((2 ^ (m - 1) : Nat) : Int) = (2 : Int) ^ (m - 1) := by
        rcases hm with rfl | rfl <;> decide
      refine ⟨_, rfl, _, rfl, _, rfl, _, _, rfl, rfl, _, rfl, ite2 (fun hge => ?_) (fun hge => ?_)⟩
      · have hge := of_decide_eq_true hge
        rw [hh] at hge
        refine ⟨_, rfl, _, rfl, _, _, rfl, rfl, .inl ⟨by decide, by decide⟩, _, _, rfl, rfl, (by show 2 ≤ sizeLine; decide), fun p2 hp2 => ⟨_, rfl, (by show 2 ≤ sizeLine; decide), fun p3 hp3 => fin _ ?_ p2 hp2 p3 hp3⟩⟩
        show V.int ((v : Int) - 2 * halfOf w) = V.int (leapV m v)
        unfold leapV
        rw [if_neg (by omega), hpow, hh]
      · have hge : ¬ ((v : Nat) : Int) ≥ halfOf w := fun z => hge (decide_eq_true z)
        rw [hh] at hge
        refine ⟨_, rfl, (by show 2 ≤ sizeLine; decide), fun p2 hp2 => ⟨_, rfl, (by show 2 ≤ sizeLine; decide), fun p3 hp3 => fin _ ?_ p2 hp2 p3 hp3⟩⟩
        show V.int (v : Int) = V.int (leapV m v)
        unfold leapV
        rw [if_pos (by omega)]
end
end SA

set_option Elab.async false
set_option linter.all false
set_option maxRecDepth 100000
set_option maxHeartbeats 1000000
namespace K83
open PySem PySem.Spec
open K82 (L one tl IsB bval bdig enc dec zig zag)
/-- the data of a place in the list of places -/
def plD : Option (PyData × Nat) → PyData
  | none => .none
  | some (d, e) => .tuple [d, .int (e : Nat)]
def plS : Option (PyData × Nat) → PyData
  | none => .none
  | some (d, _) => d
def places (l : L) (b m : Nat) : List (Option (PyData × Nat)) := (List.range m).map fun j => regAt l (b + 4 * j)
def plTx : Option (PyData × Nat) → Str
  | some (.str z, _) => z
  | _ => ""
theorem places_succ (l : L) (b i : Nat) : places l b (i + 1) = places l b i ++ [regAt l (b + 4 * i)] := by
  unfold places
  rw [List.range_succ, List.map_append]
  rfl
theorem places_at (l : L) (b m j : Nat) (h : j < m) : (places l b m)[j]? = some (regAt l (b + 4 * j)) := by
  unfold places
  rw [List.getElem?_map, List.getElem?_range h]
  rfl
theorem places_len (l : L) (b m : Nat) : (places l b m).length = m := by simp [places]
theorem regAt_end {l : L} {n : Nat} {d : PyData} {e : Nat} (h : regAt l n = some (d, e)) : e = n + 4 ∧ ∃ z, d = .str z := by
  unfold regAt digAt at h
  split at h
  · injection h with h
    injection h with h1 h2
    exact ⟨h2.symm, _, h1.symm⟩
  · cases h
theorem regsN_places (l : L) : ∀ (m b : Nat), (regsN l m b = none ↔ none ∈ places l b m) ∧ ∀ ds e, regsN l m b = some (ds, e) → ds = (places l b m).map plS ∧ e = b + 4 * m
  | 0, b => ⟨by simp [regsN, places], fun ds e h => by
      injection h with h
      injection h with h1 h2
      exact ⟨by rw [← h1]; rfl, by omega⟩⟩
  | m + 1, b => by
    have hp : places l b (m + 1) = regAt l b :: places l (b + 4) m := by
      unfold places
      rw [List.range_succ_eq_map, List.map_cons, List.map_map]
      congr 1
      refine List.map_congr_left fun j _ => ?_
      show regAt l (b + 4 * (j + 1)) = regAt l (b + 4 + 4 * j)
      congr 1
      omega
    obtain ⟨i1, i2⟩ := regsN_places l m (b + 4)
    have hr : regsN l (m + 1) b = (regAt l b).bind fun q => (regsN l m q.2).map fun t => (q.1 :: t.1, t.2) := rfl
    rw [hp, hr]
    match hq : regAt l b with
    | none => exact ⟨by simp, fun ds e h => by cases h⟩
    | some (d, e0) =>
      obtain ⟨rfl, _⟩ := regAt_end hq
      refine ⟨?_, fun ds e h => ?_⟩
      · show (regsN l m (b + 4)).map _ = none ↔ _
        rw [Option.map_eq_none_iff, i1, List.mem_cons]
        simp
      · have h : (regsN l m (b + 4)).map (fun t => (d :: t.1, t.2)) = some (ds, e) := h
        obtain ⟨⟨ds', e'⟩, h1, h2⟩ := Option.map_eq_some_iff.mp h
        injection h2 with h2 h3
        obtain ⟨j1, j2⟩ := i2 ds' e' h1
        refine ⟨?_, ?_⟩
        · rw [← h2, List.map_cons, ← j1]
          rfl
        · rw [← h3]
          show e' = _
          omega
theorem plS_str {o : Option (PyData × Nat)} {l : L} {n : Nat} (h : regAt l n = o) (hn : o ≠ none) : plS o = .str (plTx o) ∧ ∃ e, o = some (.str (plTx o), e) := by
  match o, h, hn with
  | some (d, e), h, _ =>
    obtain ⟨_, z, rfl⟩ := regAt_end h
    exact ⟨rfl, e, rfl⟩
theorem any_none : ∀ l : List (Option (PyData × Nat)), ((l.map plD).any fun z => PyData.eqv z .none) = l.any (·.isNone)
  | [] => rfl
  | o :: l => by
    rw [List.map_cons, List.any_cons, List.any_cons, any_none l]
    congr 1
    cases o <;> rfl
theorem canLay_places : ∀ l : List (Option (PyData × Nat)), (∀ o ∈ l, ∀ d e, o = some (d, e) → ∃ z, d = .str z ∧ PyData.strOk z = true) → PyData.canLayAll0 (l.map plD) = true ∧ (∀ d ∈ l.map plD, d.depth ≤ 1)
  | [], _ => ⟨rfl, fun d h => by cases h⟩
  | o :: l, h => by
    obtain ⟨i1, i2⟩ := canLay_places l fun o ho => h o (List.mem_cons_of_mem _ ho)
    have ho := h o List.mem_cons_self
    match o, ho with
    | none, _ =>
      refine ⟨by simp [PyData.canLayAll0, plD, PyData.canLay0, i1], fun d hd => ?_⟩
      rcases List.mem_cons.mp hd with rfl | hd
      · simp [plD, PyData.depth]
      · exact i2 d hd
    | some (d, e), ho =>
      obtain ⟨z, rfl, hz⟩ := ho d e rfl
      refine ⟨by simp [PyData.canLayAll0, plD, PyData.canLay0, i1, hz], fun d hd => ?_⟩
      rcases List.mem_cons.mp hd with rfl | hd
      · simp [plD, PyData.depth, PyData.depthAll]
      · exact i2 d hd
theorem plOk : ∀ v < 2 ^ 4, PyData.strOk (pl 114 v) = true := by decide +kernel
theorem plD_none (o : Option (PyData × Nat)) : PyData.eqv (plD o) .none = o.isNone := by
  cases o with
  | none => rfl
  | some q => rfl
end K83
namespace SA
open PySem PySem.Spec PyProof.Rows L2 K83
open K82 hiding mk tl_mk mk_tl
theorem strs_dn {n : Addr → Prop} {H : Hp} : ∀ l : List Str, DnAll n H (l.map V.str) (l.map PyData.str)
  | [] => .nil
  | z :: l => .cons (.str z) (strs_dn l)
theorem hu65 {k : Nat} {A : Around} (hr : Room k A) : A.units + 65 < cLine := by
  have := hr.un
  omega
mutual
theorem Dn.dp {K : PySem.W.Frag} {n : Addr → Prop} {H : Hp} : ∀ {v : V} {d : PyData}, Dn n H v d → d.canLay0 = true → Dp K H v d
  | _, _, .non, _ => .non
  | _, _, .bl b, _ => .bl b
  | _, _, .int i, _ => .int i
  | _, _, .str x, _ => .str x
  | _, .list ds, .lst _ h2 h3, h => .lst (.of h2) (h3.dp (by simpa [PyData.canLay0] using h))
  | _, .tuple ds, .tup _ h2 h3, h => .tup (.of h2) (h3.dp (by simpa [PyData.canLay0] using h))
  | _, _, .dct _ h2, h => nomatch h
theorem DnAll.dp {K : PySem.W.Frag} {n : Addr → Prop} {H : Hp} : ∀ {vs : List V} {ds : List PyData}, DnAll n H vs ds → PyData.canLayAll0 ds = true → DpAll K H vs ds
  | _, _, .nil, _ => .nil
  | _, d :: ds, .cons h1 h2, h => by
    have h' : d.canLay0 = true ∧ PyData.canLayAll0 ds = true := by simpa [PyData.canLayAll0] using h
    exact .cons (h1.dp h'.1) (h2.dp h'.2)
end
section
variable {P : Program} {w0 : World} {K : PySem.W.Frag} {mg : Str → Option Value} {base : Heap} {kA mA iA lA wA : Addr}
theorem ok_registers_at {f : Addr} {fd : FuncData} (F : Fun K "_registers_at" "_registers_at" s__registers_at f fd) (B : Bn3 mg) (c__digits_at : Dq P w0 K mg base CX0 1 "_digits_at" ["bits", "at", "many"] spDigAt) (c__register_at : Dq P w0 K mg base CX0 2 "_register_at" ["bits", "at"] spRegAt) : FnOk P w0 K mg base CX0 3 f fd ["bits", "at"] (spRdP .P) := by
  refine F.ok sc__registers_at (fun vs H Q E h => ?_) (fun cdv A outer s H vs Q E hr h => ?_)
  · obtain ⟨z, n, rfl, _⟩ := h
    rfl
  · obtain ⟨z, n, rfl, hn, hz, hb, q1, q2⟩ := h
    refine ⟨_, (pss_cons (ps_set (i := 2) sc__registers_at.nd rfl (Or.inl rfl) (pe_q c__digits_at hr (by decide) (by rfl) (pa_cons (pv 0) (pa_cons (pv 1) (pa_cons pe_int pa_nil)))))
      (pss_cons (ps_if (pt_cmpR op_isN (pv 2) pe_non (nomark _)) (pss_one (ps_ret pe_non)) pss_nil)
      (pss_cons (ps_asg (pv 2) (pg_tup (by rfl) (pgs_cons (pg_name (i := 3) sc__registers_at.nd rfl (Or.inl rfl)) (pgs_cons (pg_name (i := 4) sc__registers_at.nd rfl (Or.inr rfl)) pgs_nil))))
      (Evl.pss_cut (ps_setLc (i := 5) (own := [("index", 6)]) (g := (gName 6)) (tt := tYes) (by rfl) sc__registers_at.nd rfl rfl (sw_true rfl rfl rfl (by decide +kernel)) (pi_range1 (by rfl) B.range (pa_cons (pv 3) pa_nil)) (blkOk_by (N := n__registers_at) (sc := defScope s__registers_at) (by decide +kernel)) (fun _ _ _ _ _ => (pg_name (i := 6) sc__registers_at.nd rfl (Or.inl rfl))) (fun _ _ _ _ _ => pts_nil) (fun _ _ _ _ _ => (pe_q c__register_at hr (by decide) (by rfl) (pa_cons (pv 0) (pa_cons (pe_op op_add (pv 4) (pe_op op_mul pe_int (pv 6))) pa_nil)))))
      (pss_cons (ps_if (pt_cmpR (op_inD (hu65 hr)) pe_non (pv 5) (by rfl)) (pss_one (ps_ret pe_non)) pss_nil)
      (pss_one (ps_ret (pe_tup (pa_cons (pe_callTy call_tuple_of (by rfl) B.tuple (by decide +kernel) (pa_cons (pe_lc (own := [("place", 7), ("_", 8)]) (g := (gTup K 2 (gCons (gName 7) (gCons (gName 8) gNil)))) (tt := tYes) (by rfl) sc__registers_at.nd (pi_list (pv 5)) (blkOk_by (N := n__registers_at) (sc := defScope s__registers_at) (by decide +kernel)) (fun _ _ _ _ _ => (pg_tup (by rfl) (pgs_cons (pg_name (i := 7) sc__registers_at.nd rfl (Or.inl rfl)) (pgs_cons (pg_name (i := 8) sc__registers_at.nd rfl (Or.inl rfl)) pgs_nil)))) (fun _ _ _ _ _ => pts_nil) (fun _ _ _ _ _ => (pv 7))) pa_nil)) (pa_cons (pe_op op_add (pv 4) (pe_op op_mul pe_int (pv 3))) pa_nil)))))))))), ?_⟩
    have q1 : rgsAt (tl z) n = none → ∀ H', Same H H' → Q .non H' := q1
    have q2 : ∀ d b, rgsAt (tl z) n = some (d, b) → ∀ (p : Addr) (x : V) (H' : Hp), H p = none → Same H H' → H' p = some (.tup [x, .int (b : Nat)]) → Dn anyA H' x d → Q (.ref p) H' := q2
    refine ⟨_, rfl, _, rfl, z, n, 2, rfl, by decide, by decide, hz, hb, fun e => ?_, fun m b e p H1 hp s1 e1 => ?_⟩
    · exact ⟨_, rfl, rfl, _, rfl, iteTd rfl (q1 (by unfold rgsAt; rw [e]; rfl) _ (Same.refl _))⟩
    · obtain ⟨v1, v2, v3⟩ := digAt_lt hb e
      have hR : rgsAt (tl z) n = (regsN (tl z) m b).map fun t => (.tuple t.1, t.2) := by unfold rgsAt; rw [e]; rfl
      obtain ⟨g1, g2⟩ := regsN_places (tl z) m b
      refine ⟨_, rfl, rfl, _, rfl, iteFd rfl ⟨_, rfl, p, _, rfl, SqT.of e1, rfl, _, _, rfl, _, _, rfl, rfl, ?_⟩⟩
      refine ⟨fun σ H2 => ∃ (L : Addr) (vs : List V), σ = [some (.str z), some (.int (n : Nat)), some (.ref p), some (.int (m : Nat)), some (.int (b : Nat)), some (.ref L), none, none, none] ∧ Same H H2 ∧ H2 L = some (.lst vs) ∧ DnAll anyA H2 vs ((places (tl z) b m).map plD), ?_, ?_⟩
      · refine ⟨_, rfl, (m : Int), rfl, by omega, by omega, fun L hL => ?_⟩
        show ∃ W, _
        rw [Int.toNat_natCast]
        refine lc_range (lo := 0) (n := m) (fun i H' => Same H1 H' ∧ ∃ vs, H' L = some (.lst vs) ∧ vs.length = i ∧ DnAll (fun a => a ≠ L) H' vs ((places (tl z) b i).map plD)) ⟨Same.new hL, [], upd_same, rfl, .nil⟩ ?_ ?_
        · rintro i H2 hi ⟨s2, vs, e2, hl2, hvs⟩
          have fin : ∀ (v : V) (H3 : Hp), Same H2 H3 → Dn (fun a => a ≠ L) H3 v (plD (regAt (tl z) (b + 4 * i))) → ∃ acc, H3 L = some (.lst acc) ∧ acc.length < sizeLine ∧ (Same H1 (upd H3 L (.lst (acc ++ [v]))) ∧ ∃ vs, upd H3 L (.lst (acc ++ [v])) L = some (.lst vs) ∧ vs.length = i + 1 ∧ DnAll (fun a => a ≠ L) (upd H3 L (.lst (acc ++ [v]))) vs ((places (tl z) b (i + 1)).map plD)) := by
            intro v H3 s3 hv
            have kp : ∀ c o, c ≠ L → H3 c = some o → upd H3 L (.lst (vs ++ [v])) c = some o := fun c o hc e => by rw [upd_ne hc]; exact e
            refine ⟨vs, s3 _ _ e2, ?_, Same.upd' (s2.trans s3) hL, _, upd_same, by simp [hl2], ?_⟩
            · exact small20 (by omega)
            · rw [places_succ, List.map_append]
              exact DnAll.app (((hvs.same s3)).keep kp fun _ h => h) (.cons (hv.keep kp fun _ h => h) .nil)
          refine ⟨rfl, yes ⟨_, rfl, _, rfl, _, rfl, _, _, rfl, rfl, .inl ⟨by decide, by decide⟩, _, _, rfl, rfl, z, b + 4 * i, ?_, hz, hb, fun e3 H3 s3 => ?_, fun d e' e3 p3 x H3 hp3 s3 e4 hd => ?_⟩⟩
          · show [V.str z, V.int ((b : Int) + 4 * (0 + (i : Int)))] = [V.str z, V.int ((b + 4 * i : Nat) : Int)]
            rw [show (b : Int) + 4 * (0 + (i : Int)) = ((b + 4 * i : Nat) : Int) from by omega]
          · exact fin .non H3 s3 (by rw [e3]; exact .non)
          · obtain ⟨_, y, rfl⟩ := regAt_end e3
            cases hd
            refine fin (.ref p3) H3 s3 ?_
            rw [e3]
            exact .tup (fun e => by rw [e] at hp3; rw [e2] at hp3; cases hp3) e4 (.cons (.str _) (.cons (.int _) .nil))
        · rintro H2 ⟨s2, vs, e2, hl2, hvs⟩
          exact ⟨L, vs, rfl, s1.trans s2, e2, hvs.any⟩
      rintro σ H2 ⟨L, vs, rfl, s2, e2, hvs⟩
      have hstr : ∀ o ∈ places (tl z) b m, ∀ d e, o = some (d, e) → ∃ z, d = .str z ∧ PyData.strOk z = true := by
        rintro o ho d e rfl
        unfold places at ho
        obtain ⟨j, _, hj⟩ := List.mem_map.mp ho
        unfold regAt at hj
        obtain ⟨⟨v, k⟩, h1, h2⟩ := Option.map_eq_some_iff.mp hj
        injection h2 with h2
        exact ⟨_, h2.symm, plOk v (digAt_lt hb h1).1⟩
      obtain ⟨c1, c2⟩ := canLay_places _ hstr
      have hlv := hvs.len
      rw [List.length_map, places_len] at hlv
      refine ⟨_, rfl, .none, (places (tl z) b m).map plD, .non, .lst (SqL.of e2) (hvs.dp c1), rfl, ?_, _, rfl, ?_⟩
      · have dp : ∀ ds : List PyData, (∀ d ∈ ds, d.depth ≤ 1) → PyData.depthAll ds ≤ 1 := by
          intro ds
          induction ds with
          | nil => intro _; exact Nat.zero_le _
          | cons d ds ih =>
            intro h
            show max d.depth (PyData.depthAll ds) ≤ 1
            exact Nat.max_le.mpr ⟨h d List.mem_cons_self, ih fun x hx => h x (List.mem_cons_of_mem _ hx)⟩
        have h1 := dp _ c2
        show (PyData.canLay0 (.list _) && decide (PyData.depth (.list _) ≤ 64)) = true
        rw [Bool.and_eq_true, decide_eq_true_eq]
        refine ⟨by simpa [PyData.canLay0] using c1, ?_⟩
        show PyData.depthAll _ + 1 ≤ 64
        omega
      rw [any_none]
      by_cases hno : none ∈ places (tl z) b m
      · have e9 : ((places (tl z) b m).any (·.isNone)) = true := List.any_eq_true.mpr ⟨none, hno, rfl⟩
        exact iteTd e9 (q1 (by rw [hR, g1.mpr hno]; rfl) _ s2)
      · have e9 : ((places (tl z) b m).any (·.isNone)) = false := by
          rw [Bool.eq_false_iff]
          intro h
          obtain ⟨o, ho, hn⟩ := List.any_eq_true.mp h
          cases o with
          | none => exact hno ho
          | some q => cases hn
        refine iteFd e9 ?_
        have hsome : ∀ j, j < m → plS (regAt (tl z) (b + 4 * j)) = .str (plTx (regAt (tl z) (b + 4 * j))) ∧ ∃ e, regAt (tl z) (b + 4 * j) = some (.str (plTx (regAt (tl z) (b + 4 * j))), e) := fun j hj =>
          plS_str rfl fun e => hno (by rw [← e]; exact List.mem_of_getElem? (places_at (tl z) b m j hj))
        refine ⟨_, rfl, L, rfl, ⟨vs, SqL.of e2⟩, fun p2 hp2 => lc_it walk_list (fun i H' => Same H2 H' ∧ H' p2 = some (.lst ((((places (tl z) b m).take i).map plTx).map V.str))) ⟨Same.new hp2, upd_same⟩ (fun i H' _ h => SqL.of (h.1 _ _ e2)) ?_ ?_⟩
        · rintro i x H3 H' hi ⟨s3, e3⟩ ⟨rfl, hxi⟩
          have him : i < m := by omega
          obtain ⟨d, hdi, hdn⟩ := (hvs.same s3).at hxi
          have hpi := places_at (tl z) b m i him
          rw [List.getElem?_map, hpi] at hdi
          obtain ⟨_, e, he⟩ := hsome i him
          have hdd : d = .tuple [.str (plTx (regAt (tl z) (b + 4 * i))), .int (e : Nat)] := by
            exact (Option.some.inj hdi).symm.trans (congrArg plD he)
          subst hdd
          cases hdn with
          | tup _ hT hall =>
            cases hall with
            | cons g1 g2 =>
              cases g1
              cases g2 with
              | cons g2 g3 =>
                cases g2
                cases g3
                refine ⟨_, _, rfl, SqT.of hT, rfl, _, _, rfl, _, _, rfl, ⟨rfl, rfl, yes ⟨_, rfl, _, e3, ?_, Same.upd' s3 hp2, ?_⟩⟩⟩
                · rw [List.length_map, List.length_map, List.length_take]
                  exact small20 (Nat.le_trans (Nat.min_le_left _ _) (by omega))
                · rw [upd_same, take_map hpi, List.map_append]
                  rfl
        · rintro H3 ⟨s3, e3⟩
          rw [hlv, show m = (places (tl z) b m).length from (places_len _ _ _).symm, places_len, List.take_of_length_le (Nat.le_of_eq (places_len _ _ _))] at e3
          refine ⟨p2, _, rfl, .inl ⟨SqL.of e3, fun p3 hp3 => ?_⟩⟩
          refine ⟨_, rfl, _, rfl, _, _, rfl, rfl, .inl ⟨by decide, by decide⟩, _, _, rfl, rfl, (by show 2 ≤ sizeLine; decide), fun p4 hp4 => ?_⟩
          have s23 := s2.trans s3
          have n34 : p3 ≠ p4 := ne_of_none upd_same hp4
          have hsN : regsN (tl z) m b ≠ none := fun h => hno (g1.mp h)
          match hrs : regsN (tl z) m b, hsN with
          | some (ds, e'), _ =>
            obtain ⟨j1, j2⟩ := g2 ds e' hrs
            have s4 := (Same.new hp3 (o := .tup (((places (tl z) b m).map plTx).map V.str))).trans (Same.new hp4 (o := .tup [.ref p3, .int ((b : Int) + 4 * (m : Nat))]))
            refine q2 (.tuple ds) e' (by rw [hR, hrs]; rfl) p4 (.ref p3) _ ((s23.trans (Same.new hp3)).free hp4) (s23.trans s4) (by rw [upd_same, j2]; rfl) ?_
            refine .tup trivial (xs := ((places (tl z) b m).map plTx).map V.str) (by rw [upd_ne n34, upd_same]) ?_
            have hds : ds = ((places (tl z) b m).map plTx).map PyData.str := by
              rw [j1, List.map_map]
              refine List.map_congr_left fun o ho => ?_
              unfold places at ho
              obtain ⟨j, hj, rfl⟩ := List.mem_map.mp ho
              exact (hsome j (List.mem_range.mp hj)).1
            rw [hds]
            exact strs_dn _
end
end SA

set_option Elab.async false
set_option linter.all false
set_option maxRecDepth 100000
set_option maxHeartbeats 1000000
namespace K83
open PySem PySem.Spec
open K82 (L one tl IsB bval bdig enc dec zig zag)
theorem letter_at : ∀ k < 26, (lettersS.cps)[k]? = some (97 + k) := by decide +kernel
theorem namAt_step (l : L) (f n : Nat) (acc : L) : namAt l (f + 1) n acc = (match digAt l n 5 with
    | none => none
    | some (v, b) => if v = 0 then some (.str (mk acc), b) else if v > 26 then none else namAt l f b (acc ++ [96 + v])) := rfl
end K83
namespace SA
open PySem PySem.Spec PyProof.Rows L2 K83
open K82 hiding mk tl_mk mk_tl
def ToldAt (H : Hp) (o : Option (Nat × Nat)) (v : V) : Prop := (o = none ∧ v = .non) ∨ ∃ (k b : Nat) (p : Addr), o = some (k, b) ∧ v = .ref p ∧ H p = some (.tup [.int (k : Nat), .int (b : Nat)])
section
variable {P : Program} {w0 : World} {K : PySem.W.Frag} {mg : Str → Option Value} {base : Heap} {kA mA iA lA wA : Addr}
theorem ok_name_at {f : Addr} {fd : FuncData} (F : Fun K "_name_at" "_name_at" s__name_at f fd) (T : Top83 K w0 mg kA mA iA lA wA) (B : Bn3 mg) (c__digits_at : Dq P w0 K mg base CX0 1 "_digits_at" ["bits", "at", "many"] spDigAt) : FnOk P w0 K mg base CX0 2 f fd ["bits", "at"] (spRdP .x) := by
  obtain ⟨tL, mL⟩ := T.lettersC
  refine F.ok sc__name_at (fun vs H Q E h => ?_) (fun cdv A outer s H vs Q E hr h => ?_)
  · obtain ⟨z, n, rfl, _⟩ := h
    rfl
  · obtain ⟨z, n, rfl, hn, hz, hb, q1, q2⟩ := h
    refine ⟨_, (pss_cons (ps_set (i := 2) sc__name_at.nd rfl (Or.inl rfl) pe_str)
      (Evl.pss_cut (ps_set (i := 3) sc__name_at.nd rfl (Or.inl rfl) (pe_q c__digits_at hr (by decide) (by rfl) (pa_cons (pv 0) (pa_cons (pv 1) (pa_cons pe_int pa_nil)))))
      (pss_cons (ps_while PassesOwn.never (PW.pt (pw_and (pt_cmpR op_notN (pv 3) pe_non (nomark _)) (pw_and1 (pt_cmpR op_ne (pe_ix ix_tup (pv 3) pe_int (fun _ _ => rfl)) pe_int (nomark _))))) (pss_cons (ps_if (pt_cmpR op_gt (pe_ix ix_tup (pv 3) pe_int (fun _ _ => rfl)) (pe_callB call_len_str (by rfl) B.len PySem.boot_len (pa_cons (pe_glob (v := .str lettersS) (by rfl) mL ⟨_, rfl⟩) pa_nil)) (nomark _)) (pss_one (ps_ret pe_non)) pss_nil)
      (pss_cons (ps_aug (i := 2) sc__name_at.nd rfl (Or.inl rfl) (pe_item_str (pe_glob (v := .str lettersS) (by rfl) mL ⟨_, rfl⟩) (pe_op op_sub (pe_ix ix_tup (pv 3) pe_int (fun _ _ => rfl)) pe_int) (fun _ _ => rfl)) iop_add_str)
      (pss_one (ps_set (i := 3) sc__name_at.nd rfl (Or.inl rfl) (pe_q c__digits_at hr (by decide) (by rfl) (pa_cons (pv 0) (pa_cons (pe_ix ix_tup (pv 3) pe_int (fun _ _ => rfl)) (pa_cons pe_int pa_nil)))))))))
      (pss_one (ps_ret (pe_ifExp (pt_cmpR op_isN (pv 3) pe_non (nomark _)) pe_non (pe_tup (pa_cons (pv 2) (pa_cons (pe_ix ix_tup (pv 3) pe_int (fun _ _ => rfl)) pa_nil))))))))), ?_⟩
    have q1 : namAt (tl z) ((tl z).length + 1) n [] = none → ∀ H', Same H H' → Q .non H' := q1
    have q2 : ∀ d b, namAt (tl z) ((tl z).length + 1) n [] = some (d, b) → ∀ (p : Addr) (x : V) (H' : Hp), H p = none → Same H H' → H' p = some (.tup [x, .int (b : Nat)]) → Dn anyA H' x d → Q (.ref p) H' := q2
    have hzl : z.length = (tl z).length := rfl
    refine ⟨fun σ H1 => ∃ tv, σ = [some (.str z), some (.int (n : Nat)), some (.str (K83.mk [])), some tv] ∧ Same H H1 ∧ ToldAt H1 (digAt (tl z) n 5) tv, ?_, ?_⟩
    · refine ⟨_, rfl, _, rfl, z, n, 5, rfl, by decide, by decide, hz, hb, fun e => ⟨.non, rfl, Same.refl H, .inl ⟨e, rfl⟩⟩, fun v b e p H1 hp s1 e1 => ⟨.ref p, rfl, s1, .inr ⟨v, b, p, e, rfl, e1⟩⟩⟩
    rintro σ H1 ⟨tv, rfl, s1, ht⟩
    refine ⟨fun m σ H2 => ∃ (nn : Nat) (acc : L) (tv : V), σ = [some (.str z), some (.int (n : Nat)), some (.str (K83.mk acc)), some tv] ∧ Same H H2 ∧ ToldAt H2 (digAt (tl z) nn 5) tv ∧ nn ≤ (tl z).length ∧ acc.length ≤ nn ∧ (tl z).length + 1 ≤ m + nn ∧ namAt (tl z) m nn acc = namAt (tl z) ((tl z).length + 1) n [],
      ⟨(tl z).length + 1, n, [], tv, rfl, s1, ht, hn, Nat.zero_le _, by omega, rfl⟩, ?_⟩
    rintro m σ H2 ⟨nn, acc, tv, rfl, s2, ht, hnn, hacc, hm, hR⟩
    match m, hm, hR with
    | 0, hm, _ => exact absurd hm (by omega)
    | m + 1, hm, hR =>
    rw [namAt_step] at hR
    rcases ht with ⟨e, rfl⟩ | ⟨v, b, p, e, rfl, ep⟩
    · rw [e] at hR
      exact ⟨_, rfl, rfl, _, rfl, iteFd rfl (iteFd rfl ⟨_, rfl, rfl, _, rfl, iteTd rfl (q1 hR.symm _ s2)⟩)⟩
    · obtain ⟨v1, v2, v3⟩ := digAt_lt hb e
      rw [e] at hR
      have hR : (if v = 0 then some (PyData.str (K83.mk acc), b) else if v > 26 then none else namAt (tl z) m b (acc ++ [96 + v])) = namAt (tl z) ((tl z).length + 1) n [] := hR
      refine ⟨_, rfl, rfl, _, rfl, iteTd rfl ⟨_, rfl, p, _, 0, _, rfl, rfl, SqT.of ep, at0 _ _, rfl, _, rfl, ?_⟩⟩
      by_cases h0 : v = 0
      · rw [if_pos h0] at hR
        subst h0
        refine iteFd (by decide) ⟨_, rfl, rfl, _, rfl, iteFd rfl ⟨_, rfl, _, rfl, p, _, 1, _, rfl, rfl, SqT.of ep, rfl, (by show 2 ≤ sizeLine; decide), fun p2 hp2 => ?_⟩⟩
        exact q2 _ _ hR.symm p2 _ _ (s2.free hp2) (s2.trans (Same.new hp2)) upd_same (.str _)
      · rw [if_neg h0] at hR
        have e9 : (!decide (V.int (v : Nat) = V.int 0)) = true := by
          rw [decide_eq_false fun h => h0 (by injection h with h; omega)]
          rfl
        refine iteTd e9 ⟨fun σ' H' => ∃ m', m' < m + 1 ∧ ∃ (nn : Nat) (acc : L) (tv : V), σ' = [some (.str z), some (.int (n : Nat)), some (.str (K83.mk acc)), some tv] ∧ Same H H' ∧ ToldAt H' (digAt (tl z) nn 5) tv ∧ nn ≤ (tl z).length ∧ acc.length ≤ nn ∧ (tl z).length + 1 ≤ m' + nn ∧
          namAt (tl z) m' nn acc = namAt (tl z) ((tl z).length + 1) n [], fun _ _ h => h, ?_⟩
        have hll : lettersS.length = 26 := by decide +kernel
        refine ⟨_, rfl, p, _, 0, _, rfl, rfl, SqT.of ep, at0 _ _, lettersS, rfl, (by rw [hll]; exact small5 (by decide)), _, _, rfl, rfl, _, rfl, ?_⟩
        rw [hll]
        by_cases h26 : v > 26
        · rw [if_pos h26] at hR
          exact iteTd (decide_eq_true (by omega)) (q1 hR.symm _ s2)
        · rw [if_neg h26] at hR
          refine iteFd (decide_eq_false (by omega)) ?_
          have hcp : lettersS.cps[((v : Int) - 1).toNat]? = some (96 + v) := by
            have := letter_at (v - 1) (by omega)
            rw [show 97 + (v - 1) = 96 + v by omega] at this
            rw [show ((v : Int) - 1).toNat = v - 1 by omega]
            exact this
          refine ⟨_, rfl, _, rfl, p, _, 0, _, rfl, rfl, SqT.of ep, at0 _ _, _, _, rfl, rfl, lettersS, _, 96 + v, rfl, rfl, by omega, by omega, by rw [hll]; omega, hcp, _, _, rfl, rfl, ?_, ?_⟩
          · show (K83.mk acc).length + 1 ≤ sizeLine
            rw [mk_len]
            exact small5 (by omega)
          have happ : (K83.mk acc : Str) ++ ⟨#[96 + v]⟩ = K83.mk (acc ++ [96 + v]) := K83.mk_app acc [96 + v]
          rw [happ]
          refine ⟨_, rfl, _, rfl, p, _, 1, _, rfl, rfl, SqT.of ep, rfl, z, b, 5, rfl, by decide, by decide, hz, hb, fun e3 => ?_, fun v' b' e3 p3 H3 hp3 s3 e4 => ?_⟩
          · exact ⟨m, by omega, b, _, .non, rfl, s2, .inl ⟨e3, rfl⟩, by omega, by rw [List.length_append]; simp; omega, by omega, hR⟩
          · exact ⟨m, by omega, b, _, .ref p3, rfl, s2.trans s3, .inr ⟨v', b', p3, e3, rfl, e4⟩, by omega, by rw [List.length_append]; simp; omega, by omega, hR⟩
end
end SA

set_option Elab.async false
set_option linter.all false
set_option maxRecDepth 100000
set_option maxHeartbeats 1000000
namespace K83
open PySem PySem.Spec
open K82 (L one tl IsB bval bdig enc dec zig zag)
theorem decAt_le {l : L} {n v b : Nat} (hn : n ≤ l.length) (e : decAt l n = some (v, b)) : b ≤ l.length := by
  unfold decAt at e
  obtain ⟨⟨c, k⟩, h1, h2⟩ := Option.map_eq_some_iff.mp e
  injection h2 with h2 h3
  unfold dec at h1
  split at h1
  · rename_i hle
    injection h1 with h1
    injection h1 with h1 h4
    rw [List.length_drop] at hle
    omega
  · cases h1
theorem digAt_le {l : L} {n m v b : Nat} (e : digAt l n m = some (v, b)) : b ≤ l.length := by
  unfold digAt at e
  split at e
  · injection e with e
    injection e with e1 e2
    omega
  · cases e
theorem regAt_le {l : L} {n : Nat} {d : PyData} {b : Nat} (e : regAt l n = some (d, b)) : b ≤ l.length := by
  unfold regAt at e
  obtain ⟨⟨v, k⟩, h1, h2⟩ := Option.map_eq_some_iff.mp e
  injection h2 with h2 h3
  rw [← h3]
  exact digAt_le h1
theorem regsN_le {l : L} : ∀ (m b : Nat) (ds : List PyData) (e : Nat), b ≤ l.length → regsN l m b = some (ds, e) → e ≤ l.length
  | 0, b, ds, e, hb, h => by
    injection h with h
    injection h with h1 h2
    omega
  | m + 1, b, ds, e, hb, h => by
    have h : ((regAt l b).bind fun q => (regsN l m q.2).map fun t => (q.1 :: t.1, t.2)) = some (ds, e) := h
    obtain ⟨⟨d, b'⟩, h1, h2⟩ := Option.bind_eq_some_iff.mp h
    obtain ⟨⟨ds', e'⟩, h3, h4⟩ := Option.map_eq_some_iff.mp h2
    injection h4 with h4 h5
    rw [← h5]
    exact regsN_le m b' ds' e' (regAt_le h1) h3
theorem namAt_le {l : L} : ∀ (f n : Nat) (acc : L) (d : PyData) (e : Nat), namAt l f n acc = some (d, e) → e ≤ l.length
  | 0, _, _, _, _, h => by cases h
  | f + 1, n, acc, d, e, h => by
    rw [namAt_step] at h
    match hd : digAt l n 5, h with
    | some (v, b), h =>
      have h : (if v = 0 then some (PyData.str (mk acc), b) else if v > 26 then none else namAt l f b (acc ++ [96 + v])) = some (d, e) := h
      split at h
      · injection h with h
        injection h with h1 h2
        rw [← h2]
        exact digAt_le hd
      · split at h
        · cases h
        · exact namAt_le f b _ d e h
theorem rdPart_le {l : L} {c : Lt} {n : Nat} {d : PyData} {e : Nat} (hn : n ≤ l.length) (h : rdPart l c n = some (d, e)) : e ≤ l.length := by
  cases c with
  | p => exact regAt_le h
  | n =>
    have h : (decAt l n).map (fun q => (PyData.int (zag q.1), q.2)) = some (d, e) := h
    obtain ⟨⟨v, k⟩, h1, h2⟩ := Option.map_eq_some_iff.mp h
    injection h2 with h2 h3
    rw [← h3]
    exact decAt_le hn h1
  | c =>
    have h : copAt l n = some (d, e) := h
    unfold copAt at h
    split at h
    · rename_i hh
      obtain ⟨⟨v, k⟩, h1, h2⟩ := Option.map_eq_some_iff.mp h
      injection h2 with h2 h3
      rw [← h3]
      refine decAt_le ?_ h1
      match hd : l.drop n, hh with
      | a :: r, _ =>
        have := congrArg List.length hd
        rw [List.length_drop, List.length_cons] at this
        omega
    · exact regAt_le h
  | x => exact namAt_le _ _ _ _ _ h
  | k =>
    have h : (digAt l n 2).map (fun q => (PyData.int (q.1 : Nat), q.2)) = some (d, e) := h
    obtain ⟨⟨v, k⟩, h1, h2⟩ := Option.map_eq_some_iff.mp h
    injection h2 with h2 h3
    rw [← h3]
    exact digAt_le h1
  | P =>
    have h : ((digAt l n 2).bind fun q => (regsN l q.1 q.2).map fun t => (PyData.tuple t.1, t.2)) = some (d, e) := h
    obtain ⟨⟨v, k⟩, h1, h2⟩ := Option.bind_eq_some_iff.mp h
    obtain ⟨⟨ds, e'⟩, h3, h4⟩ := Option.map_eq_some_iff.mp h2
    injection h4 with h4 h5
    rw [← h5]
    exact regsN_le _ _ _ _ (digAt_le h1) h3
  | l =>
    have h : leapAt l n = some (d, e) := h
    unfold leapAt at h
    split at h
    · obtain ⟨⟨v, k⟩, h1, h2⟩ := Option.map_eq_some_iff.mp h
      injection h2 with h2 h3
      rw [← h3]
      exact digAt_le h1
    · obtain ⟨⟨v, k⟩, h1, h2⟩ := Option.map_eq_some_iff.mp h
      injection h2 with h2 h3
      rw [← h3]
      exact digAt_le h1
def rdW (l : L) (n : Nat) : Option (PyData × Nat) := (digAt l n 5).bind fun q => match tab[q.1]? with
  | none => none
  | some (w, ls) => (rdPs l ls q.2).map fun t => (.tuple (.str w :: t.1), t.2)
theorem rdPs_cons (l : L) (c : Lt) (cs : List Lt) (n : Nat) : rdPs l (c :: cs) n = (rdPart l c n).bind fun q => (rdPs l cs q.2).map fun t => (q.1 :: t.1, t.2) := rfl
theorem rdI_of {r : Nat} {l : L} {n v b : Nat} {w : Str} {ls : List Lt} (h1 : digAt l n 5 = some (v, b)) (h2 : tab[v]? = some (w, ls)) : rdI r l n = (rdPs l ls b).bind fun t => if judged r (.tuple (.str w :: t.1)) = true then some (.tuple (.str w :: t.1), t.2) else none := by
  unfold rdI
  rw [h1]
  show (match tab[v]? with | none => none | some (w, ls) => (rdPs l ls b).bind fun t => if judged r (.tuple (.str w :: t.1)) = true then some (PyData.tuple (.str w :: t.1), t.2) else none) = _
  rw [h2]
theorem rdI_none1 {r : Nat} {l : L} {n : Nat} (h : digAt l n 5 = none) : rdI r l n = none := by
  unfold rdI
  rw [h]
  rfl
theorem rdI_none2 {r : Nat} {l : L} {n v b : Nat} (h : digAt l n 5 = some (v, b)) (h2 : tab[v]? = none) : rdI r l n = none := by
  unfold rdI
  rw [h]
  show (match tab[v]? with | none => none | some (w, ls) => _) = none
  rw [h2]
def Flat (d : PyData) : Prop := (∃ z, d = .str z) ∨ ∃ i, d = .int i
theorem regsN_flat {l : L} : ∀ (m b : Nat) (ds : List PyData) (e : Nat), regsN l m b = some (ds, e) → ∀ d ∈ ds, Flat d
  | 0, b, ds, e, h, d, hd => by
    injection h with h
    injection h with h1 h2
    rw [← h1] at hd
    cases hd
  | m + 1, b, ds, e, h, d, hd => by
    have h : ((regAt l b).bind fun q => (regsN l m q.2).map fun t => (q.1 :: t.1, t.2)) = some (ds, e) := h
    obtain ⟨⟨d', b'⟩, h1, h2⟩ := Option.bind_eq_some_iff.mp h
    obtain ⟨⟨ds', e'⟩, h3, h4⟩ := Option.map_eq_some_iff.mp h2
    injection h4 with h4 h5
    rw [← h4] at hd
    rcases List.mem_cons.mp hd with rfl | hd
    · exact .inl (regAt_end h1).2
    · exact regsN_flat m b' ds' e' h3 d hd
theorem namAt_flat {l : L} : ∀ (f n : Nat) (acc : L) (d : PyData) (e : Nat), namAt l f n acc = some (d, e) → ∃ z, d = .str z
  | 0, _, _, _, _, h => by cases h
  | f + 1, n, acc, d, e, h => by
    rw [namAt_step] at h
    match hd : digAt l n 5, h with
    | some (v, b), h =>
      have h : (if v = 0 then some (PyData.str (mk acc), b) else if v > 26 then none else namAt l f b (acc ++ [96 + v])) = some (d, e) := h
      split at h
      · injection h with h
        injection h with h1 h2
        exact ⟨_, h1.symm⟩
      · split at h
        · cases h
        · exact namAt_flat f b _ d e h
theorem rdPart_flat {l : L} {c : Lt} {n : Nat} {d : PyData} {e : Nat} (h : rdPart l c n = some (d, e)) : Flat d ∨ ∃ ds, d = .tuple ds ∧ ∀ x ∈ ds, Flat x := by
  cases c with
  | p => exact .inl (.inl (regAt_end h).2)
  | n =>
    have h : (decAt l n).map (fun q => (PyData.int (zag q.1), q.2)) = some (d, e) := h
    obtain ⟨⟨v, k⟩, h1, h2⟩ := Option.map_eq_some_iff.mp h
    injection h2 with h2 h3
    exact .inl (.inr ⟨_, h2.symm⟩)
  | c =>
    have h : copAt l n = some (d, e) := h
    unfold copAt at h
    split at h
    · obtain ⟨⟨v, k⟩, h1, h2⟩ := Option.map_eq_some_iff.mp h
      injection h2 with h2 h3
      exact .inl (.inl ⟨_, h2.symm⟩)
    · exact .inl (.inl (regAt_end h).2)
  | x => exact .inl (.inl (namAt_flat _ _ _ _ _ h))
  | k =>
    have h : (digAt l n 2).map (fun q => (PyData.int (q.1 : Nat), q.2)) = some (d, e) := h
    obtain ⟨⟨v, k⟩, h1, h2⟩ := Option.map_eq_some_iff.mp h
    injection h2 with h2 h3
    exact .inl (.inr ⟨_, h2.symm⟩)
  | P =>
    have h : ((digAt l n 2).bind fun q => (regsN l q.1 q.2).map fun t => (PyData.tuple t.1, t.2)) = some (d, e) := h
    obtain ⟨⟨v, k⟩, h1, h2⟩ := Option.bind_eq_some_iff.mp h
    obtain ⟨⟨ds, e'⟩, h3, h4⟩ := Option.map_eq_some_iff.mp h2
    injection h4 with h4 h5
    exact .inr ⟨ds, h4.symm, regsN_flat _ _ _ _ h3⟩
  | l =>
    have h : leapAt l n = some (d, e) := h
    unfold leapAt at h
    have two : ∀ (w : Str) (i : Int), ∀ x ∈ [PyData.str w, .int i], Flat x := fun w i x hx => by
      rcases List.mem_cons.mp hx with rfl | hx
      · exact .inl ⟨_, rfl⟩
      · rw [List.mem_singleton.mp hx]
        exact .inr ⟨_, rfl⟩
    split at h
    · obtain ⟨⟨v, k⟩, h1, h2⟩ := Option.map_eq_some_iff.mp h
      injection h2 with h2 h3
      exact .inr ⟨_, h2.symm, two _ _⟩
    · obtain ⟨⟨v, k⟩, h1, h2⟩ := Option.map_eq_some_iff.mp h
      injection h2 with h2 h3
      exact .inr ⟨_, h2.symm, two _ _⟩
theorem tab_len : tab.length = 26 := rfl
end K83
namespace SA
open PySem PySem.Spec PyProof.Rows L2 K83
open K82 hiding mk tl_mk mk_tl
/-- a local variable that holds a def is called, the def told when it runs -/
def tCallE (P : Program) (w : World) (K : PySem.W.Frag) (mg : Str → Option Value) (base : Heap) (k i : Nat) (t : TA) : TE := fun σ H Q => ∃ (f : Addr) (fd : FuncData) (ps : List Str) (sp : Sp), σ[i]? = some (some (.ref f)) ∧ FnOk P w K mg base CX0 k f fd ps sp ∧ PySem.W.keepIn K (.ref f) = true ∧ L2.Binds K fd ps [] ∧ t σ H fun vs H1 => sp vs H1 Q fun _ _ _ => False
theorem pe_callE {X : Cx} {k i : Nat} {x : Str} {p pos : Pos} {e : Expr} {es : List Expr} {t : TA} (hr : Room k X.A) (hN : X.N[i]? = some x) (hv : Vis X.env.scope x) (ha : PA X (e :: es) t)
    (hdb : (x == ("__debug__" : Str)) = false := by decide) (hcd : (x == ("__classdict__" : Str)) = false := by decide)
    (he : starEach (e :: es) X.env = (false, eval e X.env) :: starEach es X.env := by rfl) (hpl : (backTo pos (starEach es X.env)).any (·.1) = false := by rfl) : PE X (.Call (.Name x p) (e :: es) [] pos) (tCallE X.prog X.w X.K X.mg X.base k i t) := by
  refine ⟨fun pins s σ H Q I h => ?_⟩
  obtain ⟨f, fd, ps, sp, hs, F, hk, hb, ht⟩ := h
  refine (pe_callL (i := i) (f := f) (sp := sp) (dvs := []) (E := fun _ _ _ => False) F hr hN hv hk hb .nil (fun _ _ _ _ _ _ _ z => z.elim) ha hdb hcd he hpl).run pins s σ H Q I ⟨hs, ?_⟩
  have e0 : (fun (vs : List V) (H1 : Hp) => sp (vs ++ []) H1 Q (fun _ _ _ => False)) = fun vs H1 => sp vs H1 Q (fun _ _ _ => False) := by
    funext vs H1
    rw [List.append_nil]
  show t σ H (fun vs H1 => sp (vs ++ []) H1 Q (fun _ _ _ => False))
  rw [e0]
  exact ht
theorem Dn.flat {n m : Addr → Prop} {H H' : Hp} {v : V} {d : PyData} (h : Dn n H v d) (f : Flat d) : Dn m H' v d := by
  rcases f with ⟨z, rfl⟩ | ⟨i, rfl⟩
  · cases h
    exact .str z
  · cases h
    exact .int i
theorem DnAll.flat {n m : Addr → Prop} {H H' : Hp} : ∀ {vs : List V} {ds : List PyData}, DnAll n H vs ds → (∀ d ∈ ds, Flat d) → DnAll m H' vs ds
  | _, _, .nil, _ => .nil
  | _, _, .cons h1 h2, f => .cons (h1.flat (f _ List.mem_cons_self)) (h2.flat fun d hd => f d (List.mem_cons_of_mem _ hd))
theorem Dn.offL {n : Addr → Prop} {H H' : Hp} {L : Addr} {xs : List V} {v : V} {d : PyData} (h : Dn n H v d) (f : Flat d ∨ ∃ ds, d = .tuple ds ∧ ∀ x ∈ ds, Flat x) (hL : H L = some (.lst xs)) (k : ∀ b o, b ≠ L → H b = some o → H' b = some o) : Dn (fun a => a ≠ L) H' v d := by
  rcases f with f | ⟨ds, rfl, f⟩
  · exact h.flat f
  · match v, h with
    | .ref a, .tup _ h2 h3 =>
      have hne : a ≠ L := fun e => by rw [e] at h2; rw [hL] at h2; cases h2
      exact .tup hne (k _ _ hne h2) (h3.flat f)
/-- the table of readers -/
structure RdT (P : Program) (w : World) (K : PySem.W.Frag) (mg : Str → Option Value) (base : Heap) (rA : Addr) : Prop where
  READERS : mg "READERS" = some (.ref rA)
  get : ∀ c : Lt, ∃ (f : Addr) (fd : FuncData), KDct K w rA (sg c) (.ref f) ∧ FnOk P w K mg base CX0 3 f fd ["bits", "at"] (spRdP c) ∧ PySem.W.keepIn K (.ref f) = true ∧ L2.Binds K fd ["bits", "at"] []
def spRdI : Sp := fun vs H Q _ => ∃ (r : Nat) (z : Str) (n : Nat), vs = [.int r, .str z, .int n] ∧ r ≤ 9 ∧ n ≤ z.length ∧ z.length ≤ 1200 ∧ IsB (tl z) ∧ (∀ v b w ls ps e, digAt (tl z) n 5 = some (v, b) → tab[v]? = some (w, ls) → rdPs (tl z) ls b = some (ps, e) → okE (.tuple (.str w :: ps)) = true) ∧ RQ (rdI r (tl z) n) H Q
section
variable {P : Program} {w0 : World} {K : PySem.W.Frag} {mg : Str → Option Value} {base : Heap} {kA mA iA lA wA rA : Addr}
theorem ok_read_instruction {f : Addr} {fd : FuncData} (F : Fun K "read_instruction" "read_instruction" s_read_instruction f fd) (T0 : Top83 K w0 mg kA mA iA lA wA) (R : RdT P w0 K mg base rA) (B : Bn3 mg) (c__digits_at : Dq P w0 K mg base CX0 1 "_digits_at" ["bits", "at", "many"] spDigAt)
    (c_has_instruction_form : Dq P w0 K mg base CX0 5 "has_instruction_form" ["registers", "thing"] (spInsF K)) : FnOk P w0 K mg base CX0 6 f fd ["registers", "bits", "at"] spRdI := by
  refine F.ok sc_read_instruction (fun vs H Q E h => ?_) (fun cdv A outer s H vs Q E hr h => ?_)
  · obtain ⟨r, z, n, rfl, _⟩ := h
    rfl
  · obtain ⟨r, z, n, rfl, hr9, hn, hz, hb, hok, q1, q2⟩ := h
    have hr3 : Room 3 (A.deeper (envOfC "read_instruction" (defScope s_read_instruction) s.heap.objs.size f cdv)) := hr.mono (by decide)
    refine ⟨_, (pss_cons (ps_set (i := 3) sc_read_instruction.nd rfl (Or.inl rfl) (pe_q c__digits_at hr (by decide) (by rfl) (pa_cons (pv 1) (pa_cons (pv 2) (pa_cons pe_int pa_nil)))))
      (pss_cons (ps_if (PW.pt (pw_or (pt_cmpR op_isN (pv 3) pe_non (nomark _)) (pw_or1 (pt_cmpR op_ge (pe_ix ix_tup (pv 3) pe_int (fun _ _ => rfl)) (pe_callB call_len_seq (by rfl) B.len PySem.boot_len (pa_cons (pe_glob (v := .ref wA) (by rfl) T0.words rfl) pa_nil)) (nomark _))))) (pss_one (ps_ret pe_non)) pss_nil)
      (pss_cons (ps_asg (pv 3) (pg_tup (by rfl) (pgs_cons (pg_name (i := 4) sc_read_instruction.nd rfl (Or.inl rfl)) (pgs_cons (pg_name (i := 5) sc_read_instruction.nd rfl (Or.inl rfl)) pgs_nil))))
      (pss_cons (ps_set (i := 6) sc_read_instruction.nd rfl (Or.inl rfl) (pe_ix ix_tup (pe_glob (v := .ref wA) (by rfl) T0.words rfl) (pv 4) (fun _ _ => rfl)))
      (pss_cons (ps_set (i := 7) sc_read_instruction.nd rfl (Or.inl rfl) (pe_lst (pa_cons (pv 6) pa_nil)))
      (Evl.pss_cut (ps_set (i := 8) sc_read_instruction.nd rfl (Or.inl rfl) (pe_ifExp (pt_cmpR op_eq (pv 6) pe_str (nomark _)) pe_str (pe_ix ix_kdict (pe_glob (v := .ref iA) (by rfl) T0.INSTRUCTIONS rfl) (pv 6) (fun _ _ => rfl))))
      (Evl.pss_cut (ps_for PassesOwn.never rfl (pi_str (pv 8)) (pg_name (i := 9) sc_read_instruction.nd rfl (Or.inl rfl)) (pss_cons (ps_set (i := 10) sc_read_instruction.nd rfl (Or.inl rfl) (pe_ix ix_kdict (pe_glob (v := .ref rA) (by rfl) R.READERS rfl) (pv 9) (fun _ _ => rfl)))
      (pss_cons (ps_set (i := 11) sc_read_instruction.nd rfl (Or.inl rfl) (pe_callE (i := 10) (k := 3) hr3 rfl (Or.inl rfl) (pa_cons (pv 1) (pa_cons (pv 5) pa_nil))))
      (pss_cons (ps_if (pt_cmpR op_isN (pv 11) pe_non (nomark _)) (pss_one (ps_ret pe_non)) pss_nil)
      (pss_cons (ps_expr (pe_bm PySem.F.plainAttrs_list PySem.F.slot_list_append PySem.F.type_list_append mt_append (pv 7) (pa_cons (pe_ix ix_tup (pv 11) pe_int (fun _ _ => rfl)) pa_nil)))
      (pss_one (ps_set (i := 5) sc_read_instruction.nd rfl (Or.inl rfl) (pe_ix ix_tup (pv 11) pe_int (fun _ _ => rfl)))))))))
      (pss_cons (ps_set (i := 12) sc_read_instruction.nd rfl (Or.inl rfl) (pe_callTy call_tuple_of (by rfl) B.tuple (by decide +kernel) (pa_cons (pv 7) pa_nil)))
      (pss_one (ps_ret (pe_ifExp (pt_val (pe_q c_has_instruction_form hr (by decide) (by rfl) (pa_cons (pv 0) (pa_cons (pv 12) pa_nil)))) (pe_tup (pa_cons (pv 12) (pa_cons (pv 5) pa_nil))) pe_non))))))))))), ?_⟩
    refine ⟨_, rfl, _, rfl, z, n, 5, rfl, by decide, by decide, hz, hb, fun e => ?_, fun v b e p H1 hp s1 e1 => ?_⟩
    · exact ⟨_, rfl, rfl, _, rfl, iteTd rfl (q1 (rdI_none1 e) _ (Same.refl _))⟩
    have hble := digAt_le e
    refine ⟨_, rfl, rfl, _, rfl, iteFd rfl ⟨_, rfl, p, _, 0, _, rfl, rfl, SqT.of e1, at0 _ _, wA, _, rfl, .inr (T0.wordsT _), _, _, rfl, rfl, _, rfl, ?_⟩⟩
    have hwl : ((tab.map Prod.fst).map V.str).length = 26 := rfl
    rw [hwl]
    by_cases h26 : 26 ≤ v
    · exact iteTd (decide_eq_true (by omega)) (q1 (rdI_none2 e (by rw [List.getElem?_eq_none_iff]; exact h26)) _ s1)
    refine iteFd (decide_eq_false (by omega)) ?_
    obtain ⟨w, ls, hwv⟩ : ∃ w ls, tab[v]? = some (w, ls) := ⟨_, _, List.getElem?_eq_getElem (show v < tab.length by rw [tab_len]; omega)⟩
    have hmem := List.mem_of_getElem? hwv
    have hcp := tab_copy _ hmem
    have hl4 : ls.length ≤ 4 := hcp.2.2
    have hlk : tab.lookup w = some ls := (tab_ix _ hmem).2.2
    have hI := rdI_of (r := r) e hwv
    have hat : atI ((tab.map Prod.fst).map V.str) ((v : Nat) : Int) = some (V.str w) := atI_nat (by rw [List.getElem?_map, List.getElem?_map, hwv]; rfl)
    refine ⟨_, rfl, p, _, rfl, SqT.of e1, rfl, _, _, rfl, _, _, rfl, rfl, ?_⟩
    refine ⟨_, rfl, wA, _, _, _, rfl, rfl, T0.wordsT _, hat, ?_⟩
    refine ⟨_, rfl, (by show 1 ≤ sizeLine; decide), fun L hL => ?_⟩
    refine ⟨fun σ H2 => σ = [some (.int (r : Nat)), some (.str z), some (.int (n : Nat)), some (.ref p), some (.int (v : Nat)), some (.int (b : Nat)), some (.str w), some (.ref L), some (.str ⟨(ls.map lettersOf).toArray⟩), none, none, none, none] ∧ Same H1 H2 ∧ H1 L = none ∧ H2 L = some (.lst [.str w]), ?_, ?_⟩
    · refine ⟨_, rfl, rfl, _, rfl, ?_⟩
      by_cases hw : w = "copy"
      · have hls := hcp.1 hw
        subst hls
        have hcc : ("cc" : Str) = ⟨(([Lt.c, Lt.c]).map lettersOf).toArray⟩ := by decide +kernel
        refine iteTd (decide_eq_true (by rw [hw])) ?_
        rw [hcc]
        exact ⟨rfl, Same.new hL, hL, upd_same⟩
      · have e9 : decide (V.str w = V.str "copy") = false := decide_eq_false fun h => hw (by injection h)
        have lk : (tab.map fun q => (q.1, V.str (lettersW q.1 q.2))).lookup w = some (V.str (lettersW w ls)) := by rw [lookup_map (fun w ls => V.str (lettersW w ls)), hlk]; rfl
        have hlw : lettersW w ls = ⟨(ls.map lettersOf).toArray⟩ := by unfold lettersW; rw [if_neg hw]
        rw [hlw] at lk
        exact iteFd e9 ⟨_, rfl, iA, w, _, rfl, rfl, T0.instD.kd lk, rfl, Same.new hL, hL, upd_same⟩
    rintro σ H2 ⟨rfl, s2, hL1, e2⟩
    have hsz : (⟨(ls.map lettersOf).toArray⟩ : Str).cps.size = ls.length := by simp
    refine ⟨fun σ H3 => ∃ (ps : List PyData) (be : Nat) (xs : List V) (y9 y10 y11 : Option V), σ = [some (.int (r : Nat)), some (.str z), some (.int (n : Nat)), some (.ref p), some (.int (v : Nat)), some (.int (be : Nat)), some (.str w), some (.ref L), some (.str ⟨(ls.map lettersOf).toArray⟩), y9, y10, y11, none] ∧ Same H1 H3 ∧
      H3 L = some (.lst (.str w :: xs)) ∧ xs.length = ls.length ∧ DnAll (fun a => a ≠ L) H3 xs ps ∧ rdPs (tl z) ls b = some (ps, be), ?_, ?_⟩
    · refine ⟨_, rfl, _, rfl, for_it walk_str (fun i σ H3 => ∃ (ps : List PyData) (be : Nat) (xs : List V) (y9 y10 y11 : Option V), σ = [some (.int (r : Nat)), some (.str z), some (.int (n : Nat)), some (.ref p), some (.int (v : Nat)), some (.int (be : Nat)), some (.str w), some (.ref L), some (.str ⟨(ls.map lettersOf).toArray⟩), y9, y10, y11, none] ∧ Same H1 H3 ∧
        H3 L = some (.lst (.str w :: xs)) ∧ xs.length = i ∧ DnAll (fun a => a ≠ L) H3 xs ps ∧ be ≤ (tl z).length ∧ rdPs (tl z) ls b = (rdPs (tl z) (ls.drop i) be).map (fun t => (ps ++ t.1, t.2))) ⟨[], b, [], none, none, none, rfl, s2, e2, rfl, .nil, hble, ?_⟩ (fun _ _ _ _ _ => trivial) ?_ ?_⟩
      · rw [List.drop_zero]
        cases rdPs (tl z) ls b <;> rfl
      · rintro i x σ H3 H' hi ⟨ps, be, xs, y9, y10, y11, rfl, s3, e3, hxl, hxs, hbe, hrec⟩ ⟨rfl, ch, hch, rfl⟩
        have hil : i < ls.length := by rw [← hsz]; exact hi
        obtain ⟨c, hc⟩ : ∃ c, ls[i]? = some c := ⟨_, List.getElem?_eq_getElem hil⟩
        have hch2 : ch = lettersOf c := by
          have h : (ls.map lettersOf)[i]? = some ch := by simpa using hch
          rw [List.getElem?_map, hc] at h
          exact (Option.some.inj h).symm
        subst hch2
        have hdr : ls.drop i = c :: ls.drop (i + 1) := by
          rw [List.drop_eq_getElem_cons hil]
          rw [List.getElem?_eq_getElem hil] at hc
          rw [Option.some.inj hc]
        obtain ⟨fR, fdR, kR, FR, keR, bR⟩ := R.get c
        rw [hdr, rdPs_cons] at hrec
        refine ⟨_, rfl, rA, sg c, _, rfl, rfl, kR, ?_⟩
        refine ⟨fR, fdR, _, _, rfl, FR, keR, bR, _, rfl, _, rfl, z, be, rfl, hbe, hz, hb, fun e4 H4 s4 => ?_, fun d b4 e4 p4 x4 H4 hp4 s4 g4 hd4 => ?_⟩
        · rw [e4] at hrec
          have hn0 : rdPs (tl z) ls b = none := hrec
          exact ⟨_, rfl, rfl, _, rfl, iteTd rfl (q1 (by rw [hI, hn0]; rfl) _ (s1.trans (s3.trans s4)))⟩
        · rw [e4] at hrec
          have e3' := s4 _ _ e3
          have npL : p4 ≠ L := fun h => by rw [h] at hp4; rw [hp4] at e3; cases e3
          have kp : ∀ c o, c ≠ L → H4 c = some o → upd H4 L (.lst ((.str w :: xs) ++ [x4])) c = some o := fun c o hc e => by rw [upd_ne hc]; exact e
          refine ⟨_, rfl, rfl, _, rfl, iteFd rfl ⟨_, rfl, .inl ⟨rfl, _, SqL.of e3'⟩, _, rfl, p4, _, 0, _, rfl, rfl, SqT.of g4, at0 _ _, L, _, x4, rfl, rfl, e3', ?_, _, rfl, p4, _, 1, _, rfl, rfl, SqT.of (kp _ _ npL g4), rfl, ?_⟩⟩
          · rw [List.length_cons]
            exact small20 (by omega)
          · refine ⟨ps ++ [d], b4, xs ++ [x4], _, _, _, rfl, Same.upd' (s3.trans s4) hL1, by rw [upd_same]; rfl, by rw [List.length_append, hxl]; rfl, ?_, rdPart_le hbe e4, ?_⟩
            · exact DnAll.app ((hxs.same s4).keep kp fun _ h => h) (.cons (hd4.offL (rdPart_flat e4) e3' kp) .nil)
            · rw [hrec]
              show ((rdPs (tl z) (ls.drop (i + 1)) b4).map fun t => (d :: t.1, t.2)).map (fun t => (ps ++ t.1, t.2)) = _
              rw [Option.map_map]
              congr 1
              funext t
              show (ps ++ d :: t.1, t.2) = ((ps ++ [d]) ++ t.1, t.2)
              rw [List.append_assoc]
              rfl
      · rintro σ H3 ⟨ps, be, xs, y9, y10, y11, rfl, s3, e3, hxl, hxs, hbe, hrec⟩
        rw [hsz] at hxl hrec
        refine ⟨ps, be, xs, y9, y10, y11, rfl, s3, e3, hxl, hxs, ?_⟩
        rw [hrec, List.drop_length]
        show some (ps ++ [], be) = _
        rw [List.append_nil]
    rintro σ H3 ⟨ps, be, xs, y9, y10, y11, rfl, s3, e3, hxl, hxs, hrd⟩
    refine ⟨_, rfl, L, _, rfl, .inl ⟨SqL.of e3, fun pw hpw => ?_⟩⟩
    have hI2 : rdI r (tl z) n = if judged r (.tuple (.str w :: ps)) = true then some (.tuple (.str w :: ps), be) else none := by rw [hI, hrd]; rfl
    have sw := Same.new hpw (o := .tup (.str w :: xs))
    have hw : Dn anyA (upd H3 pw (.tup (.str w :: xs))) (.ref pw) (.tuple (.str w :: ps)) := .tup trivial upd_same (.cons (.str _) (hxs.any.same sw))
    refine ⟨_, rfl, _, rfl, r, .ref pw, .tuple (.str w :: ps), rfl, hw, hok _ _ _ _ _ _ e hwv hrd, hr9, fun H5 s5 => ⟨_, rfl, ?_⟩⟩
    have s15 := s1.trans (s3.trans (sw.trans s5))
    cases hj : judged r (.tuple (.str w :: ps)) with
    | true =>
      rw [hj, if_pos rfl] at hI2
      refine iteTd rfl ⟨_, rfl, _, rfl, (by show 2 ≤ sizeLine; decide), fun p6 hp6 => ?_⟩
      exact q2 _ _ hI2 p6 _ _ (s15.free hp6) (s15.trans (Same.new hp6)) upd_same ((hw.same s5).same (Same.new hp6))
    | false =>
      rw [hj, if_neg (by decide)] at hI2
      exact iteFd rfl (q1 hI2 _ s15)
end
end SA

set_option Elab.async false
set_option linter.all false
set_option maxRecDepth 100000
set_option maxHeartbeats 1000000
namespace SA
open PySem PySem.Spec PyProof.Rows L2 K83
open K82 hiding mk tl_mk mk_tl
/-- no string of bits -/
def NoBits (x : V) (t : String) : Prop := t ≠ "str" ∨ ∃ z, x = .str z ∧ z.length ≤ 100000 ∧ ¬ IsB (tl z)
def spChkB (K : PySem.W.Frag) (BB : Addr) : Sp := fun vs H Q E => ∃ x t, vs = [x] ∧ Kd K H x t ∧ ((∃ z, x = .str z ∧ z.length ≤ 100000 ∧ IsB (tl z) ∧ Q .non H) ∨ (NoBits x t ∧ RaiseF BB "at" .non H E))
def NoReg (x : V) (t : String) : Prop := t ≠ "int" ∨ ∃ i : Int, x = .int i ∧ ¬ (6 ≤ i ∧ i ≤ 9)
def spChkR (K : PySem.W.Frag) (BR : Addr) : Sp := fun vs H Q E => ∃ x t, vs = [x] ∧ Kd K H x t ∧ ((∃ r : Nat, x = .int r ∧ 6 ≤ r ∧ r ≤ 9 ∧ Q .non H) ∨ (NoReg x t ∧ E (.ref BR) none H))
def spIsIns (K : PySem.W.Frag) (BR : Addr) : Sp := fun vs H Q E => ∃ y x t, vs = [y, x] ∧ Kd K H y t ∧ ((∃ (r : Nat) (d : PyData), y = .int r ∧ 6 ≤ r ∧ r ≤ 9 ∧ Dn anyA H x d ∧ okD d = true ∧ ∀ H', Same H H' → Q (.bl (judged r d)) H') ∨ (NoReg y t ∧ E (.ref BR) none H))
section
variable {P : Program} {w0 : World} {K : PySem.W.Frag} {mg : Str → Option Value} {base : Heap} {BR BA BB BI fI fJ : Addr} {fdI fdJ : FuncData}
theorem okI_BadBits {f : Addr} {fd : FuncData} {C : Addr} (F : Fun K "__init__" "BadBits.__init__" s_BadBits___init__ f fd) (T : Own24 K C f ["at"]) : FnOk P w0 K mg base CX0 1 f fd ["self", "at"] (spInit1 C "at") := by
  refine F.ok sc_BadBits___init__ (fun vs H Q E h => ?_) (fun cdv A outer s H vs Q E hr h => ?_)
  · obtain ⟨a, x, rfl, _⟩ := h
    rfl
  · obtain ⟨a, x, rfl, ha, k⟩ := h
    refine ⟨_, pss_one (ps_ost (pv 0) (pv 1)), ?_⟩
    exact ⟨x, rfl, .ref a, rfl, a, C, rfl, T.oex, T.no _ (by simp), .inl ⟨ha, fun dx hd ne => k dx _ hd ne upd_same (by rw [upd_ne ne, upd_same]) fun b o e hb => by rw [upd_ne hb, upd_ne (ne_of_none e hd)]; exact e⟩⟩
theorem okI_BadInstruction {f : Addr} {fd : FuncData} {C : Addr} (F : Fun K "__init__" "BadInstruction.__init__" s_BadInstruction___init__ f fd) (T : Own24 K C f ["at"]) : FnOk P w0 K mg base CX0 1 f fd ["self", "at"] (spInit1 C "at") := by
  refine F.ok sc_BadInstruction___init__ (fun vs H Q E h => ?_) (fun cdv A outer s H vs Q E hr h => ?_)
  · obtain ⟨a, x, rfl, _⟩ := h
    rfl
  · obtain ⟨a, x, rfl, ha, k⟩ := h
    refine ⟨_, pss_one (ps_ost (pv 0) (pv 1)), ?_⟩
    exact ⟨x, rfl, .ref a, rfl, a, C, rfl, T.oex, T.no _ (by simp), .inl ⟨ha, fun dx hd ne => k dx _ hd ne upd_same (by rw [upd_ne ne, upd_same]) fun b o e hb => by rw [upd_ne hb, upd_ne (ne_of_none e hd)]; exact e⟩⟩
theorem ok_check_bits {f : Addr} {fd : FuncData} (F : Fun K "_check_bits" "_check_bits" s__check_bits f fd) (OB : Cl1 P w0 K mg base "BadBits" "at" BB fI fdI) (c_is_bit_string : Dq P w0 K mg base CX0 1 "is_bit_string" ["thing"] (spBitS K)) :
    FnOk P w0 K mg base (L2.CX P w0) 3 f fd ["bits"] (spChkB K BB) := by
  refine F.okX sc__check_bits (fun vs H Q E h => ?_) (fun cdv A outer s H vs Q E hr h => ?_)
  · obtain ⟨x, t, rfl, _⟩ := h
    rfl
  · obtain ⟨x, t, rfl, hk, q⟩ := h
    refine ⟨_, (pss_one (ps_if (pt_not (pt_val (pe_q c_is_bit_string hr (by decide) (by rfl) (pa_cons (pv 0) pa_nil)))) (pss_one (ps_raise rfl (takes_of rfl rfl rfl rfl) (pmk_oex OB.o.oex OB.o.init OB.o.fn OB.G hr OB.b .nil pass0 (by rfl) OB.g (pa_cons pe_non pa_nil)))) pss_nil)), ?_⟩
    rcases q with ⟨z, rfl, hz, hb, q⟩ | ⟨nb, q⟩
    · refine ⟨_, rfl, .str z, t, rfl, hk, fun y e => ?_, fun ne => ?_⟩
      · injection e with e
        subst e
        refine ⟨hz, _, rfl, ?_⟩
        rw [(isBs_iff z).mpr hb]
        exact iteF q
      · cases hk
        exact absurd rfl ne
    · refine ⟨_, rfl, x, t, rfl, hk, fun y e => ?_, fun ne => ⟨_, rfl, iteT (raiseF (fun R r => r) q)⟩⟩
      subst e
      rcases nb with nb | ⟨z, e, hz, hn⟩
      · cases hk
        exact absurd rfl nb
      · injection e with e
        subst e
        refine ⟨hz, _, rfl, ?_⟩
        rw [show isBs y = false by rw [← Bool.not_eq_true, isBs_iff]; exact hn]
        exact iteT (raiseF (fun R r => r) q)
theorem ok_check_registers {f : Addr} {fd : FuncData} (F : Fun K "_check_registers" "_check_registers" s__check_registers f fd) (CR : Cl0 K mg "BadRegisters" BR) (c_is_number_between : Dq P w0 K mg base CX0 2 "is_number_between" ["thing", "low", "high"] (spNumB K)) :
    FnOk P w0 K mg base (L2.CX P w0) 3 f fd ["registers"] (spChkR K BR) := by
  refine F.okX sc__check_registers (fun vs H Q E h => ?_) (fun cdv A outer s H vs Q E hr h => ?_)
  · obtain ⟨x, t, rfl, _⟩ := h
    rfl
  · obtain ⟨x, t, rfl, hk, q⟩ := h
    refine ⟨_, (pss_one (ps_if (pt_not (pt_val (pe_q c_is_number_between hr (by decide) (by rfl) (pa_cons (pv 0) (pa_cons pe_int (pa_cons pe_int pa_nil)))))) (pss_one (ps_raise rfl (takes_of rfl rfl rfl rfl) (pmk_own PySem.F.excBase_ValueError CR.x CR.g CR.k (raises_own CR.b CR.t) (by rfl)))) pss_nil)), ?_⟩
    refine ⟨_, rfl, x, t, 6, 9, rfl, hk, fun i hi => ?_, fun ne => ?_⟩
    · subst hi
      rcases q with ⟨r, e, h6, h9, q⟩ | ⟨nr, q⟩
      · injection e with e
        subst e
        exact ⟨_, rfl, iteFd (by rw [decide_eq_true (show (6 : Int) ≤ (r : Nat) ∧ ((r : Nat) : Int) ≤ 9 by omega)]; rfl) q⟩
      · have hn : ¬ (6 ≤ i ∧ i ≤ 9) := by
          rcases nr with nr | ⟨j, e, hn⟩
          · cases hk
            exact absurd rfl nr
          · injection e with e
            rw [e]
            exact hn
        exact ⟨_, rfl, iteTd (by rw [decide_eq_false hn]; rfl) q⟩
    · rcases q with ⟨r, rfl, h6, h9, q⟩ | ⟨nr, q⟩
      · cases hk
        exact absurd rfl ne
      · exact ⟨_, rfl, iteTd rfl q⟩
end
end SA

set_option Elab.async false
set_option linter.all false
set_option maxRecDepth 100000
set_option maxHeartbeats 1000000
namespace SA
open PySem PySem.Spec PyProof.Rows L2 K83
open K82 hiding mk tl_mk mk_tl
/-- what is parsed at n stays within what the law draws -/
def okAt (l : L) (n : Nat) : Prop := ∀ v b w ls ps e, digAt l n 5 = some (v, b) → tab[v]? = some (w, ls) → rdPs l ls b = some (ps, e) → okE (.tuple (.str w :: ps)) = true
def spInsAt (K : PySem.W.Frag) (BR BB BA : Addr) : Sp := fun vs H Q E => ∃ (y x a : V) (t u v : String), vs = [y, x, a] ∧ Kd K H y t ∧ Kd K H x u ∧ Kd K H a v ∧ ((NoReg y t ∧ E (.ref BR) none H) ∨
  ∃ r : Nat, y = .int r ∧ 6 ≤ r ∧ r ≤ 9 ∧ ((NoBits x u ∧ RaiseF BB "at" .non H E) ∨ ∃ z : Str, x = .str z ∧ z.length ≤ 1200 ∧ IsB (tl z) ∧
    ((∃ n : Nat, a = .int n ∧ n ≤ z.length ∧ okAt (tl z) n ∧ (rdI r (tl z) n = none → ∀ H', Same H H' → E (.ref BA) none H') ∧
        ∀ d b, rdI r (tl z) n = some (d, b) → ∀ (p : Addr) (x : V) (H' : Hp), H p = none → Same H H' → H' p = some (.tup [x, .int (b : Nat)]) → Dn anyA H' x d → Q (.ref p) H') ∨
      ((v ≠ "int" ∨ ∃ i : Int, a = .int i ∧ ¬ (0 ≤ i ∧ i ≤ z.length)) ∧ E (.ref BA) none H))))
section
variable {P : Program} {w0 : World} {K : PySem.W.Frag} {mg : Str → Option Value} {base : Heap} {BR BA BB BI fI fJ : Addr} {fdI fdJ : FuncData}
theorem ok_instruction_at {f : Addr} {fd : FuncData} (F : Fun K "instruction_at" "instruction_at" s_instruction_at f fd) (B : Bn3 mg) (CA : Cl0 K mg "BadAddress" BA) (c__check_registers : Dq P w0 K mg base (L2.CX P w0) 3 "_check_registers" ["registers"] (spChkR K BR))
    (c__check_bits : Dq P w0 K mg base (L2.CX P w0) 3 "_check_bits" ["bits"] (spChkB K BB)) (c_is_number_between : Dq P w0 K mg base CX0 2 "is_number_between" ["thing", "low", "high"] (spNumB K)) (c_read_instruction : Dq P w0 K mg base CX0 6 "read_instruction" ["registers", "bits", "at"] spRdI) :
    FnOk P w0 K mg base (L2.CX P w0) 7 f fd ["registers", "bits", "address"] (spInsAt K BR BB BA) := by
  refine F.okX sc_instruction_at (fun vs H Q E h => ?_) (fun cdv A outer s H vs Q E hr h => ?_)
  · obtain ⟨y, x, a, t, u, v, rfl, _⟩ := h
    rfl
  · obtain ⟨y, x, a, t, u, v, rfl, hy, hx, ha, q⟩ := h
    refine ⟨_, (pss_cons (ps_expr (pe_qX c__check_registers hr (by decide) (by rfl) (passes_call (takes_of rfl rfl rfl rfl) fun _ _ _ _ h => h) (pa_cons (pv 0) pa_nil)))
      (pss_cons (ps_expr (pe_qX c__check_bits hr (by decide) (by rfl) (passes_call (takes_of rfl rfl rfl rfl) fun _ _ _ _ h => h) (pa_cons (pv 1) pa_nil)))
      (pss_cons (ps_set (i := 3) sc_instruction_at.nd rfl (Or.inl rfl) (pe_ifExp (pt_val (pe_q c_is_number_between hr (by decide) (by rfl) (pa_cons (pv 2) (pa_cons pe_int (pa_cons (pe_callB call_len_str (by rfl) B.len PySem.boot_len (pa_cons (pv 1) pa_nil)) pa_nil))))) (pe_q c_read_instruction hr (by decide) (by rfl) (pa_cons (pv 0) (pa_cons (pv 1) (pa_cons (pv 2) pa_nil)))) pe_non))
      (pss_cons (ps_if (pt_cmpR op_isN (pv 3) pe_non (nomark _)) (pss_one (ps_raise rfl (takes_of rfl rfl rfl rfl) (pmk_own PySem.F.excBase_ValueError CA.x CA.g CA.k (raises_own CA.b CA.t) (by rfl)))) pss_nil)
      (pss_one (ps_ret (pv 3))))))), ?_⟩
    rcases q with ⟨nr, q⟩ | ⟨r, rfl, h6, h9, q⟩
    · exact ⟨_, rfl, _, t, rfl, hy, .inr ⟨nr, q⟩⟩
    refine ⟨_, rfl, _, t, rfl, hy, .inl ⟨r, rfl, h6, h9, ?_⟩⟩
    rcases q with ⟨nb, q⟩ | ⟨z, rfl, hz, hb, q⟩
    · exact ⟨_, rfl, _, u, rfl, hx, .inr ⟨nb, q⟩⟩
    refine ⟨_, rfl, _, u, rfl, hx, .inl ⟨z, rfl, by omega, hb, ?_⟩⟩
    rcases q with ⟨n, rfl, hn, hok, q1, q2⟩ | ⟨nn, q⟩
    · refine ⟨_, rfl, _, rfl, z, rfl, small5 (by omega), _, v, 0, _, rfl, ha, fun i hi => ?_, fun ne => ?_⟩
      · injection hi with hi
        subst hi
        refine ⟨_, rfl, ?_⟩
        refine iteTd (decide_eq_true ⟨by omega, by omega⟩) ?_
        refine ⟨_, rfl, _, rfl, _, rfl, r, z, n, rfl, h9, hn, hz, hb, hok, fun e H1 s1 => ?_, fun d b e p x H1 hp s1 e1 hd => ?_⟩
        · exact ⟨_, rfl, rfl, _, rfl, iteTd rfl (q1 e H1 s1)⟩
        · exact ⟨_, rfl, rfl, _, rfl, iteFd rfl ⟨_, rfl, q2 d b e p x H1 hp s1 e1 hd⟩⟩
      · cases ha
        exact absurd rfl ne
    · refine ⟨_, rfl, _, rfl, z, rfl, small5 (by omega), _, v, 0, _, rfl, ha, fun i hi => ?_, fun ne => ?_⟩
      · subst hi
        have hn : ¬ ((0 : Int) ≤ i ∧ i ≤ z.length) := by
          rcases nn with nn | ⟨j, e, hn⟩
          · cases ha
            exact absurd rfl nn
          · injection e with e
            rw [e]
            exact hn
        exact ⟨_, rfl, iteFd (decide_eq_false hn) ⟨_, rfl, rfl, _, rfl, iteTd rfl q⟩⟩
      · exact ⟨_, rfl, iteFd rfl ⟨_, rfl, rfl, _, rfl, iteTd rfl q⟩⟩
end
end SA

set_option Elab.async false
set_option linter.all false
set_option maxRecDepth 100000
set_option maxHeartbeats 1000000
namespace K83
open PySem PySem.Spec
open K82 (L one tl IsB bval bdig enc dec zig zag)
theorem decAt_ge {l : L} {n v b : Nat} (e : decAt l n = some (v, b)) : n ≤ b := by
  unfold decAt at e
  obtain ⟨⟨c, k⟩, h1, h2⟩ := Option.map_eq_some_iff.mp e
  injection h2 with h2 h3
  have h3 : n + k = b := h3
  omega
theorem digAt_eq {l : L} {n m v b : Nat} (e : digAt l n m = some (v, b)) : b = n + m := by
  unfold digAt at e
  split at e
  · injection e with e
    injection e with e1 e2
    exact e2.symm
  · cases e
theorem regsN_ge {l : L} : ∀ (m b : Nat) (ds : List PyData) (e : Nat), regsN l m b = some (ds, e) → b ≤ e
  | 0, b, ds, e, h => by
    injection h with h
    injection h with h1 h2
    omega
  | m + 1, b, ds, e, h => by
    have h : ((regAt l b).bind fun q => (regsN l m q.2).map fun t => (q.1 :: t.1, t.2)) = some (ds, e) := h
    obtain ⟨⟨d, b'⟩, h1, h2⟩ := Option.bind_eq_some_iff.mp h
    obtain ⟨⟨ds', e'⟩, h3, h4⟩ := Option.map_eq_some_iff.mp h2
    injection h4 with h4 h5
    have h5 : e' = e := h5
    have i := regsN_ge m b' ds' e' h3
    have j := (regAt_end h1).1
    omega
theorem namAt_ge {l : L} : ∀ (f n : Nat) (acc : L) (d : PyData) (e : Nat), namAt l f n acc = some (d, e) → n ≤ e
  | 0, _, _, _, _, h => by cases h
  | f + 1, n, acc, d, e, h => by
    rw [namAt_step] at h
    match hd : digAt l n 5, h with
    | some (v, b), h =>
      have hb := digAt_eq hd
      have h : (if v = 0 then some (PyData.str (mk acc), b) else if v > 26 then none else namAt l f b (acc ++ [96 + v])) = some (d, e) := h
      split at h
      · injection h with h
        injection h with h1 h2
        omega
      · split at h
        · cases h
        · have := namAt_ge f b _ d e h
          omega
theorem rdPart_ge {l : L} {c : Lt} {n : Nat} {d : PyData} {e : Nat} (h : rdPart l c n = some (d, e)) : n ≤ e := by
  cases c with
  | p =>
    have := (regAt_end h).1
    omega
  | n =>
    have h : (decAt l n).map (fun q => (PyData.int (zag q.1), q.2)) = some (d, e) := h
    obtain ⟨⟨v, k⟩, h1, h2⟩ := Option.map_eq_some_iff.mp h
    injection h2 with h2 h3
    have h3 : k = e := h3
    have := decAt_ge h1
    omega
  | c =>
    have h : copAt l n = some (d, e) := h
    unfold copAt at h
    split at h
    · obtain ⟨⟨v, k⟩, h1, h2⟩ := Option.map_eq_some_iff.mp h
      injection h2 with h2 h3
      have h3 : k = e := h3
      have := decAt_ge h1
      omega
    · have := (regAt_end h).1
      omega
  | x => exact namAt_ge _ _ _ _ _ h
  | k =>
    have h : (digAt l n 2).map (fun q => (PyData.int (q.1 : Nat), q.2)) = some (d, e) := h
    obtain ⟨⟨v, k⟩, h1, h2⟩ := Option.map_eq_some_iff.mp h
    injection h2 with h2 h3
    have h3 : k = e := h3
    have := digAt_eq h1
    omega
  | P =>
    have h : ((digAt l n 2).bind fun q => (regsN l q.1 q.2).map fun t => (PyData.tuple t.1, t.2)) = some (d, e) := h
    obtain ⟨⟨v, k⟩, h1, h2⟩ := Option.bind_eq_some_iff.mp h
    obtain ⟨⟨ds, e'⟩, h3, h4⟩ := Option.map_eq_some_iff.mp h2
    injection h4 with h4 h5
    have h5 : e' = e := h5
    have i := regsN_ge _ _ _ _ h3
    have j := digAt_eq h1
    omega
  | l =>
    have h : leapAt l n = some (d, e) := h
    unfold leapAt at h
    split at h
    · obtain ⟨⟨v, k⟩, h1, h2⟩ := Option.map_eq_some_iff.mp h
      injection h2 with h2 h3
      have h3 : k = e := h3
      have := digAt_eq h1
      omega
    · obtain ⟨⟨v, k⟩, h1, h2⟩ := Option.map_eq_some_iff.mp h
      injection h2 with h2 h3
      have h3 : k = e := h3
      have := digAt_eq h1
      omega
theorem rdPs_ge {l : L} : ∀ (cs : List Lt) (n : Nat) (ps : List PyData) (e : Nat), rdPs l cs n = some (ps, e) → n ≤ e ∧ (n ≤ l.length → e ≤ l.length)
  | [], n, ps, e, h => by
    injection h with h
    injection h with h1 h2
    exact ⟨by omega, by omega⟩
  | c :: cs, n, ps, e, h => by
    rw [rdPs_cons] at h
    obtain ⟨⟨d, b⟩, h1, h2⟩ := Option.bind_eq_some_iff.mp h
    obtain ⟨⟨ds, e'⟩, h3, h4⟩ := Option.map_eq_some_iff.mp h2
    injection h4 with h4 h5
    have h5 : e' = e := h5
    obtain ⟨i1, i2⟩ := rdPs_ge cs b ds e' h3
    have j := rdPart_ge h1
    exact ⟨by omega, fun hn => by have := i2 (rdPart_le hn h1); omega⟩
theorem rdI_gt {r : Nat} {l : L} {n b : Nat} {d : PyData} (h : rdI r l n = some (d, b)) : n < b ∧ b ≤ l.length := by
  unfold rdI at h
  obtain ⟨⟨v, k⟩, h1, h2⟩ := Option.bind_eq_some_iff.mp h
  have hk := digAt_eq h1
  have hkl := digAt_le h1
  have h2 : (match tab[v]? with | none => none | some (w, ls) => (rdPs l ls k).bind fun t => if judged r (.tuple (.str w :: t.1)) = true then some (PyData.tuple (.str w :: t.1), t.2) else none) = some (d, b) := h2
  match ht : tab[v]?, h2 with
  | some (w, ls), h2 =>
    have h2 : ((rdPs l ls k).bind fun t => if judged r (.tuple (.str w :: t.1)) = true then some (PyData.tuple (.str w :: t.1), t.2) else none) = some (d, b) := h2
    obtain ⟨⟨ps, e⟩, h3, h4⟩ := Option.bind_eq_some_iff.mp h2
    obtain ⟨i1, i2⟩ := rdPs_ge _ _ _ _ h3
    have i2 := i2 hkl
    have h4 : (if judged r (.tuple (.str w :: ps)) = true then some (PyData.tuple (.str w :: ps), e) else none) = some (d, b) := h4
    split at h4
    · injection h4 with h4
      injection h4 with h4 h5
      omega
    · cases h4
def Flat2 (d : PyData) : Prop := Flat d ∨ ∃ ds, d = .tuple ds ∧ ∀ x ∈ ds, Flat x
theorem rdPs_flat {l : L} : ∀ (cs : List Lt) (n : Nat) (ps : List PyData) (e : Nat), rdPs l cs n = some (ps, e) → ∀ x ∈ ps, Flat2 x
  | [], n, ps, e, h, x, hx => by
    injection h with h
    injection h with h1 h2
    rw [← h1] at hx
    cases hx
  | c :: cs, n, ps, e, h, x, hx => by
    rw [rdPs_cons] at h
    obtain ⟨⟨d, b⟩, h1, h2⟩ := Option.bind_eq_some_iff.mp h
    obtain ⟨⟨ds, e'⟩, h3, h4⟩ := Option.map_eq_some_iff.mp h2
    injection h4 with h4 h5
    rw [← h4] at hx
    rcases List.mem_cons.mp hx with rfl | hx
    · exact rdPart_flat h1
    · exact rdPs_flat cs b ds e' h3 x hx
theorem rdI_flat {r : Nat} {l : L} {n b : Nat} {d : PyData} (h : rdI r l n = some (d, b)) : ∃ ds, d = .tuple ds ∧ ∀ x ∈ ds, Flat2 x := by
  unfold rdI at h
  obtain ⟨⟨v, k⟩, h1, h2⟩ := Option.bind_eq_some_iff.mp h
  have h2 : (match tab[v]? with | none => none | some (w, ls) => (rdPs l ls k).bind fun t => if judged r (.tuple (.str w :: t.1)) = true then some (PyData.tuple (.str w :: t.1), t.2) else none) = some (d, b) := h2
  match ht : tab[v]?, h2 with
  | some (w, ls), h2 =>
    have h2 : ((rdPs l ls k).bind fun t => if judged r (.tuple (.str w :: t.1)) = true then some (PyData.tuple (.str w :: t.1), t.2) else none) = some (d, b) := h2
    obtain ⟨⟨ps, e⟩, h3, h4⟩ := Option.bind_eq_some_iff.mp h2
    have h4 : (if judged r (.tuple (.str w :: ps)) = true then some (PyData.tuple (.str w :: ps), e) else none) = some (d, b) := h4
    split at h4
    · injection h4 with h4
      injection h4 with h4 h5
      refine ⟨_, h4.symm, fun x hx => ?_⟩
      rcases List.mem_cons.mp hx with rfl | hx
      · exact .inl (.inl ⟨_, rfl⟩)
      · exact rdPs_flat _ _ _ _ h3 x hx
    · cases h4
/-- all instructions from a place on, or the place of what is none -/
def rdAll (r : Nat) (l : L) : Nat → Nat → Except Nat (List (Nat × PyData))
  | 0, _ => .ok []
  | f + 1, n => if n < l.length then (match rdI r l n with
      | none => .error n
      | some (d, b) => (match rdAll r l f b with
        | .ok ds => .ok ((n, d) :: ds)
        | .error a => .error a)) else .ok []
def appA (ds : List (Nat × PyData)) : Except Nat (List (Nat × PyData)) → Except Nat (List (Nat × PyData))
  | .ok ds' => .ok (ds ++ ds')
  | .error a => .error a
theorem rdAll_stop {r : Nat} {l : L} {f n : Nat} (h : ¬ n < l.length) : rdAll r l (f + 1) n = .ok [] := by
  unfold rdAll
  rw [if_neg h]
theorem rdAll_err {r : Nat} {l : L} {f n : Nat} (h : n < l.length) (e : rdI r l n = none) : rdAll r l (f + 1) n = .error n := by
  unfold rdAll
  rw [if_pos h, e]
theorem rdAll_go {r : Nat} {l : L} {f n b : Nat} {d : PyData} (h : n < l.length) (e : rdI r l n = some (d, b)) : rdAll r l (f + 1) n = appA [(n, d)] (rdAll r l f b) := by
  rw [rdAll, if_pos h, e]
  show (match rdAll r l f b with | .ok ds => Except.ok ((n, d) :: ds) | .error a => .error a) = _
  cases rdAll r l f b <;> rfl
theorem appA_app (a b : List (Nat × PyData)) (x : Except Nat (List (Nat × PyData))) : appA a (appA b x) = appA (a ++ b) x := by
  cases x with
  | ok ds =>
    show Except.ok (a ++ (b ++ ds)) = Except.ok (a ++ b ++ ds)
    rw [List.append_assoc]
  | error a => rfl
/-- the places that a reading comes to -/
inductive Reach (r : Nat) (l : L) : Nat → Prop
  | zero : Reach r l 0
  | go {n b : Nat} {d : PyData} : Reach r l n → rdI r l n = some (d, b) → Reach r l b
def itD (q : Nat × PyData) : PyData := .tuple [.int (q.1 : Nat), q.2]
end K83
namespace SA
open PySem PySem.Spec PyProof.Rows L2 K83
open K82 hiding mk tl_mk mk_tl
theorem DnAll.offL {n : Addr → Prop} {H H' : Hp} {L : Addr} {xs : List V} (hL : H L = some (.lst xs)) (k : ∀ b o, b ≠ L → H b = some o → H' b = some o) : ∀ {vs : List V} {ds : List PyData}, DnAll n H vs ds → (∀ d ∈ ds, Flat2 d) → DnAll (fun a => a ≠ L) H' vs ds
  | _, _, .nil, _ => .nil
  | _, _, .cons h1 h2, f => .cons (h1.offL (f _ List.mem_cons_self) hL k) (DnAll.offL hL k h2 fun d hd => f d (List.mem_cons_of_mem _ hd))
theorem Dn.offL2 {n : Addr → Prop} {H H' : Hp} {L : Addr} {xs : List V} {v : V} {d : PyData} (h : Dn n H v d) (f : ∃ ds, d = .tuple ds ∧ ∀ x ∈ ds, Flat2 x) (hL : H L = some (.lst xs)) (k : ∀ b o, b ≠ L → H b = some o → H' b = some o) : Dn (fun a => a ≠ L) H' v d := by
  obtain ⟨ds, rfl, f⟩ := f
  match v, h with
  | .ref a, .tup _ h2 h3 =>
    have hne : a ≠ L := fun e => by rw [e] at h2; rw [hL] at h2; cases h2
    exact .tup hne (k _ _ hne h2) (DnAll.offL hL k h3 f)
def spRdBits (K : PySem.W.Frag) (BR BB : Addr) : Sp := fun vs H Q E => ∃ (y x : V) (t u : String), vs = [y, x] ∧ Kd K H y t ∧ Kd K H x u ∧ ((NoReg y t ∧ E (.ref BR) none H) ∨
  ∃ r : Nat, y = .int r ∧ 6 ≤ r ∧ r ≤ 9 ∧ ((NoBits x u ∧ RaiseF BB "at" .non H E) ∨ ∃ z : Str, x = .str z ∧ z.length ≤ 1200 ∧ IsB (tl z) ∧ (∀ n, Reach r (tl z) n → n < (tl z).length → okAt (tl z) n) ∧
    (∀ ds, rdAll r (tl z) ((tl z).length + 1) 0 = .ok ds → ∀ (p : Addr) (vs : List V) (H' : Hp), H p = none → Same H H' → H' p = some (.lst vs) → DnAll (fun a => a ≠ p) H' vs (ds.map itD) → Q (.ref p) H') ∧
    ∀ a, rdAll r (tl z) ((tl z).length + 1) 0 = .error a → ∀ H', Same H H' → RaiseF BB "at" (.int (a : Nat)) H' E))
section
variable {P : Program} {w0 : World} {K : PySem.W.Frag} {mg : Str → Option Value} {base : Heap} {BR BA BB BI fI fJ : Addr} {fdI fdJ : FuncData}
theorem ok_read_bits {f : Addr} {fd : FuncData} (F : Fun K "read_bits" "read_bits" s_read_bits f fd) (B : Bn3 mg) (OB : Cl1 P w0 K mg base "BadBits" "at" BB fI fdI) (c__check_registers : Dq P w0 K mg base (L2.CX P w0) 3 "_check_registers" ["registers"] (spChkR K BR))
    (c__check_bits : Dq P w0 K mg base (L2.CX P w0) 3 "_check_bits" ["bits"] (spChkB K BB)) (c_read_instruction : Dq P w0 K mg base CX0 6 "read_instruction" ["registers", "bits", "at"] spRdI) :
    FnOk P w0 K mg base (L2.CX P w0) 7 f fd ["registers", "bits"] (spRdBits K BR BB) := by
  refine F.okX sc_read_bits (fun vs H Q E h => ?_) (fun cdv A outer s H vs Q E hr h => ?_)
  · obtain ⟨y, x, t, u, rfl, _⟩ := h
    rfl
  · obtain ⟨y, x, t, u, rfl, hy, hx, q⟩ := h
    refine ⟨_, (pss_cons (ps_expr (pe_qX c__check_registers hr (by decide) (by rfl) (passes_call (takes_of rfl rfl rfl rfl) fun _ _ _ _ h => h) (pa_cons (pv 0) pa_nil)))
      (pss_cons (ps_expr (pe_qX c__check_bits hr (by decide) (by rfl) (passes_call (takes_of rfl rfl rfl rfl) fun _ _ _ _ h => h) (pa_cons (pv 1) pa_nil)))
      (pss_cons (ps_set (i := 2) sc_read_bits.nd rfl (Or.inl rfl) (pe_lst pa_nil))
      (pss_cons (ps_set (i := 3) sc_read_bits.nd rfl (Or.inl rfl) pe_int)
      (pss_cons (ps_while (passes_of rfl) (pt_cmpR op_lt (pv 3) (pe_callB call_len_str (by rfl) B.len PySem.boot_len (pa_cons (pv 1) pa_nil)) (nomark _)) (pss_cons (ps_set (i := 4) sc_read_bits.nd rfl (Or.inl rfl) (pe_q c_read_instruction hr (by decide) (by rfl) (pa_cons (pv 0) (pa_cons (pv 1) (pa_cons (pv 3) pa_nil)))))
      (pss_cons (ps_if (pt_cmpR op_isN (pv 4) pe_non (nomark _)) (pss_one (ps_raise rfl (takes_of rfl rfl rfl rfl) (pmk_oex OB.o.oex OB.o.init OB.o.fn OB.G (hr.mono (by decide)) OB.b .nil pass0 (by rfl) OB.g (pa_cons (pv 3) pa_nil)))) pss_nil)
      (pss_cons (ps_expr (pe_bm PySem.F.plainAttrs_list PySem.F.slot_list_append PySem.F.type_list_append mt_append (pv 2) (pa_cons (pe_tup (pa_cons (pv 3) (pa_cons (pe_ix ix_tup (pv 4) pe_int (fun _ _ => rfl)) pa_nil))) pa_nil)))
      (pss_one (ps_set (i := 3) sc_read_bits.nd rfl (Or.inl rfl) (pe_ix ix_tup (pv 4) pe_int (fun _ _ => rfl))))))))
      (pss_one (ps_ret (pv 2)))))))), ?_⟩
    rcases q with ⟨nr, q⟩ | ⟨r, rfl, h6, h9, q⟩
    · exact ⟨_, rfl, _, t, rfl, hy, .inr ⟨nr, q⟩⟩
    refine ⟨_, rfl, _, t, rfl, hy, .inl ⟨r, rfl, h6, h9, ?_⟩⟩
    rcases q with ⟨nb, q⟩ | ⟨z, rfl, hz, hb, hok, q1, q2⟩
    · exact ⟨_, rfl, _, u, rfl, hx, .inr ⟨nb, q⟩⟩
    refine ⟨_, rfl, _, u, rfl, hx, .inl ⟨z, rfl, by omega, hb, ?_⟩⟩
    refine ⟨(by show 0 ≤ sizeLine; exact Nat.zero_le _), fun L hL => ?_⟩
    refine ⟨fun m σ H1 => ∃ (k : Nat) (ds : List (Nat × PyData)) (xs : List V) (y4 : Option V), σ = [some (.int (r : Nat)), some (.str z), some (.ref L), some (.int (k : Nat)), y4] ∧ Same H H1 ∧ H1 L = some (.lst xs) ∧ DnAll (fun a => a ≠ L) H1 xs (ds.map itD) ∧ Reach r (tl z) k ∧ k ≤ (tl z).length ∧ (tl z).length + 1 ≤ m + k ∧ xs.length ≤ k ∧
      rdAll r (tl z) ((tl z).length + 1) 0 = appA ds (rdAll r (tl z) m k), ⟨(tl z).length + 1, 0, [], [], none, rfl, Same.new hL, upd_same, .nil, .zero, Nat.zero_le _, by omega, Nat.le_refl _, ?_⟩, ?_⟩
    · cases rdAll r (tl z) ((tl z).length + 1) 0 <;> rfl
    rintro m σ H1 ⟨k, ds, xs, y4, rfl, s1, e1, hxs, hrch, hk, hm, hxl, hrec⟩
    have hzl : z.length = (tl z).length := rfl
    refine ⟨_, rfl, _, rfl, z, rfl, small5 (by omega), _, _, rfl, rfl, _, rfl, ?_⟩
    match m, hm, hrec with
    | 0, hm, _ => exact absurd hm (by omega)
    | m + 1, hm, hrec =>
    by_cases hlt : k < (tl z).length
    · refine iteTd (decide_eq_true (by omega)) ⟨fun σ' H' => ∃ m', m' < m + 1 ∧ ∃ (k : Nat) (ds : List (Nat × PyData)) (xs : List V) (y4 : Option V), σ' = [some (.int (r : Nat)), some (.str z), some (.ref L), some (.int (k : Nat)), y4] ∧ Same H H' ∧ H' L = some (.lst xs) ∧ DnAll (fun a => a ≠ L) H' xs (ds.map itD) ∧ Reach r (tl z) k ∧ k ≤ (tl z).length ∧ (tl z).length + 1 ≤ m' + k ∧ xs.length ≤ k ∧
        rdAll r (tl z) ((tl z).length + 1) 0 = appA ds (rdAll r (tl z) m' k), fun _ _ h => h, ?_⟩
      refine ⟨_, rfl, _, rfl, _, rfl, r, z, k, rfl, h9, hk, hz, hb, hok k hrch hlt, fun e H2 s2 => ?_, fun d b e p x H2 hp s2 e2 hd => ?_⟩
      · rw [rdAll_err hlt e] at hrec
        exact ⟨_, rfl, rfl, _, rfl, iteTd rfl (raiseF (fun R r => ⟨_, rfl, r⟩) (q2 k hrec H2 (s1.trans s2)))⟩
      · obtain ⟨g1, g2⟩ := rdI_gt e
        rw [rdAll_go hlt e, appA_app] at hrec
        have e1' := s2 _ _ e1
        have npL : p ≠ L := fun h => by rw [h] at hp; rw [hp] at e1; cases e1
        refine ⟨_, rfl, rfl, _, rfl, iteFd rfl ⟨_, rfl, .inl ⟨rfl, _, SqL.of e1'⟩, _, rfl, _, rfl, p, _, 0, _, rfl, rfl, SqT.of e2, at0 _ _, (by show 2 ≤ sizeLine; decide), fun T hT => ?_⟩⟩
        have nTL : T ≠ L := fun h => by rw [h] at hT; rw [hT] at e1'; cases e1'
        have nTp : p ≠ T := ne_of_none e2 hT
        have sT := Same.new hT (o := .tup [.int (k : Nat), x])
        have kp : ∀ c o, c ≠ L → (upd H2 T (.tup [.int (k : Nat), x])) c = some o → upd (upd H2 T (.tup [.int (k : Nat), x])) L (.lst (xs ++ [.ref T])) c = some o := fun c o hc e => by rw [upd_ne hc]; exact e
        refine ⟨L, xs, .ref T, rfl, rfl, sT _ _ e1', ?_, _, rfl, p, _, 1, _, rfl, rfl, SqT.of (kp _ _ npL (sT _ _ e2)), rfl, ?_⟩
        · exact Nat.lt_of_le_of_lt (show xs.length ≤ 100000 by omega) (by have := sizeLine_eq; omega)
        · refine ⟨m, by omega, b, ds ++ [(k, d)], _, _, rfl, Same.upd' ((s1.trans s2).trans sT) hL, upd_same, ?_, .go hrch e, g2, by omega, by rw [List.length_append]; simp; omega, hrec⟩
          rw [List.map_append]
          refine DnAll.app (((hxs.same s2).same sT).keep kp fun _ h => h) (.cons (.tup nTL (kp _ _ nTL upd_same) (.cons (.int _) (.cons ((hd.same sT).offL2 (rdI_flat e) (sT _ _ e1') kp) .nil))) .nil)
    · refine iteFd (decide_eq_false (by omega)) ?_
      rw [rdAll_stop hlt] at hrec
      refine ⟨_, rfl, q1 ds ?_ L xs H1 hL s1 e1 hxs⟩
      rw [hrec]
      show Except.ok (ds ++ []) = _
      rw [List.append_nil]
end
end SA

set_option Elab.async false
set_option linter.all false
set_option maxRecDepth 100000
set_option maxHeartbeats 1000000
namespace SA
open PySem PySem.Spec PyProof.Rows L2 K83
open K82 hiding mk tl_mk mk_tl
/-- what bits_of promises of the items ds: all written, or the first that is none -/
def BitsQ (r : Nat) (ds : List PyData) (BI : Addr) (H : Hp) (Q : VK) (E : XK) : Prop := ((∀ d ∈ ds, judged r d = true) → ∀ H', Same H H' → Q (.str (K83.mk (ds.map encI).flatten)) H') ∧
  ∀ i d, ds[i]? = some d → judged r d = false → (∀ j e, j < i → ds[j]? = some e → judged r e = true) → ∀ H', Same H H' → RaiseF BI "at" (.int (i : Nat)) H' E
def spBitsOfL (K : PySem.W.Frag) (BR BI : Addr) : Sp := fun vs H Q E => ∃ (r : Nat) (a : Addr) (xs : List V) (ds : List PyData), vs = [.int r, .ref a] ∧ 6 ≤ r ∧ r ≤ 9 ∧ H a = some (.lst xs) ∧ DnAll (fun b => b ≠ a) H xs ds ∧ (∀ d ∈ ds, okD d = true) ∧ ds.length ≤ 900 ∧ BitsQ r ds BI H Q E
theorem encI_len {r : Nat} {d : PyData} (h : judged r d = true) (ho : okD d = true) : (encI d).length ≤ 600 := by
  obtain ⟨w, ps, ls, rfl, hm, hlk, hps⟩ := judged_ex h
  have hl4 : ls.length ≤ 4 := (tab_copy _ hm).2.2
  obtain ⟨hlen, hall⟩ := arePs_all r ls ps hps
  obtain ⟨_, ho2⟩ := okD_tup ho
  have ho3 : okDs ps = true := by
    have h : (okD (.str w) && okDs ps) = true := ho2
    rw [Bool.and_eq_true] at h
    exact h.2
  have e : encI (.tuple (.str w :: ps)) = bdig 5 (wix w) ++ ((ps.zip ls).map fun q => encPart q.2 q.1).flatten := by
    rw [show encI (.tuple (.str w :: ps)) = bdig 5 (wix w) ++ encPs ((tab.lookup w).getD []) ps from rfl, hlk, show (some ls).getD [] = ls from rfl, encPs_zip ls ps hlen]
  have hs : ∀ l : List K82.L, (∀ x ∈ l, x.length ≤ 130) → l.flatten.length ≤ l.length * 130 := by
    intro l
    induction l with
    | nil => intro _; simp
    | cons x l ih =>
      intro h
      have := ih fun y hy => h y (List.mem_cons_of_mem _ hy)
      have h1 := h x List.mem_cons_self
      rw [List.flatten_cons, List.length_append, List.length_cons, Nat.succ_mul]
      omega
  have := hs ((ps.zip ls).map fun q => encPart q.2 q.1) fun x hx => by
    obtain ⟨q, hq, rfl⟩ := List.mem_map.mp hx
    exact encPart_len (hall q hq) (okDs_mem ho3 (List.of_mem_zip hq).1)
  rw [List.length_map, List.length_zip] at this
  rw [e, List.length_append, K82.bdig_len]
  omega
section
variable {P : Program} {w0 : World} {K : PySem.W.Frag} {mg : Str → Option Value} {base : Heap} {BR BA BB BI fI fJ : Addr} {fdI fdJ : FuncData}
theorem ok_bits_of_L {f : Addr} {fd : FuncData} (F : Fun K "bits_of" "bits_of" s_bits_of f fd) (B : Bn3 mg) (OI : Cl1 P w0 K mg base "BadInstruction" "at" BI fJ fdJ) (c__check_registers : Dq P w0 K mg base (L2.CX P w0) 3 "_check_registers" ["registers"] (spChkR K BR))
    (c_is_list : Dq P w0 K mg base CX0 1 "is_list" ["thing"] (spIsList K)) (c_has_instruction_form : Dq P w0 K mg base CX0 5 "has_instruction_form" ["registers", "thing"] (spInsF K)) (c_bits_of_instruction : Dq P w0 K mg base CX0 5 "bits_of_instruction" ["told"] spInsB) :
    FnOk P w0 K mg base (L2.CX P w0) 7 f fd ["registers", "instructions"] (spBitsOfL K BR BI) := by
  refine F.okX sc_bits_of (fun vs H Q E h => ?_) (fun cdv A outer s H vs Q E hr h => ?_)
  · obtain ⟨r, a, xs, ds, rfl, _⟩ := h
    rfl
  · obtain ⟨r, a, xs, ds, rfl, h6, h9, hx, hds, hok, h20, q1, q2⟩ := h
    refine ⟨_, (pss_cons (ps_expr (pe_qX c__check_registers hr (by decide) (by rfl) (passes_call (takes_of rfl rfl rfl rfl) fun _ _ _ _ h => h) (pa_cons (pv 0) pa_nil)))
      (pss_cons (ps_if (pt_not (pt_val (pe_q c_is_list hr (by decide) (by rfl) (pa_cons (pv 1) pa_nil)))) (pss_one (ps_raise rfl (takes_of rfl rfl rfl rfl) (pmk_oex OI.o.oex OI.o.init OI.o.fn OI.G (hr.mono (by decide)) OI.b .nil pass0 (by rfl) OI.g (pa_cons pe_non pa_nil)))) pss_nil)
      (pss_cons (ps_for (passes_of rfl) rfl (pi_enum (by rfl) B.enumerate (pa_cons (pv 1) pa_nil)) (pg_tup (by rfl) (pgs_cons (pg_name (i := 2) sc_bits_of.nd rfl (Or.inl rfl)) (pgs_cons (pg_name (i := 3) sc_bits_of.nd rfl (Or.inl rfl)) pgs_nil))) (pss_one (ps_if (pt_not (pt_val (pe_q c_has_instruction_form hr (by decide) (by rfl) (pa_cons (pv 0) (pa_cons (pv 3) pa_nil))))) (pss_one (ps_raise rfl (takes_of rfl rfl rfl rfl) (pmk_oex OI.o.oex OI.o.init OI.o.fn OI.G (hr.mono (by decide)) OI.b .nil pass0 (by rfl) OI.g (pa_cons (pv 2) pa_nil)))) pss_nil)))
      (pss_one (ps_ret (pe_join pe_str (pe_lc (own := [("told", 3)]) (g := (gName 3)) (tt := tYes) (by rfl) sc_bits_of.nd (pi_list (pv 1)) (blkOk_by (N := n_bits_of) (sc := defScope s_bits_of) (by decide +kernel)) (fun _ _ _ _ _ => (pg_name (i := 3) sc_bits_of.nd rfl (Or.inl rfl))) (fun _ _ _ _ _ => pts_nil) (fun _ _ _ _ _ => (pe_q c_bits_of_instruction hr (by decide) (by rfl) (pa_cons (pv 3) pa_nil)))))))))), ?_⟩
    have hl := hds.len
    refine ⟨_, rfl, _, "int", rfl, .int _, .inl ⟨r, rfl, h6, h9, ?_⟩⟩
    refine ⟨_, rfl, .ref a, "list", rfl, fun H1 s1 => ⟨.lst (.base (.lst (s1 _ _ hx))), _, rfl, iteFd (by decide) ?_⟩⟩
    have hx1 := s1 _ _ hx
    refine ⟨_, rfl, a, xs, rfl, SqL.of hx1, for_it walk_enum (fun i σ H2 => ∃ y2 y3, σ = [some (.int (r : Nat)), some (.ref a), y2, y3] ∧ Same H1 H2 ∧ ∀ j e, j < i → ds[j]? = some e → judged r e = true) ⟨none, none, rfl, Same.refl _, fun j e h => absurd h (Nat.not_lt_zero _)⟩ (fun i σ H2 _ ⟨_, _, _, h, _⟩ => SqL.of (h _ _ hx1)) ?_ ?_⟩
    · rintro i x σ H2 H' hi ⟨y2, y3, rfl, s2, hj⟩ ⟨T, y, x', rfl, hT, rfl, hy, hxi⟩
      obtain ⟨d, hdi, hdn⟩ := ((hds.same s1).same s2).at hxi
      obtain rfl : y = .int (i : Nat) := (Option.some.inj hy).symm
      have hm := List.mem_of_getElem? hdi
      have sT := Same.new hT (o := .tup [.int (i : Nat), x'])
      refine ⟨T, _, rfl, SqT.of upd_same, rfl, _, _, rfl, _, _, rfl, rfl, ?_⟩
      refine ⟨_, rfl, _, rfl, r, x', d, rfl, hdn.any.same sT, okD_E _ (hok d hm), h9, fun H3 s3 => ⟨_, rfl, ?_⟩⟩
      have s123 := s2.trans (sT.trans s3)
      cases hjd : judged r d with
      | true =>
        refine iteFd rfl ⟨_, _, rfl, s123, fun j e hji he => ?_⟩
        by_cases hji2 : j = i
        · subst hji2
          rw [hdi] at he
          rw [← Option.some.inj he]
          exact hjd
        · exact hj j e (by omega) he
      | false => exact iteTd rfl (raiseF (fun R r => ⟨_, rfl, r⟩) (q2 i d hdi hjd hj H3 (s1.trans s123)))
    · rintro σ H2 ⟨y2, y3, rfl, s2, hj⟩
      have hall : ∀ d ∈ ds, judged r d = true := fun d hd => by
        obtain ⟨j, hj2⟩ := List.getElem?_of_mem hd
        have := (List.getElem?_eq_some_iff.mp hj2).1
        exact hj j d (by omega) hj2
      have hx2 := s2 _ _ hx1
      have hds2 := (hds.same s1).same s2
      refine ⟨⟨_, rfl⟩, _, rfl, a, rfl, ⟨xs, SqL.of hx2⟩, fun p hp => lc_it walk_list (fun i H' => Same H2 H' ∧ H' p = some (.lst ((((ds.take i).map encI).map K83.mk).map V.str))) ⟨Same.new hp, upd_same⟩ (fun i H' _ h => SqL.of (h.1 _ _ hx2)) ?_ ?_⟩
      · rintro i x H3 H' hi ⟨s3, e3⟩ ⟨rfl, hxi⟩
        obtain ⟨d, hdi, hdn⟩ := (hds2.same s3).at hxi
        have hm := List.mem_of_getElem? hdi
        refine ⟨rfl, yes ⟨_, rfl, r, x, d, rfl, hdn.any, hok d hm, hall d hm, fun H4 s4 => ⟨_, s4 _ _ e3, ?_, Same.upd' (s3.trans s4) hp, ?_⟩⟩⟩
        · rw [List.length_map, List.length_map, List.length_map, List.length_take]
          exact small1000 (Nat.le_trans (Nat.min_le_right _ _) (Nat.le_trans h20 (by decide)))
        · rw [upd_same, take_map hdi, List.map_append, List.map_append]
          rfl
      · rintro H3 ⟨s3, e3⟩
        rw [hl, List.take_length] at e3
        refine ⟨_, p, _, rfl, rfl, .inl (SqL.of e3), ?_, ?_⟩
        · have := sum_le (k := 600) (ds.map encI) fun l hl => by
            obtain ⟨d, hd, rfl⟩ := List.mem_map.mp hl
            exact encI_len (hall d hd) (hok d hd)
          rw [List.length_map] at this
          rw [show ("" : Str).length = 0 by decide +kernel]
          omega
        · rw [join_flat]
          exact q1 hall H3 (s1.trans (s2.trans s3))
end
end SA

set_option Elab.async false
set_option linter.all false
set_option maxRecDepth 100000
set_option maxHeartbeats 4000000
namespace PySem
open AutoSeq1 (wpAny_loadPart')
theorem meets_enumerate_newT (l : Addr) (items : Array Value) (n : Nat) (dct : Option Addr) (sl : Array (Option Value)) :
    Meets (Builtin.«enumerate.__new__» ⟨[.type "enumerate", .ref l], []⟩) (fun _ R s => s.heap.get? l = some { cls := .type "tuple", dict := dct, data := .seq items n, slots := sl } ∧
      R (.ok (.ret (.ref (s.heap.push { cls := .type "tuple_iterator", data := .fields #[.ref l, .int 0 0] }).objs.size)))
        { s with heap := (s.heap.push { cls := .type "tuple_iterator", data := .fields #[.ref l, .int 0 0] }).push { cls := .type "enumerate", data := .fields #[.none, .bool false, .ref s.heap.objs.size, rawInt 0, .none, .none] } }) :=
  .of_wp fun prog w A R s h => by
    obtain ⟨hp, g, d, tk, os⟩ := s; obtain ⟨hl, h⟩ := h
    have hsub := sub_enumerate
    have hL : Heap.IsTuple (Shared.heap ⟨hp, g, d, tk, os⟩) l items := ⟨_, hl, rfl, n, rfl⟩
    wp_walk using wpAny_loadPart' hl
    refine wpAny_stack_any fun st => wpAny_pure ?_
    split
    · rename_i c _ _ _ _ _
      cases (c == Value.type "enumerate")
      · wp_walk using wpAny_loadPart' hl, wpAny_pyIter_tuple hL
        exact ⟨_, rfl, h⟩
      · wp_walk using wpAny_loadPart' hl, wpAny_pyIter_tuple hL
        exact ⟨_, rfl, h⟩
    · wp_walk using wpAny_loadPart' hl, wpAny_pyIter_tuple hL
      exact ⟨_, rfl, h⟩
section
variable {prog : Program} {w : World} {A : Around} {E : Value → Shared → Prop} {s : Shared}
theorem call_enumerate_tuple {l : Addr} {items : Array Value} {Q : Value → Shared → Prop} (hL : s.heap.IsTuple l items)
    (h : ∀ h', IsEnum h' (s.heap.objs.size + 1) s.heap.objs.size 0 .none → h'.IsTupleIter s.heap.objs.size l 0 → h'.objs.size = s.heap.objs.size + 2 →
      (∀ b o, s.heap.get? b = some o → h'.get? b = some o) → Q (.ref (s.heap.objs.size + 1)) { s with heap := h' }) :
    wpAny (model prog w) A (call (.type "enumerate") [.ref l]) Q E s := by
  obtain ⟨⟨c, dct, dt, sl⟩, hl, hc, n, hd⟩ := hL
  replace hc : c = .type "tuple" := hc
  replace hd : dt = .seq items n := hd
  subst hc hd
  refine callType_new F.called_enumerate (by decide) (F.typeCall_enumerate_1 _) (F.newCall_enumerate_1 _) (fun obj => F.args_object_init_2 obj _) F.entry_enumerate_new
    (meets_enumerate_newT l items n dct sl) ⟨hl, ?_⟩
  have hz : (s.heap.push { cls := .type "tuple_iterator", data := .fields #[.ref l, .int 0 0] }).objs.size = s.heap.objs.size + 1 := Heap.size_push ..
  show _ ∧ _
  rw [hz]
  have he : IsEnum ((s.heap.push { cls := .type "tuple_iterator", data := .fields #[.ref l, .int 0 0] }).push
      { cls := .type "enumerate", data := .fields #[.none, .bool false, .ref s.heap.objs.size, rawInt 0, .none, .none] }) (s.heap.objs.size + 1) s.heap.objs.size 0 .none := by
    have := Heap.get?_push_size (s.heap.push { cls := .type "tuple_iterator", data := .fields #[.ref l, .int 0 0] })
      (o := { cls := .type "enumerate", data := .fields #[.none, .bool false, .ref s.heap.objs.size, rawInt 0, .none, .none] }) rfl
    rw [hz] at this; exact this
  refine ⟨⟨_, he, rfl⟩, h _ he ⟨_, Heap.get?_push_of_some _ (Heap.get?_push_size _ rfl), rfl, rfl⟩ (by rw [Heap.size_push, hz]) fun b o x => Heap.get?_push_of_some _ (Heap.get?_push_of_some _ x)⟩
end
end PySem

set_option Elab.async false
set_option linter.all false
set_option maxRecDepth 100000
set_option maxHeartbeats 4000000
namespace SA
open PySem PySem.Spec PyProof.Rows L2
/-! ### enumerate(tuple) -/
def IteT (K : PySem.W.Frag) (a : Addr) : It :=
  ⟨fun i H => ∃ (xs : List V) (x : V), SqT K H a xs ∧ xs[i]? = some x, fun i H v H' => ∃ T x, v = .ref T ∧ H T = none ∧ H' = upd H T (.tup [.int (i : Nat), x]) ∧ ∀ xs, SqT K H a xs → xs[i]? = some x, fun i H => ∃ xs : List V, SqT K H a xs ∧ xs.length = i⟩
theorem turn_enumT {P : Program} {w : World} {K : PySem.W.Frag} {elts : List Expr} {kk : Nat} {tpos : Pos} (a e it : Addr) (hae : a ≠ e) (hai : a ≠ it) :
    Turn P w K (.Tuple elts kk tpos) (IteT K a) [e, it] e (fun i h => (∃ old, IsEnum h e it ((i : Nat) : Int) old) ∧ h.IsTupleIter it a i ∧ e ≠ it) where
  mem := by simp
  obj := fun i h st b hb => by
    obtain ⟨⟨old, he⟩, ⟨o, ho, hc, hd⟩, _⟩ := st
    have e' : b = e ∨ b = it := by simpa using hb
    rcases e' with z | z
    · rw [z]; exact ⟨_, he, fun v q => nomatch q⟩
    · rw [z]; exact ⟨o, ho, fun v q => by rw [hd] at q; cases q⟩
  keep := fun i h h' st k => let ⟨⟨old, he⟩, hi, hne⟩ := st; ⟨⟨old, k e (by simp) _ he⟩, hi.at fun o q => k it (by simp) o q, hne⟩
  item := by
    intro X hP hw hK hc i pins s σ H E I hf st hg
    subst hP hw hK
    obtain ⟨⟨old, he⟩, hit, hne⟩ := st
    obtain ⟨xs, x, hq, hx⟩ := hg
    obtain ⟨its, rv, p, hz⟩ := I.tuple hq
    obtain ⟨u0, hu0, ru0⟩ := rv.get hx
    have hel : e < s.heap.objs.size := Heap.lt_size he
    have hil : it < s.heap.objs.size := by obtain ⟨_, q, _⟩ := hit; exact Heap.lt_size q
    have hlt : i < its.toArray.size := by rw [List.size_toArray, ← rv.length]; exact (List.getElem?_eq_some_iff.mp hx).1
    refine wpAny_pyNext_enum_itemD (Draws.tuple (prog := X.prog) (w := X.w) (A := X.A.in1) (I.ok.hd hc) it a hai its.toArray) he ⟨hit, p⟩ hlt hne (by simp [hne, hae.symm]) fun u h' tk hpu ho hst hT hsz hk => ?_
    have hu : its.toArray[i]? = some u := hpu
    have hui : its[i]? = some u := by simpa using hu
    rw [hui] at hu0
    have ru : RelV x u := by rw [Option.some.inj hu0]; exact ru0
    have hit' := hst.1
    refine ⟨_, rfl, wpAny_letOwnedTupleGo_enum (s := { s with heap := h', toks := tk + 1 }) ho fun h'' he' sb => ?_⟩
    have hT2 : h''.get? s.heap.objs.size = some { cls := .type "tuple", data := .seq #[.int i tk, u] } := (sb.2 _ (Nat.ne_of_gt hel)).trans hT
    have new : ObjOk X.prog X.w (upd H s.heap.objs.size (.tup [.int (i : Nat), x])) h'' s.heap.objs.size (.tup [.int (i : Nat), x]) :=
      ⟨by show 2 ≤ sizeLine; decide, [.int i tk, u], .cons ⟨_, rfl⟩ (.cons ru .nil), ⟨_, hT2, rfl, _, rfl⟩⟩
    have I1 : Inv X pins σ (upd H s.heap.objs.size (.tup [.int (i : Nat), x])) { s with heap := h'', toks := tk + 1 } :=
      I.turnedNew (t' := tk + 1) (ch := [e, it]) (fun b ob hb q => (sb.2 b (fun z => hb (by simp [z]))).trans (hk b ob (fun z => hb (by simp [z])) (fun z => hb (by simp [z])) q)) hf (Nat.le_refl _) new
    refine ⟨.ref s.heap.objs.size, _, I1, rfl, ⟨_, x, rfl, I.hok.fresh (Nat.le_refl _), rfl, fun ys hy => by rw [I.tuple_inj hy hq]; exact hx⟩, ⟨⟨u, ?_⟩, hit'.at fun o q => (sb.2 it (Ne.symm hne)).trans q, hne⟩, fun b hb => ?_⟩
    · have e1 : ((i + 1 : Nat) : Int) = (i : Int) + 1 := by omega
      rw [e1]; exact he'
    · have hb' : b < s.heap.objs.size := by
        have e' : b = e ∨ b = it := by simpa using hb
        rcases e' with z | z
        · rw [z]; exact hel
        · rw [z]; exact hil
      rw [upd_ne (Nat.ne_of_lt hb')]
      exact (hf b hb).1
  done := by
    intro X hP hw hK hc i pins s σ H E I hf st hg
    subst hP hw hK
    obtain ⟨⟨old, he⟩, hit, hne⟩ := st
    obtain ⟨xs, hq, rfl⟩ := hg
    obtain ⟨its, rv, p, hz⟩ := I.tuple hq
    obtain ⟨f0, f1, f2, f3, f4, f5⟩ := hf it (by simp)
    have hl : its.toArray.size = xs.length := by rw [List.size_toArray, ← rv.length]
    exact wpAny_pyNext_enum_endD (Draws.tuple (prog := X.prog) (w := X.w) (A := X.A.in1) (I.ok.hd hc) it a hai its.toArray) he (by rw [hl]; exact ⟨hit, p⟩) fun h' eb => ⟨rfl, I.turned (t' := s.toks) (fun b o hb q => eb b o hb q) f0 f1 f3 f4 f5⟩
  self := fun A i s Q E st h => let ⟨⟨_, he⟩, _⟩ := st; wpAny_pyIter_enum he h
def iEnumT (K : PySem.W.Frag) (ta : TA) : TI := fun σ H R => ta σ H fun vs H1 => ∃ a xs, vs = [.ref a] ∧ SqT K H1 a xs ∧ R (IteT K a) H1
theorem pi_enumT {X : Cx} {e : Expr} {ta : TA} {p pos tpos : Pos} {elts : List Expr} {kk : Nat} (hg : Gl X "enumerate") (hm : X.mg "enumerate" = none) (ha : PA X [e] ta) (hs : starEach [e] X.env = [(false, eval e X.env)] := by rfl) :
    PI X (.Tuple elts kk tpos) (.Call (.Name "enumerate" p) [e] [] pos) (iEnumT X.K ta) := by
  refine ⟨fun pins s σ H R I h => ?_⟩
  refine Call_ (ld_blt I hg hm PyProof.Rows.boot_enumerate (PyProof.Rows.callWith_type1 (thn (ha.run pos pins s σ H _ I h) fun us s1 ⟨vs, H1, I1, r1, q1⟩ => ?_) hs rfl))
  obtain ⟨a, xs, ex, hq, q⟩ := q1
  subst ex
  cases r1 with
  | cons r rr =>
    cases rr
    cases r
    obtain ⟨its, rv, p', hz⟩ := I1.tuple hq
    have hal : a < s1.heap.objs.size := by obtain ⟨_, e2, _⟩ := id p'; exact Heap.lt_size e2
    refine call_enumerate_tuple p' fun h' he hit hsz hk => wpAny_pyIter_enum he ?_
    have I2 : Inv X pins σ H1 { s1 with heap := h' } := I1.kept (t' := s1.toks) hk
    refine ⟨s1.heap.objs.size + 1, [s1.heap.objs.size + 1, s1.heap.objs.size], _, _, H1, rfl, I2, turn_enumT a (s1.heap.objs.size + 1) s1.heap.objs.size (Nat.ne_of_lt (Nat.lt_succ_of_lt hal)) (Nat.ne_of_lt hal), ⟨⟨.none, he⟩, hit, Nat.succ_ne_self _⟩, fun b hb => ?_, q⟩
    have e' : b = s1.heap.objs.size + 1 ∨ b = s1.heap.objs.size := by simpa using hb
    have hle : s1.heap.objs.size ≤ b := by
      rcases e' with z | z
      · rw [z]; exact Nat.le_add_right _ _
      · rw [z]; exact Nat.le_refl _
    exact I1.fpOk hle (I1.hok.fresh hle)
theorem walk_enumT {K : PySem.W.Frag} {a : Addr} {xs : List V} : Walk (IteT K a) xs.length (fun H => SqT K H a xs) (YPair (fun i => some (.int (i : Nat))) (fun i => xs[i]?)) := by
  refine ⟨fun i _ hi q => ⟨xs, xs[i], q, by simp [hi]⟩, fun _ q => ⟨xs, q, rfl⟩, fun i H v H' _ q y => ?_⟩
  obtain ⟨T, x, h1, h2, h3, h4⟩ := y
  exact ⟨T, .int (i : Nat), x, h1, h2, h3, rfl, h4 xs q⟩
end SA

set_option Elab.async false
set_option linter.all false
set_option maxRecDepth 100000
set_option maxHeartbeats 4000000
namespace K82
open PySem
/-- the digits from behind -/
theorem bdig_front : ∀ (k m : Nat), bdig (k + 1) m = (48 + m / 2 ^ k % 2) :: bdig k m
  | 0, m => by simp [bdig]
  | k + 1, m => by
    rw [bdig, bdig_front k (m / 2), bdig, List.cons_append, Nat.div_div_eq_div_mul, Nat.pow_succ, Nat.mul_comm 2]
theorem toStr2 (n : Nat) : ((toString ((n % 2 : Nat) : Int) : String) : Str) = mk [48 + n % 2] := by
  rcases (show n % 2 = 0 ∨ n % 2 = 1 by omega) with h | h
  · rw [h]
    decide +kernel
  · rw [h]
    decide +kernel
theorem mk_app (a b : L) : mk a ++ mk b = mk (a ++ b) := by
  show (⟨_⟩ : Str) = _
  simp [mk]
theorem bval_le : ∀ (l : L), IsB l → bval l < 2 ^ l.length := by
  intro l
  unfold bval
  have h : ∀ (l : L) (a : Nat), IsB l → l.foldl (fun a c => 2 * a + dv c) a < (a + 1) * 2 ^ l.length := by
    intro l
    induction l with
    | nil => intro a _; simp
    | cons c l ih =>
      intro a hb
      rw [List.foldl_cons, List.length_cons, Nat.pow_succ]
      have h1 := ih (2 * a + dv c) fun d hd => hb d (List.mem_cons_of_mem _ hd)
      have h2 : dv c ≤ 1 := by
        rcases hb c (List.mem_cons_self ..) with rfl | rfl <;> decide
      refine Nat.lt_of_lt_of_le h1 ?_
      rw [Nat.mul_comm (2 ^ l.length) 2, ← Nat.mul_assoc]
      exact Nat.mul_le_mul_right _ (by omega)
  intro hb
  have := h l 0 hb
  simpa using this
theorem bval_take {l : L} {i c : Nat} (h : l[i]? = some c) : bval (l.take (i + 1)) = 2 * bval (l.take i) + dv c := by
  rw [List.take_add_one, h]
  exact bval_snoc _ _
theorem sgn_at {i : Nat} {c : Nat} : Str.length (mk [c]) = 1 := by rw [len_mk]; rfl
theorem intT0 : PySem.intText? (mk [48]) = some 0 := by decide +kernel
theorem intT1 : PySem.intText? (mk [49]) = some 1 := by decide +kernel
theorem intT {c : Nat} (h : c = 48 ∨ c = 49) : PySem.intText? (mk [c]) = some ((dv c : Nat) : Int) := by
  rcases h with rfl | rfl
  · exact intT0
  · exact intT1
theorem zs_at : ∀ (l : L) (i c : Nat), i ≤ zs l → l[i]? = some c → (c = 48 ↔ i < zs l)
  | [], i, c, _, h => by simp at h
  | d :: l, i, c, hi, h => by
    by_cases hd : d = 48
    · have e1 : zs (d :: l) = zs l + 1 := by simp [zs, hd]
      rw [e1] at hi ⊢
      cases i with
      | zero =>
        simp at h
        omega
      | succ i =>
        rw [List.getElem?_cons_succ] at h
        have := zs_at l i c (by omega) h
        omega
    · have e1 : zs (d :: l) = 0 := by simp [zs, hd]
      rw [e1] at hi ⊢
      have : i = 0 := by omega
      subst this
      simp at h
      omega
end K82
namespace SA
open PySem PySem.Spec PyProof.Rows L2
open K82
theorem DrawAt.knowD {H : Hp} {d w c p : Addr} {n : Nat} (h : DrawAt H d w c n) (hp : H p = none) : p ≠ d ∧ p ≠ w ∧ p ≠ c := by
  obtain ⟨⟨r, t, _, _, e1⟩, ⟨ws, e2⟩, ⟨cs, e3⟩, _⟩ := h
  exact ⟨(ne_of_none e1 hp).symm, (ne_of_none e2 hp).symm, (ne_of_none e3 hp).symm⟩
/-- something of one's own is changed -/
theorem DrawAt.upd {H : Hp} {d w c p : Addr} {n : Nat} {o : HO} (h : DrawAt H d w c n) (h1 : p ≠ d) (h2 : p ≠ w) (h3 : p ≠ c) : DrawAt (upd H p o) d w c n := by
  obtain ⟨⟨r, t, a1, a2, e⟩, ⟨ws, e2⟩, ⟨cs, e3⟩, ne⟩ := h
  exact ⟨⟨r, t, a1, a2, by rw [upd_ne h1.symm]; exact e⟩, ⟨ws, by rw [upd_ne h2.symm]; exact e2⟩, ⟨cs, by rw [upd_ne h3.symm]; exact e3⟩, ne⟩
theorem But2.mut {d w p : Addr} {H H' : Hp} {o : HO} (b : But2 d w H H') (h : H p = none) : But2 d w H (L2.upd H' p o) := fun x u e h1 h2 => by
  rw [upd_ne (ne_of_none e h)]
  exact b x u e h1 h2
theorem But2.free {d w p : Addr} {H H' : Hp} (b : But2 d w H H') (h : H' p = none) (h1 : p ≠ d) (h2 : p ≠ w) : H p = none := by
  match e : H p with
  | none => rfl
  | some o =>
    have := b p o e h1 h2
    rw [h] at this
    cases this
theorem Same.but2 {d w : Addr} {H H' : Hp} (s : Same H H') : But2 d w H H' := fun b o e _ _ => s b o e
theorem tl_inj' {a b : Str} (h : tl a = tl b) : a = b := by rw [← mk_tl a, ← mk_tl b, h]
theorem join_signs (l : L) : Txt.join "" (l.map fun c => mk [c]) = mk l := by
  rw [TL.join_eq]
  have e : ∀ l : L, tl (Str.join "" (l.map fun c => mk [c])) = l := by
    intro l
    induction l with
    | nil => rfl
    | cons c l ih =>
      rw [List.map_cons]
      cases hl : l.map (fun c => mk [c]) with
      | nil =>
        have : l = [] := by simpa using hl
        subst this
        rfl
      | cons y r =>
        rw [hl] at ih
        show tl (mk [c] ++ "" ++ Str.join "" (y :: r)) = _
        show (mk [c] ++ "" ++ Str.join "" (y :: r)).cps.toList = _
        have e1 : ∀ a b : Str, (a ++ b).cps.toList = a.cps.toList ++ b.cps.toList := fun a b => by
          show (a.cps ++ b.cps).toList = _
          rw [Array.toList_append]
        have ih : (Str.join "" (y :: r)).cps.toList = l := ih
        rw [e1, e1, ih]
        rfl
  exact tl_inj' (by rw [e, tl_mk])
def spFig82 : Sp := fun vs H Q _ => ∃ (d w c : Addr) (n : Nat), vs = [.ref d] ∧ DrawAt H d w c n ∧ n < 2 ^ 39 ∧ ∀ (i : Int) (H' : Hp), i.natAbs ≤ 1000000000000 → DrawAt H' d w c (n + 5) → But2 d w H H' → Q (.int i) H'
def spDig : Sp := fun vs H Q _ => ∃ (m k : Nat), vs = [.int m, .int k] ∧ k ≤ 100 ∧ Q (.str (mk (bdig k m))) H
def spVal82 : Sp := fun vs H Q _ => ∃ z : Str, vs = [.str z] ∧ z.length ≤ 300 ∧ IsB (tl z) ∧ Q (.int ((bval (tl z) : Nat) : Int)) H
section
variable {P : Program} {w0 : World} {K : PySem.W.Frag} {mg : Str → Option Value} {base : Heap}
theorem okl_digits {f : Addr} {fd : FuncData} (F : Fun K "_law_digits" "_law_digits" s__law_digits f fd) (B : Bn2 mg) : FnOk P w0 K mg base CX0 1 f fd ["number", "many"] spDig := by
  refine F.ok sc__law_digits (fun vs H Q E h => ?_) (fun cdv A outer s H vs Q E hr h => ?_)
  · obtain ⟨m, k, rfl, _⟩ := h
    rfl
  · obtain ⟨m, k, rfl, hk, q⟩ := h
    refine ⟨_, (pss_cons (ps_par (i := 2) (j := 3) rfl sc__law_digits.nd rfl rfl (by decide) rfl rfl (pa_cons pe_str (pa_cons (pv 0) pa_nil)) rfl)
      (pss_cons (ps_for PassesOwn.never rfl (pi_range1 (by rfl) B.range (pa_cons (pv 1) pa_nil)) (pg_name (i := 4) sc__law_digits.nd rfl (Or.inl rfl)) (pss_cons (ps_set (i := 2) sc__law_digits.nd rfl (Or.inl rfl) (pe_op op_add_str (pe_callTy call_str_int (by rfl) B.str PySem.Pv.boot_str (pa_cons (pe_op op_mod (pe_callTy call_int1 (by rfl) B.int PySem.Pv.boot_int (pa_cons (pv 3) pa_nil)) pe_int) pa_nil)) (pv 2)))
      (pss_one (ps_set (i := 3) sc__law_digits.nd rfl (Or.inl rfl) (pe_op op_fdiv (pv 3) pe_int)))))
      (pss_one (ps_ret (pv 2))))), ?_⟩
    have b62 : (100 : Int) < 2 ^ 62 := by decide
    refine ⟨_, rfl, _, _, rfl, _, rfl, (k : Int), rfl, by omega, by omega, ?_⟩
    rw [Int.toNat_natCast]
    refine for_range (lo := 0) (n := k) (fun i σ H' => H' = H ∧ ∃ y, σ = [some (.int m), some (.int k), some (.str (mk (bdig i m))), some (.int ((m / 2 ^ i : Nat) : Int)), y]) ⟨rfl, none, ?_⟩ ?_ ?_
    · simp [bdig]
      rfl
    · rintro i σ H' hi ⟨rfl, y, rfl⟩
      refine ⟨_, rfl, .inl ⟨_, rfl, _, _, rfl, rfl, (by show (0 : Int) < 2; decide), _, rfl, ?_, _, rfl, _, _, rfl, rfl, ?_, _, rfl, _, _, rfl, rfl, ⟨by decide, by decide⟩, rfl, some (.int (0 + (i : Int))), ?_⟩⟩
      · refine Nat.lt_of_le_of_lt (Nat.log2_le_self _) ?_
        omega
      · rw [show ((m / 2 ^ i : Nat) : Int) % 2 = ((m / 2 ^ i % 2 : Nat) : Int) by omega, toStr2, len_mk, len_mk, bdig_len]
        exact small5 (by show 1 + i ≤ 100000; omega)
      · rw [show ((m / 2 ^ i : Nat) : Int) % 2 = ((m / 2 ^ i % 2 : Nat) : Int) by omega, toStr2, mk_app, bdig_front]
        have e : ((m / 2 ^ i : Nat) : Int) / 2 = ((m / 2 ^ (i + 1) : Nat) : Int) := by
          rw [Nat.pow_succ, ← Nat.div_div_eq_div_mul]
          omega
        dsimp only
        rw [e]
        rfl
    · rintro σ H' ⟨rfl, y, rfl⟩
      exact ⟨_, rfl, q⟩
theorem okl_count {f : Addr} {fd : FuncData} (F : Fun K "_law_count" "_law_count" s__law_count f fd) (c__law_digits : Dq P w0 K mg base CX0 1 "_law_digits" ["number", "many"] spDig) : FnOk P w0 K mg base CX0 2 f fd ["number"] spBitsC := by
  refine F.ok sc__law_count (fun vs H Q E h => ?_) (fun cdv A outer s H vs Q E hr h => ?_)
  · obtain ⟨n, rfl, _⟩ := h
    rfl
  · obtain ⟨n, rfl, hn, q⟩ := h
    refine ⟨_, (pss_cons (ps_par (i := 1) (j := 2) rfl sc__law_count.nd rfl rfl (by decide) rfl rfl (pa_cons pe_int (pa_cons (pe_op op_add (pv 0) pe_int) pa_nil)) rfl)
      (pss_cons (ps_while PassesOwn.never (pt_cmpR op_gt (pv 2) pe_int (nomark _)) (pss_one (ps_par (i := 1) (j := 2) rfl sc__law_count.nd rfl rfl (by decide) rfl rfl (pa_cons (pe_op op_add (pv 1) pe_int) (pa_cons (pe_op op_fdiv (pv 2) pe_int) pa_nil)) rfl)))
      (pss_one (ps_ret (pe_op op_add_str (pe_op op_mul_str pe_str (pv 1)) (pe_q c__law_digits hr (by decide) (by rfl) (pa_cons (pe_op op_add (pv 0) pe_int) (pa_cons (pe_op op_add (pv 1) pe_int) pa_nil)))))))), ?_⟩
    refine ⟨_, rfl, _, _, rfl, rfl, _, _, rfl, ?_⟩
    refine ⟨fun m σ H' => H' = H ∧ ∃ j : Nat, 2 ^ j ≤ n + 1 ∧ m = (n + 1) / 2 ^ j ∧ σ = [some (.int n), some (.int j), some (.int (((n + 1) / 2 ^ j : Nat) : Int))], ⟨_, rfl, 0, by simp, rfl, by simp; rfl⟩, ?_⟩
    rintro m σ H' ⟨rfl, j, hj, rfl, rfl⟩
    refine ⟨_, rfl, _, _, rfl, rfl, _, rfl, ite2 (fun h => ?_) (fun h => ?_)⟩
    · have h : ((n + 1) / 2 ^ j : Nat) > 1 := by have := of_decide_eq_true h; omega
      refine ⟨fun σ' H2 => ∃ m', m' < (n + 1) / 2 ^ j ∧ (H2 = H' ∧ ∃ j : Nat, 2 ^ j ≤ n + 1 ∧ m' = (n + 1) / 2 ^ j ∧ σ' = [some (.int n), some (.int j), some (.int (((n + 1) / 2 ^ j : Nat) : Int))]), fun σ' H2 z => z, ?_⟩
      have e : (n + 1) / 2 ^ (j + 1) = (n + 1) / 2 ^ j / 2 := by rw [Nat.pow_succ, Nat.div_div_eq_div_mul]
      refine ⟨_, rfl, _, _, rfl, rfl, _, rfl, _, _, rfl, rfl, ⟨by decide, by decide⟩, _, _, rfl, (n + 1) / 2 ^ (j + 1), by omega, rfl, j + 1, ?_, rfl, ?_⟩
      · have h2 : 2 * 2 ^ j ≤ n + 1 := Nat.le_trans (Nat.mul_le_mul_right _ h) (Nat.div_mul_le_self _ _)
        rw [Nat.pow_succ, Nat.mul_comm]
        exact h2
      · have e2 : (((n + 1) / 2 ^ j : Nat) : Int) / 2 = (((n + 1) / 2 ^ (j + 1) : Nat) : Int) := by omega
        dsimp only
        rw [e2]
        rfl
    · have h : ((n + 1) / 2 ^ j : Nat) ≤ 1 := by
        have : ¬ (((n + 1) / 2 ^ j : Nat) : Int) > 1 := fun z => h (decide_eq_true z)
        omega
      have hp : 0 < 2 ^ j := Nat.two_pow_pos j
      have h1 : n + 1 < 2 ^ (j + 1) := by
        have h2 : n + 1 < 2 ^ j * ((n + 1) / 2 ^ j + 1) := Nat.lt_mul_div_succ _ hp
        rw [Nat.pow_succ]
        exact Nat.lt_of_lt_of_le h2 (Nat.mul_le_mul_left _ (by omega))
      have ej : j = Nat.log2 (n + 1) := by
        have a1 := (Nat.le_log2 (by omega : n + 1 ≠ 0)).mpr hj
        have a2 := (Nat.log2_lt (by omega : n + 1 ≠ 0)).mpr h1
        omega
      have h60 := log60 hn
      refine ⟨_, rfl, "0", _, rfl, rfl, ?_, _, rfl, _, _, rfl, rfl, _, rfl, _, _, rfl, rfl, n + 1, j + 1, ?_, by omega, _, _, rfl, rfl, ?_, ?_⟩
      · rw [s0]
        exact mul_ok _ _ (by omega)
      · rfl
      · rw [s0, mul_one]
        show (mk (List.replicate j 48)).length + _ ≤ _
        rw [len_mk, len_mk, List.length_replicate, bdig_len]
        exact small5 (by omega)
      · rw [s0, mul_one, one_app, ej]
        exact q
theorem okl_signed {f : Addr} {fd : FuncData} (F : Fun K "_law_signed" "_law_signed" s__law_signed f fd) (c__law_count : Dq P w0 K mg base CX0 2 "_law_count" ["number"] spBitsC) : FnOk P w0 K mg base CX0 3 f fd ["number"] spBitsN := by
  refine F.ok sc__law_signed (fun vs H Q E h => ?_) (fun cdv A outer s H vs Q E hr h => ?_)
  · obtain ⟨n, rfl, _⟩ := h
    rfl
  · obtain ⟨i, rfl, hi, q⟩ := h
    refine ⟨_, (pss_one (ps_ret (pe_q c__law_count hr (by decide) (by rfl) (pa_cons (pe_ifExp (pt_cmpR op_ge (pv 0) pe_int (nomark _)) (pe_op op_mul pe_int (pv 0)) (pe_op op_sub (pe_op op_mul (pe_un un_neg pe_int) (pv 0)) pe_int)) pa_nil)))), ?_⟩
    refine ⟨_, rfl, _, _, rfl, rfl, _, rfl, ite2 (fun h => ?_) (fun h => ?_)⟩
    · have h := of_decide_eq_true h
      refine ⟨_, rfl, _, _, rfl, rfl, .inl ⟨by decide, by decide⟩, zig i, ?_, ?_, q⟩
      · show [V.int (2 * i)] = [V.int (zig i)]
        rw [zig_ge h]
      · unfold zig
        rw [if_pos h]
        omega
    · have h : ¬ i ≥ 0 := fun z => h (decide_eq_true z)
      refine ⟨_, rfl, _, rfl, _, _, rfl, rfl, .inl ⟨by decide, by decide⟩, _, _, rfl, rfl, zig i, ?_, ?_, q⟩
      · show [V.int (-2 * i - 1)] = [V.int (zig i)]
        rw [zig_lt h]
      · unfold zig
        rw [if_neg h]
        omega
end
end SA

set_option Elab.async false
set_option linter.all false
set_option maxRecDepth 100000
set_option maxHeartbeats 1000000
namespace K83
open PySem PySem.Spec
open K82 (L one tl IsB bval bdig enc dec zig zag)
theorem find_letter : ∀ k < 26, Txt.find lettersS ⟨#[97 + k]⟩ = (k : Nat) := by decide +kernel
theorem find_of {c : Nat} (h : K1.small c = true) : Txt.find "abcdefghijklmnopqrstuvwxyz" ⟨#[c]⟩ = ((c - 97 : Nat) : Int) := by
  have h := of_decide_eq_true h
  have := find_letter (c - 97) (by omega)
  rwa [show 97 + (c - 97) = c by omega] at this
end K83
namespace SA
open PySem PySem.Spec PyProof.Rows L2 K83
open K82 hiding mk tl_mk mk_tl mk_app
def splSpelt : Sp := fun vs H Q _ => ∃ z : Str, vs = [.str z] ∧ K1.isName z = true ∧ ∀ H', Same H H' → Q (.str (K83.mk (encPart .x (.str z)))) H'
section
variable {P : Program} {w0 : World} {K : PySem.W.Frag} {mg : Str → Option Value} {base : Heap} {kA mA iA lA wA : Addr}
theorem okl_spelt {f : Addr} {fd : FuncData} (F : Fun K "_law_spelt" "_law_spelt" s__law_spelt f fd) (c__law_digits : Dq P w0 K mg base CX0 1 "_law_digits" ["number", "many"] spDig) : FnOk P w0 K mg base CX0 2 f fd ["name"] splSpelt := by
  refine F.ok sc__law_spelt (fun vs H Q E h => ?_) (fun cdv A outer s H vs Q E hr h => ?_)
  · obtain ⟨z, rfl, _⟩ := h
    rfl
  · obtain ⟨z, rfl, hn, q⟩ := h
    refine ⟨_, (pss_one (ps_ret (pe_op op_add_str (pe_join pe_str (pe_lc (own := [("letter", 1)]) (g := (gName 1)) (tt := tYes) (by rfl) sc__law_spelt.nd (pi_str (pv 0)) (blkOk_by (N := n__law_spelt) (sc := defScope s__law_spelt) (by decide +kernel)) (fun _ _ _ _ _ => (pg_name (i := 1) sc__law_spelt.nd rfl (Or.inl rfl))) (fun _ _ _ _ _ => pts_nil) (fun _ _ _ _ _ => (pe_q c__law_digits hr (by decide) (by rfl) (pa_cons (pe_op op_add (PE.K_bm (K := K) rfl (pe_bm PySem.F.plainAttrs_str PySem.F.slot_str_find PySem.F.type_str_find mt_find pe_str (pa_cons (pv 1) pa_nil))) pe_int) (pa_cons pe_int pa_nil)))))) pe_str))), ?_⟩
    have hs : (tl z).all K1.small = true ∧ z.length ≤ 8 := by
      unfold K1.isName at hn
      rw [Bool.and_eq_true, Bool.and_eq_true, Bool.and_eq_true, decide_eq_true_eq] at hn
      exact ⟨hn.2.2.2, of_decide_eq_true hn.2.1⟩
    refine ⟨⟨_, rfl⟩, _, rfl, z, rfl, fun p hp => lc_it walk_str
      (fun i H' => Same H H' ∧ H' p = some (.lst (((((tl z).take i).map fun c => bdig 5 (c - 96)).map K83.mk).map V.str))) ⟨Same.new hp, upd_same⟩ (fun _ _ _ _ => trivial) ?_ ?_⟩
    · rintro i x H1 H' hi ⟨s1, e1⟩ ⟨rfl, c, hc, rfl⟩
      have hci := K83.at_tl hc
      have hcs : K1.small c = true := List.all_eq_true.mp hs.1 c (List.mem_of_getElem? hci)
      have hc2 := of_decide_eq_true hcs
      refine ⟨rfl, yes ⟨rfl, _, rfl, _, _, rfl, rfl, ?_⟩⟩
      rw [find_of hcs]
      refine ⟨_, _, rfl, rfl, c - 96, 5, ?_, by decide, _, e1, ?_, Same.upd' s1 hp, ?_⟩
      · show [V.int (((c - 97 : Nat) : Int) + 1), V.int 5] = [V.int ((c - 96 : Nat) : Int), V.int ((5 : Nat) : Int)]
        rw [show ((c - 97 : Nat) : Int) + 1 = ((c - 96 : Nat) : Int) by omega]
        rfl
      · rw [List.length_map, List.length_map, List.length_map, List.length_take]
        exact small20 (Nat.le_trans (Nat.min_le_right _ _) (by show z.length ≤ 20; omega))
      · rw [upd_same, take_map hci, List.map_append, List.map_append]
        rfl
    · rintro H1 ⟨s1, e1⟩
      rw [List.take_of_length_le (Nat.le_of_eq (by simp))] at e1
      have hl5 : ∀ l ∈ (tl z).map fun c => bdig 5 (c - 96), l.length = 5 := by
        intro l hl
        obtain ⟨c, _, rfl⟩ := List.mem_map.mp hl
        exact K82.bdig_len _ _
      have hz : (tl z).length ≤ 8 := hs.2
      refine ⟨_, p, _, rfl, rfl, .inl (SqL.of e1), ?_, _, _, rfl, rfl, ?_, ?_⟩
      · rw [sum_const 5 _ hl5, List.length_map, List.length_map, show ("" : Str).length = 0 by decide +kernel, List.length_map]
        omega
      · rw [join_flat, mk_len, List.length_flatten, show ("00000" : Str).length = 5 by decide +kernel]
        have := sum_len 5 _ hl5
        rw [List.length_map] at this
        rw [this]
        exact small1000' (by omega)
      · rw [join_flat, show ("00000" : Str) = K83.mk [48, 48, 48, 48, 48] by decide +kernel, K83.mk_app]
        exact q H1 s1
end
end SA

set_option Elab.async false
set_option linter.all false
set_option maxRecDepth 100000
set_option maxHeartbeats 1000000
namespace SA
open PySem PySem.Spec PyProof.Rows L2 K83
open K82 hiding mk tl_mk mk_tl mk_app
def splRegsT : Sp := fun vs H Q _ => ∃ (r : Nat) (a : Addr) (xs : List V) (ds : List PyData), vs = [.ref a] ∧ H a = some (.tup xs) ∧ DnAll anyA H xs ds ∧ ds.length ≤ 20 ∧ ds.all (isReg r) = true ∧ ∀ H', Same H H' → Q (.str (K83.mk (ds.flatMap encReg))) H'
def splRegsL : Sp := fun vs H Q _ => ∃ (r : Nat) (a : Addr) (xs : List V) (ds : List PyData), vs = [.ref a] ∧ H a = some (.lst xs) ∧ DnAll anyA H xs ds ∧ ds.length ≤ 20 ∧ ds.all (isReg r) = true ∧ ∀ H', Same H H' → Q (.str (K83.mk (ds.flatMap encReg))) H'
section
variable {P : Program} {w0 : World} {K : PySem.W.Frag} {mg : Str → Option Value} {base : Heap} {kA mA iA lA wA : Addr}
theorem okl_registers_T {f : Addr} {fd : FuncData} (F : Fun K "_law_registers" "_law_registers" s__law_registers f fd) (B : Bn3 mg) (c__law_digits : Dq P w0 K mg base CX0 1 "_law_digits" ["number", "many"] spDig) : FnOk P w0 K mg base CX0 2 f fd ["places"] splRegsT := by
  refine F.ok sc__law_registers (fun vs H Q E h => ?_) (fun cdv A outer s H vs Q E hr h => ?_)
  · obtain ⟨r, a, xs, ds, rfl, _⟩ := h
    rfl
  · obtain ⟨r, a, xs, ds, rfl, hx, hds, h20, hp, q⟩ := h
    refine ⟨_, (pss_one (ps_ret (pe_join pe_str (pe_lc (own := [("place", 1)]) (g := (gName 1)) (tt := tYes) (by rfl) sc__law_registers.nd (pi_tup (pv 0)) (blkOk_by (N := n__law_registers) (sc := defScope s__law_registers) (by decide +kernel)) (fun _ _ _ _ _ => (pg_name (i := 1) sc__law_registers.nd rfl (Or.inl rfl))) (fun _ _ _ _ _ => pts_nil) (fun _ _ _ _ _ => (pe_q c__law_digits hr (by decide) (by rfl) (pa_cons (pe_callTy call_int_str (by rfl) B.int PySem.Pv.boot_int (pa_cons (pe_slice sl_str (pv 1) (po_some pe_int) po_none) pa_nil)) (pa_cons pe_int pa_nil)))))))), ?_⟩
    have hl := hds.len
    refine ⟨⟨_, rfl⟩, _, rfl, a, rfl, ⟨xs, SqT.of hx⟩, fun p hp2 => lc_it walk_tup (fun i H' => Same H H' ∧ H' p = some (.lst ((((ds.take i).map encReg).map K83.mk).map V.str))) ⟨Same.new hp2, upd_same⟩ (fun i H' _ h => SqT.of (h.1 _ _ hx)) ?_ ?_⟩
    · rintro i x H1 H' hi ⟨s1, e1⟩ ⟨rfl, hxi⟩
      obtain ⟨d, hdi, hdn⟩ := hds.at hxi
      have hr := List.all_eq_true.mp hp d (List.mem_of_getElem? hdi)
      obtain ⟨z, b, rfl, hb10, _, hz⟩ := isReg_ex hr
      cases hdn
      have hzl : z.length = 2 := by
        rw [show z.length = (tl z).length from rfl, hz]
        rfl
      have hd : dnum [48 + b] = b := by simp [dnum, dnum.dv10]
      refine ⟨rfl, yes ⟨_, rfl, 1, rfl, z, rfl, small1000' (by omega), ?_⟩⟩
      rw [show L2.cutS z (some (1 : Int)) none = K83.mk [48 + b] from (K1.cut_n z 1).trans (by rw [show K1.tl z = [114, 48 + b] from hz]; rfl)]
      have hdg : ([48 + b] : List Nat).all K83.digit = true := by
        have : K83.digit (48 + b) = true := decide_eq_true (by omega)
        simp [this]
      refine ⟨_, _, rfl, intT_dig hdg (by simp) (by simp), (by show ([48 + b] : List Nat).toArray.size ≤ 640; simp), dnum [48 + b], 4, rfl, by decide, _, e1, ?_, Same.upd' s1 hp2, ?_⟩
      · rw [List.length_map, List.length_map, List.length_map, List.length_take]
        exact small20 (Nat.le_trans (Nat.min_le_right _ _) h20)
      · rw [upd_same, take_map hdi, List.map_append, List.map_append]
        rw [show encReg (.str z) = bdig 4 (dnum [48 + b]) from by show bdig 4 (dnum ((tl z).drop 1)) = _; rw [hz]; rfl]
        rfl
    · rintro H1 ⟨s1, e1⟩
      rw [hl, List.take_length] at e1
      have hl4 : ∀ l ∈ ds.map encReg, l.length = 4 := by
        intro l hl
        obtain ⟨d, hd, rfl⟩ := List.mem_map.mp hl
        obtain ⟨z, b, rfl, _, _, _⟩ := isReg_ex (List.all_eq_true.mp hp d hd)
        exact K82.bdig_len _ _
      refine ⟨_, p, _, rfl, rfl, .inl (SqL.of e1), ?_, ?_⟩
      · rw [sum_const 4 _ hl4, List.length_map, List.length_map, show ("" : Str).length = 0 by decide +kernel, List.length_map]
        omega
      · rw [join_flat]
        exact q H1 s1
theorem okl_registers_L {f : Addr} {fd : FuncData} (F : Fun K "_law_registers" "_law_registers" s__law_registers f fd) (B : Bn3 mg) (c__law_digits : Dq P w0 K mg base CX0 1 "_law_digits" ["number", "many"] spDig) : FnOk P w0 K mg base CX0 2 f fd ["places"] splRegsL := by
  refine F.ok sc__law_registers (fun vs H Q E h => ?_) (fun cdv A outer s H vs Q E hr h => ?_)
  · obtain ⟨r, a, xs, ds, rfl, _⟩ := h
    rfl
  · obtain ⟨r, a, xs, ds, rfl, hx, hds, h20, hp, q⟩ := h
    refine ⟨_, (pss_one (ps_ret (pe_join pe_str (pe_lc (own := [("place", 1)]) (g := (gName 1)) (tt := tYes) (by rfl) sc__law_registers.nd (pi_list (pv 0)) (blkOk_by (N := n__law_registers) (sc := defScope s__law_registers) (by decide +kernel)) (fun _ _ _ _ _ => (pg_name (i := 1) sc__law_registers.nd rfl (Or.inl rfl))) (fun _ _ _ _ _ => pts_nil) (fun _ _ _ _ _ => (pe_q c__law_digits hr (by decide) (by rfl) (pa_cons (pe_callTy call_int_str (by rfl) B.int PySem.Pv.boot_int (pa_cons (pe_slice sl_str (pv 1) (po_some pe_int) po_none) pa_nil)) (pa_cons pe_int pa_nil)))))))), ?_⟩
    have hl := hds.len
    refine ⟨⟨_, rfl⟩, _, rfl, a, rfl, ⟨xs, SqL.of hx⟩, fun p hp2 => lc_it walk_list (fun i H' => Same H H' ∧ H' p = some (.lst ((((ds.take i).map encReg).map K83.mk).map V.str))) ⟨Same.new hp2, upd_same⟩ (fun i H' _ h => SqL.of (h.1 _ _ hx)) ?_ ?_⟩
    · rintro i x H1 H' hi ⟨s1, e1⟩ ⟨rfl, hxi⟩
      obtain ⟨d, hdi, hdn⟩ := hds.at hxi
      have hr := List.all_eq_true.mp hp d (List.mem_of_getElem? hdi)
      obtain ⟨z, b, rfl, hb10, _, hz⟩ := isReg_ex hr
      cases hdn
      have hzl : z.length = 2 := by
        rw [show z.length = (tl z).length from rfl, hz]
        rfl
      have hd : dnum [48 + b] = b := by simp [dnum, dnum.dv10]
      refine ⟨rfl, yes ⟨_, rfl, 1, rfl, z, rfl, small1000' (by omega), ?_⟩⟩
      rw [show L2.cutS z (some (1 : Int)) none = K83.mk [48 + b] from (K1.cut_n z 1).trans (by rw [show K1.tl z = [114, 48 + b] from hz]; rfl)]
      have hdg : ([48 + b] : List Nat).all K83.digit = true := by
        have : K83.digit (48 + b) = true := decide_eq_true (by omega)
        simp [this]
      refine ⟨_, _, rfl, intT_dig hdg (by simp) (by simp), (by show ([48 + b] : List Nat).toArray.size ≤ 640; simp), dnum [48 + b], 4, rfl, by decide, _, e1, ?_, Same.upd' s1 hp2, ?_⟩
      · rw [List.length_map, List.length_map, List.length_map, List.length_take]
        exact small20 (Nat.le_trans (Nat.min_le_right _ _) h20)
      · rw [upd_same, take_map hdi, List.map_append, List.map_append]
        rw [show encReg (.str z) = bdig 4 (dnum [48 + b]) from by show bdig 4 (dnum ((tl z).drop 1)) = _; rw [hz]; rfl]
        rfl
    · rintro H1 ⟨s1, e1⟩
      rw [hl, List.take_length] at e1
      have hl4 : ∀ l ∈ ds.map encReg, l.length = 4 := by
        intro l hl
        obtain ⟨d, hd, rfl⟩ := List.mem_map.mp hl
        obtain ⟨z, b, rfl, _, _, _⟩ := isReg_ex (List.all_eq_true.mp hp d hd)
        exact K82.bdig_len _ _
      refine ⟨_, p, _, rfl, rfl, .inl (SqL.of e1), ?_, ?_⟩
      · rw [sum_const 4 _ hl4, List.length_map, List.length_map, show ("" : Str).length = 0 by decide +kernel, List.length_map]
        omega
      · rw [join_flat]
        exact q H1 s1
end
end SA

set_option Elab.async false
set_option linter.all false
set_option maxRecDepth 100000
set_option maxHeartbeats 1000000
namespace SA
open PySem PySem.Spec PyProof.Rows L2 K83
open K82 hiding mk tl_mk mk_tl mk_app
def splCop : Sp := fun vs H Q _ => ∃ (r : Nat) (z : Str), vs = [.str z] ∧ (isSlot (.str z) || isReg r (.str z)) = true ∧ ∀ H', Same H H' → Q (.str (K83.mk (encPart .c (.str z)))) H'
def splLeap : Sp := fun vs H Q _ => ∃ (a : Addr) (w : Str) (i : Int), vs = [.ref a] ∧ H a = some (.tup [.str w, .int i]) ∧ isLeap (.tuple [.str w, .int i]) = true ∧ Q (.str (K83.mk (encPart .l (.tuple [.str w, .int i])))) H
section
variable {P : Program} {w0 : World} {K : PySem.W.Frag} {mg : Str → Option Value} {base : Heap} {kA mA iA lA wA : Addr}
theorem okl_copied {f : Addr} {fd : FuncData} (F : Fun K "_law_copied" "_law_copied" s__law_copied f fd) (B : Bn3 mg) (c__law_registers : Dq P w0 K mg base CX0 2 "_law_registers" ["places"] splRegsL) (c__law_count : Dq P w0 K mg base CX0 2 "_law_count" ["number"] spBitsC) : FnOk P w0 K mg base CX0 3 f fd ["place"] splCop := by
  refine F.ok sc__law_copied (fun vs H Q E h => ?_) (fun cdv A outer s H vs Q E hr h => ?_)
  · obtain ⟨r, z, rfl, _⟩ := h
    rfl
  · obtain ⟨r, z, rfl, hz, q⟩ := h
    refine ⟨_, (pss_one (ps_ret (pe_ifExp (pt_cmpR op_eq (pe_item_str (pv 0) pe_int (fun _ _ => rfl)) pe_str (nomark _)) (pe_op op_add_str pe_str (pe_q c__law_registers hr (by decide) (by rfl) (pa_cons (pe_lst (pa_cons (pv 0) pa_nil)) pa_nil))) (pe_op op_add_str pe_str (pe_q c__law_count hr (by decide) (by rfl) (pa_cons (pe_callTy call_int_str (by rfl) B.int PySem.Pv.boot_int (pa_cons (pe_slice sl_str (pv 0) (po_some pe_int) po_none) pa_nil)) pa_nil)))))), ?_⟩
    by_cases hs : isSlot (.str z) = true
    · obtain ⟨z', g, e0, e, hf, h3⟩ := isSlot_ex hs
      injection e0 with e0
      subst e0
      have h0 : z.length = g.length + 1 := by
        rw [show z.length = (tl z).length from rfl, e]
        rfl
      have e2 : encPart .c (.str z) = [49] ++ enc (dnum g) := by
        show (if (tl z).head? = some 115 then 49 :: enc (dnum ((tl z).drop 1)) else 48 :: encReg (.str z)) = _
        rw [e]
        rfl
      have hd : dnum g ≤ 9999 := by
        have hp : placeL (115 :: g) = true := by
          have hs2 : slotL (tl z) = true := hs
          rw [slotL_place, e, Bool.and_eq_true] at hs2
          exact hs2.1
        exact (placeL_ex hp).2.2.1
      unfold figsB at hf
      rw [Bool.and_eq_true, Bool.and_eq_true] at hf
      have hne : g ≠ [] := by
        rintro rfl
        cases hf.1
      refine ⟨_, rfl, z, 0, 115, rfl, rfl, by decide, by decide, by rw [h0]; omega, cps_at e rfl, rfl, _, rfl, ?_⟩
      rw [K83.sr, dec_one]
      refine iteF ⟨_, rfl, 1, rfl, z, rfl, small1000' (by omega), ?_⟩
      rw [show L2.cutS z (some (1 : Int)) none = K83.mk g from (K1.cut_n z 1).trans (by rw [show K1.tl z = 115 :: g from e]; rfl)]
      refine ⟨_, _, rfl, intT_dig hf.2.1 hne (by omega), (by show g.toArray.size ≤ 640; rw [List.size_toArray]; omega), dnum g, rfl, by omega, _, _, rfl, rfl, ?_, ?_⟩
      · show ("1" : Str).length + (K83.mk (enc (dnum g))).length ≤ sizeLine
        have hl := log_bound (n := dnum g) (k := 20) (by omega)
        rw [show ("1" : Str) = K83.mk [49] from by decide +kernel, mk_len, mk_len]
        exact small1000' (by simp; omega)
      · rw [show ("1" : Str) = K83.mk [49] from by decide +kernel]
        have q0 := q H (Same.refl H)
        rw [e2, ← K83.mk_app] at q0
        exact q0
    · have hr : isReg r (.str z) = true := by
        rw [Bool.or_eq_true] at hz
        exact hz.resolve_left hs
      obtain ⟨z', a, e0, ha, har, e⟩ := isReg_ex hr
      injection e0 with e0
      subst e0
      have h0 : z.length = 2 := by
        rw [show z.length = (tl z).length from rfl, e]
        rfl
      have e2 : encPart .c (.str z) = [48] ++ encReg (.str z) := by
        show (if (tl z).head? = some 115 then 49 :: enc (dnum ((tl z).drop 1)) else 48 :: encReg (.str z)) = _
        rw [e]
        rfl
      refine ⟨_, rfl, z, 0, 114, rfl, rfl, by decide, by decide, by rw [h0]; omega, cps_at e rfl, rfl, _, rfl, ?_⟩
      rw [K83.sr, dec_one]
      refine iteT ⟨_, rfl, (by show 1 ≤ sizeLine; decide), fun p hp => ⟨r, p, [.str z], [.str z], rfl, upd_same, .cons (.str _) .nil, by simp, by simp [hr], fun H1 s1 => ⟨_, _, rfl, rfl, ?_, ?_⟩⟩⟩
      · show ("0" : Str).length + (K83.mk _).length ≤ sizeLine
        rw [show ("0" : Str) = K83.mk [48] from by decide +kernel, mk_len, mk_len, List.flatMap_cons, List.flatMap_nil, List.append_nil, show encReg (.str z) = bdig 4 (dnum ((tl z).drop 1)) from rfl, K82.bdig_len]
        exact small1000' (by simp)
      · rw [show ("0" : Str) = K83.mk [48] from by decide +kernel, List.flatMap_cons, List.flatMap_nil, List.append_nil]
        have q0 := q H1 ((Same.new hp).trans s1)
        rw [e2, ← K83.mk_app] at q0
        exact q0
end
end SA

set_option Elab.async false
set_option linter.all false
set_option maxRecDepth 100000
set_option maxHeartbeats 1000000
namespace SA
open PySem PySem.Spec PyProof.Rows L2 K83
open K82 hiding mk tl_mk mk_tl mk_app
def splFirst : Sp := fun vs H Q _ => ∃ (w : Str) (ls : List Lt), vs = [.str w] ∧ (w, ls) ∈ tab ∧ ∀ H', Same H H' → Q (.str (K83.mk (bdig 5 (wix w)))) H'
section
variable {P : Program} {w0 : World} {K : PySem.W.Frag} {mg : Str → Option Value} {base : Heap} {kA mA iA lA wA : Addr}
theorem okl_leap_bits {f : Addr} {fd : FuncData} (F : Fun K "_law_leap_bits" "_law_leap_bits" s__law_leap_bits f fd) (B : Bn3 mg) (c__law_digits : Dq P w0 K mg base CX0 1 "_law_digits" ["number", "many"] spDig) : FnOk P w0 K mg base CX0 2 f fd ["leap"] splLeap := by
  refine F.ok sc__law_leap_bits (fun vs H Q E h => ?_) (fun cdv A outer s H vs Q E hr h => ?_)
  · obtain ⟨a, w, i, rfl, _⟩ := h
    rfl
  · obtain ⟨a, w, i, rfl, hx, hp, q⟩ := h
    refine ⟨_, (pss_cons (ps_asg (pv 0) (pg_tup (by rfl) (pgs_cons (pg_name (i := 1) sc__law_leap_bits.nd rfl (Or.inl rfl)) (pgs_cons (pg_name (i := 2) sc__law_leap_bits.nd rfl (Or.inl rfl)) pgs_nil))))
      (pss_cons (ps_if (pt_cmpR op_eq (pv 1) pe_str (nomark _)) (pss_one (ps_ret (pe_op op_add_str pe_str (pe_q c__law_digits hr (by decide) (by rfl) (pa_cons (pe_ifExp (pt_cmpR op_ge (pv 2) pe_int (nomark _)) (pv 2) (pe_op op_add (pv 2) pe_int)) (pa_cons pe_int pa_nil)))))) pss_nil)
      (pss_one (ps_ret (pe_op op_add_str pe_str (pe_q c__law_digits hr (by decide) (by rfl) (pa_cons (pe_ifExp (pt_cmpR op_ge (pv 2) pe_int (nomark _)) (pv 2) (pe_op op_add (pv 2) pe_int)) (pa_cons pe_int pa_nil)))))))), ?_⟩
    obtain ⟨w', i', e0, hw⟩ := isLeap_ex hp
    injection e0 with e0
    injection e0 with e1 e0
    injection e1 with e1
    injection e0 with e2 _
    injection e2 with e2
    subst e1 e2
    have z0 : ("0" : Str) = K83.mk [48] := by decide +kernel
    have z1 : ("1" : Str) = K83.mk [49] := by decide +kernel
    have hlen : ∀ (c k : Nat), k ≤ 40 → ∀ m, (K83.mk [c]).length + (K83.mk (bdig k m)).length ≤ sizeLine := fun c k hk m => by
      rw [mk_len, mk_len, K82.bdig_len]
      exact small1000' (by simp; omega)
    refine ⟨_, rfl, a, _, rfl, SqT.of hx, rfl, _, _, rfl, _, _, rfl, rfl, ?_⟩
    rcases hw with ⟨rfl, g1, g2⟩ | ⟨rfl, g1, g2⟩
    · have num := leapN_int (m := 8) (i := i) (by show 0 ≤ i + 256; omega)
      have e9 : encPart .l (.tuple [.str "short", .int i]) = [48] ++ bdig 8 (leapN 8 i) := by
        show (if ("short" : Str) = "short" then 48 :: bdig 8 (leapN 8 i) else 49 :: bdig 32 (leapN 32 i)) = [48] ++ bdig 8 (leapN 8 i)
        rw [if_pos rfl, List.singleton_append]
      rw [e9, ← K83.mk_app] at q
      refine ⟨_, rfl, rfl, _, rfl, iteTd (decide_eq_true rfl) ⟨_, rfl, _, _, rfl, rfl, _, rfl, ite2 (fun hge => ?_) (fun hge => ?_)⟩⟩
      · refine ⟨_, rfl, leapN 8 i, 8, ?_, by decide, _, _, rfl, rfl, ?_, ?_⟩
        · show [V.int i, V.int 8] = [V.int ((leapN 8 i : Nat) : Int), V.int ((8 : Nat) : Int)]
          rw [num, if_pos (of_decide_eq_true hge)]
          rfl
        · show ("0" : Str).length + _ ≤ sizeLine
          rw [z0]
          exact hlen 48 8 (by decide) _
        · show Q (.str (("0" : Str) ++ K83.mk (bdig 8 (leapN 8 i)))) H
          rw [z0]
          exact q
      · refine ⟨_, rfl, _, _, rfl, rfl, leapN 8 i, 8, ?_, by decide, _, _, rfl, rfl, ?_, ?_⟩
        · show [V.int (i + 256), V.int 8] = [V.int ((leapN 8 i : Nat) : Int), V.int ((8 : Nat) : Int)]
          rw [num, if_neg fun z => hge (decide_eq_true z)]
          rfl
        · show ("0" : Str).length + _ ≤ sizeLine
          rw [z0]
          exact hlen 48 8 (by decide) _
        · show Q (.str (("0" : Str) ++ K83.mk (bdig 8 (leapN 8 i)))) H
          rw [z0]
          exact q
    · have num := leapN_int (m := 32) (i := i) (by show 0 ≤ i + 4294967296; omega)
      have e8 : ¬ ("long" : Str) = "short" := by decide +kernel
      have e9 : encPart .l (.tuple [.str "long", .int i]) = [49] ++ bdig 32 (leapN 32 i) := by
        show (if ("long" : Str) = "short" then 48 :: bdig 8 (leapN 8 i) else 49 :: bdig 32 (leapN 32 i)) = [49] ++ bdig 32 (leapN 32 i)
        rw [if_neg e8, List.singleton_append]
      rw [e9, ← K83.mk_app] at q
      refine ⟨_, rfl, rfl, _, rfl, iteFd (decide_eq_false fun h => e8 (by injection h)) ⟨_, rfl, _, _, rfl, rfl, _, rfl, ite2 (fun hge => ?_) (fun hge => ?_)⟩⟩
      · refine ⟨_, rfl, leapN 32 i, 32, ?_, by decide, _, _, rfl, rfl, ?_, ?_⟩
        · show [V.int i, V.int 32] = [V.int ((leapN 32 i : Nat) : Int), V.int ((32 : Nat) : Int)]
          rw [num, if_pos (of_decide_eq_true hge)]
          rfl
        · show ("1" : Str).length + _ ≤ sizeLine
          rw [z1]
          exact hlen 49 32 (by decide) _
        · show Q (.str (("1" : Str) ++ K83.mk (bdig 32 (leapN 32 i)))) H
          rw [z1]
          exact q
      · refine ⟨_, rfl, _, _, rfl, rfl, leapN 32 i, 32, ?_, by decide, _, _, rfl, rfl, ?_, ?_⟩
        · show [V.int (i + 4294967296), V.int 32] = [V.int ((leapN 32 i : Nat) : Int), V.int ((32 : Nat) : Int)]
          rw [num, if_neg fun z => hge (decide_eq_true z)]
          rfl
        · show ("1" : Str).length + _ ≤ sizeLine
          rw [z1]
          exact hlen 49 32 (by decide) _
        · show Q (.str (("1" : Str) ++ K83.mk (bdig 32 (leapN 32 i)))) H
          rw [z1]
          exact q
end
end SA

set_option Elab.async false
set_option linter.all false
set_option maxRecDepth 100000
set_option maxHeartbeats 1000000
namespace SA
open PySem PySem.Spec PyProof.Rows L2 K83
open K82 hiding mk tl_mk mk_tl mk_app
theorem tab_eq : ∀ q ∈ tab, (((tab.map Prod.fst).map V.str)[wix q.1]? = some (.str q.1)) ∧ eqV (.str q.1) (.str q.1) = true := by
  intro q hq
  obtain ⟨u1, _⟩ := tab_first q hq
  refine ⟨by rw [List.getElem?_map, u1]; rfl, ?_⟩
  show (q.1 == q.1) = true
  exact beq_self_eq_true _
section
variable {P : Program} {w0 : World} {K : PySem.W.Frag} {mg : Str → Option Value} {base : Heap} {kA mA iA lA wA : Addr}
theorem okl_first {f : Addr} {fd : FuncData} (F : Fun K "_law_first" "_law_first" s__law_first f fd) (c__law_digits : Dq P w0 K mg base CX0 1 "_law_digits" ["number", "many"] spDig) : FnOk P w0 K mg base CX0 2 f fd ["word"] splFirst := by
  refine F.ok sc__law_first (fun vs H Q E h => ?_) (fun cdv A outer s H vs Q E hr h => ?_)
  · obtain ⟨w, ls, rfl, _⟩ := h
    rfl
  · obtain ⟨w, ls, rfl, hm, q⟩ := h
    refine ⟨_, (Evl.pss_cut (ps_set (i := 1) sc__law_first.nd rfl (Or.inl rfl) (pe_lst (pa_cons pe_str (pa_cons pe_str (pa_cons pe_str (pa_cons pe_str (pa_cons pe_str (pa_cons pe_str (pa_cons pe_str (pa_cons pe_str (pa_cons pe_str (pa_cons pe_str (pa_cons pe_str (pa_cons pe_str (pa_cons pe_str pa_nil)))))))))))))))
      (Evl.pss_cut (ps_set (i := 1) sc__law_first.nd rfl (Or.inl rfl) (pe_op op_cat (pv 1) (pe_lst (pa_cons pe_str (pa_cons pe_str (pa_cons pe_str (pa_cons pe_str (pa_cons pe_str (pa_cons pe_str (pa_cons pe_str (pa_cons pe_str (pa_cons pe_str (pa_cons pe_str (pa_cons pe_str (pa_cons pe_str (pa_cons pe_str pa_nil))))))))))))))))
      (pss_one (ps_ret (pe_q c__law_digits hr (by decide) (by rfl) (pa_cons (pe_bm PySem.F.plainAttrs_list PySem.F.slot_list_index PySem.F.type_list_index mt_index (pv 1) (pa_cons (pv 0) pa_nil)) (pa_cons pe_int pa_nil))))))), ?_⟩
    obtain ⟨u1, u2⟩ := tab_first _ hm
    obtain ⟨v1, v2⟩ := tab_eq _ hm
    have t2 := (tab_ix _ hm).2.1
    refine ⟨fun σ H1 => ∃ p, σ = [some (.str w), some (.ref p)] ∧ Same H H1 ∧ H1 p = some (.lst (((tab.map Prod.fst).take 13).map V.str)), ?_, ?_⟩
    · refine ⟨(by show 13 ≤ sizeLine; exact small1000' (by decide)), fun p hp => ⟨p, rfl, Same.new hp, upd_same⟩⟩
    rintro σ H1 ⟨p, rfl, s1, e1⟩
    refine ⟨fun σ H1 => ∃ p, σ = [some (.str w), some (.ref p)] ∧ Same H H1 ∧ H1 p = some (.lst ((tab.map Prod.fst).map V.str)), ?_, ?_⟩
    · refine ⟨_, rfl, (by show 13 ≤ sizeLine; exact small1000' (by decide)), fun p2 hp2 => ?_⟩
      have s2 := Same.new hp2 (o := .lst (((tab.map Prod.fst).drop 13).map V.str))
      refine ⟨p, p2, _, _, rfl, rfl, s2 _ _ e1, upd_same, (by show 26 ≤ sizeLine; exact small1000' (by decide)), fun p3 hp3 => ⟨p3, rfl, ?_, ?_⟩⟩
      · exact s1.trans (s2.trans (Same.new hp3))
      · rw [upd_same]
        rfl
    rintro σ H2 ⟨p2, rfl, s2, e2⟩
    refine ⟨_, rfl, .inl ⟨rfl, _, SqL.of e2⟩, _, rfl, p2, _, .str w, wix w, .str w, rfl, rfl, SqL.of e2, rfl, K1.flat_strs _, v1, v2, fun m z' hm' hz => ?_, ?_⟩
    · rw [List.getElem?_map] at hz
      obtain ⟨z2, hz2, rfl⟩ := Option.map_eq_some_iff.mp hz
      show (z2 == w) = false
      rw [beq_eq_false_iff_ne]
      rintro rfl
      exact u2 m hm' hz2
    · exact ⟨wix w, 5, rfl, by decide, q H2 s2⟩
end
end SA

set_option Elab.async false
set_option linter.all false
set_option maxRecDepth 100000
set_option maxHeartbeats 1000000
namespace SA
open PySem PySem.Spec PyProof.Rows L2 K83
open K82 hiding mk tl_mk mk_tl mk_app
def lawLt : Lt → Nat
  | .p => 114
  | .n => 110
  | .c => 99
  | .x => 119
  | .k => 107
  | .P => 108
  | .l => 106
abbrev sgL (c : Lt) : Str := ⟨#[lawLt c]⟩
def splPartB : Sp := fun vs H Q _ => ∃ (r : Nat) (x : V) (d : PyData) (c : Lt), vs = [.str (sgL c), x] ∧ Dn anyA H x d ∧ okD d = true ∧ isPart r c d = true ∧ ∀ H', Same H H' → Q (.str (K83.mk (encPart c d))) H'
section
variable {P : Program} {w0 : World} {K : PySem.W.Frag} {mg : Str → Option Value} {base : Heap} {kA mA iA lA wA : Addr}
theorem okl_part_bits {f : Addr} {fd : FuncData} (F : Fun K "_law_part_bits" "_law_part_bits" s__law_part_bits f fd) (B : Bn3 mg) (c_regs_L : Dq P w0 K mg base CX0 2 "_law_registers" ["places"] splRegsL) (c_regs_T : Dq P w0 K mg base CX0 2 "_law_registers" ["places"] splRegsT)
    (c__law_copied : Dq P w0 K mg base CX0 3 "_law_copied" ["place"] splCop) (c__law_signed : Dq P w0 K mg base CX0 3 "_law_signed" ["number"] spBitsN) (c__law_spelt : Dq P w0 K mg base CX0 2 "_law_spelt" ["name"] splSpelt) (c__law_digits : Dq P w0 K mg base CX0 1 "_law_digits" ["number", "many"] spDig)
    (c__law_leap_bits : Dq P w0 K mg base CX0 2 "_law_leap_bits" ["leap"] splLeap) : FnOk P w0 K mg base CX0 4 f fd ["letter", "part"] splPartB := by
  refine F.ok sc__law_part_bits (fun vs H Q E h => ?_) (fun cdv A outer s H vs Q E hr h => ?_)
  · obtain ⟨r, x, d, c, rfl, _⟩ := h
    rfl
  · obtain ⟨r, x, d, c, rfl, hd, ho, hp, q⟩ := h
    refine ⟨_, (pss_cons (ps_if (pt_cmpR op_eq (pv 0) pe_str (nomark _)) (pss_one (ps_ret (pe_q c_regs_L hr (by decide) (by rfl) (pa_cons (pe_lst (pa_cons (pv 1) pa_nil)) pa_nil)))) pss_nil)
      (pss_cons (ps_if (pt_cmpR op_eq (pv 0) pe_str (nomark _)) (pss_one (ps_ret (pe_q c__law_copied hr (by decide) (by rfl) (pa_cons (pv 1) pa_nil)))) pss_nil)
      (pss_cons (ps_if (pt_cmpR op_eq (pv 0) pe_str (nomark _)) (pss_one (ps_ret (pe_q c__law_signed hr (by decide) (by rfl) (pa_cons (pv 1) pa_nil)))) pss_nil)
      (pss_cons (ps_if (pt_cmpR op_eq (pv 0) pe_str (nomark _)) (pss_one (ps_ret (pe_q c__law_spelt hr (by decide) (by rfl) (pa_cons (pv 1) pa_nil)))) pss_nil)
      (pss_cons (ps_if (pt_cmpR op_eq (pv 0) pe_str (nomark _)) (pss_one (ps_ret (pe_q c__law_digits hr (by decide) (by rfl) (pa_cons (pv 1) (pa_cons pe_int pa_nil))))) pss_nil)
      (pss_one (ps_ret (pe_ifExp (pt_cmpR op_eq (pv 0) pe_str (nomark _)) (pe_op op_add_str (pe_q c__law_digits hr (by decide) (by rfl) (pa_cons (pe_callB call_len_seq (by rfl) B.len PySem.boot_len (pa_cons (pv 1) pa_nil)) (pa_cons pe_int pa_nil))) (pe_q c_regs_T hr (by decide) (by rfl) (pa_cons (pv 1) pa_nil))) (pe_q c__law_leap_bits hr (by decide) (by rfl) (pa_cons (pv 1) pa_nil)))))))))), ?_⟩
    have q0 := q H (Same.refl H)
    cases c with
    | p =>
      refine ⟨_, rfl, rfl, _, rfl, iteTd (by decide +kernel) ⟨_, rfl, (by show 1 ≤ sizeLine; decide), fun p hp2 => ⟨r, p, [x], [d], rfl, upd_same, .cons (hd.same (Same.new hp2)) .nil, by simp, by simpa using (show isReg r d = true from hp), fun H1 s1 => ?_⟩⟩⟩
      have := q H1 ((Same.new hp2).trans s1)
      rw [List.flatMap_cons, List.flatMap_nil, List.append_nil]
      exact this
    | c =>
      obtain ⟨z, rfl⟩ : ∃ z, d = .str z := by
        have hp : (isSlot d || isReg r d) = true := hp
        cases d <;> first | exact ⟨_, rfl⟩ | cases hp
      cases hd
      exact ⟨_, rfl, rfl, _, rfl, iteFd (by decide +kernel) ⟨_, rfl, rfl, _, rfl, iteTd (by decide +kernel) ⟨_, rfl, r, z, rfl, hp, q⟩⟩⟩
    | n =>
      match d, hp, hd with
      | .int i, _, .int _ =>
        have := okD_int ho
        exact ⟨_, rfl, rfl, _, rfl, iteFd (by decide +kernel) ⟨_, rfl, rfl, _, rfl, iteFd (by decide +kernel) ⟨_, rfl, rfl, _, rfl, iteTd (by decide +kernel) ⟨_, rfl, i, rfl, by omega, q0⟩⟩⟩⟩
    | x =>
      match d, hp, hd with
      | .str z, hp, .str _ =>
        exact ⟨_, rfl, rfl, _, rfl, iteFd (by decide +kernel) ⟨_, rfl, rfl, _, rfl, iteFd (by decide +kernel) ⟨_, rfl, rfl, _, rfl, iteFd (by decide +kernel) ⟨_, rfl, rfl, _, rfl, iteTd (by decide +kernel) ⟨_, rfl, z, rfl, hp, q⟩⟩⟩⟩⟩
    | k =>
      match d, hp, hd with
      | .int i, hp, .int _ =>
        have hi : 0 ≤ i ∧ i ≤ 2 := of_decide_eq_true hp
        obtain ⟨n, rfl⟩ := Int.eq_ofNat_of_zero_le hi.1
        exact ⟨_, rfl, rfl, _, rfl, iteFd (by decide +kernel) ⟨_, rfl, rfl, _, rfl, iteFd (by decide +kernel) ⟨_, rfl, rfl, _, rfl, iteFd (by decide +kernel) ⟨_, rfl, rfl, _, rfl, iteFd (by decide +kernel) ⟨_, rfl, rfl, _, rfl, iteTd (by decide +kernel) ⟨_, rfl, n, 2, rfl, by decide, q0⟩⟩⟩⟩⟩⟩
    | P =>
      match d, hp, hd with
      | .tuple ds, hp, .tup (a := a) (xs := xs) _ hx hds =>
        have hp : (decide (ds.length ≤ 3) && ds.all (isReg r)) = true := hp
        rw [Bool.and_eq_true, decide_eq_true_eq] at hp
        have hl := hds.len
        refine ⟨_, rfl, rfl, _, rfl, iteFd (by decide +kernel) ⟨_, rfl, rfl, _, rfl, iteFd (by decide +kernel) ⟨_, rfl, rfl, _, rfl, iteFd (by decide +kernel) ⟨_, rfl, rfl, _, rfl, iteFd (by decide +kernel) ⟨_, rfl, rfl, _, rfl, iteFd (by decide +kernel) ⟨_, rfl, rfl, _, rfl, iteTd (by decide +kernel)
          ⟨_, rfl, a, xs, rfl, .inr (SqT.of hx), xs.length, 2, rfl, by decide, _, rfl, r, a, xs, ds, rfl, hx, hds, by omega, hp.2, fun H1 s1 => ⟨_, _, rfl, rfl, ?_, ?_⟩⟩⟩⟩⟩⟩⟩⟩
        · show (K83.mk (bdig 2 xs.length)).length + (K83.mk (ds.flatMap encReg)).length ≤ sizeLine
          have := sum_len 4 (ds.map encReg) fun l hl => by
            obtain ⟨d, hd, rfl⟩ := List.mem_map.mp hl
            obtain ⟨z, b, rfl, _⟩ := isReg_ex (List.all_eq_true.mp hp.2 d hd)
            exact K82.bdig_len _ _
          rw [mk_len, mk_len, K82.bdig_len, List.flatMap, List.length_flatten, this, List.length_map]
          exact small1000' (by omega)
        · show Q (.str (K83.mk (bdig 2 xs.length) ++ K83.mk (ds.flatMap encReg))) H1
          rw [K83.mk_app, hl]
          exact q H1 s1
    | l =>
      obtain ⟨w, i, rfl, hw⟩ := isLeap_ex hp
      match hd with
      | .tup (a := a) _ hx (.cons (.str _) (.cons (.int _) .nil)) =>
        exact ⟨_, rfl, rfl, _, rfl, iteFd (by decide +kernel) ⟨_, rfl, rfl, _, rfl, iteFd (by decide +kernel) ⟨_, rfl, rfl, _, rfl, iteFd (by decide +kernel) ⟨_, rfl, rfl, _, rfl, iteFd (by decide +kernel) ⟨_, rfl, rfl, _, rfl, iteFd (by decide +kernel) ⟨_, rfl, rfl, _, rfl, iteFd (by decide +kernel) ⟨_, rfl, a, w, i, rfl, hx, hp, q0⟩⟩⟩⟩⟩⟩⟩
end
end SA

set_option Elab.async false
set_option linter.all false
set_option maxRecDepth 100000
set_option maxHeartbeats 1000000
namespace K83
open PySem PySem.Spec
open K82 (L one tl)
def oneD (c : Nat) : PyData := .str ⟨#[c]⟩
theorem lay_ones : ∀ l : L, (∀ c ∈ l, c < 128) → PyData.canLayAll0 (l.map oneD) = true ∧ PyData.depthAll (l.map oneD) ≤ 1
  | [], _ => ⟨rfl, Nat.zero_le _⟩
  | c :: l, h => by
    obtain ⟨i1, i2⟩ := lay_ones l fun x hx => h x (List.mem_cons_of_mem _ hx)
    have hc := h c List.mem_cons_self
    refine ⟨?_, ?_⟩
    · have : PyData.strOk ⟨#[c]⟩ = true := by
        show (#[c] : Array Nat).all (fun x => decide (x < 0x110000)) = true
        simp
        omega
      simp [PyData.canLayAll0, oneD, PyData.canLay0, this, i1]
    · show max (PyData.depth (oneD c)) (PyData.depthAll (l.map oneD)) ≤ 1
      have : PyData.depth (oneD c) = 0 := rfl
      omega
end K83
namespace SA
open PySem PySem.Spec PyProof.Rows L2 K83
open K82 hiding mk tl_mk mk_tl mk_app
def splIsName : Sp := fun vs H Q _ => ∃ (x : V) (d : PyData), vs = [x] ∧ Dn anyA H x d ∧ okD d = true ∧ ∀ H', Same H H' → Q (.bl (isNm d)) H'
theorem ones_dn {n : Addr → Prop} {H : Hp} : ∀ l : K82.L, DnAll n H (l.map fun c => V.str ⟨#[c]⟩) (l.map oneD)
  | [] => .nil
  | c :: l => .cons (.str _) (ones_dn l)
section
variable {P : Program} {w0 : World} {K : PySem.W.Frag} {mg : Str → Option Value} {base : Heap}
theorem okl_is_name {f : Addr} {fd : FuncData} (F : Fun K "_law_is_name" "_law_is_name" s__law_is_name f fd) (B : Bn2 mg) : FnOk P w0 K mg base CX0 1 f fd ["thing"] splIsName := by
  refine F.ok sc__law_is_name (fun vs H Q E h => ?_) (fun cdv A outer s H vs Q E hr h => ?_)
  · obtain ⟨x, d, rfl, _⟩ := h
    rfl
  · obtain ⟨x, d, rfl, hd, ho, q⟩ := h
    refine ⟨_, (Evl.pss_cut (ps_set (i := 1) sc__law_is_name.nd rfl (Or.inl rfl) (pe_lst (pa_cons pe_str (pa_cons pe_str (pa_cons pe_str (pa_cons pe_str (pa_cons pe_str (pa_cons pe_str (pa_cons pe_str (pa_cons pe_str (pa_cons pe_str (pa_cons pe_str (pa_cons pe_str (pa_cons pe_str (pa_cons pe_str (pa_cons pe_str pa_nil))))))))))))))))
      (Evl.pss_cut (ps_set (i := 1) sc__law_is_name.nd rfl (Or.inl rfl) (pe_op op_cat (pv 1) (pe_lst (pa_cons pe_str (pa_cons pe_str (pa_cons pe_str (pa_cons pe_str (pa_cons pe_str (pa_cons pe_str (pa_cons pe_str (pa_cons pe_str (pa_cons pe_str (pa_cons pe_str (pa_cons pe_str (pa_cons pe_str (pa_cons pe_str (pa_cons pe_str pa_nil)))))))))))))))))
      (pss_cons (ps_if (PW.pt (pw_or (pt_not (pt_val (pe_callB call_isi (by rfl) B.isinstance (by decide +kernel) (pa_cons (pv 0) (pa_cons (pe_bltn (v := .ty "str") (by rfl) B.str (by decide +kernel) rfl) pa_nil))))) (pw_or (pt_not (pt_chain op_le op_le pe_int (pe_callB call_len_str (by rfl) B.len PySem.boot_len (pa_cons (pv 0) pa_nil)) pe_int)) (pw_or1 (pt_cmpR op_in_seq (pv 0) (pe_op op_cat (pv 1) (pe_lst (pa_cons pe_str (pa_cons pe_str pa_nil)))) (by rfl)))))) (pss_one (ps_ret pe_bl)) pss_nil)
      (pss_one (ps_ret (pe_cmpR (op_eqD hr.units) (pe_lc (own := [("letter", 2)]) (g := (gName 2)) (tt := _) (by rfl) sc__law_is_name.nd (pi_str (pv 0)) (blkOk_by (N := n__law_is_name) (sc := defScope s__law_is_name) (by decide +kernel)) (fun _ _ _ _ _ => (pg_name (i := 2) sc__law_is_name.nd rfl (Or.inl rfl))) (fun _ _ _ _ _ => (pts_one (pt_cmpR op_notIn_sign (pv 2) pe_str (by rfl)))) (fun _ _ _ _ _ => (pv 2))) (pe_lst pa_nil) (nomark _))))))), ?_⟩
    refine ⟨fun σ H1 => ∃ p, σ = [some x, some (.ref p), none] ∧ Same H H1 ∧ H1 p = some (.lst ((K1.keptS.take 14).map V.str)), ?_, ?_⟩
    · refine ⟨(by show 14 ≤ sizeLine; exact small1000' (by decide)), fun p hp => ⟨p, rfl, Same.new hp, upd_same⟩⟩
    rintro σ H1 ⟨p, rfl, s1, e1⟩
    refine ⟨fun σ H1 => ∃ p, σ = [some x, some (.ref p), none] ∧ Same H H1 ∧ H1 p = some (.lst ((K1.keptS.take 28).map V.str)), ?_, ?_⟩
    · refine ⟨_, rfl, (by show 14 ≤ sizeLine; exact small1000' (by decide)), fun p2 hp2 => ?_⟩
      have s2 := Same.new hp2 (o := .lst (((K1.keptS.drop 14).take 14).map V.str))
      refine ⟨p, p2, _, _, rfl, rfl, s2 _ _ e1, upd_same, (by show 28 ≤ sizeLine; exact small1000' (by decide)), fun p3 hp3 => ⟨p3, rfl, s1.trans (s2.trans (Same.new hp3)), ?_⟩⟩
      rw [upd_same]
      rfl
    rintro σ H2 ⟨p2, rfl, s2, e2⟩
    have hd2 := hd.same s2
    by_cases hk : kindD d = "str"
    · obtain ⟨w, rfl, rfl⟩ := hd.str_of hk
      obtain ⟨o1, o2⟩ := okD_str ho
      have hz : w.length ≤ sizeLine := small5 (by omega)
      have q : ∀ H', Same H H' → Q (.bl (K1.isName w)) H' := q
      have k0 : K1.isName w = false → ∀ H', Same H H' → Q (.bl false) H' := fun e => e ▸ q
      refine ⟨_, rfl, _, .ty "str", .type "str", .type "str", true, rfl, .ty _, Kd.ty (.str w), kit_ty (by decide +kernel), true, rfl, iteF ?_⟩
      refine ⟨_, rfl, w, rfl, hz, _, _, rfl, rfl, _, rfl, ite2 (fun h1 => ?_) (fun h1 => ?_)⟩
      · have h1 : (1 : Int) ≤ w.length := of_decide_eq_true h1
        refine ⟨_, _, rfl, rfl, _, rfl, ?_⟩
        by_cases h2 : (w.length : Int) ≤ 8
        · refine iteFd (by rw [decide_eq_true h2]; rfl) ?_
          refine ⟨_, rfl, _, rfl, (by show 2 ≤ sizeLine; decide), fun p3 hp3 => ⟨p2, p3, _, _, rfl, rfl, (Same.new hp3) _ _ e2, upd_same, (by show 30 ≤ sizeLine; exact small1000' (by decide)), fun p4 hp4 => ?_⟩⟩
          have s4 := s2.trans ((Same.new hp3 (o := .lst [.str "uses", .str "while"])).trans (Same.new hp4 (o := .lst ((K1.keptS.take 28).map V.str ++ [.str "uses", .str "while"]))))
          refine ⟨p4, K1.keptS.map V.str, rfl, .inl (SqL.of (by rw [upd_same]; rfl)), rfl, K1.flat_strs _, _, rfl, ?_⟩
          rw [K1.inV_str]
          by_cases h3 : w ∈ K1.keptS
          · rw [decide_eq_true h3]
            refine iteT (k0 ?_ _ s4)
            simp [K1.isName, h3]
          · rw [decide_eq_false h3]
            refine iteF ?_
            have hfin : ∀ {Hq : Hp}, Same H Hq → Q (.bl ((tl w).filter fun c => !K1.small c).isEmpty) Hq := fun {Hq} sq => by
              have e3 : K1.isName w = ((tl w).filter fun c => !K1.small c).isEmpty := by
                have : K1.isName w = (tl w).all K1.small := by simp [K1.isName, h3, show 1 ≤ w.length by omega, show w.length ≤ 8 by omega]
                rw [this, Bool.eq_iff_iff, List.all_eq_true, List.isEmpty_iff, List.filter_eq_nil_iff]
                constructor
                · intro h c hc
                  rw [h c hc]
                  decide
                · intro h c hc
                  have := h c hc
                  simpa using this
              rw [← e3]
              exact q Hq sq
            generalize upd (upd H2 p3 (.lst [.str "uses", .str "while"])) p4 (.lst ((K1.keptS.take 28).map V.str ++ [.str "uses", .str "while"])) = H4 at s4 ⊢
            refine ⟨_, rfl, w, rfl, fun p5 hp5 => lc_it walk_str (fun i H' => Same H4 H' ∧ H' p5 = some (.lst ((((tl w).take i).filter fun c => !K1.small c).map fun c => V.str ⟨#[c]⟩))) ⟨Same.new hp5, upd_same⟩ (fun _ _ _ _ => trivial) ?_ ?_⟩
            · rintro i x H5 H' hi ⟨s5, e5⟩ ⟨rfl, c, hc, rfl⟩
              have hci := K83.at_tl hc
              refine ⟨rfl, _, rfl, c, lettersS, rfl, rfl, _, rfl, ?_⟩
              rw [small_letters]
              have htk : ((tl w).take (i + 1)).filter (fun c => !K1.small c) = ((tl w).take i).filter (fun c => !K1.small c) ++ [c].filter (fun c => !K1.small c) := by
                rw [List.take_add_one, hci, List.filter_append]
                rfl
              cases hsm : K1.small c with
              | true =>
                refine iteFd rfl ⟨s5, ?_⟩
                rw [htk, show [c].filter (fun c => !K1.small c) = [] from by simp [hsm], List.append_nil]
                exact e5
              | false =>
                refine iteTd rfl ⟨_, rfl, _, e5, ?_, Same.upd' s5 hp5, ?_⟩
                · rw [List.length_map]
                  refine small20 (Nat.le_trans (List.length_filter_le _ _) (Nat.le_trans (by rw [List.length_take]; exact Nat.min_le_right _ _) (by show w.length ≤ 20; omega)))
                · rw [upd_same, htk, show [c].filter (fun c => !K1.small c) = [c] from by simp [hsm], List.map_append]
                  rfl
            · rintro H5 ⟨s5, e5⟩
              rw [List.take_of_length_le (Nat.le_of_eq (by simp))] at e5
              generalize hfl : (tl w).filter (fun c => !K1.small c) = fl at e5 hfin
              have hfa : ∀ c ∈ fl, c < 128 := fun c hc => by
                rw [← hfl] at hc
                exact o2 c (List.mem_filter.mp hc).1
              obtain ⟨y1, y2⟩ := lay_ones fl hfa
              refine ⟨(by show 0 ≤ sizeLine; exact Nat.zero_le _), fun p6 hp6 => ?_⟩
              have n56 : p5 ≠ p6 := ne_of_none e5 hp6
              have y3 : PyData.canLay0 (.list (fl.map oneD)) = true := by simpa [PyData.canLay0] using y1
              refine ⟨.list (fl.map oneD), .list [], .lst (SqL.of (by rw [upd_ne n56]; exact e5)) ((ones_dn (n := anyA) (H := upd H5 p6 (.lst [])) fl).dp y1), .lst (SqL.of upd_same) .nil, ?_, rfl, ?_⟩
              · show (PyData.canLay0 (.list _) && decide (PyData.depth (.list _) ≤ 64)) = true
                rw [Bool.and_eq_true, decide_eq_true_eq]
                refine ⟨y3, ?_⟩
                show PyData.depthAll _ + 1 ≤ 64
                omega
              · have e : PyData.eqv (.list (fl.map oneD)) (.list []) = fl.isEmpty := by
                  cases fl <;> rfl
                rw [e]
                exact hfin (s4.trans (s5.trans (Same.new hp6)))
        · refine iteTd (by rw [decide_eq_false h2]; rfl) (k0 ?_ _ s2)
          simp [K1.isName, show ¬ w.length ≤ 8 by omega]
      · have h1 : ¬ (1 : Int) ≤ w.length := fun z => h1 (decide_eq_true z)
        refine ⟨_, rfl, iteT (k0 ?_ _ s2)⟩
        simp [K1.isName, show ¬ 1 ≤ w.length by omega]
    · have q0 := q H2 s2
      rw [nm_no hk] at q0
      exact ⟨_, rfl, _, .ty "str", .type _, .type "str", false, rfl, .ty _, Kd.ty (hd2.kd), kd_no (hd2.kd) (by simp) hk, false, rfl, q0⟩
end
end SA

set_option Elab.async false
set_option linter.all false
set_option maxRecDepth 100000
set_option maxHeartbeats 1000000
namespace K83
open PySem PySem.Spec
open K82 (L one tl)
theorem dig_sign (c : Nat) : decide (c ∈ tl ("0123456789" : Str)) = digit c := by
  unfold digit
  rw [decide_eq_decide]
  have e : tl ("0123456789" : Str) = [48, 49, 50, 51, 52, 53, 54, 55, 56, 57] := by decide +kernel
  rw [e]
  simp only [List.mem_cons, List.not_mem_nil, or_false]
  omega
/-- what the law says of a place: the letter c lets slots in -/
def lawPl (r : Nat) (sl : Bool) : L → Bool
  | a :: b :: f => (b :: f).all digit && (!(decide (b = 48) && !f.isEmpty) && (if a = 114 then f.isEmpty && decide (dnum (b :: f) < r) else sl && (decide (a = 115) && decide (f.length ≤ 2))))
  | _ => false
theorem lawPl_eq {r : Nat} (l : L) (sl : Bool) : lawPl r sl l = ((sl && slotL l) || regL r l) := by
  match l with
  | [] => cases sl <;> rfl
  | [a] =>
    by_cases h : a = 115
    · subst h
      cases sl <;> rfl
    · have h2 : regL r [a] = false := by
        unfold regL
        split
        · rename_i c e
          cases e
        · rfl
      have h1 : slotL [a] = false := by
        unfold slotL
        split
        · rename_i f e
          injection e with e1 e2
          exact absurd e1 h
        · rfl
      show false = _
      rw [h1, h2, Bool.and_false, Bool.false_or]
  | a :: b :: f =>
    show ((b :: f).all digit && (!(decide (b = 48) && !f.isEmpty) && (if a = 114 then f.isEmpty && decide (dnum (b :: f) < r) else sl && (decide (a = 115) && decide (f.length ≤ 2))))) = _
    by_cases h : a = 114
    · subst h
      have h1 : slotL (114 :: b :: f) = false := rfl
      rw [if_pos rfl, h1, Bool.and_false, Bool.false_or]
      cases f with
      | nil =>
        have e : dnum [b] = b - 48 := by simp [dnum, dnum.dv10]
        show (([b].all digit) && (!(decide (b = 48) && !true) && (true && decide (dnum [b] < r)))) = (digit b && decide (b - 48 < r))
        rw [e]
        simp
      | cons c f =>
        have h2 : regL r (114 :: b :: c :: f) = false := rfl
        rw [h2]
        simp
    · have h2 : regL r (a :: b :: f) = false := by
        unfold regL
        split
        · rename_i c e
          injection e with e1 e2
          exact absurd e1 h
        · rfl
      rw [if_neg h, h2, Bool.or_false]
      by_cases h5 : a = 115
      · subst h5
        show _ = (sl && (figsB (b :: f) && decide ((b :: f).length ≤ 3)))
        unfold figsB
        cases sl
        · simp
        · cases f with
          | nil => simp
          | cons c f =>
            simp
            cases hd : digit b <;> simp
            by_cases hb : b = 48 <;> simp [hb] <;> omega
      · have h1 : slotL (a :: b :: f) = false := by
          unfold slotL
          split
          · rename_i g e
            injection e with e1 e2
            exact absurd e1 h5
          · rfl
        rw [h1, decide_eq_false h5]
        simp
end K83

set_option Elab.async false
set_option linter.all false
set_option maxRecDepth 100000
set_option maxHeartbeats 1000000
namespace SA
open PySem PySem.Spec PyProof.Rows L2 K83
open K82 hiding mk tl_mk mk_tl mk_app
/-! ### a list of anything against the empty list -/
theorem plainL_list {h : Heap} {a : Addr} {its : Array Value} (p : PySem.PlainL h a its) : h.IsList a its := by
  obtain ⟨o, n, h1, h2, _, h4⟩ := p
  exact ⟨o, h1, h2, n, h4⟩
theorem op_eq_nilL {X : Cx} (hu : X.A.units + 64 < cLine) : OpR X (compareOp .Eq) (fun x y H Q => ∃ (a b : Addr) (xs : List V), x = .ref a ∧ y = .ref b ∧ SqL X.K H a xs ∧ SqL X.K H b [] ∧ Q (.bl xs.isEmpty) H) := by
  intro pins s σ H x y v u Q I rx ry h
  obtain ⟨a, b, xs, rfl, rfl, ha, hb, q⟩ := h
  obtain rfl : v = .ref a := rx
  obtain rfl : u = .ref b := ry
  obtain ⟨its, r1, p1, _⟩ := I.list ha
  obtain ⟨its2, r2, p2, _⟩ := I.list hb
  have e2 : its2 = [] := by
    cases r2
    rfl
  subst e2
  have hl := r1.length
  match xs, its, r1, p1, q with
  | [], [], _, p1, q => exact SeqAt.eq_listAt (items := #[]) (items2 := #[]) (e := fun _ => true) (plainL_list p1) (plainL_list p2) rfl (by omega) (fun j h1 _ => absurd h1 (Nat.not_lt_zero j)) ⟨.bl true, H, I, rfl, q⟩
  | _ :: _, i :: is, _, p1, q => exact SeqAt.eq_list_lengthsAt (items := (i :: is).toArray) (items2 := #[]) (plainL_list p1) (plainL_list p2) (by simp) (by omega) ⟨.bl false, H, I, rfl, q⟩
theorem op_ne_nilL {X : Cx} (hu : X.A.units + 64 < cLine) : OpR X (compareOp .NotEq) (fun x y H Q => ∃ (a b : Addr) (xs : List V), x = .ref a ∧ y = .ref b ∧ SqL X.K H a xs ∧ SqL X.K H b [] ∧ Q (.bl (!xs.isEmpty)) H) := by
  intro pins s σ H x y v u Q I rx ry h
  obtain ⟨a, b, xs, rfl, rfl, ha, hb, q⟩ := h
  obtain rfl : v = .ref a := rx
  obtain rfl : u = .ref b := ry
  obtain ⟨its, r1, p1, _⟩ := I.list ha
  obtain ⟨its2, r2, p2, _⟩ := I.list hb
  have e2 : its2 = [] := by
    cases r2
    rfl
  subst e2
  match xs, its, r1, p1, q with
  | [], [], _, p1, q => exact SeqAt.RcNeAt.lists (items := #[]) (items2 := #[]) (e := fun _ => false) (plainL_list p1) (plainL_list p2) rfl (by omega) (fun j h1 _ => absurd h1 (Nat.not_lt_zero j)) _ _ _ _ ⟨.bl false, H, I, rfl, q⟩
  | _ :: _, i :: is, _, p1, q => exact SeqAt.RcNeAt.lists_lengths (items := (i :: is).toArray) (items2 := #[]) (plainL_list p1) (plainL_list p2) (by simp) (by omega) _ _ _ _ ⟨.bl true, H, I, rfl, q⟩
/-! ### a display of pairs of texts -/
def tPrs : List (Str × Str) → TA
  | [] => tNil
  | (a, b) :: r => tCons (tTup (tCons (tC (.str a)) (tCons (tC (.str b)) tNil))) (tPrs r)
theorem pe_lstP {X : Cx} {es : List Expr} {pos : Pos} (L : List (Str × Str)) (h : PA X es (tPrs L)) : PE X (.List es pos) (tLst (tPrs L)) := pe_lst h
theorem prs_disp {σ : L2.St} : ∀ (L : List (Str × Str)) (H : Hp) (Q : List V → Hp → Prop),
    (∀ (xs : List V) (H' : Hp), Same H H' → xs.length = L.length → (∀ (i : Nat) (a b : Str), L[i]? = some (a, b) → ∃ p, xs[i]? = some (.ref p) ∧ H' p = some (.tup [.str a, .str b])) → Q xs H') → tPrs L σ H Q
  | [], H, Q, h => h [] H (Same.refl H) rfl fun i a b e => by simp at e
  | (a, b) :: r, H, Q, h => by
    refine ⟨(by show 2 ≤ sizeLine; decide), fun t ht => ?_⟩
    refine prs_disp r _ _ fun xs H' s hl hx => ?_
    refine h (.ref t :: xs) H' ((Same.new ht).trans s) (by rw [List.length_cons, List.length_cons, hl]) fun i a' b' e => ?_
    cases i with
    | zero =>
      have e : (a, b) = (a', b') := Option.some.inj e
      injection e with e1 e2
      subst e1 e2
      exact ⟨t, rfl, s _ _ upd_same⟩
    | succ i =>
      rw [List.getElem?_cons_succ] at e
      obtain ⟨p, h1, h2⟩ := hx i a' b' e
      exact ⟨p, h1, h2⟩
end SA

set_option Elab.async false
set_option linter.all false
set_option maxRecDepth 100000
set_option maxHeartbeats 1000000
namespace K83
open PySem PySem.Spec
open K82 (L one tl)
/-- the law's table, in the order in which it comes to be -/
def shp : List (Str × Str) := [("const", "rn"), ("copy", "cc"), ("not", "rr"), ("make", "wrl"), ("tag", "rr"), ("part", "wkrr"), ("long", "wrr"), ("new", "wrrr"),
  ("plus", "rrr"), ("minus", "rrr"), ("times", "rrr"), ("over", "rrr"), ("rest", "rrr"), ("less", "rrr"), ("atmost", "rrr"), ("same", "rrr"),
  ("at", "wrrr"), ("put", "wrrr"), ("show", "r"), ("call", "j"), ("jump", "j"), ("branch", "rj"), ("unless", "rj"), ("try", "jj"), ("return", ""), ("fail", "r")]
abbrev kvS (l : List (Str × Str)) : List (L2.Key × L2.V) := l.map fun q => (Sum.inr q.1, .str q.2)
def shapeL (ls : List Lt) : Str := ⟨(ls.map SA.lawLt).toArray⟩
theorem shp_put : ∀ i < 18, L2.putK (kvS (shp.take (8 + i))) (Sum.inr (shp.getD (8 + i) ("", "")).1) (.str (shp.getD (8 + i) ("", "")).2) = kvS (shp.take (8 + i + 1)) := by decide +kernel
theorem shp_tab : ∀ q ∈ tab, L2.valV (kvS shp) (Sum.inr q.1) = some (.str (shapeL q.2)) := by decide +kernel
theorem shp_in : ∀ q ∈ shp, (tab.lookup q.1).isSome = true := by decide +kernel
theorem shp_no {w : Str} (h : tab.lookup w = none) : L2.valV (kvS shp) (Sum.inr w) = none := by
  have g : ∀ l : List (Str × Str), (∀ q ∈ l, q.1 ≠ w) → L2.valV (kvS l) (Sum.inr w) = none := by
    intro l
    induction l with
    | nil => intro _; rfl
    | cons q l ih =>
      intro hl
      have h1 := hl q List.mem_cons_self
      show L2.valV ((Sum.inr q.1, L2.V.str q.2) :: kvS l) (Sum.inr w) = none
      rw [L2.valV_neg (fun e => h1 (Sum.inr.inj e))]
      exact ih fun x hx => hl x (List.mem_cons_of_mem _ hx)
  refine g shp fun q hq e => ?_
  have := shp_in q hq
  rw [e, h] at this
  cases this
end K83
namespace SA
open PySem PySem.Spec PyProof.Rows L2 K83
open K82 hiding mk tl_mk mk_tl mk_app
def splShapes : Sp := fun vs H Q _ => vs = [] ∧ ∀ (p : Addr) (H' : Hp), H p = none → Same H H' → H' p = some (.dK (kvS shp)) → Q (.ref p) H'
section
variable {P : Program} {w0 : World} {K : PySem.W.Frag} {mg : Str → Option Value} {base : Heap}
theorem okl_shapes {f : Addr} {fd : FuncData} (F : Fun K "_law_shapes" "_law_shapes" s__law_shapes f fd) : FnOk P w0 K mg base CX0 1 f fd [] splShapes := by
  refine F.ok sc__law_shapes (fun vs H Q E h => ?_) (fun cdv A outer s H vs Q E hr h => ?_)
  · rw [h.1]
    rfl
  · obtain ⟨rfl, q⟩ := h
    have hu := hu_of hr
    refine ⟨_, (Evl.pss_cut (ps_set (i := 0) sc__law_shapes.nd rfl (Or.inl rfl) (pe_disp (pps_cons pe_str pe_str (pps_cons pe_str pe_str (pps_cons pe_str pe_str (pps_cons pe_str pe_str (pps_cons pe_str pe_str (pps_cons pe_str pe_str (pps_cons pe_str pe_str (pps_cons pe_str pe_str pps_nil)))))))) (by rfl) (by rfl) (fun z => by cases z) (by decide)))
      (Evl.pss_cut (ps_for PassesOwn.never rfl (pi_list (pe_lst (pa_cons pe_str (pa_cons pe_str (pa_cons pe_str (pa_cons pe_str (pa_cons pe_str (pa_cons pe_str (pa_cons pe_str (pa_cons pe_str pa_nil)))))))))) (pg_name (i := 1) sc__law_shapes.nd rfl (Or.inl rfl)) (pss_one (ps_dput hu (pv 0) (pv 1) pe_str rfl)))
      (Evl.pss_cut (ps_for PassesOwn.never rfl (pi_list (pe_lstP [("at", "wrrr"), ("put", "wrrr"), ("show", "r"), ("call", "j"), ("jump", "j"), ("branch", "rj")] (pa_cons (pe_tup (pa_cons pe_str (pa_cons pe_str pa_nil))) (pa_cons (pe_tup (pa_cons pe_str (pa_cons pe_str pa_nil))) (pa_cons (pe_tup (pa_cons pe_str (pa_cons pe_str pa_nil))) (pa_cons (pe_tup (pa_cons pe_str (pa_cons pe_str pa_nil))) (pa_cons (pe_tup (pa_cons pe_str (pa_cons pe_str pa_nil))) (pa_cons (pe_tup (pa_cons pe_str (pa_cons pe_str pa_nil))) pa_nil)))))))) (pg_tup (by rfl) (pgs_cons (pg_name (i := 1) sc__law_shapes.nd rfl (Or.inl rfl)) (pgs_cons (pg_name (i := 2) sc__law_shapes.nd rfl (Or.inl rfl)) pgs_nil))) (pss_one (ps_dput hu (pv 0) (pv 1) (pv 2) rfl)))
      (pss_cons (ps_for PassesOwn.never rfl (pi_list (pe_lstP [("unless", "rj"), ("try", "jj"), ("return", ""), ("fail", "r")] (pa_cons (pe_tup (pa_cons pe_str (pa_cons pe_str pa_nil))) (pa_cons (pe_tup (pa_cons pe_str (pa_cons pe_str pa_nil))) (pa_cons (pe_tup (pa_cons pe_str (pa_cons pe_str pa_nil))) (pa_cons (pe_tup (pa_cons pe_str (pa_cons pe_str pa_nil))) pa_nil)))))) (pg_tup (by rfl) (pgs_cons (pg_name (i := 1) sc__law_shapes.nd rfl (Or.inl rfl)) (pgs_cons (pg_name (i := 2) sc__law_shapes.nd rfl (Or.inl rfl)) pgs_nil))) (pss_one (ps_dput hu (pv 0) (pv 1) (pv 2) rfl)))
      (pss_one (ps_ret (pv 0))))))), ?_⟩
    refine ⟨fun σ H1 => ∃ p, σ = [some (.ref p), none, none] ∧ H p = none ∧ Same H H1 ∧ H1 p = some (.dK (kvS (shp.take 8))), ?_, ?_⟩
    · intro p hp
      refine ⟨upd_same, (shp.take 8).map fun q => (Sum.inr q.1, V.str q.2), rfl, (by show 8 ≤ 15; decide), ?_⟩
      refine ⟨p, rfl, hp, Same.upd' (Same.new hp) hp, ?_⟩
      rw [upd_same]
      exact congrArg (fun l => some (HO.dK l)) (by decide +kernel)
    rintro σ H1 ⟨p, rfl, hp, s1, e1⟩
    refine ⟨fun σ H2 => ∃ y1 y2, σ = [some (.ref p), y1, y2] ∧ Same H H2 ∧ H2 p = some (.dK (kvS (shp.take 16))), ?_, ?_⟩
    · refine ⟨(by show 8 ≤ sizeLine; exact small1000' (by decide)), fun l hl => ?_⟩
      have nlp : p ≠ l := ne_of_none e1 hl
      have el : (upd H1 l (.lst (((shp.drop 8).take 8).map fun q => V.str q.1))) l = some (.lst (((shp.drop 8).take 8).map fun q => V.str q.1)) := upd_same
      have s2 : Same H (upd H1 l (.lst (((shp.drop 8).take 8).map fun q => V.str q.1))) := s1.trans (Same.new hl)
      have e2 : (upd H1 l (.lst (((shp.drop 8).take 8).map fun q => V.str q.1))) p = some (.dK (kvS (shp.take 8))) := by rw [upd_ne nlp]; exact e1
      refine ⟨l, rfl, ⟨_, SqL.of el⟩, for_list (K := K) (a := l) (xs := ((shp.drop 8).take 8).map fun q => V.str q.1) (fun i σ H' => ∃ y1, σ = [some (.ref p), y1, none] ∧ Same H H' ∧ H' p = some (.dK (kvS (shp.take (8 + i)))) ∧ H' l = some (.lst (((shp.drop 8).take 8).map fun q => V.str q.1)))
        ⟨none, rfl, s2, e2, el⟩ (fun i σ H' _ ⟨_, _, _, _, e⟩ => SqL.of e) ?_ ?_⟩
      · rintro i x σ H2 hx ⟨y1, rfl, s3, e3, el3⟩
        have hi : i < 8 := (List.getElem?_eq_some_iff.mp hx).1
        have hxs : ∀ i < 8, (((shp.drop 8).take 8).map fun q => V.str q.1)[i]? = some (.str (shp.getD (8 + i) ("", "")).1) ∧ (shp.getD (8 + i) ("", "")).2 = "rrr" := by decide +kernel
        obtain ⟨h1, h2⟩ := hxs i hi
        rw [h1] at hx
        obtain rfl := Option.some.inj hx
        have hput := shp_put i (by omega)
        rw [h2] at hput
        refine ⟨_, rfl, _, rfl, p, _, rfl, DPut.k (k := Sum.inr (shp.getD (8 + i) ("", "")).1) e3 ?_, ?_⟩
        · rw [List.length_map, List.length_take]
          exact Nat.lt_of_le_of_lt (Nat.min_le_right _ _) (by have := sizeLine_eq; show 26 < sizeLine; omega)
        · rw [hput]
          exact ⟨_, rfl, Same.upd' s3 hp, upd_same, by rw [upd_ne nlp.symm]; exact el3⟩
      · rintro σ H2 ⟨y1, rfl, s3, e3, _⟩
        exact ⟨_, _, rfl, s3, e3⟩
    rintro σ H2 ⟨y1, y2, rfl, s2, e2⟩
    refine ⟨fun σ H2 => ∃ y1 y2, σ = [some (.ref p), y1, y2] ∧ Same H H2 ∧ H2 p = some (.dK (kvS (shp.take 22))), ?_, ?_⟩
    · refine prs_disp _ _ _ fun xs H3 s3 hl hx => ⟨by rw [hl]; exact small1000' (by decide), fun l hl2 => ?_⟩
      have e3 := s3 _ _ e2
      have nlp : p ≠ l := ne_of_none e3 hl2
      have s4 : Same H3 (upd H3 l (.lst xs)) := Same.new hl2
      have el : (upd H3 l (.lst xs)) l = some (.lst xs) := upd_same
      refine ⟨l, rfl, ⟨_, SqL.of el⟩, for_list (K := K) (a := l) (xs := xs) (fun i σ H' => ∃ y1 y2, σ = [some (.ref p), y1, y2] ∧ Same H H' ∧ H' p = some (.dK (kvS (shp.take (16 + i)))) ∧ (∀ b o, (upd H3 l (.lst xs)) b = some o → b ≠ p → H' b = some o))
        ⟨_, _, rfl, (s2.trans s3).trans s4, s4 _ _ e3, fun b o e _ => e⟩ (fun i σ H' _ ⟨_, _, _, _, _, h⟩ => SqL.of (h _ _ el nlp.symm)) ?_ ?_⟩
      · rintro i x σ H4 hxi ⟨y1, y2, rfl, s5, e5, h5⟩
        have hi : i < 6 := by
          have := (List.getElem?_eq_some_iff.mp hxi).1
          rw [hl] at this
          exact this
        have hq : ∀ i < 6, ([("at", "wrrr"), ("put", "wrrr"), ("show", "r"), ("call", "j"), ("jump", "j"), ("branch", "rj")] : List (Str × Str))[i]? = some ((shp.getD (16 + i) ("", "")).1, (shp.getD (16 + i) ("", "")).2) := by decide +kernel
        obtain ⟨t, h1, h2⟩ := hx i _ _ (hq i hi)
        rw [hxi] at h1
        obtain rfl := Option.some.inj h1
        have h2' := s4 _ _ h2
        have ntp : t ≠ p := ne_of h2 e3 (by intro z; cases z)
        have hput := shp_put (8 + i) (by omega)
        rw [show 8 + (8 + i) = 16 + i by omega] at hput
        refine ⟨t, _, rfl, SqT.of (h5 _ _ h2' ntp), rfl, _, _, rfl, _, _, rfl, rfl, _, rfl, _, rfl, _, rfl, p, _, rfl, DPut.k (k := Sum.inr (shp.getD (16 + i) ("", "")).1) e5 ?_, ?_⟩
        · rw [List.length_map, List.length_take]
          exact Nat.lt_of_le_of_lt (Nat.min_le_right _ _) (by have := sizeLine_eq; show 26 < sizeLine; omega)
        · rw [hput]
          exact ⟨_, _, rfl, Same.upd' s5 hp, upd_same, fun b o e nb => by rw [upd_ne nb]; exact h5 _ _ e nb⟩
      · rintro σ H4 ⟨y1, y2, rfl, s5, e5, _⟩
        rw [hl] at e5
        exact ⟨_, _, rfl, s5, e5⟩
    rintro σ H2 ⟨y1, y2, rfl, s2, e2⟩
    refine prs_disp _ _ _ fun xs H3 s3 hl hx => ⟨by rw [hl]; exact small1000' (by decide), fun l hl2 => ?_⟩
    have e3 := s3 _ _ e2
    have nlp : p ≠ l := ne_of_none e3 hl2
    have s4 : Same H3 (upd H3 l (.lst xs)) := Same.new hl2
    have el : (upd H3 l (.lst xs)) l = some (.lst xs) := upd_same
    refine ⟨l, rfl, ⟨_, SqL.of el⟩, for_list (K := K) (a := l) (xs := xs) (fun i σ H' => ∃ y1 y2, σ = [some (.ref p), y1, y2] ∧ Same H H' ∧ H' p = some (.dK (kvS (shp.take (22 + i)))) ∧ (∀ b o, (upd H3 l (.lst xs)) b = some o → b ≠ p → H' b = some o))
      ⟨_, _, rfl, (s2.trans s3).trans s4, s4 _ _ e3, fun b o e _ => e⟩ (fun i σ H' _ ⟨_, _, _, _, _, h⟩ => SqL.of (h _ _ el nlp.symm)) ?_ ?_⟩
    · rintro i x σ H4 hxi ⟨y1, y2, rfl, s5, e5, h5⟩
      have hi : i < 4 := by
        have := (List.getElem?_eq_some_iff.mp hxi).1
        rw [hl] at this
        exact this
      have hq : ∀ i < 4, ([("unless", "rj"), ("try", "jj"), ("return", ""), ("fail", "r")] : List (Str × Str))[i]? = some ((shp.getD (22 + i) ("", "")).1, (shp.getD (22 + i) ("", "")).2) := by decide +kernel
      obtain ⟨t, h1, h2⟩ := hx i _ _ (hq i hi)
      rw [hxi] at h1
      obtain rfl := Option.some.inj h1
      have h2' := s4 _ _ h2
      have ntp : t ≠ p := ne_of h2 e3 (by intro z; cases z)
      have hput := shp_put (14 + i) (by omega)
      rw [show 8 + (14 + i) = 22 + i by omega] at hput
      refine ⟨t, _, rfl, SqT.of (h5 _ _ h2' ntp), rfl, _, _, rfl, _, _, rfl, rfl, _, rfl, _, rfl, _, rfl, p, _, rfl, DPut.k (k := Sum.inr (shp.getD (22 + i) ("", "")).1) e5 ?_, ?_⟩
      · rw [List.length_map, List.length_take]
        exact Nat.lt_of_le_of_lt (Nat.min_le_right _ _) (by have := sizeLine_eq; show 26 < sizeLine; omega)
      · rw [hput]
        exact ⟨_, _, rfl, Same.upd' s5 hp, upd_same, fun b o e nb => by rw [upd_ne nb]; exact h5 _ _ e nb⟩
    · rintro σ H4 ⟨y1, y2, rfl, s5, e5, _⟩
      rw [hl] at e5
      exact ⟨_, rfl, q p H4 hp s5 e5⟩
end
end SA

set_option Elab.async false
set_option linter.all false
set_option maxRecDepth 100000
set_option maxHeartbeats 1000000
namespace K83
open PySem PySem.Spec
open K82 (L one tl IsB bval bdig enc dec zig zag)
theorem lawLt_signs (ls : List Lt) : SA.signs (shapeL ls) = ls.map fun c => L2.V.str (SA.sgL c) := by
  unfold SA.signs shapeL
  simp
theorem shapeL_len (ls : List Lt) : (shapeL ls).length = ls.length := by
  show (ls.map SA.lawLt).toArray.size = _
  simp
/-- of two places one is a register -/
theorem copy_heads {r : Nat} {z : Str} (h : (isSlot (.str z) || isReg r (.str z)) = true) : ∃ a f, tl z = a :: f ∧ decide (a = 114) = !isSlot (.str z) := by
  by_cases hs : isSlot (.str z) = true
  · obtain ⟨z', f, e0, e, _⟩ := isSlot_ex hs
    injection e0 with e0
    subst e0
    exact ⟨115, f, e, by rw [hs]; rfl⟩
  · have hr : isReg r (.str z) = true := by
      rw [Bool.or_eq_true] at h
      exact h.resolve_left hs
    obtain ⟨z', a, e0, _, _, e⟩ := isReg_ex hr
    injection e0 with e0
    subst e0
    rw [Bool.not_eq_true] at hs
    exact ⟨114, [48 + a], e, by rw [hs]; rfl⟩
end K83
namespace SA
open PySem PySem.Spec PyProof.Rows L2 K83
open K82 hiding mk tl_mk mk_tl mk_app
theorem pe_q0 {X : Cx} {CX : CXT} {k j : Nat} {x : Str} {p pos : Pos} {sp : Sp} {E : XK} (c : Dq X.prog X.w X.K X.mg X.base CX k x [] sp) (hr : Room j X.A) (hk : k ≤ j) (hg : Gl X x) (hx : Passes CX X E) (hdb : (x == ("__debug__" : Str)) = false := by decide) :
    PE X (.Call (.Name x p) [] [] pos) (tCall sp [] E tNil) := by
  obtain ⟨f, fd, F, hm, kp, b⟩ := c.ex
  exact pe_call0 F (hr.mono hk) hg hm kp b .nil hx hdb
def splToldB : Sp := fun vs H Q _ => ∃ (r : Nat) (x : V) (d : PyData), vs = [x] ∧ Dn anyA H x d ∧ okD d = true ∧ judged r d = true ∧ ∀ H', Same H H' → Q (.str (K83.mk (encI d))) H'
def splJudged : Sp := fun vs H Q _ => ∃ (r : Nat) (x : V) (d : PyData), vs = [.int r, x] ∧ Dn anyA H x d ∧ okD d = true ∧ ∀ H', Same H H' → Q (.bl (judged r d)) H'
section
variable {P : Program} {w0 : World} {K : PySem.W.Frag} {mg : Str → Option Value} {base : Heap}
theorem okl_told_bits {f : Addr} {fd : FuncData} (F : Fun K "_law_told_bits" "_law_told_bits" s__law_told_bits f fd) (B : Bn3 mg) (c__law_shapes : Dq P w0 K mg base CX0 1 "_law_shapes" [] splShapes) (c__law_first : Dq P w0 K mg base CX0 2 "_law_first" ["word"] splFirst)
    (c__law_part_bits : Dq P w0 K mg base CX0 4 "_law_part_bits" ["letter", "part"] splPartB) : FnOk P w0 K mg base CX0 5 f fd ["instruction"] splToldB := by
  refine F.ok sc__law_told_bits (fun vs H Q E h => ?_) (fun cdv A outer s H vs Q E hr h => ?_)
  · obtain ⟨r, x, d, rfl, _⟩ := h
    rfl
  · obtain ⟨r, x, d, rfl, hd, ho, hj, q⟩ := h
    refine ⟨_, (pss_cons (ps_set (i := 1) sc__law_told_bits.nd rfl (Or.inl rfl) (pe_dget (hu_of hr) (pe_q0 c__law_shapes hr (by decide) (by rfl) pass0) (pe_ix ix_tup (pv 0) pe_int (fun _ _ => rfl)) (fun _ _ => rfl)))
      (pss_one (ps_ret (pe_op op_add_str (pe_q c__law_first hr (by decide) (by rfl) (pa_cons (pe_ix ix_tup (pv 0) pe_int (fun _ _ => rfl)) pa_nil)) (pe_join pe_str (pe_lc (own := [("letter", 2), ("part", 3)]) (g := (gTup K 2 (gCons (gName 2) (gCons (gName 3) gNil)))) (tt := tYes) (by rfl) sc__law_told_bits.nd (pi_zipX (by rfl) B.zip (pa_cons (pv 1) (pa_cons (pe_slice sl_tup (pv 0) (po_some pe_int) po_none) pa_nil))) (blkOk_by (N := n__law_told_bits) (sc := defScope s__law_told_bits) (by decide +kernel)) (fun _ _ _ _ _ => (pg_tup (by rfl) (pgs_cons (pg_name (i := 2) sc__law_told_bits.nd rfl (Or.inl rfl)) (pgs_cons (pg_name (i := 3) sc__law_told_bits.nd rfl (Or.inl rfl)) pgs_nil)))) (fun _ _ _ _ _ => pts_nil) (fun _ _ _ _ _ => (pe_q c__law_part_bits hr (by decide) (by rfl) (pa_cons (pv 2) (pa_cons (pv 3) pa_nil)))))))))), ?_⟩
    obtain ⟨w, ps, ls, rfl, hm, hlk, hps⟩ := judged_ex hj
    have hcp := tab_copy _ hm
    have hl4 : ls.length ≤ 4 := hcp.2.2
    obtain ⟨hlen, hall⟩ := arePs_all r ls ps hps
    obtain ⟨ho1, ho2⟩ := okD_tup ho
    have ho3 : okDs ps = true := by
      have h : (okD (.str w) && okDs ps) = true := ho2
      rw [Bool.and_eq_true] at h
      exact h.2
    obtain ⟨a, xs, ds, rfl, e0, _, hx, hds⟩ := hd.tup_of rfl
    injection e0 with e0
    subst e0
    match xs, hds, hx with
    | x0 :: ys, .cons h0 hys, hx =>
    cases h0
    have hl := hys.len
    have q : ∀ H', Same H H' → Q (.str (K83.mk (bdig 5 (wix w) ++ ((ps.zip ls).map fun q => encPart q.2 q.1).flatten))) H' := fun H' s => by
      have := q H' s
      rw [show encI (.tuple (.str w :: ps)) = bdig 5 (wix w) ++ encPs ((tab.lookup w).getD []) ps from rfl, hlk, show (some ls).getD [] = ls from rfl, encPs_zip ls ps hlen] at this
      exact this
    refine ⟨rfl, fun p H1 hp s1 e1 => ?_⟩
    have hx1 := s1 _ _ hx
    have dg : DGet H1 p (.str w) (some (.str (shapeL ls))) := shp_tab (w, ls) hm ▸ DGet.k (k := Sum.inr w) e1
    have hll := shapeL_len ls
    refine ⟨_, rfl, a, _, 0, _, rfl, rfl, SqT.of hx1, at0 _ _, p, _, rfl, dg, ?_⟩
    refine ⟨_, rfl, a, _, 0, _, rfl, rfl, SqT.of hx1, at0 _ _, w, ls, rfl, hm, fun H2 s2 => ?_⟩
    have hx2 := s2 _ _ hx1
    refine ⟨⟨_, rfl⟩, _, rfl, _, rfl, 1, rfl, a, _, rfl, SqT.of hx2, noslice (n := ys.length), fun p2 hp2 => ?_⟩
    have s3 : Same H2 (upd H2 p2 (.tup (cutV (V.str w :: ys) (some 1) none))) := Same.new hp2
    rw [cutV_1] at s3 ⊢
    have s123 := s1.trans (s2.trans s3)
    have hys3 := hys.same s123
    refine ⟨.txt (shapeL ls), .tup p2, _, ys, rfl, rfl, SqT.of upd_same, fun p3 hp3 => lc_it (walk_zipX (n := ps.length) (by rw [signs_len, hl, show (shapeL ls).cps.size = ls.length from hll, hlen, Nat.min_self]))
      (fun i H' => Same (upd H2 p2 (.tup ys)) H' ∧ H' p3 = some (.lst (((((ps.zip ls).map fun q => encPart q.2 q.1).take i).map K83.mk).map V.str))) ⟨Same.new hp3, upd_same⟩ (fun i H' _ h => ⟨rfl, SqT.of (h.1 _ _ upd_same)⟩) ?_ ?_⟩
    · rintro i x H4 H' hi ⟨s4, e4⟩ ⟨T', y, x', rfl, hT, rfl, hy, hxi⟩
      have hxi : ys[i]? = some x' := hxi
      have hy : (signs (shapeL ls))[i]? = some y := hy
      obtain ⟨d, hdi, hdn⟩ := hys3.at hxi
      rw [lawLt_signs, List.getElem?_map] at hy
      obtain ⟨c, hci, rfl⟩ := Option.map_eq_some_iff.mp hy
      have hzi : (ps.zip ls)[i]? = some (d, c) := List.getElem?_zip_eq_some.mpr ⟨hdi, hci⟩
      have hmi : ((ps.zip ls).map fun q => encPart q.2 q.1)[i]? = some (encPart c d) := by rw [List.getElem?_map, hzi]; rfl
      have hdn := (hdn.same s4).same (Same.new hT (o := .tup [.str (sgL c), x']))
      have hod := okDs_mem ho3 (List.mem_of_getElem? hdi)
      have hpt : isPart r c d = true := hall _ (List.mem_of_getElem? hzi)
      have npT : p3 ≠ T' := ne_of_none e4 hT
      refine ⟨T', _, rfl, SqT.of upd_same, rfl, _, _, rfl, _, _, rfl, ⟨rfl, rfl, yes ?_⟩⟩
      refine ⟨_, rfl, _, rfl, r, x', d, c, rfl, hdn, hod, hpt, fun H5 s5 => ⟨_, s5 _ _ (by rw [upd_ne npT]; exact e4), ?_, ?_, ?_⟩⟩
      · rw [List.length_map, List.length_map, List.length_take]
        exact small20 (Nat.le_trans (Nat.min_le_left _ _) (by omega))
      · exact Same.upd' ((s4.trans (Same.new hT)).trans s5) hp3
      · rw [upd_same, take_map hmi, List.map_append]
        rfl
    · rintro H4 ⟨s4, e4⟩
      rw [show ps.length = ((ps.zip ls).map fun q => encPart q.2 q.1).length from by rw [List.length_map, List.length_zip, hlen, Nat.min_self], List.take_length] at e4
      have hz : ((ps.zip ls).map fun q => encPart q.2 q.1).length ≤ 4 := by
        rw [List.length_map, List.length_zip]
        omega
      have hle : ∀ l ∈ (ps.zip ls).map (fun q => encPart q.2 q.1), l.length ≤ 130 := fun l hl => by
        obtain ⟨q, hq, rfl⟩ := List.mem_map.mp hl
        exact encPart_len (hall q hq) (okDs_mem ho3 (List.of_mem_zip hq).1)
      have hsum := sum_le (k := 130) _ hle
      refine ⟨_, p3, _, rfl, rfl, .inl (SqL.of e4), ?_, ?_⟩
      · rw [show ("" : Str).length = 0 by decide +kernel]
        omega
      · rw [join_flat]
        refine ⟨_, _, rfl, rfl, ?_, ?_⟩
        · have hs : ∀ l : List K82.L, (∀ x ∈ l, x.length ≤ 130) → l.flatten.length ≤ l.length * 130 := by
            intro l
            induction l with
            | nil => intro _; simp
            | cons x l ih =>
              intro h
              have := ih fun y hy => h y (List.mem_cons_of_mem _ hy)
              have h1 := h x List.mem_cons_self
              rw [List.flatten_cons, List.length_append, List.length_cons, Nat.succ_mul]
              omega
          have := hs _ hle
          rw [mk_len, mk_len, K82.bdig_len]
          exact small1000' (by omega)
        · show Q (.str (K83.mk (bdig 5 (wix w)) ++ K83.mk ((ps.zip ls).map fun q => encPart q.2 q.1).flatten)) H4
          rw [K83.mk_app]
          exact q H4 (s123.trans s4)
end
end SA

set_option Elab.async false
set_option linter.all false
set_option maxRecDepth 100000
set_option maxHeartbeats 1000000
namespace SA
open PySem PySem.Spec PyProof.Rows L2 K83
open K82 hiding mk tl_mk mk_tl mk_app
/-! ### displays of written data -/
theorem PE.imp {X : Cx} {e : Expr} {t t' : TE} (h : PE X e t) (k : ∀ σ H Q, t' σ H Q → t σ H Q) : PE X e t' := ⟨fun pins s σ H Q I q => h.run pins s σ H Q I (k σ H Q q)⟩
theorem pe_neg {X : Cx} {e : Expr} {i : Int} {pos : Pos} (h : PE X e (tC (.int i))) : PE X (.UnaryOp .USub e pos) (tC (.int (-i))) := PE.imp (pe_un un_neg h) fun σ H Q q => ⟨i, rfl, q⟩
mutual
def tLit : PyData → TE
  | .none => tC .non
  | .bool b => tC (.bl b)
  | .int i => tC (.int i)
  | .str z => tC (.str z)
  | .list ds => tLst (tLits ds)
  | .tuple ds => tTup (tLits ds)
  | .dict _ => tDNewK
def tLits : List PyData → TA
  | [] => tNil
  | d :: ds => tCons (tLit d) (tLits ds)
end
mutual
/-- written so: no dict but the empty one, lists no longer than 1000 -/
def litOk : PyData → Bool
  | .list ds => decide (ds.length ≤ 1000) && litsOk ds
  | .tuple ds => decide (ds.length ≤ 1000) && litsOk ds
  | .dict kvs => kvs.isEmpty
  | _ => true
def litsOk : List PyData → Bool
  | [] => true
  | d :: ds => litOk d && litsOk ds
end
theorem small1001 {n : Nat} (h : n ≤ 1000) : n ≤ sizeLine := by
  have := sizeLine_eq
  omega
abbrev newIn (H : Hp) : Addr → Prop := fun b => H b = none
mutual
theorem lit_disp {σ : L2.St} : ∀ (d : PyData) (H : Hp) (Q : VK), litOk d = true → (∀ (x : V) (H' : Hp), Same H H' → Dn (newIn H) H' x d → Q x H') → tLit d σ H Q
  | .none, H, Q, _, k => k _ _ (Same.refl H) .non
  | .bool b, H, Q, _, k => k _ _ (Same.refl H) (.bl b)
  | .int i, H, Q, _, k => k _ _ (Same.refl H) (.int i)
  | .str z, H, Q, _, k => k _ _ (Same.refl H) (.str z)
  | .list ds, H, Q, h, k => by
    have h : (decide (ds.length ≤ 1000) && litsOk ds) = true := h
    rw [Bool.and_eq_true, decide_eq_true_eq] at h
    exact lits_disp ds H _ h.2 fun xs H1 s hx => ⟨small1001 (by rw [hx.len]; exact h.1), fun p hp => k _ _ (s.trans (Same.new hp)) (.lst (s.free hp) upd_same (hx.same (Same.new hp)))⟩
  | .tuple ds, H, Q, h, k => by
    have h : (decide (ds.length ≤ 1000) && litsOk ds) = true := h
    rw [Bool.and_eq_true, decide_eq_true_eq] at h
    exact lits_disp ds H _ h.2 fun xs H1 s hx => ⟨small1001 (by rw [hx.len]; exact h.1), fun p hp => k _ _ (s.trans (Same.new hp)) (.tup (s.free hp) upd_same (hx.same (Same.new hp)))⟩
  | .dict [], H, Q, _, k => fun p hp => k _ _ (Same.new hp) (.dct hp upd_same)
  | .dict (_ :: _), H, Q, h, _ => by cases h
theorem lits_disp {σ : L2.St} : ∀ (ds : List PyData) (H : Hp) (Q : List V → Hp → Prop), litsOk ds = true → (∀ (xs : List V) (H' : Hp), Same H H' → DnAll (newIn H) H' xs ds → Q xs H') → tLits ds σ H Q
  | [], H, Q, _, k => k _ _ (Same.refl H) .nil
  | d :: ds, H, Q, h, k => by
    have h : (litOk d && litsOk ds) = true := h
    rw [Bool.and_eq_true] at h
    exact lit_disp d H _ h.1 fun x H1 s hx => lits_disp ds H1 _ h.2 fun xs H2 s2 hxs => k _ _ (s.trans s2) (.cons (hx.same s2) (hxs.keep (fun b o _ e => e) fun b hb => s.free hb))
end
/-- a display of written data, its items put together -/
theorem lst_disp {σ : L2.St} {H : Hp} {Q : VK} (ds : List PyData) (h : litsOk ds = true) (hl : ds.length ≤ 1000) (k : ∀ (a : Addr) (xs : List V) (H' : Hp), H a = none → Same H H' → H' a = some (.lst xs) → DnAll (newIn H) H' xs ds → xs.length = ds.length → Q (.ref a) H') : tLst (tLits ds) σ H Q :=
  lits_disp ds H _ h fun xs H1 s hx => ⟨small1001 (by rw [hx.len]; exact hl), fun p hp => k p xs _ (s.free hp) (s.trans (Same.new hp)) upd_same (hx.same (Same.new hp)) hx.len⟩
/-! ### a pick of a text -/
def spPickS : Sp := fun vs H Q _ => ∃ (d w c : Addr) (n : Nat) (z : Str), vs = [.ref d, .str z] ∧ DrawAt H d w c n ∧ n < 2 ^ 40 ∧ z.length ≠ 0 ∧ z.length ≤ 1000 ∧ ∀ (ch : Nat) (H' : Hp), ch ∈ tl z → DrawAt H' d w c (n + 1) → But2 d w H H' → Q (.str ⟨#[ch]⟩) H'
section
variable {P : Program} {w0 : World} {K : PySem.W.Frag} {mg : Str → Option Value} {base : Heap}
theorem okl_pickS {f : Addr} {fd : FuncData} (F : Fun K "_law_pick" "_law_pick" s__law_pick f fd) (B : Bn2 mg) (c__law_take : Dq P w0 K mg base CX0 2 "_law_take" ["draw", "many"] spTake) : FnOk P w0 K mg base CX0 3 f fd ["draw", "some"] spPickS := by
  refine F.ok sc__law_pick (fun vs H Q E h => ?_) (fun cdv A outer s H vs Q E hr h => ?_)
  · obtain ⟨d, w, c, n, z, rfl, _⟩ := h
    rfl
  · obtain ⟨d, w, c, n, z, rfl, hD, hn, h0, hz, k⟩ := h
    refine ⟨_, pss_one (ps_ret (pe_item_str (pv 1) (pe_q c__law_take hr (by decide) (by rfl) (pa_cons (pv 0) (pa_cons (pe_callB call_len_str (by rfl) B.len PySem.boot_len (pa_cons (pv 1) pa_nil)) pa_nil))) (fun _ _ => rfl))), ?_⟩
    refine ⟨_, rfl, _, rfl, _, rfl, z, rfl, small1001 hz, d, w, c, n, z.length, rfl, hD, hn, by omega, by omega, fun i H1 i0 i1 D1 b1 => ?_⟩
    obtain ⟨j, rfl⟩ := Int.eq_ofNat_of_zero_le i0
    have hj : j < (tl z).length := by
      show j < z.length
      omega
    refine ⟨z, j, (tl z)[j], rfl, rfl, by omega, by omega, by omega, cps_at rfl (List.getElem?_eq_getElem hj), k _ _ (List.getElem_mem hj) D1 b1⟩
theorem okl_figure {f : Addr} {fd : FuncData} (F : Fun K "_law_figure" "_law_figure" s__law_figure f fd) (c__law_take : Dq P w0 K mg base CX0 2 "_law_take" ["draw", "many"] spTake) : FnOk P w0 K mg base CX0 3 f fd ["draw"] spFig82 := by
  refine F.ok sc__law_figure (fun vs H Q E h => ?_) (fun cdv A outer s H vs Q E hr h => ?_)
  · obtain ⟨d, w, c, n, rfl, _⟩ := h
    rfl
  · obtain ⟨d, w, c, n, rfl, hD, hn, k⟩ := h
    refine ⟨_, (pss_cons (ps_set (i := 1) sc__law_figure.nd rfl (Or.inl rfl) (pe_q c__law_take hr (by decide) (by rfl) (pa_cons (pv 0) (pa_cons pe_int pa_nil))))
      (pss_cons (ps_if (pt_cmpR op_eq (pv 1) pe_int (nomark _)) (pss_one (ps_ret (pe_op op_sub (pe_q c__law_take hr (by decide) (by rfl) (pa_cons (pv 0) (pa_cons pe_int pa_nil))) pe_int))) pss_nil)
      (pss_one (ps_ret (pe_ifExp (pt_cmpR op_lt (pv 1) pe_int (nomark _)) (pe_q c__law_take hr (by decide) (by rfl) (pa_cons (pv 0) (pa_cons pe_int pa_nil))) (pe_op op_sub (pe_q c__law_take hr (by decide) (by rfl) (pa_cons (pv 0) (pa_cons pe_int pa_nil))) pe_int)))))), ?_⟩
    have big : (2 : Nat) ^ 39 + 10 < 2 ^ 40 := by decide
    refine ⟨_, rfl, d, w, c, n, 8, rfl, hD, by omega, by decide, by decide, fun i H1 i0 i1 D1 b1 => ?_⟩
    refine ⟨_, rfl, rfl, _, rfl, ite2 (fun h => ?_) (fun h => ?_)⟩
    · refine ⟨_, rfl, d, w, c, n + 1, 1999999999999, rfl, D1, by omega, by decide, by decide, fun j H2 j0 j1 D2 b2 => ⟨_, _, rfl, rfl, ?_⟩⟩
      exact k _ _ (by omega) (D2.mono (by omega)) (b1.trans b2)
    · refine ⟨_, rfl, _, _, rfl, rfl, _, rfl, ite2 (fun h => ?_) (fun h => ?_)⟩
      · refine ⟨_, rfl, d, w, c, n + 1, 3, rfl, D1, by omega, by decide, by decide, fun j H2 j0 j1 D2 b2 => ?_⟩
        exact k _ _ (by omega) (D2.mono (by omega)) (b1.trans b2)
      · refine ⟨_, rfl, d, w, c, n + 1, 300, rfl, D1, by omega, by decide, by decide, fun j H2 j0 j1 D2 b2 => ⟨_, _, rfl, rfl, ?_⟩⟩
        exact k _ _ (by omega) (D2.mono (by omega)) (b1.trans b2)
end
end SA

set_option Elab.async false
set_option linter.all false
set_option maxRecDepth 100000
set_option maxHeartbeats 1000000
namespace K83
open PySem PySem.Spec
open K82 (L one tl)
theorem tl_letters {c : Nat} (h : c ∈ tl lettersS) : K1.small c = true := by
  have := small_letters c
  rw [decide_eq_true h] at this
  exact this.symm
theorem okD_of {z : Str} (h1 : z.length ≤ 1000) (h2 : ∀ c ∈ tl z, c < 128) : okD (.str z) = true := by
  show (decide (z.length ≤ 1000) && z.cps.toList.all fun c => decide (c < 128)) = true
  rw [Bool.and_eq_true, decide_eq_true_eq, List.all_eq_true]
  exact ⟨h1, fun c hc => decide_eq_true (h2 c hc)⟩
theorem small_lt {c : Nat} (h : K1.small c = true) : c < 128 := by
  have : 97 ≤ c ∧ c ≤ 122 := of_decide_eq_true h
  omega
theorem cut_0n (z : Str) (b : Nat) : L2.cutS z none (some (b : Int)) = mk ((tl z).take b) := by
  unfold L2.cutS mk tl
  rw [HT.sIx_nat, HT.sIx_none, show z.length = z.cps.toList.length from rfl]
  generalize z.cps.toList = l
  congr 1
  rw [List.drop_zero, Nat.sub_zero]
  by_cases h : b ≤ l.length
  · rw [Nat.min_eq_left h]
  · rw [Nat.min_eq_right (by omega), List.take_of_length_le (Nat.le_refl _), List.take_of_length_le (by omega)]
theorem len_ones : ∀ l : L, ((l.map fun ch => mk [ch]).map (·.length)).sum = l.length
  | [] => rfl
  | c :: l => by
    rw [List.map_cons, List.map_cons, List.sum_cons, len_ones l, List.length_cons]
    show 1 + _ = _
    omega
def list12 : List Str := ["if", "of", "or", "at", "and", "new", "not", "let", "put", "row", "set", "try"]
theorem kept_z : ∀ k ∈ K1.keptS, 122 ∉ tl k := by decide +kernel
theorem kept_3 : ∀ k ∈ K1.keptS, k.length ≤ 3 → k ∈ list12 := by decide +kernel
theorem isName_of {w : Str} (h1 : 1 ≤ w.length) (h8 : w.length ≤ 8) (hk : w ∉ K1.keptS) (hs : ∀ c ∈ tl w, K1.small c = true) : K1.isName w = true := by
  unfold K1.isName
  rw [decide_eq_true h1, decide_eq_true h8, decide_eq_false hk, List.all_eq_true.mpr hs]
  rfl
def okN (z : Str) : Prop := okD (.str z) = true ∧ K1.isName z = true
end K83
namespace SA
open PySem PySem.Spec PyProof.Rows L2 K83
open K82 hiding mk tl_mk mk_tl mk_app
def splNames : Sp := fun vs H Q _ => ∃ (d w c : Addr) (n : Nat), vs = [.ref d, .int 1] ∧ DrawAt H d w c n ∧ n < 2 ^ 38 ∧ ∀ (p : Addr) (z : Str) (H' : Hp), H' p = some (.lst [.str z]) → okN z → DrawAt H' d w c (n + 8) → But2 d w H H' → Q (.ref p) H'
section
variable {P : Program} {w0 : World} {K : PySem.W.Frag} {mg : Str → Option Value} {base : Heap}
theorem okl_names {f : Addr} {fd : FuncData} (F : Fun K "_law_names" "_law_names" s__law_names f fd) (B : Bn3 mg) (c__law_pick : Dq P w0 K mg base CX0 3 "_law_pick" ["draw", "some"] (spPick K)) (c_pickS : Dq P w0 K mg base CX0 3 "_law_pick" ["draw", "some"] spPickS) :
    FnOk P w0 K mg base CX0 4 f fd ["draw", "many"] splNames := by
  refine F.ok sc__law_names (fun vs H Q E h => ?_) (fun cdv A outer s H vs Q E hr h => ?_)
  · obtain ⟨d, w, c, n, rfl, _⟩ := h
    rfl
  · obtain ⟨d, w, c, n, rfl, hD, hn, k⟩ := h
    refine ⟨_, (Evl.pss_cut (ps_asg (pe_tup (pa_cons pe_str (pa_cons (pe_lst pa_nil) pa_nil))) (pg_tup (by rfl) (pgs_cons (pg_name (i := 2) sc__law_names.nd rfl (Or.inr rfl)) (pgs_cons (pg_name (i := 3) sc__law_names.nd rfl (Or.inl rfl)) pgs_nil))))
      (Evl.pss_cut (ps_for PassesOwn.never rfl (pi_range1 (by rfl) B.range (pa_cons (pv 1) pa_nil)) (pg_name (i := 4) sc__law_names.nd rfl (Or.inl rfl)) (Evl.pss_cut (ps_set (i := 5) sc__law_names.nd rfl (Or.inl rfl) (pe_join pe_str (pe_lc (own := [("k", 6)]) (g := (gName 6)) (tt := tYes) (by rfl) sc__law_names.nd (pi_range1 (by rfl) B.range (pa_cons (pe_q c__law_pick hr (by decide) (by rfl) (pa_cons (pv 0) (pa_cons (pe_lst (pa_cons pe_int (pa_cons pe_int (pa_cons pe_int (pa_cons pe_int (pa_cons pe_int pa_nil)))))) pa_nil))) pa_nil)) (blkOk_by (N := n__law_names) (sc := defScope s__law_names) (by decide +kernel)) (fun _ _ _ _ _ => (pg_name (i := 6) sc__law_names.nd rfl (Or.inl rfl))) (fun _ _ _ _ _ => pts_nil) (fun _ _ _ _ _ => (pe_q c_pickS hr (by decide) (by rfl) (pa_cons (pv 0) (pa_cons (pv 2) pa_nil)))))))
      (Evl.pss_cut (ps_if (PW.pt (pw_or (pt_cmpR op_in_seq (pv 5) (pv 3) (by rfl)) (pw_or (pt_cmpR op_in_seq (pv 5) (pe_lst (pa_cons pe_str (pa_cons pe_str (pa_cons pe_str (pa_cons pe_str (pa_cons pe_str (pa_cons pe_str (pa_cons pe_str (pa_cons pe_str (pa_cons pe_str (pa_cons pe_str (pa_cons pe_str (pa_cons pe_str pa_nil))))))))))))) (by rfl)) (pw_or1 (pt_cmpR op_gt (pe_callB call_len_str (by rfl) B.len PySem.boot_len (pa_cons (pv 5) pa_nil)) pe_int (nomark _)))))) (pss_one (ps_set (i := 5) sc__law_names.nd rfl (Or.inl rfl) (pe_op op_add_str (pe_op op_add_str (pe_slice sl_str (pv 5) po_none (po_some pe_int)) pe_str) (pe_item_str (pv 2) (pe_op op_mod (pv 4) pe_int) (fun _ _ => rfl))))) pss_nil)
      (pss_one (ps_expr (pe_bm PySem.F.plainAttrs_list PySem.F.slot_list_append PySem.F.type_list_append mt_append (pv 3) (pa_cons (pe_ifExp (pt_cmpR op_notIn_seq (pv 5) (pv 3) (by rfl)) (pv 5) (pe_op op_add_str (pe_op op_add_str (pe_op op_add_str pe_str (pe_item_str (pv 2) (pe_op op_mod (pv 4) pe_int) (fun _ _ => rfl))) pe_str) (pe_item_str (pv 2) (pe_op op_fdiv (pv 4) pe_int) (fun _ _ => rfl)))) pa_nil)))))))
      (pss_one (ps_ret (pv 3))))), ?_⟩
    have big : (2 : Nat) ^ 38 + 1000 < 2 ^ 39 ∧ (2 : Nat) ^ 39 + 1000 < 2 ^ 40 := by decide
    refine ⟨fun σ H1 => ∃ l, σ = [some (.ref d), some (.int 1), some (.str lettersS), some (.ref l), none, none, none] ∧ H1 l = some (.lst []) ∧ l ≠ d ∧ l ≠ w ∧ l ≠ c ∧ H l = none ∧ DrawAt H1 d w c n ∧ But2 d w H H1, ?_, ?_⟩
    · refine ⟨(by show 0 ≤ sizeLine; exact Nat.zero_le _), fun l hl => ⟨(by show 2 ≤ sizeLine; decide), fun t ht => ⟨t, _, rfl, SqT.of upd_same, rfl, _, _, rfl, _, _, rfl, rfl, ?_⟩⟩⟩
      have kl := hD.knowD hl
      exact ⟨l, rfl, (Same.new ht) _ _ upd_same, kl.1, kl.2.1, kl.2.2, hl, (hD.new hl).new ht, ((But2.refl d w H).new hl).new ht⟩
    rintro σ H1 ⟨l, rfl, e1, ld, lw, lc, hl, D1, b1⟩
    refine ⟨fun σ H2 => ∃ y4 y5 z, σ = [some (.ref d), some (.int 1), some (.str lettersS), some (.ref l), y4, y5, none] ∧ H2 l = some (.lst [.str z]) ∧ okN z ∧ DrawAt H2 d w c (n + 8) ∧ But2 d w H H2, ?_, ?_⟩
    · refine ⟨_, rfl, 1, rfl, by decide, by decide, for_range (lo := 0) (n := 1) (fun i σ H2 => (i = 0 ∧ H2 = H1 ∧ σ = [some (.ref d), some (.int 1), some (.str lettersS), some (.ref l), none, none, none]) ∨ (i = 1 ∧ ∃ y4 y5 z, σ = [some (.ref d), some (.int 1), some (.str lettersS), some (.ref l), y4, y5, none] ∧ H2 l = some (.lst [.str z]) ∧ okN z ∧ DrawAt H2 d w c (n + 8) ∧ But2 d w H H2)) (.inl ⟨rfl, rfl, rfl⟩) ?_ ?_⟩
      · rintro i σ H2 hi (⟨rfl, rfl, rfl⟩ | ⟨rfl, _⟩)
        · refine ⟨fun σ H3 => ∃ z, σ = [some (.ref d), some (.int 1), some (.str lettersS), some (.ref l), some (.int 0), some (.str z), none] ∧ H3 l = some (.lst []) ∧ 1 ≤ z.length ∧ z.length ≤ 6 ∧ (∀ c ∈ tl z, K1.small c = true) ∧ DrawAt H3 d w c (n + 8) ∧ But2 d w H H3, ?_, ?_⟩
          · refine ⟨⟨_, rfl⟩, _, rfl, (by show 5 ≤ sizeLine; decide), fun l2 hl2 => ?_⟩
            have k2 := D1.knowD hl2
            have nl2 := ne_of_none e1 hl2
            refine ⟨d, w, c, l2, n, _, rfl, D1.new hl2, by omega, k2.1, k2.2.1, SqL.of upd_same, by simp, by decide, fun x H3 hx D3 b3 => ?_⟩
            obtain ⟨m, rfl, hm1, hm⟩ : ∃ m : Nat, x = .int m ∧ 1 ≤ m ∧ m ≤ 6 := by
              simp only [List.mem_cons, List.not_mem_nil, or_false] at hx
              rcases hx with rfl | rfl | rfl | rfl | rfl
              · exact ⟨1, rfl, by decide, by decide⟩
              · exact ⟨1, rfl, by decide, by decide⟩
              · exact ⟨2, rfl, by decide, by decide⟩
              · exact ⟨4, rfl, by decide, by decide⟩
              · exact ⟨6, rfl, by decide, by decide⟩
            have b13 : But2 d w H H3 := (b1.new hl2).trans b3
            have e3 : H3 l = some (.lst []) := b3 _ _ (by rw [upd_ne nl2]; exact e1) ld lw
            refine ⟨_, rfl, by omega, by omega, fun q hq => ?_⟩
            show ∃ W, _
            rw [Int.toNat_natCast]
            have kq := D3.knowD hq
            have nlq : l ≠ q := ne_of_none e3 hq
            refine lc_range (lo := 0) (n := m) (fun i H' => ∃ u : K82.L, u.length = i ∧ (∀ c ∈ u, K1.small c = true) ∧ DrawAt H' d w c (n + 1 + i) ∧ But2 d w H H' ∧ H' l = some (.lst []) ∧ H' q = some (.lst ((u.map fun ch => K83.mk [ch]).map V.str)))
              ⟨[], rfl, (fun c h => by cases h), D3.new hq, b13.new hq, by rw [upd_ne nlq]; exact e3, upd_same⟩ ?_ ?_
            · rintro i H4 hi ⟨u, hu, hs, D4, b4, el4, e4⟩
              refine ⟨rfl, yes ⟨_, rfl, _, rfl, d, w, c, n + 1 + i, lettersS, rfl, D4, by omega, by decide +kernel, by decide +kernel, fun ch H5 hch D5 b5 => ?_⟩⟩
              have e5 := b5 _ _ e4 kq.1 kq.2.1
              have el5 := b5 _ _ el4 ld lw
              refine ⟨_, e5, ?_, u ++ [ch], by simp [hu], ?_, (D5.upd kq.1 kq.2.1 kq.2.2).mono (by omega), (b4.trans b5).mut (b13.free hq kq.1 kq.2.1), by rw [upd_ne nlq]; exact el5, ?_⟩
              · rw [List.length_map, List.length_map, hu]
                exact small20 (by omega)
              · intro x hx
                rcases List.mem_append.mp hx with hx | hx
                · exact hs x hx
                · rw [List.mem_singleton.mp hx]
                  exact tl_letters hch
              · rw [upd_same, List.map_append, List.map_append]
                rfl
            · rintro H4 ⟨u, hu, hs, D4, b4, el4, e4⟩
              refine ⟨_, q, u.map fun ch => K83.mk [ch], rfl, rfl, .inl (SqL.of e4), ?_, ?_⟩
              · rw [K83.len_ones, show ("" : Str).length = 0 by decide +kernel]
                omega
              · refine ⟨_, by rw [show Txt.join "" (u.map fun ch => K83.mk [ch]) = K83.mk u from join_signs u]; rfl, el4, by rw [K83.mk_len]; omega, by rw [K83.mk_len]; omega, by rw [K83.tl_mk]; exact hs, D4.mono (by omega), b4⟩
          rintro σ H3 ⟨z, rfl, e3, hz1, hz, hsm, D3, b3⟩
          refine ⟨fun σ H4 => ∃ z, σ = [some (.ref d), some (.int 1), some (.str lettersS), some (.ref l), some (.int 0), some (.str z), none] ∧ H4 l = some (.lst []) ∧ okN z ∧ DrawAt H4 d w c (n + 8) ∧ But2 d w H H4, ?_, ?_⟩
          · have okz : okD (.str z) = true := okD_of (by omega) fun c hc => small_lt (hsm c hc)
            have fixL : ∀ (u : Str), okN (K83.mk ((tl z).take 5) ++ ("z" : Str) ++ ⟨#[97]⟩) := fun _ => by
              rw [show ("z" : Str) = K83.mk [122] from by decide +kernel, show (⟨#[97]⟩ : Str) = K83.mk [97] from rfl, K83.mk_app, K83.mk_app]
              have hsm2 : ∀ c ∈ (tl z).take 5 ++ [122] ++ [97], K1.small c = true := fun c hc => by
                rcases List.mem_append.mp hc with hc | hc
                · rcases List.mem_append.mp hc with hc | hc
                  · exact hsm c (List.mem_of_mem_take hc)
                  · rw [List.mem_singleton.mp hc]
                    decide
                · rw [List.mem_singleton.mp hc]
                  decide
              have hln : (K83.mk ((tl z).take 5 ++ [122] ++ [97])).length = ((tl z).take 5).length + 2 := by rw [K83.mk_len, List.length_append, List.length_append]; rfl
              have hl5 : ((tl z).take 5).length ≤ 5 := by rw [List.length_take]; omega
              refine ⟨okD_of (Nat.le_trans (Nat.le_of_eq hln) (by omega)) fun c hc => small_lt (hsm2 c (by rw [K83.tl_mk] at hc; exact hc)), isName_of (Nat.le_trans (by omega) (Nat.le_of_eq hln.symm)) (Nat.le_trans (Nat.le_of_eq hln) (by omega)) (fun hk => kept_z _ hk ?_) fun c hc => hsm2 c (by rw [K83.tl_mk] at hc; exact hc)⟩
              rw [K83.tl_mk]
              simp
            refine ⟨_, rfl, _, rfl, l, ([] : List Str).map V.str, rfl, .inl (SqL.of e3), rfl, rfl, _, rfl, ?_⟩
            refine iteFd rfl ⟨_, rfl, (by show 12 ≤ sizeLine; exact small1000' (by decide)), fun l3 hl3 => ?_⟩
            have k3 := D3.knowD hl3
            have nl3 := ne_of_none e3 hl3
            have D5 := D3.new (o := .lst ((["if", "of", "or", "at", "and", "new", "not", "let", "put", "row", "set", "try"] : List Str).map V.str)) hl3
            have b5 := b3.new (o := .lst ((["if", "of", "or", "at", "and", "new", "not", "let", "put", "row", "set", "try"] : List Str).map V.str)) hl3
            have e5 : (upd H3 l3 (.lst ((["if", "of", "or", "at", "and", "new", "not", "let", "put", "row", "set", "try"] : List Str).map V.str))) l = some (.lst []) := by rw [upd_ne nl3]; exact e3
            refine ⟨l3, (["if", "of", "or", "at", "and", "new", "not", "let", "put", "row", "set", "try"] : List Str).map V.str, rfl, .inl (SqL.of upd_same), rfl, K1.flat_strs _, _, rfl, ?_⟩
            refine ite2 (fun h => ?_) (fun h => ⟨_, rfl, z, rfl, small5 (by omega), _, _, rfl, rfl, _, rfl, ite2 (fun h => ?_) (fun h3 => ⟨z, rfl, e5, ⟨okz, isName_of hz1 (by omega) (fun hk => h ((K1.inV_str _ _).trans (decide_eq_true (kept_3 z hk (by
              rcases Nat.lt_or_ge 3 z.length with hh | hh
              · exact absurd (decide_eq_true (by omega)) h3
              · exact hh))))) hsm⟩, D5, b5⟩)⟩)
            all_goals
              refine ⟨_, rfl, 5, rfl, z, rfl, small5 (by omega), ?_⟩
              rw [show L2.cutS z none (some (5 : Int)) = K83.mk ((tl z).take 5) from K83.cut_0n z 5]
              have hl5 : (K83.mk ((tl z).take 5)).length ≤ 6 := by
                rw [K83.mk_len, List.length_take]
                omega
              refine ⟨_, _, rfl, rfl, ?_, _, rfl, _, rfl, _, _, rfl, rfl, (by show (0 : Int) < 26; decide), lettersS, 0, 97, rfl, rfl, by decide, by decide, by decide +kernel, by decide +kernel, _, _, rfl, rfl, ?_, ?_⟩
              · show (K83.mk ((tl z).take 5)).length + ("z" : Str).length ≤ sizeLine
                rw [show ("z" : Str).length = 1 from by decide +kernel]
                exact small1000' (by omega)
              · show (K83.mk ((tl z).take 5) ++ ("z" : Str)).length + 1 ≤ sizeLine
                rw [show ("z" : Str) = K83.mk [122] from by decide +kernel, K83.mk_app, K83.mk_len, List.length_append, List.length_take]
                exact small1000' (by simp; omega)
              · exact ⟨_, rfl, e5, fixL z, D5, b5⟩
          rintro σ H4 ⟨z, rfl, e4, oz, D4, b4⟩
          refine ⟨_, rfl, .inl ⟨rfl, _, SqL.of e4⟩, ?_⟩
          refine ⟨_, rfl, _, rfl, l, ([] : List Str).map V.str, rfl, .inl (SqL.of e4), rfl, rfl, _, rfl, iteTd rfl ⟨_, rfl, l, [], _, rfl, rfl, e4, (by show 0 < sizeLine; have := sizeLine_eq; omega), .inr ⟨rfl, _, _, z, rfl, upd_same, oz, D4.upd ld lw lc, b4.mut hl⟩⟩⟩
        · omega
      · rintro σ H2 (⟨h, _⟩ | ⟨_, h⟩)
        · cases h
        · exact h
    rintro σ H2 ⟨y4, y5, z, rfl, e2, oz, D2, b2⟩
    exact ⟨_, rfl, k l z H2 e2 oz D2 b2⟩
end
end SA

set_option Elab.async false
set_option linter.all false
set_option maxRecDepth 100000
set_option maxHeartbeats 1000000
namespace K83
open PySem PySem.Spec
open K82 (L one tl IsB bval bdig enc dec zig zag zs)
/-! ### numbers' texts -/
theorem tl_natS (v : Nat) : tl (natS v) = TL.numL v := TL.tl_num v
theorem dnum_val : ∀ (l : L), dnum l = NumText.digitsVal l := by
  intro l
  unfold dnum
  rw [foldl10]
  rfl
theorem dnum_natS (v : Nat) : dnum (tl (natS v)) = v := by rw [dnum_val, tl_natS, TL.numL_val]
theorem natS_asc (v : Nat) : ∀ c ∈ tl (natS v), c < 128 := fun c hc => by
  rw [tl_natS] at hc
  have := TL.numL_digits v c hc
  omega
theorem natS_figs : ∀ v < 1000, figsB (tl (natS v)) = true ∧ (tl (natS v)).length ≤ 3 := by decide +kernel
theorem slot_pl (v : Nat) : isSlot (.str (pl 115 v)) = decide (v ≤ 999) := by
  rw [Bool.eq_iff_iff, decide_eq_true_eq]
  constructor
  · intro h
    obtain ⟨z, f, e1, e2, e3, e4⟩ := isSlot_ex h
    injection e1 with e1
    rw [← e1, tl_pl] at e2
    injection e2 with _ e2
    have := dnum_natS v
    rw [e2] at this
    have hf := natS_fig e3 e4
    have lt : dnum f ≤ 999 := by
      have hd := e3
      unfold figsB at hd
      rw [Bool.and_eq_true, Bool.and_eq_true, List.all_eq_true] at hd
      match f, e4, hd.2.1 with
      | [], _, _ => decide
      | [a], _, g => have := of_decide_eq_true (g a (by simp)); simp [dnum, dnum.dv10]; omega
      | [a, b], _, g => have := of_decide_eq_true (g a (by simp)); have := of_decide_eq_true (g b (by simp)); simp [dnum, dnum.dv10]; omega
      | [a, b, c], _, g => have := of_decide_eq_true (g a (by simp)); have := of_decide_eq_true (g b (by simp)); have := of_decide_eq_true (g c (by simp)); simp [dnum, dnum.dv10]; omega
      | _ :: _ :: _ :: _ :: _, h3, _ => simp at h3
    omega
  · intro h
    obtain ⟨h1, h2⟩ := natS_figs v (by omega)
    show slotL (tl (pl 115 v)) = true
    rw [tl_pl]
    show (figsB (tl (natS v)) && decide ((tl (natS v)).length ≤ 3)) = true
    rw [h1, decide_eq_true h2]
    rfl
theorem reg_plB : ∀ r < 10, ∀ v < 16, isReg r (.str (pl 114 v)) = decide (v < r) := by decide +kernel
theorem reg_pl {r v : Nat} (hr : r ≤ 9) (hv : v < 16) : isReg r (.str (pl 114 v)) = decide (v < r) := reg_plB r (by omega) v hv
theorem slot_r : ∀ v < 16, isSlot (.str (pl 114 v)) = false := by decide +kernel
theorem reg_s : ∀ (v r : Nat), isReg r (.str (pl 115 v)) = false := fun v r => by
  show regL r (tl (pl 115 v)) = false
  rw [tl_pl]
  rfl
/-! ### digits -/
theorem bval_cons (c : Nat) (l : L) : bval (c :: l) = K82.dv c * 2 ^ l.length + bval l := by
  have go : ∀ (l : L) (a : Nat), l.foldl (fun a c => 2 * a + K82.dv c) a = a * 2 ^ l.length + l.foldl (fun a c => 2 * a + K82.dv c) 0 := by
    intro l
    induction l with
    | nil => intro a; simp
    | cons c l ih =>
      intro a
      rw [List.foldl_cons, List.foldl_cons, ih, ih (2 * 0 + K82.dv c), List.length_cons, Nat.pow_succ, Nat.add_mul, Nat.mul_zero, Nat.zero_add, ← Nat.add_assoc]
      congr 1
      congr 1
      rw [Nat.mul_comm 2 a, Nat.mul_assoc, Nat.mul_comm 2]
  show (c :: l).foldl (fun a c => 2 * a + K82.dv c) 0 = _
  rw [List.foldl_cons, go]
  simp
  rfl
theorem bdig_bval : ∀ (k : Nat) (l : L), IsB l → l.length = k → bdig k (bval l) = l
  | 0, l, _, h => by
    have : l = [] := List.length_eq_zero_iff.mp h
    subst this
    rfl
  | k + 1, l, hb, h => by
    obtain ⟨u, c, rfl⟩ : ∃ u c, l = u ++ [c] := by
      have hne : l ≠ [] := fun e => by rw [e] at h; cases h
      exact ⟨l.dropLast, l.getLast hne, (List.dropLast_concat_getLast hne).symm⟩
    rw [List.length_append, List.length_singleton] at h
    have hc := hb c (by simp)
    have hu : IsB u := fun x hx => hb x (List.mem_append.mpr (.inl hx))
    rw [K82.bval_snoc, bdig]
    have hd : K82.dv c = c - 48 := rfl
    rw [show (2 * bval u + K82.dv c) / 2 = bval u by omega, bdig_bval k u hu (by omega), show 48 + (2 * bval u + K82.dv c) % 2 = c by omega]
theorem At.of_take {l : L} {n m : Nat} (h : n + m ≤ l.length) : At l n ((l.drop n).take m) := ⟨by omega, (l.drop n).drop m, (List.take_append_drop m _).symm⟩
theorem At.join {l : L} {n : Nat} {a b : L} (h1 : At l n a) (h2 : At l (n + a.length) b) : At l n (a ++ b) := by
  obtain ⟨g1, s, e1⟩ := h1
  obtain ⟨g2, s2, e2⟩ := h2
  refine ⟨g1, s2, ?_⟩
  rw [← List.drop_drop, e1, List.drop_left] at e2
  rw [e1, e2, List.append_assoc]
theorem At.consJ {l : L} {n c : Nat} {b : L} (h1 : At l n [c]) (h2 : At l (n + 1) b) : At l n (c :: b) := h1.join (b := b) h2
theorem At.nil {l : L} {n : Nat} (h : n ≤ l.length) : At l n [] := ⟨h, l.drop n, rfl⟩
theorem digAt_at {l : L} {n m v b : Nat} (hb : IsB l) (e : digAt l n m = some (v, b)) : At l n (bdig m v) ∧ b = n + m ∧ v < 2 ^ m := by
  obtain ⟨h1, h2, h3⟩ := digAt_lt hb e
  refine ⟨?_, h2, h1⟩
  unfold digAt at e
  rw [if_pos h3] at e
  injection e with e
  injection e with e _
  rw [← e, bdig_bval m _ (isB_cut hb n m) (by rw [List.length_take, List.length_drop]; omega)]
  exact At.of_take h3
theorem takeWhile_rep : ∀ l : L, l.takeWhile (· == 48) = List.replicate (zs l) 48
  | [] => rfl
  | c :: l => by
    unfold zs
    rw [List.takeWhile_cons]
    split
    · rename_i h
      have : c = 48 := by simpa using h
      subst this
      rw [List.length_cons, List.replicate_succ]
      congr 1
      exact takeWhile_rep l
    · rfl
theorem enc_dec {l : L} {v k : Nat} (hb : IsB l) (e : dec l = some (v, k)) : enc v = l.take k ∧ k = (enc v).length ∧ k ≤ l.length := by
  unfold dec at e
  split at e
  · rename_i hle
    injection e with e
    injection e with e1 e2
    have hz : l = List.replicate (zs l) 48 ++ l.drop (zs l) := by
      conv => lhs; rw [← List.takeWhile_append_dropWhile (p := (· == 48)) (l := l)]
      rw [takeWhile_rep]
      congr 1
      have h := List.takeWhile_append_dropWhile (p := (· == 48)) (l := l)
      rw [takeWhile_rep] at h
      have h2 := congrArg (List.drop (zs l)) h
      rw [List.drop_left' (by simp)] at h2
      exact h2
    obtain ⟨u, hu⟩ := K82.drop_zs l hb (by omega)
    have hub : IsB u := fun c hc => hb c (by
      have : c ∈ l.drop (zs l) := by rw [hu]; exact List.mem_cons_of_mem _ hc
      exact List.mem_of_mem_drop this)
    have hul : zs l ≤ u.length := by
      have := congrArg List.length hu
      rw [List.length_drop, List.length_cons] at this
      omega
    have ht : (l.drop (zs l)).take (zs l + 1) = 49 :: u.take (zs l) := by rw [hu, List.take_succ_cons]
    have hv : bval (49 :: u.take (zs l)) = 2 ^ zs l + bval (u.take (zs l)) := by
      rw [bval_cons, List.length_take, Nat.min_eq_left hul]
      show 1 * _ + _ = _
      rw [Nat.one_mul]
    have hlt := bval_lt (l := u.take (zs l)) fun c hc => hub c (List.mem_of_mem_take hc)
    rw [List.length_take, Nat.min_eq_left hul] at hlt
    rw [ht, hv] at e1
    have hpos : 0 < 2 ^ zs l := Nat.two_pow_pos _
    have hlog : Nat.log2 (v + 1) = zs l := by
      have h1 : v + 1 = 2 ^ zs l + bval (u.take (zs l)) := by omega
      have a : Nat.log2 (v + 1) < zs l + 1 := (Nat.log2_lt (by omega)).mpr (by rw [Nat.pow_succ]; omega)
      have b : zs l ≤ Nat.log2 (v + 1) := (Nat.le_log2 (by omega)).mpr (by omega)
      omega
    have e3 : enc v = l.take k := by
      unfold enc
      rw [hlog, show v + 1 = bval (49 :: u.take (zs l)) by rw [hv]; omega, bdig_bval _ _ (fun c hc => by
        rcases List.mem_cons.mp hc with rfl | hc
        · exact .inr rfl
        · exact hub c (List.mem_of_mem_take hc)) (by rw [List.length_cons, List.length_take]; omega), ← ht, ← e2]
      rw [congrArg (List.take (2 * zs l + 1)) hz, List.take_append, List.length_replicate, List.take_of_length_le (l := List.replicate (zs l) 48) (by simp; omega), show 2 * zs l + 1 - zs l = zs l + 1 by omega]
    refine ⟨e3, ?_, by omega⟩
    rw [e3, List.length_take]
    omega
  · cases e
theorem decAt_at {l : L} {n v b : Nat} (hn : n ≤ l.length) (hb : IsB l) (e : decAt l n = some (v, b)) : At l n (enc v) ∧ b = n + (enc v).length := by
  unfold decAt at e
  obtain ⟨⟨c, k⟩, h1, h2⟩ := Option.map_eq_some_iff.mp e
  injection h2 with h2 h3
  obtain rfl : c = v := h2
  have h3 : n + k = b := h3
  obtain ⟨g1, g2, g3⟩ := enc_dec (fun c hc => hb c (List.mem_of_mem_drop hc)) h1
  refine ⟨?_, by omega⟩
  rw [List.length_drop] at g3
  rw [g1]
  exact At.of_take (by omega)
theorem zig_zag (n : Nat) : zig (zag n) = n := by
  unfold zag zig
  split <;> split <;> omega
/-! ### what is read is what is written -/
theorem regAt_at {r : Nat} {l : L} {n b : Nat} {d : D} (hb : IsB l) (h : regAt l n = some (d, b)) (hd : isReg r d = true) : At l n (encReg d) ∧ b = n + (encReg d).length := by
  unfold regAt at h
  obtain ⟨⟨v, k⟩, h1, h2⟩ := Option.map_eq_some_iff.mp h
  injection h2 with h2 h3
  obtain ⟨g1, g2, g3⟩ := digAt_at hb h1
  have h2 : PyData.str (pl 114 v) = d := h2
  have h3 : k = b := h3
  subst h2
  have e : encReg (.str (pl 114 v)) = bdig 4 v := by
    show bdig 4 (dnum ((tl (pl 114 v)).drop 1)) = _
    rw [tl_pl, List.drop_succ_cons, List.drop_zero, dnum_natS]
  rw [e, K82.bdig_len]
  exact ⟨g1, by omega⟩
theorem regsN_at {r : Nat} {l : L} (hb : IsB l) : ∀ (m n : Nat) (ds : List D) (b : Nat), n ≤ l.length → regsN l m n = some (ds, b) → ds.all (isReg r) = true → At l n (ds.flatMap encReg) ∧ b = n + (ds.flatMap encReg).length ∧ ds.length = m
  | 0, n, ds, b, hn, h, _ => by
    injection h with h
    injection h with h1 h2
    subst h1
    exact ⟨At.nil hn, h2.symm, rfl⟩
  | m + 1, n, ds, b, hn, h, hd => by
    have h : ((regAt l n).bind fun q => (regsN l m q.2).map fun t => (q.1 :: t.1, t.2)) = some (ds, b) := h
    obtain ⟨⟨d, b'⟩, h1, h2⟩ := Option.bind_eq_some_iff.mp h
    obtain ⟨⟨ds', e'⟩, h3, h4⟩ := Option.map_eq_some_iff.mp h2
    injection h4 with h4 h5
    have h5 : e' = b := h5
    have h4 : d :: ds' = ds := h4
    subst h4
    rw [List.all_cons, Bool.and_eq_true] at hd
    obtain ⟨a1, a2⟩ := regAt_at hb h1 hd.1
    have hl := a1.len
    obtain ⟨b1, b2, b3⟩ := regsN_at hb m b' ds' e' (by omega) h3 hd.2
    rw [List.flatMap_cons, List.length_append, List.length_cons, b3]
    subst a2
    exact ⟨a1.join b1, by omega, rfl⟩
theorem namAt_at {l : L} (hb : IsB l) : ∀ (f n : Nat) (acc : L) (d : D) (b : Nat), namAt l f n acc = some (d, b) → ∃ w : L, d = .str (mk (acc ++ w)) ∧ At l n (w.flatMap (fun c => bdig 5 (c - 96)) ++ [48, 48, 48, 48, 48]) ∧ b = n + (w.flatMap (fun c => bdig 5 (c - 96)) ++ [48, 48, 48, 48, 48]).length ∧ (∀ c ∈ w, 97 ≤ c ∧ c ≤ 122)
  | 0, _, _, _, _, h => by cases h
  | f + 1, n, acc, d, b, h => by
    rw [namAt_step] at h
    match hd : digAt l n 5, h with
    | some (v, k), h =>
      obtain ⟨g1, g2, g3⟩ := digAt_at hb hd
      have h : (if v = 0 then some (PyData.str (mk acc), k) else if v > 26 then none else namAt l f k (acc ++ [96 + v])) = some (d, b) := h
      split at h
      · rename_i h0
        injection h with h
        injection h with h1 h2
        subst h0
        refine ⟨[], by rw [List.append_nil]; exact h1.symm, g1, by rw [← h2, g2]; rfl, fun c hc => by cases hc⟩
      · split at h
        · cases h
        · rename_i h0 h26
          obtain ⟨w, e1, e2, e3, e4⟩ := namAt_at hb f k _ d b h
          refine ⟨(96 + v) :: w, ?_, ?_, ?_, ?_⟩
          · rw [e1, List.append_assoc]
            rfl
          · rw [List.flatMap_cons, List.append_assoc, show 96 + v - 96 = v by omega]
            refine g1.join ?_
            rw [K82.bdig_len, ← g2]
            exact e2
          · rw [List.flatMap_cons, List.append_assoc, List.length_append, K82.bdig_len, e3]
            omega
          · intro c hc
            rcases List.mem_cons.mp hc with rfl | hc
            · omega
            · exact e4 c hc
theorem leapN_V8 {v : Nat} (h : v < 2 ^ 8) : leapN 8 (leapV 8 v) = v ∧ -128 ≤ leapV 8 v ∧ leapV 8 v ≤ 127 := by
  have h : v < 256 := h
  unfold leapV leapN
  rw [show (2 : Nat) ^ (8 - 1) = 128 from rfl, show (2 : Int) ^ 8 = 256 from rfl]
  by_cases h1 : v < 128
  · rw [if_pos h1]
    exact ⟨by rw [if_pos (by omega)]; omega, by omega, by omega⟩
  · rw [if_neg h1]
    exact ⟨by rw [if_neg (by omega)]; omega, by omega, by omega⟩
theorem leapN_V32 {v : Nat} (h : v < 2 ^ 32) : leapN 32 (leapV 32 v) = v ∧ -2147483648 ≤ leapV 32 v ∧ leapV 32 v ≤ 2147483647 := by
  have h : v < 4294967296 := h
  unfold leapV leapN
  rw [show (2 : Nat) ^ (32 - 1) = 2147483648 from rfl, show (2 : Int) ^ 32 = 4294967296 from rfl]
  by_cases h1 : v < 2147483648
  · rw [if_pos h1]
    exact ⟨by rw [if_pos (by omega)]; omega, by omega, by omega⟩
  · rw [if_neg h1]
    exact ⟨by rw [if_neg (by omega)]; omega, by omega, by omega⟩
theorem rdPart_at {r : Nat} {l : L} {c : Lt} {n b : Nat} {d : D} (hn : n ≤ l.length) (hb : IsB l) (h : rdPart l c n = some (d, b)) (hd : isPart r c d = true) : At l n (encPart c d) ∧ b = n + (encPart c d).length := by
  cases c with
  | p => exact regAt_at hb h hd
  | n =>
    have h : (decAt l n).map (fun q => (PyData.int (zag q.1), q.2)) = some (d, b) := h
    obtain ⟨⟨v, k⟩, h1, h2⟩ := Option.map_eq_some_iff.mp h
    injection h2 with h2 h3
    have h2 : PyData.int (zag v) = d := h2
    have h3 : k = b := h3
    subst h2
    show At l n (enc (zig (zag v))) ∧ b = n + (enc (zig (zag v))).length
    rw [zig_zag, ← h3]
    exact decAt_at hn hb h1
  | c =>
    have h : copAt l n = some (d, b) := h
    unfold copAt at h
    split at h
    · rename_i h49
      obtain ⟨⟨v, k⟩, h1, h2⟩ := Option.map_eq_some_iff.mp h
      injection h2 with h2 h3
      have h2 : PyData.str (pl 115 v) = d := h2
      have h3 : k = b := h3
      subst h2
      have e2 : encPart .c (.str (pl 115 v)) = 49 :: enc v := by
        show (if (tl (pl 115 v)).head? = some 115 then 49 :: enc (dnum ((tl (pl 115 v)).drop 1)) else 48 :: encReg (.str (pl 115 v))) = _
        rw [tl_pl, if_pos (show (115 :: tl (natS v)).head? = some 115 from rfl), List.drop_succ_cons, List.drop_zero, dnum_natS]
      have hn1 : n + 1 ≤ l.length := by
        rcases Nat.lt_or_ge n l.length with h | h
        · omega
        · rw [List.drop_of_length_le h] at h49
          cases h49
      obtain ⟨g1, g2⟩ := decAt_at hn1 hb h1
      have a49 : At l n [49] := ⟨hn, l.drop (n + 1), by
        match hd : l.drop n, h49 with
        | x :: t, h49 =>
          obtain rfl : x = 49 := Option.some.inj h49
          rw [← List.drop_drop, hd]
          rfl⟩
      rw [e2]
      exact ⟨a49.consJ g1, by rw [List.length_cons]; omega⟩
    · rename_i h49
      have hr1 := h
      unfold regAt at hr1
      obtain ⟨⟨v, k⟩, h1, h2⟩ := Option.map_eq_some_iff.mp hr1
      injection h2 with h2 h3
      obtain ⟨_, g2, g3⟩ := digAt_at hb h1
      have h2 : PyData.str (pl 114 v) = d := h2
      subst h2
      have hr : isReg r (.str (pl 114 v)) = true := by
        have hd : (isSlot (.str (pl 114 v)) || isReg r (.str (pl 114 v))) = true := hd
        rw [slot_r v g3, Bool.false_or] at hd
        exact hd
      obtain ⟨a1, a2⟩ := regAt_at hb h hr
      have e2 : encPart .c (.str (pl 114 v)) = 48 :: encReg (.str (pl 114 v)) := by
        show (if (tl (pl 114 v)).head? = some 115 then 49 :: enc (dnum ((tl (pl 114 v)).drop 1)) else 48 :: encReg (.str (pl 114 v))) = _
        rw [tl_pl, if_neg (by simp)]
      have hl := (digAt_lt hb h1).2.2
      have a48 : At l n [48] := ⟨hn, l.drop (n + 1), by
        match hd : l.drop n, h49 with
        | [], _ =>
          have := congrArg List.length hd
          rw [List.length_drop] at this
          simp at this
          omega
        | x :: t, h49 =>
          have hx : x = 48 ∨ x = 49 := hb x (List.mem_of_mem_drop (by rw [hd]; exact List.mem_cons_self))
          have : x ≠ 49 := fun e => h49 (by rw [e]; rfl)
          obtain rfl : x = 48 := by omega
          rw [← List.drop_drop, hd]
          rfl⟩
      rw [e2]
      exact ⟨a48.consJ a1, by rw [List.length_cons]; omega⟩
  | x =>
    obtain ⟨w, e1, e2, e3, e4⟩ := namAt_at hb _ n [] d b h
    rw [List.nil_append] at e1
    subst e1
    have e : encPart .x (.str (mk w)) = w.flatMap (fun c => bdig 5 (c - 96)) ++ [48, 48, 48, 48, 48] := by
      show (tl (mk w)).flatMap (fun c => bdig 5 (c - 96)) ++ [48, 48, 48, 48, 48] = _
      rw [tl_mk]
    rw [e]
    exact ⟨e2, e3⟩
  | k =>
    have h : (digAt l n 2).map (fun q => (PyData.int (q.1 : Nat), q.2)) = some (d, b) := h
    obtain ⟨⟨v, k⟩, h1, h2⟩ := Option.map_eq_some_iff.mp h
    injection h2 with h2 h3
    have h2 : PyData.int (v : Nat) = d := h2
    have h3 : k = b := h3
    subst h2
    obtain ⟨g1, g2, g3⟩ := digAt_at hb h1
    show At l n (bdig 2 ((v : Nat) : Int).toNat) ∧ b = n + (bdig 2 ((v : Nat) : Int).toNat).length
    rw [Int.toNat_natCast, K82.bdig_len]
    exact ⟨g1, by omega⟩
  | P =>
    have h : ((digAt l n 2).bind fun q => (regsN l q.1 q.2).map fun t => (PyData.tuple t.1, t.2)) = some (d, b) := h
    obtain ⟨⟨v, k⟩, h1, h2⟩ := Option.bind_eq_some_iff.mp h
    obtain ⟨⟨ds, e'⟩, h3, h4⟩ := Option.map_eq_some_iff.mp h2
    injection h4 with h4 h5
    have h5 : e' = b := h5
    have h4 : PyData.tuple ds = d := h4
    subst h4
    obtain ⟨g1, g2, g3⟩ := digAt_at hb h1
    have hd : (decide (ds.length ≤ 3) && ds.all (isReg r)) = true := hd
    rw [Bool.and_eq_true, decide_eq_true_eq] at hd
    obtain ⟨a1, a2, a3⟩ := regsN_at hb v k ds e' (by have := digAt_le h1; omega) h3 hd.2
    show At l n (bdig 2 ds.length ++ ds.flatMap encReg) ∧ b = n + (bdig 2 ds.length ++ ds.flatMap encReg).length
    rw [a3, List.length_append, K82.bdig_len]
    subst g2
    exact ⟨g1.join (by rw [K82.bdig_len]; exact a1), by omega⟩
  | l =>
    have h : leapAt l n = some (d, b) := h
    have one1 : ∀ (x : Nat), (l.drop n).head? = some x → At l n [x] := fun x hx => ⟨hn, l.drop (n + 1), by
      match hd : l.drop n, hx with
      | y :: t, hx =>
        obtain rfl : y = x := Option.some.inj hx
        rw [← List.drop_drop, hd]
        rfl⟩
    unfold leapAt at h
    split at h
    · rename_i hlg
      have h49 : (l.drop n).head? = some 49 := of_decide_eq_true hlg
      obtain ⟨⟨v, k⟩, h1, h2⟩ := Option.map_eq_some_iff.mp h
      injection h2 with h2 h3
      have h2 : PyData.tuple [.str "long", .int (leapV 32 v)] = d := h2
      have h3 : k = b := h3
      subst h2
      obtain ⟨g1, g2, g3⟩ := digAt_at hb h1
      have e : encPart .l (.tuple [.str "long", .int (leapV 32 v)]) = 49 :: bdig 32 v := by
        show (if ("long" : Str) = "short" then 48 :: bdig 8 (leapN 8 (leapV 32 v)) else 49 :: bdig 32 (leapN 32 (leapV 32 v))) = _
        rw [if_neg (by decide +kernel), (leapN_V32 g3).1]
      rw [e, List.length_cons, K82.bdig_len]
      exact ⟨(one1 49 h49).consJ g1, by omega⟩
    · rename_i hlg
      have h49 : ¬ (l.drop n).head? = some 49 := fun e => hlg (decide_eq_true e)
      obtain ⟨⟨v, k⟩, h1, h2⟩ := Option.map_eq_some_iff.mp h
      injection h2 with h2 h3
      have h2 : PyData.tuple [.str "short", .int (leapV 8 v)] = d := h2
      have h3 : k = b := h3
      subst h2
      obtain ⟨g1, g2, g3⟩ := digAt_at hb h1
      have hl := (digAt_lt hb h1).2.2
      have h48 : (l.drop n).head? = some 48 := by
        match hd : l.drop n, h49 with
        | [], _ =>
          have := congrArg List.length hd
          rw [List.length_drop] at this
          simp at this
          omega
        | x :: t, h49 =>
          have hx : x = 48 ∨ x = 49 := hb x (List.mem_of_mem_drop (by rw [hd]; exact List.mem_cons_self))
          have : x ≠ 49 := fun e => h49 (by rw [e]; rfl)
          rw [show x = 48 by omega]
          rfl
      have e : encPart .l (.tuple [.str "short", .int (leapV 8 v)]) = 48 :: bdig 8 v := by
        show (if ("short" : Str) = "short" then 48 :: bdig 8 (leapN 8 (leapV 8 v)) else 49 :: bdig 32 (leapN 32 (leapV 8 v))) = _
        rw [if_pos rfl, (leapN_V8 g3).1]
      rw [e, List.length_cons, K82.bdig_len]
      exact ⟨(one1 48 h48).consJ g1, by omega⟩
theorem rdPs_at {r : Nat} {l : L} (hb : IsB l) : ∀ (cs : List Lt) (n : Nat) (ps : List D) (b : Nat), n ≤ l.length → rdPs l cs n = some (ps, b) → arePs r cs ps = true → At l n (encPs cs ps) ∧ b = n + (encPs cs ps).length
  | [], n, ps, b, hn, h, _ => by
    injection h with h
    injection h with h1 h2
    subst h1
    exact ⟨At.nil hn, h2.symm⟩
  | c :: cs, n, ps, b, hn, h, hd => by
    rw [rdPs_cons] at h
    obtain ⟨⟨d, k⟩, h1, h2⟩ := Option.bind_eq_some_iff.mp h
    obtain ⟨⟨ds, e'⟩, h3, h4⟩ := Option.map_eq_some_iff.mp h2
    injection h4 with h4 h5
    have h5 : e' = b := h5
    have h4 : d :: ds = ps := h4
    subst h4
    have hd : (isPart r c d && arePs r cs ds) = true := hd
    rw [Bool.and_eq_true] at hd
    obtain ⟨a1, a2⟩ := rdPart_at hn hb h1 hd.1
    obtain ⟨b1, b2⟩ := rdPs_at hb cs k ds e' (by have := rdPart_le hn h1; omega) h3 hd.2
    subst a2
    show At l n (encPart c d ++ encPs cs ds) ∧ b = n + (encPart c d ++ encPs cs ds).length
    rw [List.length_append]
    exact ⟨a1.join b1, by omega⟩
theorem tab_wix : ∀ v < 26, ∀ q, tab[v]? = some q → wix q.1 = v := by decide +kernel
theorem rdI_at {r : Nat} {l : L} {n b : Nat} {d : D} (hb : IsB l) (h : rdI r l n = some (d, b)) : judged r d = true ∧ At l n (encI d) ∧ b = n + (encI d).length := by
  unfold rdI at h
  obtain ⟨⟨v, k⟩, h1, h2⟩ := Option.bind_eq_some_iff.mp h
  obtain ⟨g1, g2, g3⟩ := digAt_at hb h1
  have hkl := digAt_le h1
  have h2 : (match tab[v]? with | none => none | some (w, ls) => (rdPs l ls k).bind fun t => if judged r (.tuple (.str w :: t.1)) = true then some (PyData.tuple (.str w :: t.1), t.2) else none) = some (d, b) := h2
  match ht : tab[v]?, h2 with
  | some (w, ls), h2 =>
    have hm := List.mem_of_getElem? ht
    obtain ⟨_, _, t3⟩ := tab_ix _ hm
    have hwx := tab_wix v (by
      have := (List.getElem?_eq_some_iff.mp ht).1
      rw [tab_len] at this
      exact this) _ ht
    have h2 : ((rdPs l ls k).bind fun t => if judged r (.tuple (.str w :: t.1)) = true then some (PyData.tuple (.str w :: t.1), t.2) else none) = some (d, b) := h2
    obtain ⟨⟨ps, e⟩, h3, h4⟩ := Option.bind_eq_some_iff.mp h2
    have h4 : (if judged r (.tuple (.str w :: ps)) = true then some (PyData.tuple (.str w :: ps), e) else none) = some (d, b) := h4
    split at h4
    · rename_i hj
      injection h4 with h4
      injection h4 with h4 h5
      subst h4
      refine ⟨hj, ?_⟩
      have hps : arePs r ls ps = true := by
        have hj2 := hj
        unfold judged at hj2
        have t3 : tab.lookup w = some ls := t3
        simp only [t3, Bool.and_eq_true] at hj2
        exact hj2.1
      obtain ⟨a1, a2⟩ := rdPs_at hb ls k ps e hkl h3 hps
      have e2 : encI (.tuple (.str w :: ps)) = bdig 5 v ++ encPs ls ps := by
        show bdig 5 (wix w) ++ encPs ((tab.lookup w).getD []) ps = _
        rw [show tab.lookup w = some ls from t3, show wix w = v from hwx]
        rfl
      rw [e2, List.length_append, K82.bdig_len]
      subst g2
      exact ⟨g1.join (by rw [K82.bdig_len]; exact a1), by omega⟩
    · cases h4
end K83

set_option Elab.async false
set_option linter.all false
set_option maxRecDepth 100000
set_option maxHeartbeats 1000000
namespace K83
open PySem PySem.Spec
open K82 (L one tl)
theorem len_app (a b : Str) : (a ++ b).length = a.length + b.length := by
  show (a.cps ++ b.cps).size = _
  rw [Array.size_append]
  rfl
theorem okD_numr : ∀ i < 9, okD (.str (("r" : Str) ++ (toString ((i : Nat) : Int) : String))) = true := by decide +kernel
theorem okD_nums : ∀ i < 1000, okD (.str (("s" : Str) ++ (toString ((i : Nat) : Int) : String))) = true := by decide +kernel
theorem okI {i : Int} (h : i.natAbs < 2 ^ 57) : okD (.int i) = true := decide_eq_true h
theorem okT {ds : List PyData} (h : ds.length ≤ 20) (h2 : okDs ds = true) : okD (.tuple ds) = true := by
  show (decide (ds.length ≤ 20) && okDs ds) = true
  rw [h2, decide_eq_true h]
  rfl
theorem okL {ds : List PyData} (h : ds.length ≤ 20) (h2 : okDs ds = true) : okD (.list ds) = true := by
  show (decide (ds.length ≤ 20) && okDs ds) = true
  rw [h2, decide_eq_true h]
  rfl
theorem okDs_of : ∀ {ds : List PyData}, (∀ d ∈ ds, okD d = true) → okDs ds = true
  | [], _ => rfl
  | d :: ds, h => by
    show (okD d && okDs ds) = true
    rw [h d List.mem_cons_self, okDs_of fun x hx => h x (List.mem_cons_of_mem _ hx)]
    rfl
theorem reg_of {r j : Nat} (hr : r ≤ 9) (h : j < r) : isReg r (.str (("r" : Str) ++ (toString ((j : Nat) : Int) : String))) = true := by
  rw [SA.pl_str 114 j "r" (by decide +kernel), reg_pl hr (by omega), decide_eq_true h]
theorem slot_of {m : Nat} (h : m < 1000) : isSlot (.str (("s" : Str) ++ (toString ((m : Nat) : Int) : String))) = true := by
  rw [SA.pl_str 115 m "s" (by decide +kernel), slot_pl, decide_eq_true (show m ≤ 999 by omega)]
theorem kept_8 : ∀ k ∈ K1.keptS, k.length = 8 → k = "function" := by decide +kernel
theorem leapS_ok {i : Int} (h1 : -128 ≤ i) (h2 : i ≤ 127) : isLeap (.tuple [.str "short", .int i]) = true := by
  show ((decide (("short" : Str) = "short") || decide (("short" : Str) = "long")) && decide (-halfOf "short" ≤ i ∧ i ≤ halfOf "short" - 1)) = true
  rw [show halfOf "short" = 128 from by decide +kernel, decide_eq_true (show -128 ≤ i ∧ i ≤ 128 - 1 from ⟨h1, by omega⟩)]
  rfl
theorem leapL_ok {i : Int} (h1 : -2147483648 ≤ i) (h2 : i ≤ 2147483647) : isLeap (.tuple [.str "long", .int i]) = true := by
  show ((decide (("long" : Str) = "short") || decide (("long" : Str) = "long")) && decide (-halfOf "long" ≤ i ∧ i ≤ halfOf "long" - 1)) = true
  rw [show halfOf "long" = 2147483648 from by decide +kernel, decide_eq_true (show -2147483648 ≤ i ∧ i ≤ 2147483648 - 1 from ⟨h1, by omega⟩), Bool.and_true, decide_eq_true (show ("long" : Str) = "long" from rfl), Bool.or_true]
end K83
namespace SA
open PySem PySem.Spec PyProof.Rows L2 K83
open K82 hiding mk tl_mk mk_tl mk_app
def spNo : Sp := fun _ _ _ _ => False
theorem fnNo {P : Program} {w0 : World} {K : PySem.W.Frag} {mg : Str → Option Value} {base : Heap} {CX : CXT} {k : Nat} {f : Addr} {fd : FuncData} {ps : List Str} : FnOk P w0 K mg base CX k f fd ps spNo :=
  ⟨fun _ _ _ _ h => h.elim, fun _ _ _ _ _ _ _ _ _ _ _ _ _ h => h.elim⟩
def splDPartR : Sp := fun vs H Q _ => ∃ (d w c : Addr) (n r : Nat), vs = [.ref d, .int r, .str ⟨#[114]⟩] ∧ DrawAt H d w c n ∧ n < 2 ^ 38 ∧ 1 ≤ r ∧ r ≤ 9 ∧ ∀ (z : Str) (H' : Hp), okD (.str z) = true → isReg r (.str z) = true → DrawAt H' d w c (n + 1) → But2 d w H H' → Q (.str z) H'
def splDPart : Sp := fun vs H Q _ => ∃ (d w c : Addr) (n r : Nat) (cl : Lt), vs = [.ref d, .int r, .str (sgL cl)] ∧ DrawAt H d w c n ∧ n < 2 ^ 37 ∧ 1 ≤ r ∧ r ≤ 9 ∧ ∀ (x : V) (dd : PyData) (H' : Hp), Dn (newIn H) H' x dd → okD dd = true → isPart r cl dd = true → (cl = .c → isReg r dd = true) → DrawAt H' d w c (n + 20) → But2 d w H H' → Q x H'
section
variable {P : Program} {w0 : World} {K : PySem.W.Frag} {mg : Str → Option Value} {base : Heap}
theorem okl_part_R {f : Addr} {fd : FuncData} (F : Fun K "_law_part" "_law_part" s__law_part f fd) (B : Bn3 mg) (c__law_take : Dq P w0 K mg base CX0 2 "_law_take" ["draw", "many"] spTake) (c__law_figure : Dq P w0 K mg base CX0 3 "_law_figure" ["draw"] spFig82) (c__law_pick : Dq P w0 K mg base CX0 3 "_law_pick" ["draw", "some"] (spPick K))
    (c_pickS : Dq P w0 K mg base CX0 3 "_law_pick" ["draw", "some"] spPickS) (c__law_names : Dq P w0 K mg base CX0 4 "_law_names" ["draw", "many"] splNames) (c__law_part : Dq P w0 K mg base CX0 4 "_law_part" ["draw", "registers", "letter"] spNo) :
    FnOk P w0 K mg base CX0 5 f fd ["draw", "registers", "letter"] splDPartR := by
  refine F.ok sc__law_part (fun vs H Q E h => ?_) (fun cdv A outer s H vs Q E hr h => ?_)
  · obtain ⟨d, w, c, n, r, rfl, _⟩ := h
    rfl
  · obtain ⟨d, w, c, n, r, rfl, hD, hn, r1, r9, k⟩ := h
    refine ⟨_, (pss_cons (ps_if (pt_cmpR op_in_seq (pv 2) (pe_lst (pa_cons pe_str (pa_cons pe_str pa_nil))) (by rfl)) (pss_one (ps_ret (pe_op op_add_str pe_str (pe_callTy call_str_int (by rfl) B.str PySem.Pv.boot_str (pa_cons (pe_q c__law_take hr (by decide) (by rfl) (pa_cons (pv 0) (pa_cons (pv 1) pa_nil))) pa_nil))))) pss_nil)
      (pss_cons (ps_if (pt_cmpR op_eq (pv 2) pe_str (nomark _)) (pss_one (ps_ret (pe_q c__law_figure hr (by decide) (by rfl) (pa_cons (pv 0) pa_nil)))) pss_nil)
      (pss_cons (ps_if (pt_cmpR op_eq (pv 2) pe_str (nomark _)) (pss_cons (ps_set (i := 3) sc__law_part.nd rfl (Or.inl rfl) (pe_join pe_str (pe_lc (own := [("k", 4)]) (g := (gName 4)) (tt := tYes) (by rfl) sc__law_part.nd (pi_range1 (by rfl) B.range (pa_cons pe_int pa_nil)) (blkOk_by (N := n__law_part) (sc := defScope s__law_part) (by decide +kernel)) (fun _ _ _ _ _ => (pg_name (i := 4) sc__law_part.nd rfl (Or.inl rfl))) (fun _ _ _ _ _ => pts_nil) (fun _ _ _ _ _ => (pe_q c_pickS hr (by decide) (by rfl) (pa_cons (pv 0) (pa_cons pe_str pa_nil)))))))
      (pss_one (ps_ret (pe_ifExp (PW.pt (pw_and (pt_cmpR op_eq (pe_q c__law_take hr (by decide) (by rfl) (pa_cons (pv 0) (pa_cons pe_int pa_nil))) pe_int (nomark _)) (pw_and1 (pt_cmpR op_ne (pv 3) pe_str (nomark _))))) (pv 3) (pe_ix ix_list (pe_q c__law_names hr (by decide) (by rfl) (pa_cons (pv 0) (pa_cons pe_int pa_nil))) pe_int (fun _ _ => rfl)))))) pss_nil)
      (pss_cons (ps_if (pt_cmpR op_eq (pv 2) pe_str (nomark _)) (pss_one (ps_ret (pe_q c__law_take hr (by decide) (by rfl) (pa_cons (pv 0) (pa_cons pe_int pa_nil))))) pss_nil)
      (pss_cons (ps_if (pt_cmpR op_eq (pv 2) pe_str (nomark _)) (pss_one (ps_ret (pe_callTy call_tuple_of (by rfl) B.tuple (by decide +kernel) (pa_cons (pe_lc (own := [("k", 4)]) (g := (gName 4)) (tt := tYes) (by rfl) sc__law_part.nd (pi_range1 (by rfl) B.range (pa_cons (pe_q c__law_take hr (by decide) (by rfl) (pa_cons (pv 0) (pa_cons pe_int pa_nil))) pa_nil)) (blkOk_by (N := n__law_part) (sc := defScope s__law_part) (by decide +kernel)) (fun _ _ _ _ _ => (pg_name (i := 4) sc__law_part.nd rfl (Or.inl rfl))) (fun _ _ _ _ _ => pts_nil) (fun _ _ _ _ _ => (pe_q c__law_part hr (by decide) (by rfl) (pa_cons (pv 0) (pa_cons (pv 1) (pa_cons pe_str pa_nil)))))) pa_nil)))) pss_nil)
      (pss_cons (ps_if (pt_cmpR op_eq (pe_q c__law_take hr (by decide) (by rfl) (pa_cons (pv 0) (pa_cons pe_int pa_nil))) pe_int (nomark _)) (pss_one (ps_ret (pe_tup (pa_cons pe_str (pa_cons (pe_q c__law_pick hr (by decide) (by rfl) (pa_cons (pv 0) (pa_cons (pe_lst (pa_cons (pe_neg pe_int) (pa_cons pe_int (pa_cons pe_int (pa_cons (pe_neg pe_int) (pa_cons (pe_op op_sub (pe_q c__law_take hr (by decide) (by rfl) (pa_cons (pv 0) (pa_cons pe_int pa_nil))) pe_int) pa_nil)))))) pa_nil))) pa_nil))))) pss_nil)
      (pss_one (ps_ret (pe_tup (pa_cons pe_str (pa_cons (pe_q c__law_pick hr (by decide) (by rfl) (pa_cons (pv 0) (pa_cons (pe_lst (pa_cons (pe_neg pe_int) (pa_cons pe_int (pa_cons pe_int (pa_cons (pe_neg pe_int) (pa_cons (pe_op op_sub (pe_q c__law_take hr (by decide) (by rfl) (pa_cons (pv 0) (pa_cons pe_int pa_nil))) pe_int) pa_nil)))))) pa_nil))) pa_nil))))))))))), ?_⟩
    have big : (2 : Nat) ^ 38 + 1000 < 2 ^ 39 ∧ (2 : Nat) ^ 39 + 1000 < 2 ^ 40 := by decide
    refine ⟨_, rfl, (by show 2 ≤ sizeLine; decide), fun p hp => ⟨p, (["r", "c"] : List Str).map V.str, rfl, .inl (SqL.of upd_same), rfl, K1.flat_strs _, _, rfl, ?_⟩⟩
    rw [K1.inV_str]
    refine iteTd (by decide +kernel) ⟨_, rfl, _, rfl, d, w, c, n, r, rfl, hD.new hp, by omega, by omega, by omega, fun i H1 i0 i1 D1 b1 => ?_⟩
    obtain ⟨j, rfl⟩ := Int.eq_ofNat_of_zero_le i0
    have hj : j < 9 := by omega
    refine ⟨(j : Nat), rfl, ?_, _, _, rfl, rfl, ?_, k _ H1 (okD_numr j hj) (reg_of r9 (by omega)) D1 (((But2.refl d w H).new hp).trans b1)⟩
    · have : ∀ j < 9, (((j : Nat) : Int).natAbs).log2 < 1920 := by decide +kernel
      exact this j hj
    · have := (okD_str (okD_numr j hj)).1
      exact small5 (by rw [← K83.len_app]; omega)
theorem okl_part {f : Addr} {fd : FuncData} (F : Fun K "_law_part" "_law_part" s__law_part f fd) (B : Bn3 mg) (c__law_take : Dq P w0 K mg base CX0 2 "_law_take" ["draw", "many"] spTake) (c__law_figure : Dq P w0 K mg base CX0 3 "_law_figure" ["draw"] spFig82) (c__law_pick : Dq P w0 K mg base CX0 3 "_law_pick" ["draw", "some"] (spPick K))
    (c_pickS : Dq P w0 K mg base CX0 3 "_law_pick" ["draw", "some"] spPickS) (c__law_names : Dq P w0 K mg base CX0 4 "_law_names" ["draw", "many"] splNames) (c__law_part : Dq P w0 K mg base CX0 5 "_law_part" ["draw", "registers", "letter"] splDPartR) :
    FnOk P w0 K mg base CX0 6 f fd ["draw", "registers", "letter"] splDPart := by
  refine F.ok sc__law_part (fun vs H Q E h => ?_) (fun cdv A outer s H vs Q E hr h => ?_)
  · obtain ⟨d, w, c, n, r, cl, rfl, _⟩ := h
    rfl
  · obtain ⟨d, w, c, n, r, cl, rfl, hD, hn, r1, r9, k⟩ := h
    refine ⟨_, (pss_cons (ps_if (pt_cmpR op_in_seq (pv 2) (pe_lst (pa_cons pe_str (pa_cons pe_str pa_nil))) (by rfl)) (pss_one (ps_ret (pe_op op_add_str pe_str (pe_callTy call_str_int (by rfl) B.str PySem.Pv.boot_str (pa_cons (pe_q c__law_take hr (by decide) (by rfl) (pa_cons (pv 0) (pa_cons (pv 1) pa_nil))) pa_nil))))) pss_nil)
      (pss_cons (ps_if (pt_cmpR op_eq (pv 2) pe_str (nomark _)) (pss_one (ps_ret (pe_q c__law_figure hr (by decide) (by rfl) (pa_cons (pv 0) pa_nil)))) pss_nil)
      (pss_cons (ps_if (pt_cmpR op_eq (pv 2) pe_str (nomark _)) (pss_cons (ps_set (i := 3) sc__law_part.nd rfl (Or.inl rfl) (pe_join pe_str (pe_lc (own := [("k", 4)]) (g := (gName 4)) (tt := tYes) (by rfl) sc__law_part.nd (pi_range1 (by rfl) B.range (pa_cons pe_int pa_nil)) (blkOk_by (N := n__law_part) (sc := defScope s__law_part) (by decide +kernel)) (fun _ _ _ _ _ => (pg_name (i := 4) sc__law_part.nd rfl (Or.inl rfl))) (fun _ _ _ _ _ => pts_nil) (fun _ _ _ _ _ => (pe_q c_pickS hr (by decide) (by rfl) (pa_cons (pv 0) (pa_cons pe_str pa_nil)))))))
      (pss_one (ps_ret (pe_ifExp (PW.pt (pw_and (pt_cmpR op_eq (pe_q c__law_take hr (by decide) (by rfl) (pa_cons (pv 0) (pa_cons pe_int pa_nil))) pe_int (nomark _)) (pw_and1 (pt_cmpR op_ne (pv 3) pe_str (nomark _))))) (pv 3) (pe_ix ix_list (pe_q c__law_names hr (by decide) (by rfl) (pa_cons (pv 0) (pa_cons pe_int pa_nil))) pe_int (fun _ _ => rfl)))))) pss_nil)
      (pss_cons (ps_if (pt_cmpR op_eq (pv 2) pe_str (nomark _)) (pss_one (ps_ret (pe_q c__law_take hr (by decide) (by rfl) (pa_cons (pv 0) (pa_cons pe_int pa_nil))))) pss_nil)
      (pss_cons (ps_if (pt_cmpR op_eq (pv 2) pe_str (nomark _)) (pss_one (ps_ret (pe_callTy call_tuple_of (by rfl) B.tuple (by decide +kernel) (pa_cons (pe_lc (own := [("k", 4)]) (g := (gName 4)) (tt := tYes) (by rfl) sc__law_part.nd (pi_range1 (by rfl) B.range (pa_cons (pe_q c__law_take hr (by decide) (by rfl) (pa_cons (pv 0) (pa_cons pe_int pa_nil))) pa_nil)) (blkOk_by (N := n__law_part) (sc := defScope s__law_part) (by decide +kernel)) (fun _ _ _ _ _ => (pg_name (i := 4) sc__law_part.nd rfl (Or.inl rfl))) (fun _ _ _ _ _ => pts_nil) (fun _ _ _ _ _ => (pe_q c__law_part hr (by decide) (by rfl) (pa_cons (pv 0) (pa_cons (pv 1) (pa_cons pe_str pa_nil)))))) pa_nil)))) pss_nil)
      (pss_cons (ps_if (pt_cmpR op_eq (pe_q c__law_take hr (by decide) (by rfl) (pa_cons (pv 0) (pa_cons pe_int pa_nil))) pe_int (nomark _)) (pss_one (ps_ret (pe_tup (pa_cons pe_str (pa_cons (pe_q c__law_pick hr (by decide) (by rfl) (pa_cons (pv 0) (pa_cons (pe_lst (pa_cons (pe_neg pe_int) (pa_cons pe_int (pa_cons pe_int (pa_cons (pe_neg pe_int) (pa_cons (pe_op op_sub (pe_q c__law_take hr (by decide) (by rfl) (pa_cons (pv 0) (pa_cons pe_int pa_nil))) pe_int) pa_nil)))))) pa_nil))) pa_nil))))) pss_nil)
      (pss_one (ps_ret (pe_tup (pa_cons pe_str (pa_cons (pe_q c__law_pick hr (by decide) (by rfl) (pa_cons (pv 0) (pa_cons (pe_lst (pa_cons (pe_neg pe_int) (pa_cons pe_int (pa_cons pe_int (pa_cons (pe_neg pe_int) (pa_cons (pe_op op_sub (pe_q c__law_take hr (by decide) (by rfl) (pa_cons (pv 0) (pa_cons pe_int pa_nil))) pe_int) pa_nil)))))) pa_nil))) pa_nil))))))))))), ?_⟩
    have big : (2 : Nat) ^ 37 + 1000 < 2 ^ 38 ∧ (2 : Nat) ^ 38 + 1000 < 2 ^ 39 ∧ (2 : Nat) ^ 39 + 1000 < 2 ^ 40 ∧ (4294967296 : Int) < 2 ^ 62 ∧ (1000000000000 : Nat) < 2 ^ 57 := by decide
    refine ⟨_, rfl, (by show 2 ≤ sizeLine; decide), fun p hp => ⟨p, (["r", "c"] : List Str).map V.str, rfl, .inl (SqL.of upd_same), rfl, K1.flat_strs _, _, rfl, ?_⟩⟩
    rw [K1.inV_str]
    have D1 := hD.new (o := .lst [.str "r", .str "c"]) hp
    have b1 : But2 d w H (upd H p (.lst [.str "r", .str "c"])) := (But2.refl d w H).new hp
    generalize upd H p (.lst [.str "r", .str "c"]) = H1 at D1 b1 ⊢
    have reg : ∀ (j : Nat), j < r → ((((j : Nat) : Int).natAbs).log2 < 1920 ∧ ("r" : Str).length + (Str.ofString (toString ((j : Nat) : Int))).length ≤ sizeLine) ∧ okD (.str (("r" : Str) ++ (toString ((j : Nat) : Int) : String))) = true := fun j hj => by
      have o := okD_numr j (by omega)
      refine ⟨⟨(by decide +kernel : ∀ j < 9, (((j : Nat) : Int).natAbs).log2 < 1920) j (by omega), ?_⟩, o⟩
      have := (okD_str o).1
      exact small5 (by rw [← K83.len_app]; omega)
    cases cl with
    | p =>
      refine iteTd (by decide +kernel) ⟨_, rfl, _, rfl, d, w, c, n, r, rfl, D1, by omega, by omega, by omega, fun i H2 i0 i1 D2 b2 => ?_⟩
      obtain ⟨j, rfl⟩ := Int.eq_ofNat_of_zero_le i0
      obtain ⟨⟨h1, h2⟩, h3⟩ := reg j (by omega)
      exact ⟨(j : Nat), rfl, h1, _, _, rfl, rfl, h2, k _ _ H2 (.str _) h3 (reg_of r9 (by omega)) (fun _ => reg_of r9 (by omega)) (D2.mono (by omega)) (b1.trans b2)⟩
    | c =>
      refine iteTd (by decide +kernel) ⟨_, rfl, _, rfl, d, w, c, n, r, rfl, D1, by omega, by omega, by omega, fun i H2 i0 i1 D2 b2 => ?_⟩
      obtain ⟨j, rfl⟩ := Int.eq_ofNat_of_zero_le i0
      obtain ⟨⟨h1, h2⟩, h3⟩ := reg j (by omega)
      exact ⟨(j : Nat), rfl, h1, _, _, rfl, rfl, h2, k _ _ H2 (.str _) h3 (by show (isSlot _ || isReg r _) = true; rw [reg_of r9 (show j < r by omega), Bool.or_true]) (fun _ => reg_of r9 (by omega)) (D2.mono (by omega)) (b1.trans b2)⟩
    | n =>
      exact iteFd (by decide +kernel) ⟨_, rfl, rfl, _, rfl, iteTd (by decide +kernel) ⟨_, rfl, d, w, c, n, rfl, D1, by omega, fun i H2 hi D2 b2 => k _ _ H2 (.int i) (okI (by omega)) rfl (fun h => by cases h) (D2.mono (by omega)) (b1.trans b2)⟩⟩
    | k =>
      exact iteFd (by decide +kernel) ⟨_, rfl, rfl, _, rfl, iteFd (by decide +kernel) ⟨_, rfl, rfl, _, rfl, iteFd (by decide +kernel) ⟨_, rfl, rfl, _, rfl, iteTd (by decide +kernel) ⟨_, rfl, d, w, c, n, 3, rfl, D1, by omega, by decide, by decide, fun i H2 i0 i1 D2 b2 => k _ _ H2 (.int i) (okI (by omega)) (decide_eq_true ⟨i0, by omega⟩) (fun h => by cases h) (D2.mono (by omega)) (b1.trans b2)⟩⟩⟩⟩
    | x =>
      refine iteFd (by decide +kernel) ⟨_, rfl, rfl, _, rfl, iteFd (by decide +kernel) ⟨_, rfl, rfl, _, rfl, iteTd (by decide +kernel) ?_⟩⟩
      refine ⟨⟨_, rfl⟩, 8, rfl, by decide, by decide, fun q hq => ?_⟩
      have kq := D1.knowD hq
      refine lc_range (lo := 0) (n := 8) (fun i H' => ∃ u : K82.L, u.length = i ∧ (∀ c ∈ u, K1.small c = true) ∧ DrawAt H' d w c (n + i) ∧ But2 d w H H' ∧ H' q = some (.lst ((u.map fun ch => K83.mk [ch]).map V.str)))
        ⟨[], rfl, (fun c h => by cases h), D1.new hq, b1.new hq, upd_same⟩ ?_ ?_
      · rintro i H4 hi ⟨u, hu, hs, D4, b4, e4⟩
        refine ⟨rfl, yes ⟨_, rfl, d, w, c, n + i, lettersS, rfl, D4, by omega, by decide +kernel, by decide +kernel, fun ch H5 hch D5 b5 => ?_⟩⟩
        have e5 := b5 _ _ e4 kq.1 kq.2.1
        refine ⟨_, e5, ?_, u ++ [ch], by simp [hu], ?_, (D5.upd kq.1 kq.2.1 kq.2.2).mono (by omega), (b4.trans b5).mut (b1.free hq kq.1 kq.2.1), ?_⟩
        · rw [List.length_map, List.length_map, hu]
          exact small20 (by omega)
        · intro x hx
          rcases List.mem_append.mp hx with hx | hx
          · exact hs x hx
          · rw [List.mem_singleton.mp hx]
            exact tl_letters hch
        · rw [upd_same, List.map_append, List.map_append]
          rfl
      · rintro H4 ⟨u, hu, hs, D4, b4, e4⟩
        refine ⟨_, q, u.map fun ch => K83.mk [ch], rfl, rfl, .inl (SqL.of e4), ?_, ?_⟩
        · rw [K83.len_ones, show ("" : Str).length = 0 by decide +kernel]
          omega
        have okz : okD (.str (K83.mk u)) = true := okD_of (by rw [K83.mk_len]; omega) fun c hc => small_lt (hs c (by rw [K83.tl_mk] at hc; exact hc))
        rw [show Txt.join "" (u.map fun ch => K83.mk [ch]) = K83.mk u from join_signs u]
        refine ⟨_, rfl, d, w, c, n + 8, 4, rfl, D4, by omega, by decide, by decide, fun i H5 i0 i1 D5 b5 => ?_⟩
        have other : ∀ R : Prop, R = R := fun _ => rfl
        refine ⟨rfl, _, rfl, ite2 (fun h => ⟨_, rfl, rfl, _, rfl, ite2 (fun h8 => ⟨_, rfl, k _ _ H5 (.str _) okz (isName_of (by rw [K83.mk_len]; omega) (by rw [K83.mk_len]; omega) (fun hk => by
          have e := kept_8 _ hk (by rw [K83.mk_len]; exact hu)
          rw [decide_eq_true (show V.str (K83.mk u) = V.str "function" by rw [e])] at h8
          cases h8) fun c hc => hs c (by rw [K83.tl_mk] at hc; exact hc)) (fun h => by cases h) (D5.mono (by omega)) (b4.trans b5)⟩) (fun h => ?_)⟩) (fun h => ?_)⟩
        all_goals
          exact ⟨_, rfl, d, w, c, n + 9, rfl, D5, by omega, fun p z H6 e6 oz D6 b6 => ⟨p, _, 0, _, rfl, rfl, SqL.of e6, at0 _ _, k _ _ H6 (.str z) oz.1 oz.2 (fun h => by cases h) (D6.mono (by omega)) ((b4.trans b5).trans b6)⟩⟩
    | P =>
      refine iteFd (by decide +kernel) ⟨_, rfl, rfl, _, rfl, iteFd (by decide +kernel) ⟨_, rfl, rfl, _, rfl, iteFd (by decide +kernel) ⟨_, rfl, rfl, _, rfl, iteFd (by decide +kernel) ⟨_, rfl, rfl, _, rfl, iteTd (by decide +kernel) ?_⟩⟩⟩⟩
      refine ⟨_, rfl, d, w, c, n, 4, rfl, D1, by omega, by decide, by decide, fun i H2 i0 i1 D2 b2 => ?_⟩
      obtain ⟨m, rfl⟩ := Int.eq_ofNat_of_zero_le i0
      refine ⟨_, rfl, by omega, by omega, fun q hq => ?_⟩
      show ∃ W, _
      rw [Int.toNat_natCast]
      have kq := D2.knowD hq
      refine lc_range (lo := 0) (n := m) (fun i H' => ∃ u : List Str, u.length = i ∧ (∀ z ∈ u, okD (.str z) = true ∧ isReg r (.str z) = true) ∧ DrawAt H' d w c (n + 1 + i) ∧ But2 d w H H' ∧ H' q = some (.lst (u.map V.str)))
        ⟨[], rfl, (fun c h => by cases h), D2.new hq, (b1.trans b2).new hq, upd_same⟩ ?_ ?_
      · rintro i H4 hi ⟨u, hu, hs, D4, b4, e4⟩
        refine ⟨rfl, yes ⟨_, rfl, _, rfl, d, w, c, n + 1 + i, r, by rw [K83.sr]; rfl, D4, by omega, r1, r9, fun z H5 oz iz D5 b5 => ?_⟩⟩
        have e5 := b5 _ _ e4 kq.1 kq.2.1
        refine ⟨_, e5, ?_, u ++ [z], by simp [hu], ?_, (D5.upd kq.1 kq.2.1 kq.2.2).mono (by omega), (b4.trans b5).mut ((b1.trans b2).free hq kq.1 kq.2.1), ?_⟩
        · rw [List.length_map, hu]
          exact small20 (by omega)
        · intro x hx
          rcases List.mem_append.mp hx with hx | hx
          · exact hs x hx
          · rw [List.mem_singleton.mp hx]
            exact ⟨oz, iz⟩
        · rw [upd_same, List.map_append]
          rfl
      · rintro H4 ⟨u, hu, hs, D4, b4, e4⟩
        refine ⟨q, u.map V.str, rfl, .inl ⟨SqL.of e4, fun p2 hp2 => ?_⟩⟩
        have k2 := D4.knowD hp2
        have ds : ∀ (u : List Str) (H' : Hp), DnAll (newIn H) H' (u.map V.str) (u.map PyData.str) := by
          intro u
          induction u with
          | nil => exact fun _ => .nil
          | cons z u ih => exact fun H' => .cons (.str z) (ih H')
        refine k _ (.tuple (u.map PyData.str)) _ (.tup (b4.free hp2 k2.1 k2.2.1) upd_same (ds u _)) (okT (by rw [List.length_map]; omega) (okDs_of fun x hx => ?_)) ?_ (fun h => by cases h) ((D4.new hp2).mono (by omega)) (b4.new hp2)
        · obtain ⟨z, hz, rfl⟩ := List.mem_map.mp hx
          exact (hs z hz).1
        · show (decide ((u.map PyData.str).length ≤ 3) && (u.map PyData.str).all (isReg r)) = true
          rw [decide_eq_true (show (u.map PyData.str).length ≤ 3 by rw [List.length_map]; omega), Bool.true_and, List.all_eq_true]
          intro x hx
          obtain ⟨z, hz, rfl⟩ := List.mem_map.mp hx
          exact (hs z hz).2
    | l =>
      refine iteFd (by decide +kernel) ⟨_, rfl, rfl, _, rfl, iteFd (by decide +kernel) ⟨_, rfl, rfl, _, rfl, iteFd (by decide +kernel) ⟨_, rfl, rfl, _, rfl, iteFd (by decide +kernel) ⟨_, rfl, rfl, _, rfl, iteFd (by decide +kernel) ?_⟩⟩⟩⟩
      have o2 : ∀ (w : Str) (i : Int), okD (.str w) = true → i.natAbs ≤ 4294967296 → okD (.tuple [.str w, .int i]) = true := fun w i hw hi => okT (by simp) (okDs_of fun x hx => by
        simp only [List.mem_cons, List.not_mem_nil, or_false] at hx
        rcases hx with rfl | rfl
        · exact hw
        · exact okI (by omega))
      refine ⟨_, rfl, d, w, c, n, 2, rfl, D1, by omega, by decide, by decide, fun i H2 i0 i1 D2 b2 => ⟨rfl, _, rfl, ite2 (fun h => ?_) (fun h => ?_)⟩⟩
      · refine ⟨_, rfl, _, rfl, d, w, c, n + 1, 256, rfl, D2, by omega, by decide, by decide, fun j H3 j0 j1 D3 b3 => ⟨_, _, rfl, rfl, (by show 5 ≤ sizeLine; decide), fun l hl => ?_⟩⟩
        have kl := D3.knowD hl
        refine ⟨d, w, c, l, n + 2, _, rfl, D3.new hl, by omega, kl.1, kl.2.1, SqL.of upd_same, by simp, (by show 5 < 2 ^ 29; decide), fun x H4 hx D4 b4 => ⟨(by show 2 ≤ sizeLine; decide), fun t ht => ?_⟩⟩
        obtain ⟨v, rfl, hv, hv1, hv2⟩ : ∃ v : Int, x = .int v ∧ v.natAbs ≤ 4294967296 ∧ -128 ≤ v ∧ v ≤ 127 := by
          simp only [List.mem_cons, List.not_mem_nil, or_false] at hx
          rcases hx with rfl | rfl | rfl | rfl | rfl
          · exact ⟨-128, rfl, by decide, by decide, by decide⟩
          · exact ⟨127, rfl, by decide, by decide, by decide⟩
          · exact ⟨0, rfl, by decide, by decide, by decide⟩
          · exact ⟨-1, rfl, by decide, by decide, by decide⟩
          · exact ⟨_, rfl, by omega, by omega, by omega⟩
        have k4 := D4.knowD ht
        exact k _ _ _ (.tup (((((b1.trans b2).trans b3).new hl).trans b4).free ht k4.1 k4.2.1) upd_same (.cons (.str _) (.cons (.int v) .nil))) (o2 _ v (by decide +kernel) hv) (leapS_ok hv1 hv2) (fun h => by cases h) ((D4.new ht).mono (by omega)) ((((b1.trans b2).trans b3).new hl).trans b4 |>.new ht)
      · refine ⟨_, rfl, _, rfl, d, w, c, n + 1, 4294967296, rfl, D2, by omega, by decide, by decide, fun j H3 j0 j1 D3 b3 => ⟨_, _, rfl, rfl, (by show 5 ≤ sizeLine; decide), fun l hl => ?_⟩⟩
        have kl := D3.knowD hl
        refine ⟨d, w, c, l, n + 2, _, rfl, D3.new hl, by omega, kl.1, kl.2.1, SqL.of upd_same, by simp, (by show 5 < 2 ^ 29; decide), fun x H4 hx D4 b4 => ⟨(by show 2 ≤ sizeLine; decide), fun t ht => ?_⟩⟩
        obtain ⟨v, rfl, hv, hv1, hv2⟩ : ∃ v : Int, x = .int v ∧ v.natAbs ≤ 4294967296 ∧ -2147483648 ≤ v ∧ v ≤ 2147483647 := by
          simp only [List.mem_cons, List.not_mem_nil, or_false] at hx
          rcases hx with rfl | rfl | rfl | rfl | rfl
          · exact ⟨-2147483648, rfl, by decide, by decide, by decide⟩
          · exact ⟨2147483647, rfl, by decide, by decide, by decide⟩
          · exact ⟨0, rfl, by decide, by decide, by decide⟩
          · exact ⟨-1, rfl, by decide, by decide, by decide⟩
          · exact ⟨_, rfl, by omega, by omega, by omega⟩
        have k4 := D4.knowD ht
        exact k _ _ _ (.tup (((((b1.trans b2).trans b3).new hl).trans b4).free ht k4.1 k4.2.1) upd_same (.cons (.str _) (.cons (.int v) .nil))) (o2 _ v (by decide +kernel) hv) (leapL_ok hv1 hv2) (fun h => by cases h) ((D4.new ht).mono (by omega)) ((((b1.trans b2).trans b3).new hl).trans b4 |>.new ht)
end
end SA

set_option Elab.async false
set_option linter.all false
set_option maxRecDepth 100000
set_option maxHeartbeats 1000000
namespace SA
open PySem PySem.Spec PyProof.Rows L2 K83
open K82 hiding mk tl_mk mk_tl mk_app
theorem pe_lstL {X : Cx} {es : List Expr} {pos : Pos} (ds : List PyData) (h : PA X es (tLits ds)) : PE X (.List es pos) (tLst (tLits ds)) := pe_lst h
theorem DnAll.set {n : Addr → Prop} {H : Hp} {v : V} {d : PyData} (h : Dn n H v d) : ∀ {vs : List V} {ds : List PyData} (j : Nat), DnAll n H vs ds → DnAll n H (vs.set j v) (ds.set j d)
  | _, _, _, .nil => .nil
  | _, _, 0, .cons _ h2 => .cons h h2
  | _, _, j + 1, .cons h1 h2 => .cons h1 (DnAll.set h j h2)
theorem DnAll.mem {n : Addr → Prop} {H : Hp} : ∀ {vs : List V} {ds : List PyData} {v : V}, DnAll n H vs ds → v ∈ vs → ∃ d, d ∈ ds ∧ Dn n H v d
  | _, _, _, .nil, h => by cases h
  | _, _, _, .cons h1 h2, h => by
    rcases List.mem_cons.mp h with rfl | h
    · exact ⟨_, List.mem_cons_self, h1⟩
    · obtain ⟨d, hd, hv⟩ := h2.mem h
      exact ⟨d, List.mem_cons_of_mem _ hd, hv⟩
theorem DnAll.erase {n : Addr → Prop} {H : Hp} : ∀ {vs : List V} {ds : List PyData} (j : Nat), DnAll n H vs ds → DnAll n H (vs.eraseIdx j) (ds.eraseIdx j)
  | _, _, _, .nil => .nil
  | _, _, 0, .cons _ h2 => h2
  | _, _, j + 1, .cons h1 h2 => .cons h1 (h2.erase j)
mutual
/-- nothing of it is at an address where nothing stands -/
theorem Dn.off {n : Addr → Prop} {H : Hp} {l : Addr} (hl : H l = none) : ∀ {v : V} {d : PyData}, Dn n H v d → Dn (fun b => n b ∧ b ≠ l) H v d
  | _, _, .non => .non
  | _, _, .bl b => .bl b
  | _, _, .int i => .int i
  | _, _, .str x => .str x
  | _, _, .lst h1 h2 h3 => .lst ⟨h1, ne_of_none h2 hl⟩ h2 (DnAll.off hl h3)
  | _, _, .tup h1 h2 h3 => .tup ⟨h1, ne_of_none h2 hl⟩ h2 (DnAll.off hl h3)
  | _, _, .dct h1 h2 => .dct ⟨h1, ne_of_none h2 hl⟩ h2
theorem DnAll.off {n : Addr → Prop} {H : Hp} {l : Addr} (hl : H l = none) : ∀ {vs : List V} {ds : List PyData}, DnAll n H vs ds → DnAll (fun b => n b ∧ b ≠ l) H vs ds
  | _, _, .nil => .nil
  | _, _, .cons h1 h2 => .cons (Dn.off hl h1) (DnAll.off hl h2)
end
theorem Dn.but2 {n : Addr → Prop} {d w : Addr} {H H' : Hp} {v : V} {dd : PyData} (h : Dn n H v dd) (b : But2 d w H H') (k : ∀ b, n b → b ≠ d ∧ b ≠ w) : Dn n H' v dd := h.keep (fun x o hx e => b x o e (k x hx).1 (k x hx).2) fun _ h => h
theorem DnAll.but2 {n : Addr → Prop} {d w : Addr} {H H' : Hp} {v : List V} {dd : List PyData} (h : DnAll n H v dd) (b : But2 d w H H') (k : ∀ b, n b → b ≠ d ∧ b ≠ w) : DnAll n H' v dd := h.keep (fun x o hx e => b x o e (k x hx).1 (k x hx).2) fun _ h => h
theorem DrawAt.same {H H' : Hp} {d w c : Addr} {n : Nat} (h : DrawAt H d w c n) (s : Same H H') : DrawAt H' d w c n := by
  obtain ⟨⟨r, t, a1, a2, e⟩, ⟨ws, e2⟩, ⟨cs, e3⟩, ne⟩ := h
  exact ⟨⟨r, t, a1, a2, s _ _ e⟩, ⟨ws, s _ _ e2⟩, ⟨cs, s _ _ e3⟩, ne⟩
def splStrange : Sp := fun vs H Q _ => ∃ (d w c : Addr) (n : Nat), vs = [.ref d] ∧ DrawAt H d w c n ∧ n < 2 ^ 38 ∧ ∀ (x : V) (dd : PyData) (H' : Hp), Dn (newIn H) H' x dd → okD dd = true → DrawAt H' d w c (n + 1) → But2 d w H H' → Q x H'
section
variable {P : Program} {w0 : World} {K : PySem.W.Frag} {mg : Str → Option Value} {base : Heap}
end
end SA

set_option Elab.async false
set_option linter.all false
set_option maxRecDepth 100000
set_option maxHeartbeats 1000000
namespace K83
open PySem PySem.Spec
open K82 (L one tl)
theorem shp_ks : (kvS shp).map (·.1) = (shp.map (·.1)).map Sum.inr := by decide +kernel
theorem tab_of_shp {w : Str} (h : w ∈ shp.map (·.1)) : ∃ ls, (w, ls) ∈ tab := by
  obtain ⟨q, hq, rfl⟩ := List.mem_map.mp h
  have := shp_in q hq
  match e : tab.lookup q.1, this with
  | some ls, _ => exact ⟨ls, lookup_mem e⟩
theorem shapeL_at {ls : List Lt} {i c : Nat} (h : (shapeL ls).cps[i]? = some c) : ∃ cl, ls[i]? = some cl ∧ c = SA.lawLt cl := by
  have h : (ls.map SA.lawLt).toArray[i]? = some c := h
  rw [List.getElem?_toArray, List.getElem?_map] at h
  obtain ⟨cl, h1, h2⟩ := Option.map_eq_some_iff.mp h
  exact ⟨cl, h1, h2.symm⟩
theorem arePs_snoc (r : Nat) (c : Lt) (d : D) : ∀ (cs : List Lt) (ds : List D), cs.length = ds.length → arePs r (cs ++ [c]) (ds ++ [d]) = (arePs r cs ds && isPart r c d)
  | [], [], _ => by
    show (isPart r c d && true) = (true && isPart r c d)
    rw [Bool.and_true, Bool.true_and]
  | e :: cs, x :: ds, h => by
    show (isPart r e x && arePs r (cs ++ [c]) (ds ++ [d])) = ((isPart r e x && arePs r cs ds) && isPart r c d)
    rw [arePs_snoc r c d cs ds (by simpa using h), Bool.and_assoc]
theorem reg_noslot {r : Nat} {d : D} (h : isReg r d = true) : isSlot d = false := by
  obtain ⟨z, a, rfl, _, _, e⟩ := isReg_ex h
  show slotL (tl z) = false
  rw [e]
  rfl
theorem judged_of {r : Nat} {w : Str} {ls : List Lt} {ps : List D} (hm : (w, ls) ∈ tab) (h : arePs r ls ps = true) (hc : w = "copy" → ps.all isSlot = false) : judged r (.tuple (.str w :: ps)) = true := by
  obtain ⟨_, _, t3⟩ := tab_ix _ hm
  have t3 : tab.lookup w = some ls := t3
  show (match tab.lookup w with
    | none => false
    | some ls => arePs r ls ps && !(decide (w = "copy") && ps.all isSlot)) = true
  rw [t3]
  show (arePs r ls ps && !(decide (w = "copy") && ps.all isSlot)) = true
  rw [h, Bool.true_and]
  by_cases hw : w = "copy"
  · rw [hc hw, Bool.and_false]
    rfl
  · rw [decide_eq_false hw]
    rfl
theorem copy_set {r yn : Nat} {p1 p2 s : D} (h1 : isReg r p1 = true) (h2 : isReg r p2 = true) (hs : isSlot s = true) (hy : yn < 2) : arePs r [.c, .c] ([p1, p2].set yn s) = true ∧ ([p1, p2].set yn s).all isSlot = false := by
  have e1 := reg_noslot h1
  have e2 := reg_noslot h2
  match yn, hy with
  | 0, _ =>
    show ((isSlot s || isReg r s) && ((isSlot p2 || isReg r p2) && true)) = true ∧ (isSlot s && (isSlot p2 && true)) = false
    rw [hs, h2, e2]
    exact ⟨rfl, rfl⟩
  | 1, _ =>
    show ((isSlot p1 || isReg r p1) && ((isSlot s || isReg r s) && true)) = true ∧ (isSlot p1 && (isSlot s && true)) = false
    rw [hs, h1, e1]
    exact ⟨rfl, rfl⟩
end K83
namespace SA
open PySem PySem.Spec PyProof.Rows L2 K83
open K82 hiding mk tl_mk mk_tl mk_app
def splInstr : Sp := fun vs H Q _ => ∃ (d w c : Addr) (n r : Nat), vs = [.ref d, .int r] ∧ DrawAt H d w c n ∧ n < 2 ^ 36 ∧ 1 ≤ r ∧ r ≤ 9 ∧ ∀ (a : Addr) (xs : List V) (ds : List PyData) (H' : Hp), H' a = some (.tup xs) → H a = none → DnAll (newIn H) H' xs ds → okD (.tuple ds) = true → judged r (.tuple ds) = true → DrawAt H' d w c (n + 100) → But2 d w H H' → Q (.ref a) H'
section
variable {P : Program} {w0 : World} {K : PySem.W.Frag} {mg : Str → Option Value} {base : Heap}
theorem okl_instruction {f : Addr} {fd : FuncData} (F : Fun K "_law_instruction" "_law_instruction" s__law_instruction f fd) (B : Bn3 mg) (c__law_shapes : Dq P w0 K mg base CX0 1 "_law_shapes" [] splShapes) (c__law_pick : Dq P w0 K mg base CX0 3 "_law_pick" ["draw", "some"] (spPick K))
    (c__law_take : Dq P w0 K mg base CX0 2 "_law_take" ["draw", "many"] spTake) (c__law_part : Dq P w0 K mg base CX0 6 "_law_part" ["draw", "registers", "letter"] splDPart) : FnOk P w0 K mg base CX0 7 f fd ["draw", "registers"] splInstr := by
  refine F.ok sc__law_instruction (fun vs H Q E h => ?_) (fun cdv A outer s H vs Q E hr h => ?_)
  · obtain ⟨d, w, c, n, r, rfl, _⟩ := h
    rfl
  · obtain ⟨d, w, c, n, r, rfl, hD, hn, r1, r9, k⟩ := h
    refine ⟨_, (Evl.pss_cut (ps_set (i := 2) sc__law_instruction.nd rfl (Or.inl rfl) (pe_q0 c__law_shapes hr (by decide) (by rfl) pass0))
      (Evl.pss_cut (ps_set (i := 3) sc__law_instruction.nd rfl (Or.inl rfl) (pe_q c__law_pick hr (by decide) (by rfl) (pa_cons (pv 0) (pa_cons (pe_callB (call_sortedD rfl) (by rfl) B.sorted (by decide +kernel) (pa_cons (pv 2) pa_nil)) pa_nil))))
      (Evl.pss_cut (ps_set (i := 4) sc__law_instruction.nd rfl (Or.inl rfl) (pe_op op_cat (pe_lst (pa_cons (pv 3) pa_nil)) (pe_lc (own := [("letter", 5)]) (g := (gName 5)) (tt := tYes) (by rfl) sc__law_instruction.nd (pi_str (pe_dget (hu_of hr) (pv 2) (pv 3) (fun _ _ => rfl))) (blkOk_by (N := n__law_instruction) (sc := defScope s__law_instruction) (by decide +kernel)) (fun _ _ _ _ _ => (pg_name (i := 5) sc__law_instruction.nd rfl (Or.inl rfl))) (fun _ _ _ _ _ => pts_nil) (fun _ _ _ _ _ => (pe_q c__law_part hr (by decide) (by rfl) (pa_cons (pv 0) (pa_cons (pv 1) (pa_cons (pv 5) pa_nil))))))))
      (Evl.pss_cut (ps_if (PW.pt (pw_and (pt_cmpR op_eq (pv 3) pe_str (nomark _)) (pw_and1 (pt_cmpR op_eq (pe_q c__law_take hr (by decide) (by rfl) (pa_cons (pv 0) (pa_cons pe_int pa_nil))) pe_int (nomark _))))) (pss_one (ps_asg (pe_op op_add_str pe_str (pe_callTy call_str_int (by rfl) B.str PySem.Pv.boot_str (pa_cons (pe_q c__law_pick hr (by decide) (by rfl) (pa_cons (pv 0) (pa_cons (pe_lst (pa_cons pe_int (pa_cons pe_int (pa_cons pe_int (pa_cons pe_int (pa_cons pe_int (pa_cons pe_int (pa_cons pe_int (pa_cons pe_int (pa_cons (pe_q c__law_take hr (by decide) (by rfl) (pa_cons (pv 0) (pa_cons pe_int pa_nil))) pa_nil)))))))))) pa_nil))) pa_nil))) (pg_sub (pv 4) (pe_op op_add pe_int (pe_q c__law_take hr (by decide) (by rfl) (pa_cons (pv 0) (pa_cons pe_int pa_nil)))) set_list))) pss_nil)
      (pss_one (ps_ret (pe_callTy call_tuple_of (by rfl) B.tuple (by decide +kernel) (pa_cons (pv 4) pa_nil)))))))), ?_⟩
    have big : (2 : Nat) ^ 36 + 1000 < 2 ^ 37 ∧ (2 : Nat) ^ 37 + 1000 < 2 ^ 38 ∧ (2 : Nat) ^ 38 + 1000 < 2 ^ 39 ∧ (2 : Nat) ^ 39 + 1000 < 2 ^ 40 := by decide
    have nd : ∀ b, newIn H b → b ≠ d ∧ b ≠ w := fun b hb => ⟨(hD.knowD hb).1, (hD.knowD hb).2.1⟩
    refine ⟨fun σ H1 => ∃ p, σ = [some (.ref d), some (.int r), some (.ref p), none, none, none] ∧ Same H H1 ∧ H1 p = some (.dK (kvS shp)) ∧ p ≠ d ∧ p ≠ w, ?_, ?_⟩
    · exact ⟨rfl, fun p H1 hp s1 e1 => ⟨p, rfl, s1, e1, (hD.knowD hp).1, (hD.knowD hp).2.1⟩⟩
    rintro σ H1 ⟨p, rfl, s1, e1, pd, pw⟩
    have D1 := hD.same s1
    have b1 : But2 d w H H1 := Same.but2 s1
    refine ⟨fun σ H2 => ∃ wd ls, σ = [some (.ref d), some (.int r), some (.ref p), some (.str wd), none, none] ∧ (wd, ls) ∈ tab ∧ H2 p = some (.dK (kvS shp)) ∧ DrawAt H2 d w c (n + 1) ∧ But2 d w H H2, ?_, ?_⟩
    · refine ⟨_, rfl, _, rfl, p, kvS shp, shp.map (·.1), rfl, .of e1, shp_ks, by decide +kernel, fun ys l hp hs hl => ?_⟩
      have kl := D1.knowD hl
      refine ⟨d, w, c, l, n, _, rfl, D1.new hl, by omega, kl.1, kl.2.1, SqL.of upd_same, ?_, ?_, fun x H2 hx D2 b2 => ?_⟩
      · intro e
        have h1 := hp.length_eq
        have h2 := congrArg List.length e
        rw [List.length_map, h1] at h2
        revert h2
        decide +kernel
      · rw [List.length_map, hp.length_eq]
        decide +kernel
      · obtain ⟨wd, hw, rfl⟩ := List.mem_map.mp hx
        obtain ⟨ls, hls⟩ := tab_of_shp (hp.mem_iff.mp hw)
        exact ⟨wd, ls, rfl, hls, b2 _ _ ((Same.new hl) _ _ e1) pd pw, D2, (b1.new hl).trans b2⟩
    rintro σ H2 ⟨wd, ls, rfl, hm, e2, D2, b2⟩
    have hl4 : ls.length ≤ 4 := (tab_copy _ hm).2.2
    have dg : DGet H2 p (.str wd) (some (.str (shapeL ls))) := shp_tab (wd, ls) hm ▸ DGet.k (k := Sum.inr wd) e2
    refine ⟨fun σ H3 => ∃ (l : Addr) (xs : List V) (ps : List PyData), σ = [some (.ref d), some (.int r), some (.ref p), some (.str wd), some (.ref l), none] ∧ H l = none ∧ l ≠ d ∧ l ≠ w ∧ l ≠ c ∧ H3 l = some (.lst xs) ∧ DnAll (fun b => newIn H b ∧ b ≠ l) H3 xs (.str wd :: ps) ∧ ps.length = ls.length ∧ okDs (.str wd :: ps) = true ∧ arePs r ls ps = true ∧ (wd = "copy" → ps.all (isReg r) = true) ∧ DrawAt H3 d w c (n + 90) ∧ But2 d w H H3, ?_, ?_⟩
    · refine ⟨_, rfl, (by show 1 ≤ sizeLine; decide), fun l1 hl1 => ?_⟩
      have D3 := D2.new (o := .lst [.str wd]) hl1
      have b3 := b2.new (o := .lst [.str wd]) hl1
      have k1 := D2.knowD hl1
      have dg3 : DGet (upd H2 l1 (.lst [.str wd])) p (.str wd) (some (.str (shapeL ls))) := shp_tab (wd, ls) hm ▸ DGet.k (k := Sum.inr wd) ((Same.new hl1) _ _ e2)
      have el1 : (upd H2 l1 (.lst [.str wd])) l1 = some (.lst [.str wd]) := upd_same
      have fl1 : H l1 = none := b2.free hl1 k1.1 k1.2.1
      generalize upd H2 l1 (.lst [.str wd]) = H3 at D3 b3 dg3 el1 ⊢
      refine ⟨_, rfl, _, rfl, p, _, rfl, dg3, _, rfl, fun q hq => ?_⟩
      have kq := D3.knowD hq
      have nq : l1 ≠ q := ne_of_none el1 hq
      have fq : H q = none := b3.free hq kq.1 kq.2.1
      refine lc_it walk_str (fun i H' => ∃ (xs : List V) (ds : List PyData), H' q = some (.lst xs) ∧ DnAll (fun b => newIn H b ∧ b ≠ q) H' xs ds ∧ ds.length = i ∧ okDs ds = true ∧ arePs r (ls.take i) ds = true ∧ (wd = "copy" → ds.all (isReg r) = true) ∧ DrawAt H' d w c (n + 1 + 20 * i) ∧ But2 d w H H' ∧ H' l1 = some (.lst [.str wd])) ⟨[], [], upd_same, .nil, rfl, rfl, rfl, (fun _ => rfl), D3.new hq, b3.new hq, by rw [upd_ne nq]; exact el1⟩ (fun _ _ _ _ => trivial) ?_ ?_
      · rintro i x H4 H' hi ⟨xs, ds, e4, h4, hl, ho, ha, hcp, D4, b4, f4⟩ ⟨rfl, ch, hch, rfl⟩
        obtain ⟨cl, hcl, rfl⟩ := shapeL_at hch
        have hi4 : i < 4 := by
          have := (List.getElem?_eq_some_iff.mp hcl).1
          omega
        refine ⟨rfl, yes ⟨_, rfl, _, rfl, _, rfl, d, w, c, n + 1 + 20 * i, r, cl, rfl, D4, by omega, r1, r9, fun y dd H5 hy oy py ry D5 b5 => ?_⟩⟩
        have e5 := b5 _ _ e4 kq.1 kq.2.1
        have hy2 : Dn (fun b => newIn H b ∧ b ≠ q) H5 y dd := hy.keep (fun _ _ _ e => e) fun b hb => ⟨b4.free hb (D4.knowD hb).1 (D4.knowD hb).2.1, (ne_of_none e4 hb).symm⟩
        have h5 := h4.but2 b5 fun b h => nd b h.1
        refine ⟨xs, e5, ?_, xs ++ [y], ds ++ [dd], upd_same, ?_, by rw [List.length_append, List.length_singleton, hl], okDs_of fun x hx => ?_, ?_, fun hw => ?_, (D5.upd kq.1 kq.2.1 kq.2.2).mono (by omega), (b4.trans b5).mut fq, ?_⟩
        · rw [h4.len, hl]
          exact small20 (by omega)
        · refine (h5.app (.cons hy2 .nil)).keep (fun b o hb e => ?_) fun _ h => h
          rw [upd_ne hb.2]
          exact e
        · rcases List.mem_append.mp hx with hx | hx
          · exact okDs_mem ho hx
          · rw [List.mem_singleton.mp hx]
            exact oy
        · rw [List.take_add_one, hcl]
          show arePs r (ls.take i ++ [cl]) (ds ++ [dd]) = true
          rw [arePs_snoc r cl dd _ _ (by rw [List.length_take, hl]; have := (List.getElem?_eq_some_iff.mp hcl).1; omega), ha, py]
          rfl
        · have hls : ls = [.c, .c] := (tab_copy _ hm).1 hw
          have hcc : cl = .c := by
            have := List.mem_of_getElem? hcl
            rw [hls] at this
            simpa using this
          rw [List.all_append, hcp hw]
          show (true && (isReg r dd && true)) = true
          rw [ry hcc]
          rfl
        · rw [upd_ne nq]
          exact b5 _ _ f4 k1.1 k1.2.1
      · rintro H4 ⟨xs, ds, e4, h4, hl, ho, ha, hcp, D4, b4, f4⟩
        have hls : ds.length = ls.length := hl.trans (shapeL_len ls)
        refine ⟨l1, q, _, _, rfl, rfl, f4, e4, ?_, fun l hl => ?_⟩
        · rw [h4.len, hls]
          exact small1000' (by simp; omega)
        have kl := D4.knowD hl
        have s4 : Same H4 (upd H4 l (.lst ([.str wd] ++ xs))) := Same.new hl
        have hi4 : (shapeL ls).cps.size ≤ 4 := by
          have := shapeL_len ls
          show (shapeL ls).length ≤ 4
          omega
        refine ⟨l, _, ds, rfl, b4.free hl kl.1 kl.2.1, kl.1, kl.2.1, kl.2.2, upd_same, .cons (.str wd) ((((DnAll.off hl h4).keep (fun _ _ _ e => e) fun b hb => ⟨hb.1.1, hb.2⟩)).same s4), hls, ?_, ?_, hcp, (D4.new hl).mono (by omega), b4.new hl⟩
        · show (okD (.str wd) && okDs ds) = true
          rw [ho, Bool.and_true]
          exact (by decide +kernel : ∀ q ∈ tab, okD (.str q.1) = true) _ hm
        · rw [show (shapeL ls).cps.size = ls.length from shapeL_len ls, List.take_length] at ha
          exact ha
    rintro σ H3 ⟨l, xs, ps, rfl, fl, ld, lw, lc, e3, h3, hl3, ho3, ha3, hc3, D3, b3⟩
    refine ⟨fun σ H4 => ∃ (xs : List V) (ds : List PyData), σ = [some (.ref d), some (.int r), some (.ref p), some (.str wd), some (.ref l), none] ∧ H4 l = some (.lst xs) ∧ DnAll (fun b => newIn H b ∧ b ≠ l) H4 xs ds ∧ ds.length = ls.length + 1 ∧ okDs ds = true ∧ judged r (.tuple ds) = true ∧ DrawAt H4 d w c (n + 95) ∧ But2 d w H H4, ?_, ?_⟩
    · refine ⟨_, rfl, rfl, _, rfl, ite2 (fun hw => ?_) (fun hw => ⟨xs, _, rfl, e3, h3, by rw [List.length_cons, hl3], ho3, judged_of hm ha3 (fun h => absurd (decide_eq_true (by rw [h])) hw), D3.mono (by omega), b3⟩)⟩
      have hw : wd = "copy" := V.str.inj (of_decide_eq_true hw)
      have hls : ls = [.c, .c] := (tab_copy _ hm).1 hw
      refine ⟨_, rfl, d, w, c, n + 90, 2, rfl, D3, by omega, by decide, by decide, fun i H4 i0 i1 D4 b4 => ⟨rfl, _, rfl, ite2 (fun _ => ?_) (fun _ => ?_)⟩⟩
      · have e4 := b4 _ _ e3 ld lw
        have h4 := h3.but2 b4 fun b h => nd b h.1
        refine ⟨_, rfl, _, rfl, d, w, c, n + 91, 1000, rfl, D4, by omega, by decide, by decide, fun j H5 j0 j1 D5 b5 => ⟨(by show 9 ≤ sizeLine; decide), fun l9 hl9 => ?_⟩⟩
        have k9 := D5.knowD hl9
        refine ⟨d, w, c, l9, n + 92, _, rfl, D5.new hl9, by omega, k9.1, k9.2.1, SqL.of upd_same, by simp, (by show 9 < 2 ^ 29; decide), fun x H6 hx D6 b6 => ?_⟩
        obtain ⟨m, rfl, hm9⟩ : ∃ m : Nat, x = .int m ∧ m < 1000 := by
          simp only [List.mem_cons, List.not_mem_nil, or_false] at hx
          obtain ⟨jn, rfl⟩ := Int.eq_ofNat_of_zero_le j0
          rcases hx with rfl | rfl | rfl | rfl | rfl | rfl | rfl | rfl | rfl
          · exact ⟨0, rfl, by decide⟩
          · exact ⟨1, rfl, by decide⟩
          · exact ⟨2, rfl, by decide⟩
          · exact ⟨3, rfl, by decide⟩
          · exact ⟨6, rfl, by decide⟩
          · exact ⟨7, rfl, by decide⟩
          · exact ⟨14, rfl, by decide⟩
          · exact ⟨999, rfl, by decide⟩
          · exact ⟨jn, rfl, by omega⟩
        have b56 := ((b5.new hl9).trans b6)
        have e6 := b56 _ _ e4 ld lw
        have h6 := h4.but2 b56 fun b h => nd b h.1
        have oz := okD_nums m hm9
        refine ⟨(m : Nat), rfl, ?_, _, _, rfl, rfl, ?_, ?_⟩
        · have : ((m : Int).natAbs).log2 < 1920 := by
            rw [Int.natAbs_natCast]
            by_cases h0 : m = 0
            · subst h0; decide
            · have := (Nat.log2_lt h0 (k := 10)).mpr (by omega)
              omega
          exact this
        · have := (okD_str oz).1
          exact small5 (by rw [← K83.len_app]; omega)
        refine ⟨_, rfl, _, rfl, d, w, c, n + 93, 2, rfl, D6, by omega, by decide, by decide, fun y H7 y0 y1 D7 b7 => ⟨_, _, rfl, rfl, ?_⟩⟩
        have e7 := b7 _ _ e6 ld lw
        have h7 := h6.but2 b7 fun b h => nd b h.1
        obtain ⟨yn, rfl⟩ := Int.eq_ofNat_of_zero_le y0
        have hxl : xs.length = 3 := by rw [h3.len, List.length_cons, hl3, hls]; rfl
        refine ⟨l, xs, _, yn + 1, rfl, rfl, e7, ?_, _, (PyData.str wd :: ps).set (yn + 1) (.str (("s" : Str) ++ (toString ((m : Nat) : Int) : String))), rfl, upd_same, ?_, ?_, ?_, ?_, (D7.upd ld lw lc).mono (by omega), ?_⟩
        · rw [hxl]
          unfold ixN
          rw [if_pos (by omega), if_pos (by omega)]
          congr 1
          omega
        · refine (DnAll.set (.str _) (yn + 1) h7).keep (fun b o hb e => ?_) fun _ h => h
          rw [upd_ne hb.2]
          exact e
        · rw [List.length_set, List.length_cons, hl3]
        · refine okDs_of fun x hx => ?_
          rcases List.mem_or_eq_of_mem_set hx with hx | rfl
          · exact okDs_mem ho3 hx
          · exact oz
        · have hp2 : ps.length = 2 := by rw [hl3, hls]; rfl
          have hcr := hc3 hw
          match ps, hp2, hcr with
          | [p1, p2], _, hcr =>
          have hcr : (isReg r p1 && (isReg r p2 && true)) = true := hcr
          rw [Bool.and_eq_true, Bool.and_eq_true] at hcr
          obtain ⟨g1, g2⟩ := copy_set hcr.1 hcr.2.1 (slot_of hm9) (show yn < 2 by omega)
          rw [← hls] at g1
          exact judged_of hm g1 fun _ => g2
        · exact (((b3.trans b4).trans b56).trans b7).mut fl
      · exact ⟨xs, _, rfl, b4 _ _ e3 ld lw, h3.but2 b4 fun b h => nd b h.1, by rw [List.length_cons, hl3], ho3, judged_of hm ha3 fun hw' => by
        have hp2 : ps.length = 2 := by rw [hl3, hls]; rfl
        have hcr := hc3 hw'
        match ps, hp2, hcr with
        | [p1, p2], _, hcr =>
        have hcr : (isReg r p1 && (isReg r p2 && true)) = true := hcr
        rw [Bool.and_eq_true, Bool.and_eq_true] at hcr
        show (isSlot p1 && (isSlot p2 && true)) = false
        rw [reg_noslot hcr.1]
        rfl, D4.mono (by omega), b3.trans b4⟩
    rintro σ H4 ⟨xs, ds, rfl, e4, h4, hl4', ho4, hj4, D4, b4⟩
    refine ⟨_, rfl, l, xs, rfl, .inl ⟨SqL.of e4, fun a ha => ?_⟩⟩
    have ka := D4.knowD ha
    exact k a xs ds _ upd_same (b4.free ha ka.1 ka.2.1) ((h4.keep (fun _ _ _ e => e) fun b hb => hb.1).same (Same.new ha)) (okT (by omega) ho4) hj4 ((D4.new ha).mono (by omega)) (b4.new ha)
end
end SA

set_option Elab.async false
set_option linter.all false
set_option maxRecDepth 100000
set_option maxHeartbeats 1000000
set_option exponentiation.threshold 3000
namespace K83
open PySem PySem.Spec
open K82 (L one tl IsB bval bdig enc dec zig zag zs)
/-! ### reading that judges each part at once -/
def lawP (r : Nat) (l : L) (c : Lt) (n : Nat) : Option (D × Nat) := (rdPart l c n).bind fun q => if isPart r c q.1 = true then some q else none
def lawPs (r : Nat) (l : L) : List Lt → Nat → Option (List D × Nat)
  | [], n => some ([], n)
  | c :: cs, n => (lawP r l c n).bind fun q => (lawPs r l cs q.2).map fun t => (q.1 :: t.1, t.2)
theorem lawPs_eq (r : Nat) (l : L) : ∀ (cs : List Lt) (n : Nat), lawPs r l cs n = (rdPs l cs n).bind fun t => if arePs r cs t.1 = true then some t else none
  | [], n => rfl
  | c :: cs, n => by
    rw [rdPs_cons]
    show ((rdPart l c n).bind fun q => if isPart r c q.1 = true then some q else none).bind (fun q => (lawPs r l cs q.2).map fun t => (q.1 :: t.1, t.2)) = _
    cases rdPart l c n with
    | none => rfl
    | some q =>
      show (if isPart r c q.1 = true then some q else none).bind (fun q => (lawPs r l cs q.2).map fun t => (q.1 :: t.1, t.2)) = ((rdPs l cs q.2).map fun t => (q.1 :: t.1, t.2)).bind fun t => if arePs r (c :: cs) t.1 = true then some t else none
      by_cases h : isPart r c q.1 = true
      · rw [if_pos h]
        show (lawPs r l cs q.2).map (fun t => (q.1 :: t.1, t.2)) = _
        rw [lawPs_eq r l cs q.2]
        cases rdPs l cs q.2 with
        | none => rfl
        | some t =>
          show (if arePs r cs t.1 = true then some t else none).map (fun t => (q.1 :: t.1, t.2)) = if (isPart r c q.1 && arePs r cs t.1) = true then some (q.1 :: t.1, t.2) else none
          rw [h, Bool.true_and]
          by_cases h2 : arePs r cs t.1 = true
          · rw [if_pos h2, if_pos h2]
            rfl
          · rw [if_neg h2, if_neg h2]
            rfl
      · rw [if_neg h]
        cases rdPs l cs q.2 with
        | none => rfl
        | some t =>
          show none = if (isPart r c q.1 && arePs r cs t.1) = true then some (q.1 :: t.1, t.2) else none
          rw [if_neg (by rw [Bool.and_eq_true]; exact fun x => h x.1)]
theorem lawPs_snoc (r : Nat) (l : L) (c : Lt) : ∀ (cs : List Lt) (n : Nat), lawPs r l (cs ++ [c]) n = (lawPs r l cs n).bind fun t => (lawP r l c t.2).map fun q => (t.1 ++ [q.1], q.2)
  | [], n => by
    show (lawP r l c n).bind (fun q => (some ([], q.2)).map fun t => (q.1 :: t.1, t.2)) = (lawP r l c n).map fun q => ([] ++ [q.1], q.2)
    cases lawP r l c n <;> rfl
  | d :: cs, n => by
    show (lawP r l d n).bind (fun q => (lawPs r l (cs ++ [c]) q.2).map fun t => (q.1 :: t.1, t.2)) = ((lawP r l d n).bind fun q => (lawPs r l cs q.2).map fun t => (q.1 :: t.1, t.2)).bind fun t => (lawP r l c t.2).map fun q => (t.1 ++ [q.1], q.2)
    cases lawP r l d n with
    | none => rfl
    | some q =>
      show (lawPs r l (cs ++ [c]) q.2).map (fun t => (q.1 :: t.1, t.2)) = ((lawPs r l cs q.2).map fun t => (q.1 :: t.1, t.2)).bind fun t => (lawP r l c t.2).map fun q => (t.1 ++ [q.1], q.2)
      rw [lawPs_snoc r l c cs q.2]
      cases lawPs r l cs q.2 with
      | none => rfl
      | some t =>
        show ((lawP r l c t.2).map fun q => (t.1 ++ [q.1], q.2)).map (fun t => (q.1 :: t.1, t.2)) = (lawP r l c t.2).map fun p => (q.1 :: t.1 ++ [p.1], p.2)
        cases lawP r l c t.2 <;> rfl
theorem lawPs_none (r : Nat) (l : L) : ∀ (cs ds : List Lt) (n : Nat), lawPs r l cs n = none → lawPs r l (cs ++ ds) n = none
  | [], ds, n, h => by cases h
  | c :: cs, ds, n, h => by
    have h : (lawP r l c n).bind (fun q => (lawPs r l cs q.2).map fun t => (q.1 :: t.1, t.2)) = none := h
    show (lawP r l c n).bind (fun q => (lawPs r l (cs ++ ds) q.2).map fun t => (q.1 :: t.1, t.2)) = none
    cases hq : lawP r l c n with
    | none => rfl
    | some q =>
      rw [hq] at h
      have h : (lawPs r l cs q.2).map (fun t => (q.1 :: t.1, t.2)) = none := h
      show (lawPs r l (cs ++ ds) q.2).map (fun t => (q.1 :: t.1, t.2)) = none
      rw [Option.map_eq_none_iff] at h ⊢
      exact lawPs_none r l cs ds q.2 h
/-- a step of the loop over the parts -/
theorem lawPs_step {r : Nat} {l : L} {ls : List Lt} {i n k : Nat} {c : Lt} {ps : List D} (hc : ls[i]? = some c) (h : lawPs r l (ls.take i) n = some (ps, k)) :
    (lawP r l c k = none → lawPs r l ls n = none) ∧ ∀ d b, lawP r l c k = some (d, b) → lawPs r l (ls.take (i + 1)) n = some (ps ++ [d], b) := by
  have e : ls.take (i + 1) = ls.take i ++ [c] := by
    rw [List.take_add_one, hc]
    rfl
  have e2 := lawPs_snoc r l c (ls.take i) n
  rw [← e, h] at e2
  have e2 : lawPs r l (ls.take (i + 1)) n = (lawP r l c k).map fun q => (ps ++ [q.1], q.2) := e2
  constructor
  · intro hn
    rw [hn] at e2
    have := lawPs_none r l (ls.take (i + 1)) (ls.drop (i + 1)) n e2
    rwa [List.take_append_drop] at this
  · intro d b hs
    rw [e2, hs]
    rfl
def lawI (r : Nat) (l : L) (n : Nat) : Option (D × Nat) := (digAt l n 5).bind fun q => match tab[q.1]? with
  | none => none
  | some (w, ls) => (lawPs r l ls q.2).bind fun t => if (decide (w = "copy") && t.1.all isSlot) = true then none else some (.tuple (.str w :: t.1), t.2)
theorem lawI_eq (r : Nat) (l : L) (n : Nat) : lawI r l n = rdI r l n := by
  unfold lawI rdI
  congr 1
  funext q
  cases ht : tab[q.1]? with
  | none => rfl
  | some wl =>
    obtain ⟨w, ls⟩ := wl
    have hm := List.mem_of_getElem? ht
    obtain ⟨_, _, t3⟩ := tab_ix _ hm
    have t3 : tab.lookup w = some ls := t3
    show (lawPs r l ls q.2).bind (fun t => if (decide (w = "copy") && t.1.all isSlot) = true then none else some (PyData.tuple (.str w :: t.1), t.2)) = (rdPs l ls q.2).bind fun t => if judged r (.tuple (.str w :: t.1)) = true then some (PyData.tuple (.str w :: t.1), t.2) else none
    rw [lawPs_eq]
    cases rdPs l ls q.2 with
    | none => rfl
    | some t =>
      show (if arePs r ls t.1 = true then some t else none).bind (fun t => if (decide (w = "copy") && t.1.all isSlot) = true then none else some (PyData.tuple (.str w :: t.1), t.2)) = if judged r (.tuple (.str w :: t.1)) = true then some (PyData.tuple (.str w :: t.1), t.2) else none
      have hj : judged r (.tuple (.str w :: t.1)) = (arePs r ls t.1 && !(decide (w = "copy") && t.1.all isSlot)) := by
        show (match tab.lookup w with
          | none => false
          | some ls => arePs r ls t.1 && !(decide (w = "copy") && t.1.all isSlot)) = _
        rw [t3]
      rw [hj]
      cases arePs r ls t.1 with
      | false => rfl
      | true =>
        rw [if_pos rfl, Bool.true_and]
        show (if (decide (w = "copy") && t.1.all isSlot) = true then none else some (PyData.tuple (.str w :: t.1), t.2)) = _
        cases (decide (w = "copy") && t.1.all isSlot) <;> rfl
/-! ### what may be read at all -/
theorem natS_600 {v : Nat} (h : v < 2 ^ 1300) : (natS v).length ≤ 600 := SA.natS_len h
theorem enc_small {v : Nat} (h : (enc v).length ≤ 1200) : v < 2 ^ 1300 := by
  rw [K82.enc_len] at h
  have h1 := K82.log_lt v
  have h2 : (2 : Nat) ^ (Nat.log2 (v + 1) + 1) ≤ 2 ^ 1300 := Nat.pow_le_pow_right (by decide) (by omega)
  omega
theorem okE_strOf {z : Str} (h1 : z.length ≤ 1000) (h2 : ∀ c ∈ tl z, c < 128) : okE (.str z) = true := by
  show (decide (z.length ≤ 1000) && z.cps.toList.all fun c => decide (c < 128)) = true
  rw [Bool.and_eq_true, decide_eq_true_eq, List.all_eq_true]
  exact ⟨h1, fun c hc => decide_eq_true (h2 c hc)⟩
theorem okE_pl {c v : Nat} (hc : c < 128) (h : v < 2 ^ 1300) : okE (.str (pl c v)) = true := by
  have e := natS_600 h
  refine okE_strOf ?_ fun x hx => ?_
  · show (tl (pl c v)).length ≤ 1000
    rw [tl_pl, List.length_cons]
    have : (tl (natS v)).length = (natS v).length := rfl
    omega
  · rw [tl_pl] at hx
    rcases List.mem_cons.mp hx with rfl | hx
    · exact hc
    · exact natS_asc v x hx
theorem okEs_of : ∀ {ds : List PyData}, (∀ d ∈ ds, okE d = true) → okEs ds = true
  | [], _ => rfl
  | d :: ds, h => by
    show (okE d && okEs ds) = true
    rw [h d List.mem_cons_self, okEs_of fun x hx => h x (List.mem_cons_of_mem _ hx)]
    rfl
theorem okE_tupOf {ds : List PyData} (h : ds.length ≤ 20) (h2 : ∀ d ∈ ds, okE d = true) : okE (.tuple ds) = true := by
  show (decide (ds.length ≤ 20) && okEs ds) = true
  rw [okEs_of h2, decide_eq_true h]
  rfl
theorem okE_reg {l : L} {n b : Nat} {d : D} (hb : IsB l) (h : regAt l n = some (d, b)) : okE d = true := by
  unfold regAt at h
  obtain ⟨⟨v, k⟩, h1, h2⟩ := Option.map_eq_some_iff.mp h
  injection h2 with h2 h3
  have h2 : PyData.str (pl 114 v) = d := h2
  obtain ⟨_, _, g3⟩ := digAt_at hb h1
  subst h2
  refine okE_pl (by decide) (Nat.lt_of_lt_of_le g3 (Nat.pow_le_pow_right (by decide) (by decide)))
theorem okE_regs {l : L} (hb : IsB l) : ∀ (m n : Nat) (ds : List D) (b : Nat), regsN l m n = some (ds, b) → (∀ d ∈ ds, okE d = true) ∧ ds.length = m
  | 0, n, ds, b, h => by
    injection h with h
    injection h with h1 h2
    subst h1
    exact ⟨(fun d hd => by cases hd), rfl⟩
  | m + 1, n, ds, b, h => by
    have h : ((regAt l n).bind fun q => (regsN l m q.2).map fun t => (q.1 :: t.1, t.2)) = some (ds, b) := h
    obtain ⟨⟨d, b'⟩, h1, h2⟩ := Option.bind_eq_some_iff.mp h
    obtain ⟨⟨ds', e'⟩, h3, h4⟩ := Option.map_eq_some_iff.mp h2
    injection h4 with h4 h5
    have h4 : d :: ds' = ds := h4
    subst h4
    obtain ⟨i1, i2⟩ := okE_regs hb m b' ds' e' h3
    refine ⟨fun x hx => ?_, by rw [List.length_cons, i2]⟩
    rcases List.mem_cons.mp hx with rfl | hx
    · exact okE_reg hb h1
    · exact i1 x hx
theorem okE_part {l : L} {c : Lt} {n b : Nat} {d : D} (hn : n ≤ l.length) (hl : l.length ≤ 1200) (hb : IsB l) (h : rdPart l c n = some (d, b)) : okE d = true := by
  cases c with
  | p => exact okE_reg hb h
  | n =>
    have h : (decAt l n).map (fun q => (PyData.int (zag q.1), q.2)) = some (d, b) := h
    obtain ⟨⟨v, k⟩, h1, h2⟩ := Option.map_eq_some_iff.mp h
    injection h2 with h2 h3
    have h2 : PyData.int (zag v) = d := h2
    subst h2
    rfl
  | c =>
    have h : copAt l n = some (d, b) := h
    unfold copAt at h
    split at h
    · rename_i h49
      obtain ⟨⟨v, k⟩, h1, h2⟩ := Option.map_eq_some_iff.mp h
      injection h2 with h2 h3
      have h2 : PyData.str (pl 115 v) = d := h2
      subst h2
      have hn1 : n + 1 ≤ l.length := by
        rcases Nat.lt_or_ge n l.length with h | h
        · omega
        · rw [List.drop_of_length_le h] at h49
          cases h49
      have := (decAt_at hn1 hb h1).1.len
      exact okE_pl (by decide) (enc_small (by omega))
    · exact okE_reg hb h
  | x =>
    obtain ⟨w, e1, e2, e3, e4⟩ := namAt_at hb _ n [] d b h
    rw [List.nil_append] at e1
    subst e1
    have hlen := e2.len
    rw [List.length_append, List.length_flatMap, List.map_congr_left (fun c _ => K82.bdig_len 5 (c - 96)), List.map_const', List.sum_replicate_nat] at hlen
    refine okE_strOf ?_ fun c hc => ?_
    · show (tl (mk w)).length ≤ 1000
      rw [tl_mk]
      omega
    · rw [tl_mk] at hc
      have := e4 c hc
      omega
  | k =>
    have h : (digAt l n 2).map (fun q => (PyData.int (q.1 : Nat), q.2)) = some (d, b) := h
    obtain ⟨⟨v, k⟩, h1, h2⟩ := Option.map_eq_some_iff.mp h
    injection h2 with h2 h3
    have h2 : PyData.int (v : Nat) = d := h2
    subst h2
    rfl
  | P =>
    have h : ((digAt l n 2).bind fun q => (regsN l q.1 q.2).map fun t => (PyData.tuple t.1, t.2)) = some (d, b) := h
    obtain ⟨⟨v, k⟩, h1, h2⟩ := Option.bind_eq_some_iff.mp h
    obtain ⟨⟨ds, e'⟩, h3, h4⟩ := Option.map_eq_some_iff.mp h2
    injection h4 with h4 h5
    have h4 : PyData.tuple ds = d := h4
    subst h4
    obtain ⟨_, _, g3⟩ := digAt_at hb h1
    obtain ⟨i1, i2⟩ := okE_regs hb v k ds e' h3
    exact okE_tupOf (by rw [i2]; have : v < 4 := g3; omega) i1
  | l =>
    have h : leapAt l n = some (d, b) := h
    have o : ∀ (w : Str) (i : Int), okE (.str w) = true → okE (.tuple [.str w, .int i]) = true := fun w i hw => okE_tupOf (by simp) fun x hx => by
      simp only [List.mem_cons, List.not_mem_nil, or_false] at hx
      rcases hx with rfl | rfl
      · exact hw
      · rfl
    unfold leapAt at h
    split at h
    · obtain ⟨⟨v, k⟩, h1, h2⟩ := Option.map_eq_some_iff.mp h
      injection h2 with h2 h3
      have h2 : PyData.tuple [.str "long", .int (leapV 32 v)] = d := h2
      subst h2
      exact o _ _ (by decide +kernel)
    · obtain ⟨⟨v, k⟩, h1, h2⟩ := Option.map_eq_some_iff.mp h
      injection h2 with h2 h3
      have h2 : PyData.tuple [.str "short", .int (leapV 8 v)] = d := h2
      subst h2
      exact o _ _ (by decide +kernel)
theorem okE_parts {l : L} (hl : l.length ≤ 1200) (hb : IsB l) : ∀ (cs : List Lt) (n : Nat) (ps : List D) (b : Nat), n ≤ l.length → rdPs l cs n = some (ps, b) → (∀ d ∈ ps, okE d = true) ∧ ps.length = cs.length
  | [], n, ps, b, hn, h => by
    injection h with h
    injection h with h1 h2
    subst h1
    exact ⟨(fun d hd => by cases hd), rfl⟩
  | c :: cs, n, ps, b, hn, h => by
    rw [rdPs_cons] at h
    obtain ⟨⟨d, k⟩, h1, h2⟩ := Option.bind_eq_some_iff.mp h
    obtain ⟨⟨ds, e'⟩, h3, h4⟩ := Option.map_eq_some_iff.mp h2
    injection h4 with h4 h5
    have h4 : d :: ds = ps := h4
    subst h4
    obtain ⟨i1, i2⟩ := okE_parts hl hb cs k ds e' (by have := rdPart_le hn h1; omega) h3
    refine ⟨fun x hx => ?_, by rw [List.length_cons, i2, List.length_cons]⟩
    rcases List.mem_cons.mp hx with rfl | hx
    · exact okE_part hn hl hb h1
    · exact i1 x hx
theorem okAt_all {l : L} (hl : l.length ≤ 1200) (hb : IsB l) (n : Nat) : SA.okAt l n := by
  intro v b w ls ps e h1 h2 h3
  have hm := List.mem_of_getElem? h2
  obtain ⟨i1, i2⟩ := okE_parts hl hb ls b ps e (digAt_le h1) h3
  have hl4 : ls.length ≤ 4 := (tab_copy _ hm).2.2
  refine okE_tupOf (by rw [List.length_cons, i2]; omega) fun x hx => ?_
  rcases List.mem_cons.mp hx with rfl | hx
  · exact (by decide +kernel : ∀ q ∈ tab, okE (.str q.1) = true) _ hm
  · exact i1 x hx
end K83

set_option Elab.async false
set_option linter.all false
set_option maxRecDepth 100000
set_option maxHeartbeats 1000000
set_option exponentiation.threshold 3000
namespace K83
open PySem PySem.Spec
open K82 (L one tl IsB bval bdig enc dec zig zag)
/-! ### data that repr shows and == compares -/
structure Nc (m k : Nat) (d : PyData) : Prop where
  sh : d.showable = true
  ls : d.leavesShort 120 = true
  wt : d.weight ≤ m
  dp : d.depth ≤ k
  lay : d.canLay0 = true
theorem Nc.mono {m k m' k' : Nat} {d : PyData} (h : Nc m k d) (h1 : m ≤ m') (h2 : k ≤ k') : Nc m' k' d := ⟨h.sh, h.ls, by have := h.wt; omega, by have := h.dp; omega, h.lay⟩
theorem Nc.str {z : Str} (h : okD (.str z) = true) : Nc 1000 0 (.str z) := by
  obtain ⟨h1, h2⟩ := okD_str h
  refine ⟨rfl, ?_, h1, Nat.le_refl _, ?_⟩
  · show (z.cps.toList.all fun c => decide (c < 16 ^ 8)) = true
    rw [List.all_eq_true]
    intro c hc
    have := h2 c hc
    have : (128 : Nat) ≤ 16 ^ 8 := by decide
    exact decide_eq_true (by omega)
  · show z.cps.all (fun c => decide (c < 0x110000)) = true
    rw [← Array.all_toList, List.all_eq_true]
    intro c hc
    have := h2 c hc
    exact decide_eq_true (by omega)
theorem Nc.bits {z : Str} (h : IsB (tl z)) {m : Nat} (hm : z.length ≤ m) : Nc m 0 (.str z) := by
  have h2 : ∀ c ∈ z.cps.toList, c < 128 := fun c hc => by
    rcases h c hc with h | h <;> omega
  refine ⟨rfl, ?_, hm, Nat.le_refl _, ?_⟩
  · show (z.cps.toList.all fun c => decide (c < 16 ^ 8)) = true
    rw [List.all_eq_true]
    intro c hc
    have := h2 c hc
    have : (128 : Nat) ≤ 16 ^ 8 := by decide
    exact decide_eq_true (by omega)
  · show z.cps.all (fun c => decide (c < 0x110000)) = true
    rw [← Array.all_toList, List.all_eq_true]
    intro c hc
    have := h2 c hc
    exact decide_eq_true (by omega)
theorem Nc.int {i : Int} {k : Nat} (h : i.natAbs < 2 ^ k) (hk : k ≤ 360) : Nc k 0 (.int i) := by
  have hl : i.natAbs = 0 ∨ i.natAbs.log2 < k := by
    by_cases h0 : i.natAbs = 0
    · exact .inl h0
    · exact .inr ((Nat.log2_lt h0).mpr h)
  have hlog : i.natAbs.log2 < 1920 := by
    rcases hl with h | h
    · rw [h]
      decide
    · omega
  refine ⟨by simpa [PyData.showable] using hlog, ?_, ?_, Nat.le_refl _, rfl⟩
  · have e := int_text_length_le10 (a := i) (k := 119) (by decide) (Nat.lt_of_lt_of_le h (Nat.le_trans (Nat.pow_le_pow_right (by decide) hk) (by decide +kernel)))
    show decide ((Str.ofString (toString i)).length ≤ 120) = true
    rw [PySem.ofString_length]
    exact decide_eq_true e
  · show (if i == 0 then 0 else i.natAbs.log2 + 1) ≤ k
    split
    · exact Nat.zero_le _
    · rename_i h0
      rcases hl with h | h
      · exact absurd (by simpa using h) h0
      · omega
theorem Nc.strS {z : Str} {m : Nat} (h1 : z.length ≤ m) (h2 : ∀ c ∈ tl z, c < 128) : Nc m 0 (.str z) := by
  refine ⟨rfl, ?_, h1, Nat.le_refl _, ?_⟩
  · show (z.cps.toList.all fun c => decide (c < 16 ^ 8)) = true
    rw [List.all_eq_true]
    intro c hc
    have := h2 c hc
    have : (128 : Nat) ≤ 16 ^ 8 := by decide
    exact decide_eq_true (by omega)
  · show z.cps.all (fun c => decide (c < 0x110000)) = true
    rw [← Array.all_toList, List.all_eq_true]
    intro c hc
    have := h2 c hc
    exact decide_eq_true (by omega)
theorem Nc.non : Nc 0 0 .none := ⟨rfl, rfl, Nat.le_refl _, Nat.le_refl _, rfl⟩
theorem Nc.all {m k : Nat} : ∀ {ds : List PyData}, (∀ d ∈ ds, Nc m k d) → PyData.showableAll ds = true ∧ PyData.leavesShortAll 120 ds = true ∧ PyData.weightAll ds ≤ ds.length * (m + 1) ∧ PyData.depthAll ds ≤ k ∧ PyData.canLayAll0 ds = true
  | [], _ => ⟨rfl, rfl, Nat.zero_le _, Nat.zero_le _, rfl⟩
  | d :: ds, h => by
    obtain ⟨a1, a2, a3, a4, a5⟩ := Nc.all fun x hx => h x (List.mem_cons_of_mem _ hx)
    have b := h d List.mem_cons_self
    refine ⟨?_, ?_, ?_, ?_, ?_⟩
    · show (d.showable && PyData.showableAll ds) = true
      rw [b.sh, a1]
      rfl
    · show (d.leavesShort 120 && PyData.leavesShortAll 120 ds) = true
      rw [b.ls, a2]
      rfl
    · show d.weight + 1 + PyData.weightAll ds ≤ (d :: ds).length * (m + 1)
      rw [List.length_cons, Nat.succ_mul]
      have := b.wt
      omega
    · show max d.depth (PyData.depthAll ds) ≤ k
      have := b.dp
      omega
    · show (d.canLay0 && PyData.canLayAll0 ds) = true
      rw [b.lay, a5]
      rfl
theorem Nc.tup {m k n : Nat} {ds : List PyData} (h : ∀ d ∈ ds, Nc m k d) (hn : ds.length ≤ n) : Nc (n * (m + 1)) (k + 1) (.tuple ds) := by
  obtain ⟨a1, a2, a3, a4, a5⟩ := Nc.all h
  exact ⟨a1, a2, Nat.le_trans a3 (Nat.mul_le_mul_right _ hn), Nat.succ_le_succ a4, a5⟩
theorem Nc.lst {m k n : Nat} {ds : List PyData} (h : ∀ d ∈ ds, Nc m k d) (hn : ds.length ≤ n) : Nc (n * (m + 1)) (k + 1) (.list ds) := by
  obtain ⟨a1, a2, a3, a4, a5⟩ := Nc.all h
  exact ⟨a1, a2, Nat.le_trans a3 (Nat.mul_le_mul_right _ hn), Nat.succ_le_succ a4, a5⟩
theorem Nc.gd {m k : Nat} {d : PyData} (h : Nc m k d) (hm : m ≤ 130000) (hk : k ≤ 60) : SA.Gd d := by
  refine ⟨h.sh, ?_, by have := h.dp; omega⟩
  have := PyData.shown_le 120 (by decide) d h.ls
  have := sizeLine_eq
  have := h.wt
  omega
theorem Nc.shaped {m k : Nat} {d : PyData} (h : Nc m k d) (hk : k ≤ 60) : SeqAt.shaped d = true := by
  show (PyData.canLay0 d && decide (PyData.depth d ≤ 64)) = true
  rw [h.lay, Bool.true_and, decide_eq_true_eq]
  have := h.dp
  omega
theorem Nc.cons {m n k : Nat} {d : PyData} {ds : List PyData} (h : Nc m k d) (h2 : Nc n (k + 1) (.tuple ds)) : Nc (m + 1 + n) (k + 1) (.tuple (d :: ds)) := by
  have d2 : PyData.depthAll ds + 1 ≤ k + 1 := h2.dp
  refine ⟨?_, ?_, ?_, ?_, ?_⟩
  · show (d.showable && PyData.showableAll ds) = true
    rw [h.sh, show PyData.showableAll ds = true from h2.sh]
    rfl
  · show (d.leavesShort 120 && PyData.leavesShortAll 120 ds) = true
    rw [h.ls, show PyData.leavesShortAll 120 ds = true from h2.ls]
    rfl
  · show d.weight + 1 + PyData.weightAll ds ≤ m + 1 + n
    have := h.wt
    have : PyData.weightAll ds ≤ n := h2.wt
    omega
  · show max d.depth (PyData.depthAll ds) + 1 ≤ k + 1
    have := h.dp
    omega
  · show (d.canLay0 && PyData.canLayAll0 ds) = true
    rw [h.lay, show PyData.canLayAll0 ds = true from h2.lay]
    rfl
theorem Nc.tnil (k : Nat) : Nc 0 (k + 1) (.tuple []) := ⟨rfl, rfl, Nat.le_refl _, Nat.succ_le_succ (Nat.zero_le _), rfl⟩
def wl : Lt → Nat
  | .p => 2
  | .n => 353
  | .c => 4
  | .x => 8
  | .k => 2
  | .P => 9
  | .l => 42
theorem reg_nc {r : Nat} {d : PyData} (h : isReg r d = true) : Nc 2 0 d := by
  obtain ⟨z, a, rfl, ha, _, e⟩ := isReg_ex h
  refine Nc.strS (show (tl z).length ≤ 2 by rw [e]; simp) fun c hc => ?_
  rw [e] at hc
  simp only [List.mem_cons, List.not_mem_nil, or_false] at hc
  omega
theorem part_nc {r : Nat} {c : Lt} {d : PyData} (h : isPart r c d = true) (hl : (encPart c d).length ≤ 700) : Nc (wl c) 1 d := by
  cases c with
  | p => exact (reg_nc h).mono (Nat.le_refl _) (by decide)
  | n =>
    match d, h, hl with
    | .int i, _, hl =>
      have hl : (enc (zig i)).length ≤ 700 := hl
      rw [K82.enc_len] at hl
      have h1 := K82.log_lt (zig i)
      have h2 : (2 : Nat) ^ (Nat.log2 (zig i + 1) + 1) ≤ 2 ^ 351 := Nat.pow_le_pow_right (by decide) (by omega)
      have h3 : i.natAbs ≤ zig i + 1 := by
        unfold zig
        split <;> omega
      exact (Nc.int (k := 351) (Nat.lt_of_le_of_lt h3 (Nat.lt_of_lt_of_le h1 h2)) (by decide)).mono (by decide) (by decide)
  | c =>
    have h : (isSlot d || isReg r d) = true := h
    rw [Bool.or_eq_true] at h
    rcases h with h | h
    · obtain ⟨z, f, rfl, e, e2, e3⟩ := isSlot_ex h
      refine (Nc.strS (m := 4) (show (tl z).length ≤ 4 by rw [e, List.length_cons]; omega) fun c hc => ?_).mono (Nat.le_refl _) (by decide)
      rw [e] at hc
      rcases List.mem_cons.mp hc with rfl | hc
      · decide
      · unfold figsB at e2
        rw [Bool.and_eq_true, Bool.and_eq_true, List.all_eq_true] at e2
        obtain ⟨a, ha, rfl⟩ := dig_ex (e2.2.1 c hc)
        omega
    · exact (reg_nc h).mono (by decide) (by decide)
  | x =>
    match d, h with
    | .str z, h =>
      have h : K1.isName z = true := h
      unfold K1.isName at h
      rw [Bool.and_eq_true, Bool.and_eq_true, Bool.and_eq_true, decide_eq_true_eq, decide_eq_true_eq, List.all_eq_true] at h
      exact (Nc.strS (m := 8) h.2.1 fun c hc => small_lt (h.2.2.2 c hc)).mono (Nat.le_refl _) (by decide)
  | k =>
    match d, h with
    | .int i, h =>
      have hi : 0 ≤ i ∧ i ≤ 2 := of_decide_eq_true h
      exact (Nc.int (k := 2) (by show i.natAbs < 4; omega) (by decide)).mono (Nat.le_refl _) (by decide)
  | P =>
    match d, h with
    | .tuple ds, h =>
      have h : (decide (ds.length ≤ 3) && ds.all (isReg r)) = true := h
      rw [Bool.and_eq_true, decide_eq_true_eq] at h
      exact Nc.tup (m := 2) (k := 0) (n := 3) (fun x hx => reg_nc (List.all_eq_true.mp h.2 x hx)) h.1
  | l =>
    obtain ⟨w, i, rfl, hwi⟩ := isLeap_ex h
    have hw : Nc 5 0 (.str w) := by
      rcases hwi with ⟨rfl, _⟩ | ⟨rfl, _⟩
      · exact Nc.strS (by decide +kernel) (by decide +kernel)
      · exact Nc.strS (by decide +kernel) (by decide +kernel)
    have hi : Nc 34 0 (.int i) := Nc.int (k := 34) (by show i.natAbs < 17179869184; omega) (by decide)
    exact (hw.cons (hi.cons (Nc.tnil 0))).mono (by decide) (by decide)
theorem arePs_mem {r : Nat} : ∀ {ls : List Lt} {ps : List PyData} {x : PyData}, arePs r ls ps = true → x ∈ ps → ∃ c, isPart r c x = true
  | c :: cs, d :: ds, x, h, hx => by
    have h : (isPart r c d && arePs r cs ds) = true := h
    rw [Bool.and_eq_true] at h
    rcases List.mem_cons.mp hx with rfl | hx
    · exact ⟨c, h.1⟩
    · exact arePs_mem h.2 hx
  | [], [], _, _, hx => by cases hx
  | [], _ :: _, _, h, _ => by cases h
  | _ :: _, [], _, h, _ => by cases h
theorem parts_nc {r : Nat} : ∀ {ls : List Lt} {ps : List PyData}, arePs r ls ps = true → (encPs ls ps).length ≤ 700 → Nc ((ls.map fun c => wl c + 1).sum) 2 (.tuple ps)
  | [], [], _, _ => Nc.tnil 1
  | c :: cs, d :: ds, h, hl => by
    have h : (isPart r c d && arePs r cs ds) = true := h
    rw [Bool.and_eq_true] at h
    have hl : (encPart c d ++ encPs cs ds).length ≤ 700 := hl
    rw [List.length_append] at hl
    rw [List.map_cons, List.sum_cons]
    exact (part_nc h.1 (by omega)).cons (parts_nc h.2 (by omega))
  | [], _ :: _, h, _ => by cases h
  | _ :: _, [], h, _ => by cases h
theorem tab_wl : ∀ q ∈ tab, q.1.length + 1 + (q.2.map fun c => wl c + 1).sum ≤ 370 ∧ ∀ c ∈ tl q.1, c < 128 := by decide +kernel
theorem judged_nc {r : Nat} {d : PyData} (h : judged r d = true) (hl : (encI d).length ≤ 700) : Nc 370 2 d := by
  obtain ⟨w, ps, ls, rfl, hm, hlk, hps⟩ := judged_ex h
  have e : encI (.tuple (.str w :: ps)) = bdig 5 (wix w) ++ encPs ls ps := by
    show bdig 5 (wix w) ++ encPs ((tab.lookup w).getD []) ps = _
    rw [hlk]
    rfl
  rw [e, List.length_append] at hl
  obtain ⟨t1, t2⟩ := tab_wl _ hm
  exact ((Nc.strS (m := w.length) (Nat.le_refl _) t2).mono (Nat.le_refl _) (by decide) |>.cons (parts_nc hps (by omega))).mono t1 (Nat.le_refl _)
def bdL : Lt → Nat
  | .p => 4
  | .n => 117
  | .c => 42
  | .x => 45
  | .k => 2
  | .P => 14
  | .l => 33
theorem encPart_len3 {r : Nat} {c : Lt} {d : PyData} (h : isPart r c d = true) (ho : okD d = true) : (encPart c d).length ≤ bdL c := by
  cases c with
  | p =>
    obtain ⟨z, a, rfl, _⟩ := isReg_ex h
    show (bdig 4 _).length ≤ 4
    rw [K82.bdig_len]
    decide
  | n =>
    match d, h with
    | .int i, _ =>
      have hi := okD_int ho
      have hz : zig i < 2 ^ 58 := by
        unfold zig
        split <;> omega
      exact Nat.le_trans (log_bound hz) (by decide)
  | c =>
    by_cases hs : isSlot d = true
    · obtain ⟨z, g, rfl, e, hf, h3⟩ := isSlot_ex hs
      have e2 : encPart .c (.str z) = 49 :: enc (dnum g) := by
        show (if (tl z).head? = some 115 then 49 :: enc (dnum ((tl z).drop 1)) else 48 :: encReg (.str z)) = _
        rw [e]
        rfl
      have hd : dnum g ≤ 9999 := by
        have hp : placeL (115 :: g) = true := by
          have hs2 : slotL (tl z) = true := hs
          rw [slotL_place, e, Bool.and_eq_true] at hs2
          exact hs2.1
        exact (placeL_ex hp).2.2.1
      have := log_bound (n := dnum g) (k := 20) (by omega)
      rw [e2, List.length_cons]
      show _ ≤ 42
      omega
    · have hr : isReg r d = true := by
        have h : (isSlot d || isReg r d) = true := h
        rw [Bool.or_eq_true] at h
        exact h.resolve_left hs
      obtain ⟨z, a, rfl, _, _, e⟩ := isReg_ex hr
      have e2 : encPart .c (.str z) = 48 :: encReg (.str z) := by
        show (if (tl z).head? = some 115 then 49 :: enc (dnum ((tl z).drop 1)) else 48 :: encReg (.str z)) = _
        rw [e]
        rfl
      rw [e2, List.length_cons, show encReg (.str z) = bdig 4 (dnum ((tl z).drop 1)) from rfl, K82.bdig_len]
      decide
  | x =>
    match d, h with
    | .str z, h =>
      have hn : K1.isName z = true := h
      have hz : (tl z).length ≤ 8 := by
        unfold K1.isName at hn
        rw [Bool.and_eq_true, Bool.and_eq_true] at hn
        exact of_decide_eq_true hn.2.1
      show ((tl z).flatMap (fun c => bdig 5 (c - 96)) ++ [48, 48, 48, 48, 48]).length ≤ 45
      rw [List.length_append, List.flatMap, List.length_flatten, sum_len 5 _ (fun l hl => by obtain ⟨c, _, rfl⟩ := List.mem_map.mp hl; exact K82.bdig_len _ _), List.length_map]
      show _ + 5 ≤ 45
      omega
  | k =>
    match d, h with
    | .int i, _ =>
      show (bdig 2 _).length ≤ 2
      rw [K82.bdig_len]
      decide
  | P =>
    match d, h with
    | .tuple ds, h =>
      have h : (decide (ds.length ≤ 3) && ds.all (isReg r)) = true := h
      rw [Bool.and_eq_true, decide_eq_true_eq] at h
      show (bdig 2 ds.length ++ ds.flatMap encReg).length ≤ 14
      rw [List.length_append, K82.bdig_len, List.flatMap, List.length_flatten, sum_len 4 _ (fun l hl => by
        obtain ⟨d, hd, rfl⟩ := List.mem_map.mp hl
        obtain ⟨z, b, rfl, _⟩ := isReg_ex (List.all_eq_true.mp h.2 d hd)
        exact K82.bdig_len _ _), List.length_map]
      omega
  | l =>
    obtain ⟨w, i, rfl, _⟩ := isLeap_ex h
    show (if w = "short" then 48 :: bdig 8 (leapN 8 i) else 49 :: bdig 32 (leapN 32 i)).length ≤ 33
    split
    · rw [List.length_cons, K82.bdig_len]; decide
    · rw [List.length_cons, K82.bdig_len]; decide
theorem encPs_len {r : Nat} : ∀ {ls : List Lt} {ps : List PyData}, arePs r ls ps = true → (∀ x ∈ ps, okD x = true) → (encPs ls ps).length ≤ (ls.map bdL).sum
  | [], [], _, _ => Nat.le_refl _
  | c :: cs, d :: ds, h, ho => by
    have h : (isPart r c d && arePs r cs ds) = true := h
    rw [Bool.and_eq_true] at h
    have i := encPs_len h.2 fun x hx => ho x (List.mem_cons_of_mem _ hx)
    have b := encPart_len3 h.1 (ho d List.mem_cons_self)
    show (encPart c d ++ encPs cs ds).length ≤ ((c :: cs).map bdL).sum
    rw [List.length_append, List.map_cons, List.sum_cons]
    omega
  | [], _ :: _, h, _ => by cases h
  | _ :: _, [], h, _ => by cases h
theorem encI_len2 {r : Nat} {d : PyData} (h : judged r d = true) (ho : okD d = true) : 5 ≤ (encI d).length ∧ (encI d).length ≤ 130 := by
  obtain ⟨w, ps, ls, rfl, hm, hlk, hps⟩ := judged_ex h
  obtain ⟨_, ho2⟩ := okD_tup ho
  have ho3 : okDs ps = true := by
    have h : (okD (.str w) && okDs ps) = true := ho2
    rw [Bool.and_eq_true] at h
    exact h.2
  have b := encPs_len hps fun x hx => okDs_mem ho3 hx
  have t : ∀ q ∈ tab, (q.2.map bdL).sum ≤ 125 := by decide +kernel
  have t2 : (ls.map bdL).sum ≤ 125 := t _ hm
  rw [show encI (.tuple (.str w :: ps)) = bdig 5 (wix w) ++ encPs ((tab.lookup w).getD []) ps from rfl, hlk, show (some ls).getD [] = ls from rfl, List.length_append, K82.bdig_len]
  omega
theorem isB_app {a b : L} (ha : IsB a) (hb : IsB b) : IsB (a ++ b) := fun c h => (List.mem_append.mp h).elim (ha c) (hb c)
theorem isB_flat {ls : List L} (h : ∀ l ∈ ls, IsB l) : IsB ls.flatten := fun c hc => by
  obtain ⟨l, hl, hc⟩ := List.mem_flatten.mp hc
  exact h l hl c hc
theorem isB_cons {a : Nat} {l : L} (h : a = 48 ∨ a = 49) (hl : IsB l) : IsB (a :: l) := fun c hc => by
  rcases List.mem_cons.mp hc with rfl | hc
  · exact h
  · exact hl c hc
theorem encReg_isB {d : PyData} : IsB (encReg d) := by
  unfold encReg
  split
  · exact K82.bdig_isB _ _
  · exact fun c h => by cases h
theorem encPart_isB {c : Lt} {d : PyData} : IsB (encPart c d) := by
  unfold encPart
  split
  · exact encReg_isB
  · exact K82.enc_isB _
  · split
    · exact isB_cons (.inr rfl) (K82.enc_isB _)
    · exact isB_cons (.inl rfl) encReg_isB
  · refine isB_app ?_ (fun c h => by simp at h; exact .inl h)
    rw [List.flatMap]
    exact isB_flat fun l hl => by
      obtain ⟨c, _, rfl⟩ := List.mem_map.mp hl
      exact K82.bdig_isB _ _
  · exact K82.bdig_isB _ _
  · refine isB_app (K82.bdig_isB _ _) ?_
    rw [List.flatMap]
    exact isB_flat fun l hl => by
      obtain ⟨c, _, rfl⟩ := List.mem_map.mp hl
      exact encReg_isB
  · split
    · exact isB_cons (.inl rfl) (K82.bdig_isB _ _)
    · exact isB_cons (.inr rfl) (K82.bdig_isB _ _)
  · exact fun c h => by cases h
theorem encPs_isB : ∀ {ls : List Lt} {ps : List PyData}, IsB (encPs ls ps)
  | [], [] => fun c h => by cases h
  | c :: cs, d :: ds => isB_app encPart_isB encPs_isB
  | [], _ :: _ => fun c h => by cases h
  | _ :: _, [] => fun c h => by cases h
theorem encI_isB {d : PyData} : IsB (encI d) := by
  unfold encI
  split
  · exact isB_app (K82.bdig_isB _ _) encPs_isB
  · exact fun c h => by cases h
/-! ### the whole text, and where each begins -/
def whole (ds : List PyData) : L := (ds.map encI).flatten
def offs (ds : List PyData) (i : Nat) : Nat := (whole (ds.take i)).length
theorem whole_isB (ds : List PyData) : IsB (whole ds) := isB_flat fun l hl => by
  obtain ⟨d, _, rfl⟩ := List.mem_map.mp hl
  exact encI_isB
theorem whole_len {r : Nat} : ∀ {ds : List PyData}, (∀ d ∈ ds, judged r d = true ∧ okD d = true) → (whole ds).length ≤ ds.length * 130
  | [], _ => Nat.le_refl _
  | d :: ds, h => by
    have i := whole_len fun x hx => h x (List.mem_cons_of_mem _ hx)
    have b := (encI_len2 (h d List.mem_cons_self).1 (h d List.mem_cons_self).2).2
    show (encI d ++ whole ds).length ≤ _
    rw [List.length_append, List.length_cons, Nat.succ_mul]
    omega
theorem whole_app (a b : List PyData) : whole (a ++ b) = whole a ++ whole b := by
  unfold whole
  rw [List.map_append, List.flatten_append]
theorem whole_at {ds : List PyData} {i : Nat} {d : PyData} (h : ds[i]? = some d) : At (whole ds) (offs ds i) (encI d) := by
  obtain ⟨hi, e⟩ := List.getElem?_eq_some_iff.mp h
  have e2 : ds = ds.take i ++ (d :: ds.drop (i + 1)) := by
    rw [← e, List.getElem_cons_drop, List.take_append_drop]
  have e3 : whole ds = whole (ds.take i) ++ (encI d ++ whole (ds.drop (i + 1))) := by
    conv => lhs; rw [e2]
    rw [whole_app]
    rfl
  refine ⟨?_, whole (ds.drop (i + 1)), ?_⟩
  · rw [e3, List.length_append]
    exact Nat.le_add_right _ _
  · rw [e3]
    exact List.drop_left
theorem offs_succ {ds : List PyData} {i : Nat} {d : PyData} (h : ds[i]? = some d) : offs ds (i + 1) = offs ds i + (encI d).length := by
  unfold offs
  rw [List.take_add_one, h, whole_app, List.length_append]
  show _ + (encI d ++ []).length = _
  rw [List.append_nil]
theorem offs_end (ds : List PyData) : offs ds ds.length = (whole ds).length := by
  unfold offs
  rw [List.take_length]
theorem rd_at {r : Nat} {ds : List PyData} {i : Nat} {d : PyData} (h : ds[i]? = some d) (hj : judged r d = true) : rdI r (whole ds) (offs ds i) = some (d, offs ds (i + 1)) := by
  rw [offs_succ h]
  exact rdI_enc hj (whole_at h)
end K83

set_option Elab.async false
set_option linter.all false
set_option maxRecDepth 100000
set_option maxHeartbeats 1000000
namespace K83
open PySem PySem.Spec
open K82 (L one tl IsB bval bdig enc dec zig zag zs)
theorem encI_ge {r : Nat} {d : D} (h : judged r d = true) : 5 ≤ (encI d).length := by
  obtain ⟨w, ps, ls, rfl, _⟩ := judged_ex h
  show 5 ≤ (bdig 5 (wix w) ++ encPs ((tab.lookup w).getD []) ps).length
  rw [List.length_append, K82.bdig_len]
  omega
theorem rdI_len {r : Nat} {l : L} {n b : Nat} {d : D} (hb : IsB l) (h : rdI r l n = some (d, b)) : judged r d = true ∧ b = n + (encI d).length ∧ n + 5 ≤ b ∧ b ≤ l.length := by
  obtain ⟨h1, h2, h3⟩ := rdI_at hb h
  have := h2.len
  have := encI_ge h1
  exact ⟨h1, h3, by omega, by omega⟩
theorem rdI_end {r : Nat} {l : L} {n : Nat} (h : l.length ≤ n) : rdI r l n = none := by
  unfold rdI digAt
  rw [if_neg (by omega)]
  rfl
theorem At.take {l : L} {n a : Nat} {e : L} (h : At l n e) (ha : n + e.length ≤ a) : At (l.take a) n e := by
  have hl := h.len
  obtain ⟨h1, s, h2⟩ := h
  refine ⟨by rw [List.length_take]; omega, s.take (a - n - e.length), ?_⟩
  rw [List.drop_take, h2, List.take_append, List.take_of_length_le (by omega)]
/-- all that is read -/
theorem rdAll_ok {r : Nat} {l : L} (hb : IsB l) : ∀ (f n : Nat) (ds : List (Nat × D)), n ≤ l.length → l.length + 1 ≤ f + n → rdAll r l f n = .ok ds →
    (∀ q ∈ ds, judged r q.2 = true ∧ (encI q.2).length ≤ l.length ∧ q.1 ≤ l.length) ∧ whole (ds.map Prod.snd) = l.drop n ∧ 5 * ds.length + n ≤ l.length
  | 0, n, ds, hn, hf, _ => absurd hf (by omega)
  | f + 1, n, ds, hn, hf, h => by
    by_cases hlt : n < l.length
    · cases e : rdI r l n with
      | none =>
        rw [rdAll_err hlt e] at h
        cases h
      | some q =>
        obtain ⟨d, b⟩ := q
        obtain ⟨h1, h2, h3, h4⟩ := rdI_len hb e
        obtain ⟨_, hat, _⟩ := rdI_at hb e
        rw [rdAll_go hlt e] at h
        cases e2 : rdAll r l f b with
        | error a =>
          rw [e2] at h
          cases h
        | ok ds' =>
          rw [e2] at h
          have h := Except.ok.inj h
          have h : (n, d) :: ds' = ds := h
          subst h
          obtain ⟨i1, i2, i3⟩ := rdAll_ok hb f b ds' h4 (by omega) e2
          refine ⟨fun q hq => ?_, ?_, by rw [List.length_cons]; omega⟩
          · rcases List.mem_cons.mp hq with rfl | hq
            · exact ⟨h1, by show (encI d).length ≤ _; omega, hn⟩
            · exact i1 q hq
          · show encI d ++ whole (ds'.map Prod.snd) = _
            obtain ⟨_, s, hs⟩ := hat
            rw [i2, h2, ← List.drop_drop, hs, List.drop_left]
    · rw [rdAll_stop hlt] at h
      have h := Except.ok.inj h
      subst h
      refine ⟨(fun q hq => by cases hq), ?_, by simp; omega⟩
      show [] = _
      rw [List.drop_of_length_le (by omega)]
theorem rdAll_bad {r : Nat} {l : L} (hb : IsB l) : ∀ (f n a : Nat), n ≤ l.length → l.length + 1 ≤ f + n → rdAll r l f n = .error a →
    n ≤ a ∧ a < l.length ∧ rdI r l a = none ∧ ∃ ds, rdAll r (l.take a) f n = .ok ds
  | 0, n, a, hn, hf, _ => absurd hf (by omega)
  | f + 1, n, a, hn, hf, h => by
    by_cases hlt : n < l.length
    · cases e : rdI r l n with
      | none =>
        rw [rdAll_err hlt e] at h
        injection h with h
        subst h
        exact ⟨Nat.le_refl _, hlt, e, [], rdAll_stop (by rw [List.length_take]; omega)⟩
      | some q =>
        obtain ⟨d, b⟩ := q
        obtain ⟨h1, h2, h3, h4⟩ := rdI_len hb e
        obtain ⟨_, hat, _⟩ := rdI_at hb e
        rw [rdAll_go hlt e] at h
        cases e2 : rdAll r l f b with
        | ok ds' =>
          rw [e2] at h
          cases h
        | error a' =>
          rw [e2] at h
          have h : (Except.error a' : Except Nat (List (Nat × D))) = .error a := h
          injection h with h
          subst h
          obtain ⟨i1, i2, i3, ds, i4⟩ := rdAll_bad hb f b a' h4 (by omega) e2
          refine ⟨by omega, i2, i3, (n, d) :: ds, ?_⟩
          have e3 := rdI_enc h1 (hat.take (a := a') (by omega))
          rw [← h2] at e3
          rw [rdAll_go (by rw [List.length_take]; omega) e3, i4]
          rfl
    · rw [rdAll_stop hlt] at h
      cases h
theorem rdAll_fuel {r : Nat} {l : L} : ∀ (f g n : Nat), l.length + 1 ≤ f + n → l.length + 1 ≤ g + n → n ≤ l.length → rdAll r l f n = rdAll r l g n
  | 0, _, n, h, _, hn => absurd h (by omega)
  | _, 0, n, _, h, hn => absurd h (by omega)
  | f + 1, g + 1, n, hf, hg, hn => by
    by_cases hlt : n < l.length
    · cases e : rdI r l n with
      | none => rw [rdAll_err hlt e, rdAll_err hlt e]
      | some q =>
        obtain ⟨d, b⟩ := q
        obtain ⟨h1, h2⟩ := rdI_gt e
        rw [rdAll_go hlt e, rdAll_go hlt e, rdAll_fuel f g b (by omega) (by omega) h2]
    · rw [rdAll_stop hlt, rdAll_stop hlt]
def rdB (r : Nat) (l : L) : Except Nat (List (Nat × D)) := rdAll r l (l.length + 1) 0
theorem rdB_ok {r : Nat} {l : L} {ds : List (Nat × D)} (hb : IsB l) (h : rdB r l = .ok ds) : (∀ q ∈ ds, judged r q.2 = true ∧ (encI q.2).length ≤ l.length ∧ q.1 ≤ l.length) ∧ whole (ds.map Prod.snd) = l ∧ 5 * ds.length ≤ l.length := by
  obtain ⟨h1, h2, h3⟩ := rdAll_ok hb _ 0 ds (Nat.zero_le _) (by omega) h
  exact ⟨h1, h2, by omega⟩
theorem rdB_bad {r : Nat} {l : L} {a : Nat} (hb : IsB l) (h : rdB r l = .error a) : a < l.length ∧ rdI r l a = none ∧ ∃ ds, rdB r (l.take a) = .ok ds := by
  obtain ⟨h1, h2, h3, ds, h4⟩ := rdAll_bad hb _ 0 a (Nat.zero_le _) (by omega) h
  refine ⟨h2, h3, ds, ?_⟩
  unfold rdB
  rw [← h4]
  exact rdAll_fuel _ _ 0 (by omega) (by rw [List.length_take]; omega) (Nat.zero_le _)
/-! ### what the law expects, as data -/
def outB : Except Nat (List (Nat × D)) → D
  | .ok ds => .tuple [.str "value", .list (ds.map itD)]
  | .error a => .tuple [.str "BadBits", .int (a : Nat)]
def outI : Option (D × Nat) → D
  | some (d, b) => .tuple [.str "value", .tuple [d, .int (b : Nat)]]
  | none => .tuple [.str "BadAddress"]
theorem Nc.nat {v : Nat} (h : v < 4096) : Nc 12 0 (.int (v : Nat)) := Nc.int (k := 12) (by rw [Int.natAbs_natCast]; exact h) (by decide)
theorem Nc.tup2 {m n k : Nat} {a b : D} (ha : Nc m k a) (hb : Nc n k b) : Nc (m + n + 2) (k + 1) (.tuple [a, b]) := by
  refine (ha.cons (hb.cons (Nc.tnil k))).mono (by omega) (Nat.le_refl _)
theorem itD_nc {r : Nat} {l : L} {q : Nat × D} (hl : l.length ≤ 700) (h : judged r q.2 = true ∧ (encI q.2).length ≤ l.length ∧ q.1 ≤ l.length) : Nc 384 3 (itD q) :=
  ((Nc.nat (by omega)).mono (Nat.le_refl _) (by decide)).tup2 (judged_nc h.1 (by omega))
theorem items_nc {r : Nat} {l : L} {ds : List (Nat × D)} (hb : IsB l) (hl : l.length ≤ 700) (h : rdB r l = .ok ds) : Nc 54000 4 (.list (ds.map itD)) := by
  obtain ⟨h1, _, h3⟩ := rdB_ok hb h
  refine (Nc.lst (m := 384) (k := 3) (n := 140) (fun x hx => ?_) (by rw [List.length_map]; omega)).mono (by decide) (by decide)
  obtain ⟨q, hq, rfl⟩ := List.mem_map.mp hx
  exact itD_nc hl (h1 q hq)
theorem sVal : Nc 5 0 (.str "value") := Nc.strS (by decide +kernel) (by decide +kernel)
theorem sBB : Nc 7 0 (.str "BadBits") := Nc.strS (by decide +kernel) (by decide +kernel)
theorem sBA : Nc 10 0 (.str "BadAddress") := Nc.strS (by decide +kernel) (by decide +kernel)
theorem outB_nc {r : Nat} {l : L} (hb : IsB l) (hl : l.length ≤ 700) : Nc 54100 5 (outB (rdB r l)) := by
  cases h : rdB r l with
  | ok ds => exact ((sVal.mono (Nat.le_refl _) (by decide)).tup2 (items_nc hb hl h)).mono (by decide) (by decide)
  | error a =>
    have := (rdB_bad hb h).1
    exact (sBB.tup2 (Nc.nat (by omega))).mono (by decide) (by decide)
theorem outI_nc {r : Nat} {l : L} {n : Nat} (hb : IsB l) (hl : l.length ≤ 700) : Nc 500 5 (outI (rdI r l n)) := by
  cases h : rdI r l n with
  | some q =>
    obtain ⟨d, b⟩ := q
    obtain ⟨h1, h2, h3, h4⟩ := rdI_len hb h
    exact (((sVal.mono (Nat.le_refl _) (by decide)).tup2 ((judged_nc h1 (by omega)).tup2 ((Nc.nat (v := b) (by omega)).mono (Nat.le_refl _) (by decide))))).mono (by decide) (by decide)
  | none => exact (sBA.cons (Nc.tnil 0)).mono (by decide) (by decide)
end K83

set_option Elab.async false
set_option linter.all false
set_option maxRecDepth 100000
set_option maxHeartbeats 4000000
namespace SA
open PySem PySem.Spec PyProof.Rows L2 K82
def splVal : Sp := fun vs H Q _ => ∃ z : Str, vs = [.str z] ∧ z.length ≤ 1200 ∧ IsB (tl z) ∧ Q (.int ((bval (tl z) : Nat) : Int)) H
def splBits : Sp := fun vs H Q _ => ∃ (d w c : Addr) (n m : Nat), vs = [.ref d, .int m] ∧ DrawAt H d w c n ∧ n < 2 ^ 39 ∧ m ≤ 100 ∧ ∀ (z : Str) (H' : Hp), IsB (tl z) → z.length ≤ m → DrawAt H' d w c (n + m + 5) → But2 d w H H' → Q (.str z) H'
section
variable {P : Program} {w0 : World} {K : PySem.W.Frag} {mg : Str → Option Value} {base : Heap}
theorem okl_value {f : Addr} {fd : FuncData} (F : Fun K "_law_value" "_law_value" s__law_value f fd) (B : Bn2 mg) : FnOk P w0 K mg base CX0 1 f fd ["bits"] splVal := by
  refine F.ok sc__law_value (fun vs H Q E h => ?_) (fun cdv A outer s H vs Q E hr h => ?_)
  · obtain ⟨z, rfl, _⟩ := h
    rfl
  · obtain ⟨z, rfl, hz, hb, q⟩ := h
    refine ⟨_, (pss_cons (ps_set (i := 1) sc__law_value.nd rfl (Or.inl rfl) pe_int)
      (pss_cons (ps_for PassesOwn.never rfl (pi_str (pv 0)) (pg_name (i := 2) sc__law_value.nd rfl (Or.inl rfl)) (pss_one (ps_set (i := 1) sc__law_value.nd rfl (Or.inl rfl) (pe_op op_add (pe_op op_mul pe_int (pv 1)) (pe_callTy call_int_str (by rfl) B.int PySem.Pv.boot_int (pa_cons (pv 2) pa_nil))))))
      (pss_one (ps_ret (pv 1))))), ?_⟩
    refine ⟨_, rfl, z, rfl, for_it walk_str (fun i σ H' => H' = H ∧ ∃ y, σ = [some (.str z), some (.int ((bval ((tl z).take i) : Nat) : Int)), y]) ⟨rfl, _, rfl⟩ (fun _ _ _ _ _ => trivial) ?_ ?_⟩
    · rintro i x σ H' H'' hi ⟨rfl, y, rfl⟩ hx
      obtain ⟨rfl, c, hc, rfl⟩ := hx
      have hc : (tl z)[i]? = some c := by simpa using hc
      have hcb := hb c (List.mem_of_getElem? hc)
      refine ⟨_, rfl, _, _, rfl, rfl, .inl ⟨by decide, by decide⟩, _, rfl, mk [c], _, rfl, intT hcb, (by show 1 ≤ 640; decide), _, _, rfl, rfl, rfl, some (.str (mk [c])), ?_⟩
      rw [bval_take hc, Int.natCast_add, Int.natCast_mul]
      rfl
    · rintro σ H' ⟨rfl, y, rfl⟩
      refine ⟨_, rfl, ?_⟩
      have e : (tl z).take z.cps.size = tl z := List.take_of_length_le (Nat.le_refl _)
      rw [e]
      exact q
theorem okl_bits {f : Addr} {fd : FuncData} (F : Fun K "_law_bits" "_law_bits" s__law_bits f fd) (B : Bn2 mg) (c__law_take : Dq P w0 K mg base CX0 2 "_law_take" ["draw", "many"] spTake) (c__law_pick : Dq P w0 K mg base CX0 3 "_law_pick" ["draw", "some"] (spPick K)) :
    FnOk P w0 K mg base CX0 4 f fd ["draw", "most"] splBits := by
  refine F.ok sc__law_bits (fun vs H Q E h => ?_) (fun cdv A outer s H vs Q E hr h => ?_)
  · obtain ⟨d, w, c, n, m, rfl, _⟩ := h
    rfl
  · obtain ⟨d, w, c, n, m, rfl, hD, hn, hm, k⟩ := h
    refine ⟨_, (pss_cons (ps_asg (pe_tup (pa_cons (pe_q c__law_take hr (by decide) (by rfl) (pa_cons (pv 0) (pa_cons (pe_op op_add (pv 1) pe_int) pa_nil))) (pa_cons (pe_q c__law_pick hr (by decide) (by rfl) (pa_cons (pv 0) (pa_cons (pe_lst (pa_cons pe_int (pa_cons pe_int (pa_cons pe_int pa_nil)))) pa_nil))) pa_nil))) (pg_tup (by rfl) (pgs_cons (pg_name (i := 2) sc__law_bits.nd rfl (Or.inl rfl)) (pgs_cons (pg_name (i := 3) sc__law_bits.nd rfl (Or.inr rfl)) pgs_nil))))
      (pss_one (ps_ret (pe_join pe_str (pe_lc (own := [("k", 4)]) (g := (gName 4)) (tt := tYes) (by rfl) sc__law_bits.nd (pi_range1 (by rfl) B.range (pa_cons (pv 2) pa_nil)) (blkOk_by (N := n__law_bits) (sc := defScope s__law_bits) (by decide +kernel)) (fun _ _ _ _ _ => (pg_name (i := 4) sc__law_bits.nd rfl (Or.inl rfl))) (fun _ _ _ _ _ => pts_nil) (fun _ _ _ _ _ => (pe_ifExp (pt_cmpR op_eq (pe_q c__law_take hr (by decide) (by rfl) (pa_cons (pv 0) (pa_cons (pv 3) pa_nil))) pe_int (nomark _)) pe_str pe_str))))))), ?_⟩
    refine ⟨_, rfl, _, rfl, _, _, rfl, rfl, d, w, c, n, (m : Int) + 1, rfl, hD, by omega, by omega, by omega, fun j H1 j0 j1 D1 b1 => ?_⟩
    refine ⟨_, rfl, (by show 3 ≤ sizeLine; decide), fun a ha => ?_⟩
    have ka := D1.knowD ha
    refine ⟨d, w, c, a, n + 1, _, rfl, D1.new ha, by omega, ka.1, ka.2.1, SqL.of upd_same, by simp, by decide, fun x H2 hx D2 b2 => ?_⟩
    obtain ⟨v, rfl, hv⟩ : ∃ v : Int, x = .int v ∧ (v = 2 ∨ v = 7) := by
      simp only [List.mem_cons, List.not_mem_nil, or_false] at hx
      rcases hx with rfl | rfl | rfl
      · exact ⟨2, rfl, .inl rfl⟩
      · exact ⟨2, rfl, .inl rfl⟩
      · exact ⟨7, rfl, .inr rfl⟩
    have b12 : But2 d w H H2 := (b1.new ha).trans b2
    refine ⟨(by show 2 ≤ sizeLine; decide), fun t ht => ⟨t, _, rfl, SqT.of upd_same, rfl, _, _, rfl, _, _, rfl, rfl, ?_⟩⟩
    have D3 := D2.new (o := .tup [.int j, .int v]) ht
    have b3 := b12.new (o := .tup [.int j, .int v]) ht
    generalize upd H2 t (.tup [.int j, .int v]) = H3 at D3 b3
    have j62 : (100 : Int) < 2 ^ 62 := by decide
    refine ⟨⟨_, rfl⟩, _, rfl, j, rfl, by omega, by omega, fun q hq => ?_⟩
    obtain ⟨jn, rfl⟩ := Int.eq_ofNat_of_zero_le j0
    show ∃ W, _
    rw [Int.toNat_natCast]
    have kq := D3.knowD hq
    refine lc_range (lo := 0) (n := jn) (fun i H' => ∃ l : L, l.length = i ∧ IsB l ∧ DrawAt H' d w c (n + 2 + i) ∧ But2 d w H H' ∧ H' q = some (.lst ((l.map fun ch => mk [ch]).map V.str)))
      ⟨[], rfl, (fun c h => by cases h), D3.new hq, b3.new hq, upd_same⟩ ?_ ?_
    · rintro i H4 hi ⟨l, hl, hb, D4, b4, e4⟩
      refine ⟨rfl, yes ⟨_, rfl, _, rfl, d, w, c, n + 2 + i, v, rfl, D4, by omega, by omega, by omega, fun y H5 y0 y1 D5 b5 => ?_⟩⟩
      have e5 := b5 _ _ e4 kq.1 kq.2.1
      have fin : ∀ ch : Nat, ch = 48 ∨ ch = 49 → ∃ acc, H5 q = some (HO.lst acc) ∧ acc.length < sizeLine ∧ ∃ l : L, l.length = i + 1 ∧ IsB l ∧ DrawAt (L2.upd H5 q (.lst (acc ++ [.str (mk [ch])]))) d w c (n + 2 + (i + 1)) ∧ But2 d w H (L2.upd H5 q (.lst (acc ++ [.str (mk [ch])]))) ∧
          (L2.upd H5 q (.lst (acc ++ [.str (mk [ch])]))) q = some (.lst ((l.map fun ch => mk [ch]).map V.str)) := fun ch hch => by
        refine ⟨_, e5, ?_, l ++ [ch], by simp [hl], ?_, D5.upd kq.1 kq.2.1 kq.2.2, (b4.trans b5).mut (b3.free hq kq.1 kq.2.1), ?_⟩
        · rw [List.length_map, List.length_map, hl]
          exact small1000 (by omega)
        · intro x hx
          rcases List.mem_append.mp hx with hx | hx
          · exact hb x hx
          · rw [List.mem_singleton.mp hx]
            exact hch
        · rw [upd_same, List.map_append, List.map_append]
          rfl
      refine ⟨rfl, _, rfl, ite2 (fun _ => ?_) (fun _ => ?_)⟩
      · have := fin 49 (.inr rfl)
        rw [show mk [49] = ("1" : Str) from s1.symm] at this
        exact this
      · have := fin 48 (.inl rfl)
        rw [show mk [48] = ("0" : Str) from s0.symm] at this
        exact this
    · rintro H4 ⟨l, hl, hb, D4, b4, e4⟩
      refine ⟨_, q, l.map fun ch => mk [ch], rfl, rfl, .inl (SqL.of e4), ?_, ?_⟩
      · have e : ∀ l : L, ((l.map fun ch => mk [ch]).map (·.length)).sum = l.length := by
          intro l
          induction l with
          | nil => rfl
          | cons c l ih =>
            rw [List.map_cons, List.map_cons, List.sum_cons, ih, List.length_cons]
            show 1 + _ = _
            omega
        rw [e, show ("" : Str).length = 0 by decide +kernel]
        omega
      · rw [join_signs]
        refine k _ _ (by rw [tl_mk]; exact hb) (by rw [len_mk]; omega) (D4.mono (by omega)) b4
theorem okl_read {f : Addr} {fd : FuncData} (F : Fun K "_law_read" "_law_read" s__law_read f fd) (B : Bn2 mg) (c__law_value : Dq P w0 K mg base CX0 1 "_law_value" ["bits"] splVal) : FnOk P w0 K mg base CX0 2 f fd ["bits", "at"] spCntAt := by
  refine F.ok sc__law_read (fun vs H Q E h => ?_) (fun cdv A outer s H vs Q E hr h => ?_)
  · obtain ⟨z, n, rfl, _⟩ := h
    rfl
  · obtain ⟨z, n, rfl, hn, hl, hb, q⟩ := h
    refine ⟨_, (pss_cons (ps_set (i := 2) sc__law_read.nd rfl (Or.inl rfl) (pv 1))
      (Evl.pss_cut (ps_while PassesOwn.never (PW.pt (pw_and (pt_cmpR op_lt (pv 2) (pe_callB call_len_str (by rfl) B.len PySem.boot_len (pa_cons (pv 0) pa_nil)) (nomark _)) (pw_and1 (pt_cmpR op_eq (pe_item_str (pv 0) (pv 2) (fun _ _ => rfl)) pe_str (nomark _))))) (pss_one (ps_set (i := 2) sc__law_read.nd rfl (Or.inl rfl) (pe_op op_add (pv 2) pe_int))))
      (pss_cons (ps_set (i := 3) sc__law_read.nd rfl (Or.inl rfl) (pe_op op_add (pe_op op_sub (pe_op op_mul pe_int (pv 2)) (pv 1)) pe_int))
      (pss_cons (ps_if (pt_cmpR op_gt (pv 3) (pe_callB call_len_str (by rfl) B.len PySem.boot_len (pa_cons (pv 0) pa_nil)) (nomark _)) (pss_one (ps_ret pe_non)) pss_nil)
      (pss_one (ps_ret (pe_tup (pa_cons (pe_op op_sub (pe_q c__law_value hr (by decide) (by rfl) (pa_cons (pe_slice sl_str (pv 0) (po_some (pv 2)) (po_some (pv 3))) pa_nil)) pe_int) (pa_cons (pv 3) pa_nil))))))))), ?_⟩
    have hbd : IsB ((tl z).drop n) := fun c hc => hb c (List.mem_of_mem_drop hc)
    have hlen : ((tl z).drop n).length = z.length - n := by rw [List.length_drop]; rfl
    have hzl := zs_le ((tl z).drop n)
    refine ⟨_, rfl, ?_⟩
    refine ⟨fun σ H' => H' = H ∧ σ = [some (.str z), some (.int n), some (.int ((n + zs ((tl z).drop n) : Nat) : Int)), none], ?_, ?_⟩
    · refine ⟨fun m σ H' => H' = H ∧ ∃ i : Nat, i ≤ zs ((tl z).drop n) ∧ m = z.length - (n + i) ∧ σ = [some (.str z), some (.int n), some (.int ((n + i : Nat) : Int)), none], ⟨_, rfl, 0, by omega, rfl, rfl⟩, ?_⟩
      rintro m σ H' ⟨rfl, i, hi, rfl, rfl⟩
      refine ⟨_, rfl, _, rfl, z, rfl, small5 (by omega), _, _, rfl, rfl, _, rfl, ite2 (fun h => ?_) (fun h => ?_)⟩
      · have h : n + i < z.length := by have := of_decide_eq_true h; omega
        have hc : ((tl z).drop n)[i]? = some (((tl z).drop n)[i]'(by omega)) := List.getElem?_eq_getElem _
        generalize ((tl z).drop n)[i]'(by omega) = ch at hc
        have h48 := zs_at _ i ch hi hc
        have hc2 : z.cps[((n + i : Nat) : Int).toNat]? = some ch := by
          rw [List.getElem?_drop] at hc
          rw [Int.toNat_natCast]
          simpa using hc
        have b63 : (300 : Int) < 2 ^ 63 := by decide
        refine ⟨_, rfl, _, rfl, z, _, ch, rfl, rfl, by omega, by omega, by omega, hc2, rfl, _, rfl, ?_⟩
        by_cases h8 : i < zs ((tl z).drop n)
        · have : ch = 48 := h48.mpr h8
          subst this
          rw [decide_eq_true (show V.str (one 48) = V.str "0" by rw [s0])]
          refine iteT ⟨fun σ' H2 => ∃ m', m' < z.length - (n + i) ∧ (H2 = H' ∧ ∃ i : Nat, i ≤ zs ((tl z).drop n) ∧ m' = z.length - (n + i) ∧ σ' = [some (.str z), some (.int n), some (.int ((n + i : Nat) : Int)), none]), fun σ' H2 z => z, ?_⟩
          exact ⟨_, rfl, _, _, rfl, rfl, _, by omega, rfl, i + 1, by omega, rfl, rfl⟩
        · have hne : ¬ V.str (⟨#[ch]⟩ : Str) = V.str "0" := fun e => by
            rw [s0] at e
            injection e with e
            have e := congrArg tl e
            have e : [ch] = [48] := e
            injection e with e
            exact h8 (h48.mp e)
          rw [decide_eq_false hne]
          refine iteF ⟨rfl, ?_⟩
          rw [show i = zs ((tl z).drop n) by omega]
      · have h : ¬ ((n + i : Nat) : Int) < (z.length : Int) := fun y => h (decide_eq_true y)
        refine ⟨rfl, ?_⟩
        rw [show i = zs ((tl z).drop n) by omega]
    · rintro σ H' ⟨rfl, rfl⟩
      refine ⟨_, rfl, _, _, rfl, rfl, .inl ⟨by decide, by decide⟩, _, rfl, _, _, rfl, rfl, _, _, rfl, rfl, ?_⟩
      have e1 : ((2 : Int) * ((n + zs ((tl z).drop n) : Nat) : Int) - (n : Int) + 1) = ((n + (2 * zs ((tl z).drop n) + 1) : Nat) : Int) := by omega
      dsimp only
      rw [e1]
      refine ⟨_, rfl, _, rfl, z, rfl, small5 (by omega), _, _, rfl, rfl, _, rfl, ite2 (fun h => ?_) (fun h => ?_)⟩
      · have h := of_decide_eq_true h
        exact q.1 (rdC_none (by omega)) H' (Same.refl H')
      · have h : ¬ ((n + (2 * zs ((tl z).drop n) + 1) : Nat) : Int) > (z.length : Int) := fun z => h (decide_eq_true z)
        have ez : cutS z (some ((n + zs ((tl z).drop n) : Nat) : Int)) (some ((n + (2 * zs ((tl z).drop n) + 1) : Nat) : Int)) = mk ((((tl z).drop n).drop (zs ((tl z).drop n))).take (zs ((tl z).drop n) + 1)) := by
          rw [cutS_nn, List.drop_drop]
          congr 2
          congr 1
          omega
        refine ⟨_, rfl, _, rfl, _, rfl, _, rfl, _, rfl, z, rfl, small5 (by omega), _, rfl, ?_, ?_, ?_⟩
        all_goals rw [ez]
        · rw [len_mk, List.length_take]
          omega
        · rw [tl_mk]
          exact fun c hc => hbd c (List.mem_of_mem_drop (List.mem_of_mem_take hc))
        · refine ⟨_, _, rfl, rfl, _, rfl, (by show 2 ≤ sizeLine; decide), fun p hp => q.2 _ _ ?_ p _ hp (Same.new hp) upd_same⟩
          rw [rdC_some hb (by omega), tl_mk]
theorem okl_signed_at {f : Addr} {fd : FuncData} (F : Fun K "_law_signed_at" "_law_signed_at" s__law_signed_at f fd) (B : Bn2 mg) (c__law_read : Dq P w0 K mg base CX0 2 "_law_read" ["bits", "at"] spCntAt) : FnOk P w0 K mg base CX0 3 f fd ["bits", "at"] spNumAt := by
  refine F.ok sc__law_signed_at (fun vs H Q E h => ?_) (fun cdv A outer s H vs Q E hr h => ?_)
  · obtain ⟨z, n, rfl, _⟩ := h
    rfl
  · obtain ⟨z, n, rfl, hn, hl, hb, q⟩ := h
    refine ⟨_, (pss_cons (ps_set (i := 2) sc__law_signed_at.nd rfl (Or.inl rfl) (pe_q c__law_read hr (by decide) (by rfl) (pa_cons (pv 0) (pa_cons (pv 1) pa_nil))))
      (pss_cons (ps_if (pt_cmpR op_isN (pv 2) pe_non (nomark _)) (pss_one (ps_ret pe_non)) pss_nil)
      (pss_one (ps_ret (pe_tup (pa_cons (pe_ifExp (pt_cmpR op_eq (pe_op op_mod (pe_callTy call_int1 (by rfl) B.int PySem.Pv.boot_int (pa_cons (pe_ix ix_tup (pv 2) pe_int (fun _ _ => rfl)) pa_nil)) pe_int) pe_int (nomark _)) (pe_op op_fdiv (pe_ix ix_tup (pv 2) pe_int (fun _ _ => rfl)) pe_int) (pe_op op_fdiv (pe_un un_neg (pe_op op_add (pe_ix ix_tup (pv 2) pe_int (fun _ _ => rfl)) pe_int)) pe_int)) (pa_cons (pe_ix ix_tup (pv 2) pe_int (fun _ _ => rfl)) pa_nil))))))), ?_⟩
    refine ⟨_, rfl, _, rfl, z, n, rfl, hn, hl, hb, fun e H' s1 => ?_, fun a b e p H' hp s1 hq => ?_⟩
    · refine ⟨_, rfl, rfl, _, rfl, iteT (q.1 ?_ H' s1)⟩
      unfold rdC at e
      unfold rdN
      rw [Option.map_eq_none_iff] at e ⊢
      exact e
    · obtain ⟨c, rfl, en⟩ := rdN_of e
      have q2 := q.2 _ _ en
      have a0 : atI [V.int (c : Int), V.int b] 0 = some (V.int (c : Int)) := atI_nat (j := 0) rfl
      have a1 : atI [V.int (c : Int), V.int b] 1 = some (V.int b) := atI_nat (j := 1) rfl
      refine ⟨_, rfl, rfl, _, rfl, iteF ?_⟩
      refine ⟨_, rfl, p, _, _, _, rfl, rfl, SqT.of hq, a0, .inl ⟨_, rfl, _, _, rfl, rfl, (by show (0 : Int) < 2; decide), rfl, _, rfl, ?_⟩⟩
      by_cases h : c % 2 = 0
      · rw [decide_eq_true (show V.int ((c : Int) % 2) = V.int 0 by rw [show (c : Int) % 2 = 0 by omega])]
        refine iteT ⟨_, rfl, p, _, _, _, rfl, rfl, SqT.of hq, a0, _, _, rfl, rfl, ⟨by decide, by decide⟩, _, rfl, p, _, _, _, rfl, rfl, SqT.of hq, a1, (by show 2 ≤ sizeLine; decide), fun p2 hp2 => ?_⟩
        refine q2 p2 _ (s1.free hp2) (s1.trans (Same.new hp2)) ?_
        rw [upd_same]
        unfold zag
        rw [if_pos h]
        rfl
      · have hne : ¬ V.int ((c : Int) % 2) = V.int 0 := fun e => by
          injection e with e
          omega
        rw [decide_eq_false hne]
        refine iteF ⟨_, rfl, p, _, _, _, rfl, rfl, SqT.of hq, a0, _, _, rfl, rfl, _, rfl, _, _, rfl, rfl, ⟨by decide, by decide⟩, _, rfl, p, _, _, _, rfl, rfl, SqT.of hq, a1, (by show 2 ≤ sizeLine; decide), fun p2 hp2 => ?_⟩
        refine q2 p2 _ (s1.free hp2) (s1.trans (Same.new hp2)) ?_
        rw [upd_same]
        unfold zag
        rw [if_neg h]
        have e2 : -((c : Int) + 1) / 2 = -(((c + 1) / 2 : Nat) : Int) := by omega
        dsimp only
        rw [e2]
end
end SA

set_option Elab.async false
set_option linter.all false
set_option maxRecDepth 100000
set_option maxHeartbeats 1000000
namespace K83
open PySem PySem.Spec
open K82 (L one tl IsB bval bdig enc dec zig zag)
theorem lawP_of {r : Nat} {l : L} {c : Lt} {n b : Nat} {d : D} (h : rdPart l c n = some (d, b)) : lawP r l c n = if isPart r c d = true then some (d, b) else none := by
  unfold lawP
  rw [h]
  rfl
theorem lawP_none {r : Nat} {l : L} {c : Lt} {n : Nat} (h : rdPart l c n = none) : lawP r l c n = none := by
  unfold lawP
  rw [h]
  rfl
theorem digAt_none {l : L} {n m : Nat} (h : ¬ n + m ≤ l.length) : digAt l n m = none := by
  unfold digAt
  rw [if_neg h]
theorem digAt_some {l : L} {n m : Nat} (h : n + m ≤ l.length) : digAt l n m = some (bval ((l.drop n).take m), n + m) := by
  unfold digAt
  rw [if_pos h]
end K83
namespace SA
open PySem PySem.Spec PyProof.Rows L2 K83
open K82 hiding mk tl_mk mk_tl mk_app
def splRegAt : Sp := fun vs H Q _ => ∃ (r : Nat) (z : Str) (n : Nat), vs = [.int r, .str z, .int n] ∧ r ≤ 9 ∧ z.length ≤ 1200 ∧ IsB (tl z) ∧ RQ (lawP r (tl z) .p n) H Q
def splAtR (c : Lt) : Sp := fun vs H Q _ => ∃ (r : Nat) (z : Str) (n : Nat), vs = [.int r, .str z, .int n] ∧ r ≤ 9 ∧ n ≤ z.length ∧ z.length ≤ 1200 ∧ IsB (tl z) ∧ RQ (lawP r (tl z) c n) H Q
def splAtS (c : Lt) : Sp := fun vs H Q _ => ∃ (r : Nat) (z : Str) (n : Nat), vs = [.str z, .int n] ∧ n ≤ z.length ∧ z.length ≤ 1200 ∧ IsB (tl z) ∧ RQ (lawP r (tl z) c n) H Q
section
variable {P : Program} {w0 : World} {K : PySem.W.Frag} {mg : Str → Option Value} {base : Heap}
theorem okl_register_at {f : Addr} {fd : FuncData} (F : Fun K "_law_register_at" "_law_register_at" s__law_register_at f fd) (B : Bn3 mg) (c__law_value : Dq P w0 K mg base CX0 1 "_law_value" ["bits"] splVal) :
    FnOk P w0 K mg base CX0 2 f fd ["registers", "bits", "at"] splRegAt := by
  refine F.ok sc__law_register_at (fun vs H Q E h => ?_) (fun cdv A outer s H vs Q E hr h => ?_)
  · obtain ⟨r, z, n, rfl, _⟩ := h
    rfl
  · obtain ⟨r, z, n, rfl, h9, hz, hb, q1, q2⟩ := h
    refine ⟨_, (pss_cons (ps_set (i := 3) sc__law_register_at.nd rfl (Or.inl rfl) (pe_q c__law_value hr (by decide) (by rfl) (pa_cons (pe_slice sl_str (pv 1) (po_some (pv 2)) (po_some (pe_op op_add (pv 2) pe_int))) pa_nil)))
      (pss_one (ps_ret (pe_ifExp (PW.pt (pw_and (pt_cmpR op_le (pe_op op_add (pv 2) pe_int) (pe_callB call_len_str (by rfl) B.len PySem.boot_len (pa_cons (pv 1) pa_nil)) (nomark _)) (pw_and1 (pt_cmpR op_lt (pv 3) (pv 0) (nomark _))))) (pe_tup (pa_cons (pe_op op_add_str pe_str (pe_callTy call_str_int (by rfl) B.str PySem.Pv.boot_str (pa_cons (pv 3) pa_nil))) (pa_cons (pe_op op_add (pv 2) pe_int) pa_nil))) pe_non)))), ?_⟩
    have hzl : z.length = (tl z).length := rfl
    have hcut : L2.cutS z (some ((n : Nat) : Int)) (some (((n : Nat) : Int) + 4)) = K83.mk (((tl z).drop n).take 4) := by
      rw [show ((n : Nat) : Int) + 4 = ((n + 4 : Nat) : Int) from by omega, K82.cutS_nn, Nat.add_sub_cancel_left]
    refine ⟨_, rfl, _, rfl, _, rfl, _, rfl, _, _, rfl, rfl, _, rfl, z, rfl, small5 (by omega), ?_⟩
    rw [hcut]
    refine ⟨_, rfl, by rw [K83.mk_len, List.length_take]; omega, by rw [K83.tl_mk]; exact isB_cut hb n 4, ?_⟩
    rw [K83.tl_mk]
    by_cases hle : n + 4 ≤ (tl z).length
    · have e := digAt_some hle
      have hv := (digAt_lt hb e).1
      generalize bval (((tl z).drop n).take 4) = v at e hv ⊢
      have eR : rdPart (tl z) .p n = some (.str (pl 114 v), n + 4) := by
        show (digAt (tl z) n 4).map _ = _
        rw [e]
        rfl
      have eL := lawP_of (r := r) eR
      rw [show isPart r .p (.str (pl 114 v)) = decide (v < r) from reg_pl h9 hv] at eL
      refine ⟨_, rfl, _, _, rfl, rfl, _, rfl, z, rfl, small5 (by omega), _, _, rfl, rfl, _, rfl, iteTd (decide_eq_true (by omega)) ?_⟩
      by_cases hvr : v < r
      · rw [decide_eq_true hvr, if_pos rfl] at eL
        refine ⟨_, rfl, _, rfl, _, _, rfl, rfl, _, rfl, iteTd (decide_eq_true (by omega)) ?_⟩
        refine ⟨_, rfl, _, rfl, ?_, _, _, rfl, rfl, ?_, _, rfl, _, _, rfl, rfl, (by show 2 ≤ sizeLine; decide), fun p hp => q2 _ _ eL p _ _ hp (Same.new hp) upd_same (strD _)⟩
        · have : (v : Int).natAbs.log2 < 4 := by rw [Int.natAbs_natCast]; exact log4 hv (by decide)
          omega
        · have := pl_small (c := 114) (v := v) (Nat.lt_of_lt_of_le hv (Nat.pow_le_pow_right (by decide) (by decide)))
          rw [K83.len_app] at this
          exact this
      · rw [decide_eq_false hvr] at eL
        exact ⟨_, rfl, _, rfl, _, _, rfl, rfl, _, rfl, iteFd (decide_eq_false (by omega)) (q1 eL H (Same.refl H))⟩
    · have eL := lawP_none (r := r) (c := .p) (n := n) (l := tl z) (by
        show (digAt (tl z) n 4).map _ = _
        rw [digAt_none hle]
        rfl)
      exact ⟨_, rfl, _, _, rfl, rfl, _, rfl, z, rfl, small5 (by omega), _, _, rfl, rfl, _, rfl, iteFd (decide_eq_false (by omega)) (q1 eL H (Same.refl H))⟩
theorem okl_copied_at {f : Addr} {fd : FuncData} (F : Fun K "_law_copied_at" "_law_copied_at" s__law_copied_at f fd) (B : Bn3 mg) (c__law_register_at : Dq P w0 K mg base CX0 2 "_law_register_at" ["registers", "bits", "at"] splRegAt) (c__law_read : Dq P w0 K mg base CX0 2 "_law_read" ["bits", "at"] spCntAt) :
    FnOk P w0 K mg base CX0 3 f fd ["registers", "bits", "at"] (splAtR .c) := by
  refine F.ok sc__law_copied_at (fun vs H Q E h => ?_) (fun cdv A outer s H vs Q E hr h => ?_)
  · obtain ⟨r, z, n, rfl, _⟩ := h
    rfl
  · obtain ⟨r, z, n, rfl, h9, hn, hz, hb, q1, q2⟩ := h
    refine ⟨_, (pss_cons (ps_if (pt_cmpR op_ne (pe_slice sl_str (pv 1) (po_some (pv 2)) (po_some (pe_op op_add (pv 2) pe_int))) pe_str (nomark _)) (pss_one (ps_ret (pe_q c__law_register_at hr (by decide) (by rfl) (pa_cons (pv 0) (pa_cons (pv 1) (pa_cons (pe_op op_add (pv 2) pe_int) pa_nil)))))) pss_nil)
      (pss_cons (ps_set (i := 3) sc__law_copied_at.nd rfl (Or.inl rfl) (pe_q c__law_read hr (by decide) (by rfl) (pa_cons (pv 1) (pa_cons (pe_op op_add (pv 2) pe_int) pa_nil))))
      (pss_one (ps_ret (pe_ifExp (PW.pt (pw_or (pt_cmpR op_isN (pv 3) pe_non (nomark _)) (pw_or1 (pt_cmpR op_gt (pe_ix ix_tup (pv 3) pe_int (fun _ _ => rfl)) pe_int (nomark _))))) pe_non (pe_tup (pa_cons (pe_op op_add_str pe_str (pe_callTy call_str_int (by rfl) B.str PySem.Pv.boot_str (pa_cons (pe_ix ix_tup (pv 3) pe_int (fun _ _ => rfl)) pa_nil))) (pa_cons (pe_ix ix_tup (pv 3) pe_int (fun _ _ => rfl)) pa_nil)))))))), ?_⟩
    refine ⟨_, rfl, _, rfl, _, rfl, _, rfl, _, _, rfl, rfl, _, rfl, z, rfl, small5 (by omega), rfl, _, rfl, ?_⟩
    rw [show L2.cutS z (some ((n : Nat) : Int)) (some (((n : Nat) : Int) + 1)) = K83.mk (((tl z).drop n).take 1) from by
      rw [show ((n : Nat) : Int) + 1 = ((n + 1 : Nat) : Int) from by omega, K82.cutS_nn, Nat.add_sub_cancel_left]]
    have hone : ("1" : Str) = K83.mk [49] := by decide +kernel
    rw [hone]
    by_cases h1 : ((tl z).drop n).head? = some 49
    · have e9 : decide (V.str (K83.mk (((tl z).drop n).take 1)) = V.str (K83.mk [49])) = true := decide_eq_true (by rw [(head_cut hn 49).mpr h1])
      refine iteFd (by rw [e9]; rfl) ?_
      have hlt : n + 1 ≤ (tl z).length := by
        match hd : (tl z).drop n, h1 with
        | a :: r, _ =>
          have := congrArg List.length hd
          rw [List.length_drop, List.length_cons] at this
          omega
      have hc : rdPart (tl z) .c n = (decAt (tl z) (n + 1)).map fun q => (.str (pl 115 q.1), q.2) := by
        show copAt (tl z) n = _
        unfold copAt
        rw [if_pos h1]
      refine ⟨_, rfl, _, rfl, _, _, rfl, rfl, z, n + 1, ?_, hlt, hz, hb, fun e H1 s1 => ?_, fun a b e p H1 hp s1 e1 => ?_⟩
      · show [V.str z, V.int ((n : Int) + 1)] = [V.str z, V.int ((n + 1 : Nat) : Int)]
        rw [show ((n : Nat) : Int) + 1 = ((n + 1 : Nat) : Int) from by omega]
      · exact ⟨_, rfl, rfl, _, rfl, iteTd rfl (q1 (lawP_none (by rw [hc, rdC_no e]; rfl)) H1 s1)⟩
      · obtain ⟨v, k, ed, rfl, rfl, hv, hk⟩ := rdC_ex hb hz e
        have eL := lawP_of (r := r) (show rdPart (tl z) .c n = some (.str (pl 115 v), k) by rw [hc, ed]; rfl)
        rw [show isPart r .c (.str (pl 115 v)) = decide (v ≤ 999) from by
          show (isSlot (.str (pl 115 v)) || isReg r (.str (pl 115 v))) = _
          rw [slot_pl, reg_s, Bool.or_false]] at eL
        refine ⟨_, rfl, rfl, _, rfl, iteFd rfl ⟨_, rfl, p, _, 0, _, rfl, rfl, SqT.of e1, at0 _ _, _, _, rfl, rfl, _, rfl, ?_⟩⟩
        by_cases h999 : v ≤ 999
        · rw [decide_eq_true h999, if_pos rfl] at eL
          refine iteFd (decide_eq_false (by omega)) ?_
          refine ⟨_, rfl, p, _, 0, _, rfl, rfl, SqT.of e1, at0 _ _, (v : Nat), rfl, ?_, _, _, rfl, rfl, ?_, _, rfl, p, _, 1, _, rfl, rfl, SqT.of e1, rfl, (by show 2 ≤ sizeLine; decide), fun p2 hp2 => q2 _ _ eL p2 _ _ (s1.free hp2) (s1.trans (Same.new hp2)) upd_same (strD _)⟩
          · have := log4 (n := v) (k := 1300) hv (by decide)
            show ((v : Int).natAbs).log2 < 1920
            rw [Int.natAbs_natCast]
            omega
          · have := pl_small (c := 115) hv
            rw [K83.len_app] at this
            exact this
        · rw [decide_eq_false h999] at eL
          exact iteTd (decide_eq_true (by omega)) (q1 eL H1 s1)
    · have e9 : decide (V.str (K83.mk (((tl z).drop n).take 1)) = V.str (K83.mk [49])) = false := decide_eq_false fun h => h1 ((head_cut hn 49).mp (by injection h))
      refine iteTd (by rw [e9]; rfl) ?_
      have hc : lawP r (tl z) .c n = lawP r (tl z) .p (n + 1) := by
        have e : rdPart (tl z) .c n = rdPart (tl z) .p (n + 1) := by
          show copAt (tl z) n = regAt (tl z) (n + 1)
          unfold copAt
          rw [if_neg h1]
        unfold lawP
        rw [e]
        cases hq : rdPart (tl z) .p (n + 1) with
        | none => rfl
        | some q =>
          obtain ⟨d, b⟩ := q
          show (if (isSlot d || isReg r d) = true then some (d, b) else none) = if isReg r d = true then some (d, b) else none
          have hq : regAt (tl z) (n + 1) = some (d, b) := hq
          unfold regAt at hq
          obtain ⟨⟨v, k⟩, g1, g2⟩ := Option.map_eq_some_iff.mp hq
          injection g2 with g2 _
          have g2 : PyData.str (pl 114 v) = d := g2
          rw [← g2, slot_r v (digAt_lt hb g1).1, Bool.false_or]
      rw [hc] at q1 q2
      exact ⟨_, rfl, _, rfl, _, rfl, _, _, rfl, rfl, r, z, n + 1, rfl, h9, hz, hb, q1, q2⟩
end
end SA

set_option Elab.async false
set_option linter.all false
set_option maxRecDepth 100000
set_option maxHeartbeats 1000000
namespace K83
open PySem PySem.Spec
open K82 (L one tl IsB bval bdig enc dec zig zag)
theorem regsN_rdPs (l : L) : ∀ (m b : Nat), regsN l m b = rdPs l (List.replicate m .p) b
  | 0, b => rfl
  | m + 1, b => by
    show ((regAt l b).bind fun q => (regsN l m q.2).map fun t => (q.1 :: t.1, t.2)) = ((regAt l b).bind fun q => (rdPs l (List.replicate m .p) q.2).map fun t => (q.1 :: t.1, t.2))
    congr 1
    funext q
    rw [regsN_rdPs l m q.2]
theorem arePs_rep (r : Nat) : ∀ (ps : List D), arePs r (List.replicate ps.length .p) ps = ps.all (isReg r)
  | [] => rfl
  | d :: ps => by
    show (isReg r d && arePs r (List.replicate ps.length .p) ps) = (isReg r d && ps.all (isReg r))
    rw [arePs_rep r ps]
theorem lawP_regs {r : Nat} {l : L} {n v b : Nat} (hb : IsB l) (h : digAt l n 2 = some (v, b)) : lawP r l .P n = (lawPs r l (List.replicate v .p) b).map fun t => (.tuple t.1, t.2) := by
  have hv : v < 4 := (digAt_lt hb h).1
  have e : rdPart l .P n = (regsN l v b).map fun t => (.tuple t.1, t.2) := by
    show ((digAt l n 2).bind fun q => (regsN l q.1 q.2).map fun t => (PyData.tuple t.1, t.2)) = _
    rw [h]
    rfl
  unfold lawP
  rw [e, lawPs_eq, ← regsN_rdPs]
  cases hq : regsN l v b with
  | none => rfl
  | some t =>
    obtain ⟨ds, k⟩ := t
    obtain ⟨_, hl⟩ := okE_regs hb v b ds k hq
    show (if (decide (ds.length ≤ 3) && ds.all (isReg r)) = true then some (PyData.tuple ds, k) else none) = (if arePs r (List.replicate v .p) ds = true then some (ds, k) else none).map fun t => (PyData.tuple t.1, t.2)
    rw [decide_eq_true (show ds.length ≤ 3 by omega), Bool.true_and, ← hl, arePs_rep]
    by_cases hh : ds.all (isReg r) = true
    · rw [if_pos hh, if_pos hh]
      rfl
    · rw [if_neg hh, if_neg hh]
      rfl
theorem lawP_p_ex {r : Nat} {l : L} {n b : Nat} {d : D} (h : lawP r l .p n = some (d, b)) : (∃ z, d = .str z) ∧ b = n + 4 ∧ b ≤ l.length := by
  unfold lawP at h
  obtain ⟨⟨d', b'⟩, h1, h2⟩ := Option.bind_eq_some_iff.mp h
  have h2 : (if isPart r .p d' = true then some (d', b') else none) = some (d, b) := h2
  split at h2
  · injection h2 with h2
    injection h2 with h2 h3
    subst h2 h3
    obtain ⟨e1, e2⟩ := regAt_end h1
    exact ⟨e2, e1, regAt_le h1⟩
  · cases h2
end K83
namespace SA
open PySem PySem.Spec PyProof.Rows L2 K83
open K82 hiding mk tl_mk mk_tl mk_app
theorem DnAll.strs {m : Addr → Prop} {H H' : Hp} {n : Addr → Prop} {vs : List V} {ds : List PyData} (h : DnAll n H vs ds) (f : ∀ d ∈ ds, Flat d) : DnAll m H' vs ds := h.flat f
section
variable {P : Program} {w0 : World} {K : PySem.W.Frag} {mg : Str → Option Value} {base : Heap}
theorem okl_some_at {f : Addr} {fd : FuncData} (F : Fun K "_law_some_at" "_law_some_at" s__law_some_at f fd) (B : Bn3 mg) (c__law_value : Dq P w0 K mg base CX0 1 "_law_value" ["bits"] splVal) (c__law_register_at : Dq P w0 K mg base CX0 2 "_law_register_at" ["registers", "bits", "at"] splRegAt) :
    FnOk P w0 K mg base CX0 3 f fd ["registers", "bits", "at"] (splAtR .P) := by
  refine F.ok sc__law_some_at (fun vs H Q E h => ?_) (fun cdv A outer s H vs Q E hr h => ?_)
  · obtain ⟨r, z, n, rfl, _⟩ := h
    rfl
  · obtain ⟨r, z, n, rfl, h9, hn, hz, hb, q1, q2⟩ := h
    refine ⟨_, (pss_cons (ps_if (pt_cmpR op_gt (pe_op op_add (pv 2) pe_int) (pe_callB call_len_str (by rfl) B.len PySem.boot_len (pa_cons (pv 1) pa_nil)) (nomark _)) (pss_one (ps_ret pe_non)) pss_nil)
      (pss_cons (ps_par (i := 3) (j := 4) rfl sc__law_some_at.nd rfl rfl (by decide) rfl rfl (pa_cons (pe_lst pa_nil) (pa_cons (pe_op op_add (pv 2) pe_int) pa_nil)) rfl)
      (pss_cons (ps_for PassesOwn.never rfl (pi_range1 (by rfl) B.range (pa_cons (pe_q c__law_value hr (by decide) (by rfl) (pa_cons (pe_slice sl_str (pv 1) (po_some (pv 2)) (po_some (pe_op op_add (pv 2) pe_int))) pa_nil)) pa_nil)) (pg_name (i := 5) sc__law_some_at.nd rfl (Or.inl rfl)) (pss_cons (ps_set (i := 6) sc__law_some_at.nd rfl (Or.inl rfl) (pe_q c__law_register_at hr (by decide) (by rfl) (pa_cons (pv 0) (pa_cons (pv 1) (pa_cons (pv 4) pa_nil)))))
      (pss_cons (ps_if (pt_cmpR op_isN (pv 6) pe_non (nomark _)) (pss_one (ps_ret pe_non)) pss_nil)
      (pss_cons (ps_expr (pe_bm PySem.F.plainAttrs_list PySem.F.slot_list_append PySem.F.type_list_append mt_append (pv 3) (pa_cons (pe_ix ix_tup (pv 6) pe_int (fun _ _ => rfl)) pa_nil)))
      (pss_one (ps_set (i := 4) sc__law_some_at.nd rfl (Or.inl rfl) (pe_ix ix_tup (pv 6) pe_int (fun _ _ => rfl))))))))
      (pss_one (ps_ret (pe_tup (pa_cons (pe_callTy call_tuple_of (by rfl) B.tuple (by decide +kernel) (pa_cons (pv 3) pa_nil)) (pa_cons (pv 4) pa_nil)))))))), ?_⟩
    have hzl : z.length = (tl z).length := rfl
    refine ⟨_, rfl, _, _, rfl, rfl, _, rfl, z, rfl, small5 (by omega), _, _, rfl, rfl, _, rfl, ?_⟩
    by_cases hle : n + 2 ≤ (tl z).length
    · refine iteFd (decide_eq_false (by omega)) ?_
      have e := digAt_some hle
      have hv : bval (((tl z).drop n).take 2) < 4 := (digAt_lt hb e).1
      have eP := lawP_regs (r := r) hb e
      refine ⟨(by show 0 ≤ sizeLine; exact Nat.zero_le _), fun L hL => ⟨_, rfl, _, _, rfl, rfl, _, _, rfl, ?_⟩⟩
      refine ⟨_, rfl, _, rfl, _, rfl, _, rfl, _, _, rfl, rfl, _, rfl, z, rfl, small5 (by omega), ?_⟩
      rw [show L2.cutS z (some ((n : Nat) : Int)) (some (((n : Nat) : Int) + 2)) = K83.mk (((tl z).drop n).take 2) from by
        rw [show ((n : Nat) : Int) + 2 = ((n + 2 : Nat) : Int) from by omega, K82.cutS_nn, Nat.add_sub_cancel_left]]
      refine ⟨_, rfl, by rw [K83.mk_len, List.length_take]; omega, by rw [K83.tl_mk]; exact isB_cut hb n 2, ?_⟩
      rw [K83.tl_mk]
      generalize bval (((tl z).drop n).take 2) = v at e hv eP ⊢
      refine ⟨(v : Int), rfl, by omega, by omega, ?_⟩
      rw [Int.toNat_natCast]
      refine for_range (lo := 0) (n := v) (fun i σ H' => ∃ (xs : List V) (ps : List PyData) (k : Nat) (y5 y6 : Option V), σ = [some (.int (r : Nat)), some (.str z), some (.int (n : Nat)), some (.ref L), some (.int (k : Nat)), y5, y6] ∧ Same H H' ∧ H' L = some (.lst xs) ∧ DnAll anyA H' xs ps ∧ (∀ d ∈ ps, Flat d) ∧ xs.length = i ∧ lawPs r (tl z) ((List.replicate v .p).take i) (n + 2) = some (ps, k))
        ⟨[], [], n + 2, none, none, rfl, Same.new hL, upd_same, .nil, (fun d hd => by cases hd), rfl, rfl⟩ ?_ ?_
      · rintro i σ H1 hi ⟨xs, ps, k, y5, y6, rfl, s1, e1, dn, fl, hxl, hps⟩
        have hc : (List.replicate v Lt.p)[i]? = some .p := by rw [List.getElem?_replicate, if_pos hi]
        obtain ⟨st1, st2⟩ := lawPs_step hc hps
        refine ⟨_, rfl, _, rfl, _, rfl, r, z, k, rfl, h9, hz, hb, fun en H2 s2 => ?_, fun d b es p x H2 hp s2 e2 hd => ?_⟩
        · exact ⟨_, rfl, rfl, _, rfl, iteTd rfl (q1 (by rw [eP, st1 en]; rfl) H2 (s1.trans s2))⟩
        · obtain ⟨⟨zd, rfl⟩, hbk, hbl⟩ := lawP_p_ex es
          have e1' := s2 _ _ e1
          have npL : p ≠ L := fun h => by rw [h] at hp; rw [hp] at e1; cases e1
          refine ⟨_, rfl, rfl, _, rfl, iteFd rfl ⟨_, rfl, .inl ⟨rfl, _, SqL.of e1'⟩, _, rfl, p, _, 0, _, rfl, rfl, SqT.of e2, at0 _ _, L, xs, x, rfl, rfl, e1', ?_, _, rfl, p, _, 1, _, rfl, rfl, SqT.of (by rw [upd_ne npL]; exact e2), rfl, ?_⟩⟩
          · rw [hxl]
            exact small20 (by omega)
          · refine ⟨xs ++ [x], ps ++ [.str zd], b, _, _, rfl, Same.upd' (s1.trans s2) hL, upd_same, ?_, fun d hd => ?_, by rw [List.length_append, hxl]; rfl, st2 _ _ es⟩
            · exact DnAll.app (dn.strs fl) (.cons (hd.flat (.inl ⟨zd, rfl⟩)) .nil)
            · rcases List.mem_append.mp hd with hd | hd
              · exact fl d hd
              · rw [List.mem_singleton.mp hd]
                exact .inl ⟨zd, rfl⟩
      · rintro σ H1 ⟨xs, ps, k, y5, y6, rfl, s1, e1, dn, fl, hxl, hps⟩
        rw [List.take_of_length_le (by rw [List.length_replicate]; exact Nat.le_refl _)] at hps
        refine ⟨_, rfl, L, xs, rfl, .inl ⟨SqL.of e1, fun p2 hp2 => ⟨_, rfl, (by show 2 ≤ sizeLine; decide), fun p3 hp3 => ?_⟩⟩⟩
        have n23 : p2 ≠ p3 := ne_of_none upd_same hp3
        refine q2 (.tuple ps) k (by rw [eP, hps]; rfl) p3 (.ref p2) _ (s1.free ((Same.new hp2).free hp3)) (s1.trans ((Same.new hp2).trans (Same.new hp3))) upd_same ?_
        exact .tup trivial (by rw [upd_ne n23, upd_same]) (dn.strs fl)
    · refine iteTd (decide_eq_true (by omega)) (q1 (lawP_none ?_) H (Same.refl H))
      show ((digAt (tl z) n 2).bind fun q => (regsN (tl z) q.1 q.2).map fun t => (PyData.tuple t.1, t.2)) = none
      rw [digAt_none hle]
      rfl
end
end SA

set_option Elab.async false
set_option linter.all false
set_option maxRecDepth 100000
set_option maxHeartbeats 1000000
namespace K83
open PySem PySem.Spec
open K82 (L one tl IsB bval bdig enc dec zig zag)
theorem leapV_ok {w : Str} {m v : Nat} (h : (w = "short" ∧ m = 8) ∨ (w = "long" ∧ m = 32)) (hv : v < 2 ^ m) : isLeap (.tuple [.str w, .int (leapV m v)]) = true := by
  rcases h with ⟨rfl, rfl⟩ | ⟨rfl, rfl⟩
  · obtain ⟨_, h1, h2⟩ := leapN_V8 hv
    show ((decide (("short" : Str) = "short") || decide (("short" : Str) = "long")) && decide (-halfOf "short" ≤ leapV 8 v ∧ leapV 8 v ≤ halfOf "short" - 1)) = true
    rw [show halfOf "short" = 128 from by decide +kernel, decide_eq_true (show -128 ≤ leapV 8 v ∧ leapV 8 v ≤ 128 - 1 from ⟨h1, by omega⟩)]
    rfl
  · obtain ⟨_, h1, h2⟩ := leapN_V32 hv
    show ((decide (("long" : Str) = "short") || decide (("long" : Str) = "long")) && decide (-halfOf "long" ≤ leapV 32 v ∧ leapV 32 v ≤ halfOf "long" - 1)) = true
    rw [show halfOf "long" = 2147483648 from by decide +kernel, decide_eq_true (show -2147483648 ≤ leapV 32 v ∧ leapV 32 v ≤ 2147483648 - 1 from ⟨h1, by omega⟩), Bool.and_true, decide_eq_true (show ("long" : Str) = "long" from rfl), Bool.or_true]
theorem leapV8_lt {v : Nat} (h : v < 128) : leapV 8 v = (v : Int) := by
  unfold leapV
  rw [show (2 : Nat) ^ (8 - 1) = 128 from rfl, if_pos h]
theorem leapV8_ge {v : Nat} (h : ¬ v < 128) : leapV 8 v = (v : Int) - 256 := by
  unfold leapV
  rw [show (2 : Nat) ^ (8 - 1) = 128 from rfl, if_neg h]
  rfl
theorem leapV32_lt {v : Nat} (h : v < 2147483648) : leapV 32 v = (v : Int) := by
  unfold leapV
  rw [show (2 : Nat) ^ (32 - 1) = 2147483648 from rfl, if_pos h]
theorem leapV32_ge {v : Nat} (h : ¬ v < 2147483648) : leapV 32 v = (v : Int) - 4294967296 := by
  unfold leapV
  rw [show (2 : Nat) ^ (32 - 1) = 2147483648 from rfl, show (2 : Int) ^ 32 = 4294967296 from rfl, if_neg h]
theorem leapV_half {w : Str} {m v : Nat} (h : (w = "short" ∧ m = 8) ∨ (w = "long" ∧ m = 32)) : ((v : Int) < halfOf w → leapV m v = (v : Int)) ∧ (¬ (v : Int) < halfOf w → leapV m v = (v : Int) - 2 * halfOf w) := by
  rcases h with ⟨rfl, rfl⟩ | ⟨rfl, rfl⟩
  · rw [show halfOf "short" = 128 from by decide +kernel]
    exact ⟨fun h => leapV8_lt (by omega), fun h => leapV8_ge (by omega)⟩
  · rw [show halfOf "long" = 2147483648 from by decide +kernel]
    exact ⟨fun h => leapV32_lt (by omega), fun h => leapV32_ge (by omega)⟩
theorem isNm_mk (acc : L) : isNm (.str (mk acc)) = K1.isName (mk acc) := rfl
theorem isNm_long {acc : L} (h : 9 ≤ acc.length) : isNm (.str (mk acc)) = false := by
  rw [isNm_mk]
  unfold K1.isName
  rw [mk_len, decide_eq_false (show ¬ acc.length ≤ 8 by omega)]
  simp
end K83
namespace SA
open PySem PySem.Spec PyProof.Rows L2 K83
open K82 hiding mk tl_mk mk_tl mk_app
section
variable {P : Program} {w0 : World} {K : PySem.W.Frag} {mg : Str → Option Value} {base : Heap}
theorem okl_leap_at {f : Addr} {fd : FuncData} (F : Fun K "_law_leap_at" "_law_leap_at" s__law_leap_at f fd) (B : Bn3 mg) (c__law_value : Dq P w0 K mg base CX0 1 "_law_value" ["bits"] splVal) :
    FnOk P w0 K mg base CX0 2 f fd ["bits", "at"] (splAtS .l) := by
  refine F.ok sc__law_leap_at (fun vs H Q E h => ?_) (fun cdv A outer s H vs Q E hr h => ?_)
  · obtain ⟨r, z, n, rfl, _⟩ := h
    rfl
  · obtain ⟨r, z, n, rfl, hn, hz, hb, q1, q2⟩ := h
    refine ⟨_, (Evl.pss_cut (ps_asg (pe_ifExp (pt_cmpR op_eq (pe_slice sl_str (pv 0) (po_some (pv 1)) (po_some (pe_op op_add (pv 1) pe_int))) pe_str (nomark _)) (pe_tup (pa_cons pe_int (pa_cons pe_str pa_nil))) (pe_tup (pa_cons pe_int (pa_cons pe_str pa_nil)))) (pg_tup (by rfl) (pgs_cons (pg_name (i := 2) sc__law_leap_at.nd rfl (Or.inl rfl)) (pgs_cons (pg_name (i := 3) sc__law_leap_at.nd rfl (Or.inl rfl)) pgs_nil))))
      (pss_cons (ps_if (pt_cmpR op_gt (pe_op op_add (pe_op op_add (pv 1) pe_int) (pv 2)) (pe_callB call_len_str (by rfl) B.len PySem.boot_len (pa_cons (pv 0) pa_nil)) (nomark _)) (pss_one (ps_ret pe_non)) pss_nil)
      (Evl.pss_cut (ps_par (i := 4) (j := 5) rfl sc__law_leap_at.nd rfl rfl (by decide) rfl rfl (pa_cons (pe_q c__law_value hr (by decide) (by rfl) (pa_cons (pe_slice sl_str (pv 0) (po_some (pe_op op_add (pv 1) pe_int)) (po_some (pe_op op_add (pe_op op_add (pv 1) pe_int) (pv 2)))) pa_nil)) (pa_cons (pe_ifExp (pt_cmpR op_eq (pv 3) pe_str (nomark _)) pe_int pe_int) pa_nil)) rfl)
      (pss_one (ps_ret (pe_tup (pa_cons (pe_tup (pa_cons (pv 3) (pa_cons (pe_ifExp (pt_cmpR op_lt (pv 4) (pv 5) (nomark _)) (pv 4) (pe_op op_sub (pv 4) (pe_op op_mul pe_int (pv 5)))) pa_nil))) (pa_cons (pe_op op_add (pe_op op_add (pv 1) pe_int) (pv 2)) pa_nil)))))))), ?_⟩
    have hone : ("1" : Str) = K83.mk [49] := by decide +kernel
    have hzl : z.length = (tl z).length := rfl
    refine ⟨fun σ H1 => Same H H1 ∧ ∃ (w : Str) (m : Nat), σ = [some (.str z), some (.int (n : Nat)), some (.int (m : Nat)), some (.str w), none, none] ∧ ((w = "short" ∧ m = 8) ∨ (w = "long" ∧ m = 32)) ∧
      rdPart (tl z) .l n = (digAt (tl z) (n + 1) m).map (fun q => (.tuple [.str w, .int (leapV m q.1)], q.2)), ?_, ?_⟩
    · refine ⟨_, rfl, _, rfl, _, rfl, _, rfl, _, _, rfl, rfl, _, rfl, z, rfl, small5 (by omega), rfl, _, rfl, ?_⟩
      rw [show L2.cutS z (some ((n : Nat) : Int)) (some (((n : Nat) : Int) + 1)) = K83.mk (((tl z).drop n).take 1) from by
        rw [show ((n : Nat) : Int) + 1 = ((n + 1 : Nat) : Int) from by omega, K82.cutS_nn, Nat.add_sub_cancel_left]]
      rw [hone]
      by_cases h1 : ((tl z).drop n).head? = some 49
      · have e9 : decide (V.str (K83.mk (((tl z).drop n).take 1)) = V.str (K83.mk [49])) = true := decide_eq_true (by rw [(head_cut hn 49).mpr h1])
        refine iteTd e9 ⟨(by show 2 ≤ sizeLine; decide), fun t ht => ⟨t, _, rfl, SqT.of upd_same, rfl, _, _, rfl, _, _, rfl, rfl, Same.new ht, "long", 32, rfl, .inr ⟨rfl, rfl⟩, ?_⟩⟩
        show leapAt (tl z) n = _
        unfold leapAt isLong
        rw [if_pos (decide_eq_true h1)]
      · have e9 : decide (V.str (K83.mk (((tl z).drop n).take 1)) = V.str (K83.mk [49])) = false := decide_eq_false fun h => h1 ((head_cut hn 49).mp (by injection h))
        refine iteFd e9 ⟨(by show 2 ≤ sizeLine; decide), fun t ht => ⟨t, _, rfl, SqT.of upd_same, rfl, _, _, rfl, _, _, rfl, rfl, Same.new ht, "short", 8, rfl, .inl ⟨rfl, rfl⟩, ?_⟩⟩
        show leapAt (tl z) n = _
        unfold leapAt isLong
        rw [if_neg (by rw [decide_eq_true_eq]; exact h1)]
    rintro σ H1 ⟨s1, w, m, rfl, hwm, hL⟩
    have hm40 : m ≤ 40 := by rcases hwm with ⟨_, rfl⟩ | ⟨_, rfl⟩ <;> decide
    refine ⟨_, rfl, _, _, rfl, rfl, _, rfl, _, _, rfl, rfl, _, rfl, z, rfl, small5 (by omega), _, _, rfl, rfl, _, rfl, ?_⟩
    by_cases hle : n + 1 + m ≤ (tl z).length
    · refine iteFd (decide_eq_false (by omega)) ?_
      have e := digAt_some hle
      have hv := (digAt_lt hb e).1
      refine ⟨fun σ H2 => H2 = H1 ∧ σ = [some (.str z), some (.int (n : Nat)), some (.int (m : Nat)), some (.str w), some (.int ((bval (((tl z).drop (n + 1)).take m) : Nat) : Int)), some (.int (halfOf w))], ?_, ?_⟩
      · refine ⟨_, rfl, _, rfl, _, _, rfl, rfl, _, rfl, _, rfl, _, _, rfl, rfl, _, rfl, _, _, rfl, rfl, _, rfl, z, rfl, small5 (by omega), ?_⟩
        rw [show L2.cutS z (some (((n : Nat) : Int) + 1)) (some (((n : Nat) : Int) + 1 + ((m : Nat) : Int))) = K83.mk (((tl z).drop (n + 1)).take m) from by
          rw [show ((n : Nat) : Int) + 1 + ((m : Nat) : Int) = ((n + 1 + m : Nat) : Int) from by omega, show ((n : Nat) : Int) + 1 = ((n + 1 : Nat) : Int) from by omega, K82.cutS_nn, Nat.add_sub_cancel_left]]
        refine ⟨_, rfl, by rw [K83.mk_len, List.length_take]; omega, by rw [K83.tl_mk]; exact isB_cut hb _ m, ?_⟩
        rw [K83.tl_mk]
        rcases hwm with ⟨rfl, rfl⟩ | ⟨rfl, rfl⟩
        · refine ⟨_, rfl, rfl, _, rfl, iteTd (by decide +kernel) ⟨_, _, rfl, rfl, ?_⟩⟩
          rw [show halfOf "short" = 128 from by decide +kernel]
          rfl
        · refine ⟨_, rfl, rfl, _, rfl, iteFd (by decide +kernel) ⟨_, _, rfl, rfl, ?_⟩⟩
          rw [show halfOf "long" = 2147483648 from by decide +kernel]
          rfl
      rintro σ H2 ⟨rfl, rfl⟩
      generalize bval (((tl z).drop (n + 1)).take m) = v at e hv ⊢
      have eL := lawP_of (r := r) (show rdPart (tl z) .l n = some (.tuple [.str w, .int (leapV m v)], n + 1 + m) by rw [hL, e]; rfl)
      rw [show isPart r .l (.tuple [.str w, .int (leapV m v)]) = true from leapV_ok hwm hv, if_pos rfl] at eL
      obtain ⟨v1, v2⟩ := leapV_half (v := v) hwm
      generalize halfOf w = hf at v1 v2 ⊢
      have fin : ∀ y : V, y = .int (leapV m v) → ∀ p2 : Addr, H2 p2 = none → ∀ p3 : Addr, (upd H2 p2 (.tup [.str w, y])) p3 = none → Q (.ref p3) (upd (upd H2 p2 (.tup [.str w, y])) p3 (.tup [.ref p2, .int (((n : Nat) : Int) + 1 + ((m : Nat) : Int))])) := by
        rintro y rfl p2 hp2 p3 hp3
        have n23 : p2 ≠ p3 := ne_of_none upd_same hp3
        rw [show ((n : Nat) : Int) + 1 + ((m : Nat) : Int) = ((n + 1 + m : Nat) : Int) from by omega]
        refine q2 _ _ eL p3 (.ref p2) _ (s1.free ((Same.new hp2).free hp3)) (s1.trans ((Same.new hp2).trans (Same.new hp3))) upd_same ?_
        refine .tup trivial (xs := [.str w, .int (leapV m v)]) ?_ (.cons (.str _) (.cons (.int _) .nil))
        rw [upd_ne n23, upd_same]
      refine ⟨_, rfl, _, rfl, _, rfl, _, _, rfl, rfl, _, rfl, ite2 (fun hlt => ?_) (fun hlt => ?_)⟩
      · exact ⟨_, rfl, (by show 2 ≤ sizeLine; decide), fun p2 hp2 => ⟨_, rfl, _, _, rfl, rfl, _, rfl, _, _, rfl, rfl, (by show 2 ≤ sizeLine; decide), fun p3 hp3 => fin _ (by rw [v1 (of_decide_eq_true hlt)]) p2 hp2 p3 hp3⟩⟩
      · exact ⟨_, rfl, _, rfl, _, _, rfl, rfl, .inl ⟨by decide, by decide⟩, _, _, rfl, rfl, (by show 2 ≤ sizeLine; decide), fun p2 hp2 => ⟨_, rfl, _, _, rfl, rfl, _, rfl, _, _, rfl, rfl, (by show 2 ≤ sizeLine; decide), fun p3 hp3 => fin _ (by rw [v2 fun z => hlt (decide_eq_true z)]) p2 hp2 p3 hp3⟩⟩
    · refine iteTd (decide_eq_true (by omega)) (q1 (lawP_none ?_) H1 s1)
      rw [hL, digAt_none hle]
      rfl
theorem okl_name_at {f : Addr} {fd : FuncData} (F : Fun K "_law_name_at" "_law_name_at" s__law_name_at f fd) (B : Bn3 mg) (c__law_value : Dq P w0 K mg base CX0 1 "_law_value" ["bits"] splVal) (c__law_is_name : Dq P w0 K mg base CX0 1 "_law_is_name" ["thing"] splIsName) :
    FnOk P w0 K mg base CX0 2 f fd ["bits", "at"] (splAtS .x) := by
  refine F.ok sc__law_name_at (fun vs H Q E h => ?_) (fun cdv A outer s H vs Q E hr h => ?_)
  · obtain ⟨r, z, n, rfl, _⟩ := h
    rfl
  · obtain ⟨r, z, n, rfl, hn, hz, hb, q1, q2⟩ := h
    refine ⟨_, (pss_cons (ps_par (i := 2) (j := 3) rfl sc__law_name_at.nd rfl rfl (by decide) rfl rfl (pa_cons pe_str (pa_cons (pv 1) pa_nil)) rfl)
      (pss_cons (ps_for PassesOwn.never rfl (pi_range1 (by rfl) B.range (pa_cons pe_int pa_nil)) (pg_name (i := 4) sc__law_name_at.nd rfl (Or.inl rfl)) (pss_cons (ps_set (i := 5) sc__law_name_at.nd rfl (Or.inl rfl) (pe_q c__law_value hr (by decide) (by rfl) (pa_cons (pe_slice sl_str (pv 0) (po_some (pv 3)) (po_some (pe_op op_add (pv 3) pe_int))) pa_nil)))
      (pss_cons (ps_if (PW.pt (pw_or (pt_cmpR op_gt (pe_op op_add (pv 3) pe_int) (pe_callB call_len_str (by rfl) B.len PySem.boot_len (pa_cons (pv 0) pa_nil)) (nomark _)) (pw_or1 (pt_cmpR op_gt (pv 5) pe_int (nomark _))))) (pss_one (ps_ret pe_non)) pss_nil)
      (pss_cons (ps_set (i := 3) sc__law_name_at.nd rfl (Or.inl rfl) (pe_op op_add (pv 3) pe_int))
      (pss_cons (ps_if (pt_cmpR op_eq (pv 5) pe_int (nomark _)) (pss_one (ps_ret (pe_ifExp (pt_val (pe_q c__law_is_name hr (by decide) (by rfl) (pa_cons (pv 2) pa_nil))) (pe_tup (pa_cons (pv 2) (pa_cons (pv 3) pa_nil))) pe_non))) pss_nil)
      (pss_one (ps_set (i := 2) sc__law_name_at.nd rfl (Or.inl rfl) (pe_op op_add_str (pv 2) (pe_item_str pe_str (pe_op op_sub (pv 5) pe_int) (fun _ _ => rfl))))))))))
      (pss_one (ps_ret pe_non)))), ?_⟩
    have hzl : z.length = (tl z).length := rfl
    have hll : lettersS.length = 26 := by decide +kernel
    refine ⟨_, rfl, _, _, rfl, ?_⟩
    refine ⟨9, rfl, by decide, by decide, ?_⟩
    refine for_range (lo := 0) (n := 9) (fun i σ H' => ∃ (acc : L) (k : Nat) (y4 y5 : Option V), σ = [some (.str z), some (.int (n : Nat)), some (.str (K83.mk acc)), some (.int (k : Nat)), y4, y5] ∧ Same H H' ∧ acc.length = i ∧ k = n + 5 * i ∧ k ≤ (tl z).length ∧ (∀ c ∈ acc, 97 ≤ c ∧ c ≤ 122) ∧ rdPart (tl z) .x n = namAt (tl z) ((tl z).length + 1 - i) k acc)
      ⟨[], n, none, none, rfl, Same.refl H, rfl, rfl, hn, (fun c h => by cases h), rfl⟩ ?_ ?_
    · rintro i σ H1 hi ⟨acc, k, y4, y5, rfl, s1, hal, hk, hkl, hsm, hR⟩
      rw [show (tl z).length + 1 - i = ((tl z).length - i) + 1 by omega, namAt_step] at hR
      refine ⟨_, rfl, _, rfl, _, rfl, _, rfl, _, _, rfl, rfl, _, rfl, z, rfl, small5 (by omega), ?_⟩
      rw [show L2.cutS z (some ((k : Nat) : Int)) (some (((k : Nat) : Int) + 5)) = K83.mk (((tl z).drop k).take 5) from by
        rw [show ((k : Nat) : Int) + 5 = ((k + 5 : Nat) : Int) from by omega, K82.cutS_nn, Nat.add_sub_cancel_left]]
      refine ⟨_, rfl, by rw [K83.mk_len, List.length_take]; omega, by rw [K83.tl_mk]; exact isB_cut hb _ 5, ?_⟩
      rw [K83.tl_mk]
      by_cases hle : k + 5 ≤ (tl z).length
      · have e := digAt_some hle
        have hv := (digAt_lt hb e).1
        generalize bval (((tl z).drop k).take 5) = v at e hv ⊢
        rw [e] at hR
        have hR : rdPart (tl z) .x n = if v = 0 then some (PyData.str (K83.mk acc), k + 5) else if v > 26 then none else namAt (tl z) ((tl z).length - i) (k + 5) (acc ++ [96 + v]) := hR
        refine ⟨_, rfl, _, _, rfl, rfl, _, rfl, z, rfl, small5 (by omega), _, _, rfl, rfl, _, rfl, iteFd (decide_eq_false (by omega)) ⟨_, rfl, _, _, rfl, rfl, _, rfl, ?_⟩⟩
        by_cases h26 : v > 26
        · rw [if_neg (by omega), if_pos h26] at hR
          exact iteTd (decide_eq_true (by omega)) (q1 (lawP_none hR) H1 s1)
        · refine iteFd (decide_eq_false (by omega)) ⟨_, rfl, _, _, rfl, rfl, _, rfl, rfl, _, rfl, ?_⟩
          by_cases h0 : v = 0
          · subst h0
            rw [if_pos rfl] at hR
            have okn : okD (.str (K83.mk acc)) = true := okD_of (by rw [K83.mk_len]; omega) fun c hc => by
              rw [K83.tl_mk] at hc
              have := hsm c hc
              omega
            refine iteTd (by decide) ⟨_, rfl, _, _, rfl, .str _, okn, fun H2 s2 => ⟨_, rfl, ?_⟩⟩
            have eL := lawP_of (r := r) hR
            by_cases hN : isNm (.str (K83.mk acc)) = true
            · rw [show isPart r .x (.str (K83.mk acc)) = true from hN, if_pos rfl] at eL
              exact iteTd hN ⟨_, rfl, _, rfl, (by show 2 ≤ sizeLine; decide), fun p2 hp2 => q2 _ _ eL p2 _ _ (s1.free (s2.free hp2)) (s1.trans (s2.trans (Same.new hp2))) upd_same (.str _)⟩
            · rw [if_neg (show ¬ isPart r .x (.str (K83.mk acc)) = true from hN)] at eL
              exact iteFd (by simpa using hN) (q1 eL H2 (s1.trans s2))
          · rw [if_neg h0, if_neg h26] at hR
            have hcp : lettersS.cps[((v : Int) - 1).toNat]? = some (96 + v) := by
              have := letter_at (v - 1) (by omega)
              rw [show 97 + (v - 1) = 96 + v by omega] at this
              rw [show ((v : Int) - 1).toNat = v - 1 by omega]
              exact this
            refine iteFd (decide_eq_false fun h => h0 (by injection h with h; omega)) ?_
            refine ⟨_, rfl, _, rfl, _, _, rfl, rfl, lettersS, _, 96 + v, rfl, rfl, by omega, by omega, by rw [hll]; omega, hcp, _, _, rfl, rfl, ?_, ?_⟩
            · show (K83.mk acc).length + 1 ≤ sizeLine
              rw [mk_len]
              exact small5 (by omega)
            have happ : (K83.mk acc : Str) ++ ⟨#[96 + v]⟩ = K83.mk (acc ++ [96 + v]) := K83.mk_app acc [96 + v]
            rw [happ]
            refine ⟨acc ++ [96 + v], k + 5, _, _, rfl, s1, by rw [List.length_append, hal]; rfl, by omega, hle, fun c hc => ?_, ?_⟩
            · rcases List.mem_append.mp hc with hc | hc
              · exact hsm c hc
              · rw [List.mem_singleton.mp hc]
                omega
            · rw [hR, show (tl z).length + 1 - (i + 1) = (tl z).length - i by omega]
      · rw [digAt_none hle] at hR
        exact ⟨_, rfl, _, _, rfl, rfl, _, rfl, z, rfl, small5 (by omega), _, _, rfl, rfl, _, rfl, iteTd (decide_eq_true (by omega)) (q1 (lawP_none hR) H1 s1)⟩
    · rintro σ H1 ⟨acc, k, y4, y5, rfl, s1, hal, hk, hkl, hsm, hR⟩
      refine q1 ?_ H1 s1
      cases hq : namAt (tl z) ((tl z).length + 1 - 9) k acc with
      | none =>
        rw [hq] at hR
        exact lawP_none hR
      | some q =>
        obtain ⟨d, b⟩ := q
        obtain ⟨w, rfl, _⟩ := namAt_at hb _ k acc d b hq
        rw [hq] at hR
        rw [lawP_of hR, show isPart r .x (.str (K83.mk (acc ++ w))) = false from isNm_long (by rw [List.length_append]; omega)]
        rfl
end
end SA

set_option Elab.async false
set_option linter.all false
set_option maxRecDepth 100000
set_option maxHeartbeats 1000000
namespace K83
open PySem PySem.Spec
open K82 (L one tl IsB bval bdig enc dec zig zag)
theorem lawP_n (r : Nat) (l : L) (n : Nat) : lawP r l .n n = rdPart l .n n := by
  unfold lawP
  cases h : rdPart l .n n with
  | none => rfl
  | some q =>
    obtain ⟨d, b⟩ := q
    have h : (decAt l n).map (fun q => (PyData.int (zag q.1), q.2)) = some (d, b) := h
    obtain ⟨⟨v, k⟩, h1, h2⟩ := Option.map_eq_some_iff.mp h
    injection h2 with h2 h3
    have h2 : PyData.int (zag v) = d := h2
    rw [← h2]
    rfl
theorem lawP_k {r : Nat} {l : L} {n v : Nat} (h : digAt l n 2 = some (v, n + 2)) : lawP r l .k n = if v < 3 then some (.int (v : Nat), n + 2) else none := by
  have e : rdPart l .k n = some (.int (v : Nat), n + 2) := by
    show (digAt l n 2).map (fun q => (PyData.int (q.1 : Nat), q.2)) = _
    rw [h]
    rfl
  rw [lawP_of e]
  show (if decide ((0 : Int) ≤ (v : Nat) ∧ ((v : Nat) : Int) ≤ 2) = true then _ else _) = _
  by_cases h3 : v < 3
  · rw [if_pos h3, if_pos (decide_eq_true ⟨by omega, by omega⟩)]
  · rw [if_neg h3, if_neg (by rw [decide_eq_true_eq]; omega)]
end K83
namespace SA
open PySem PySem.Spec PyProof.Rows L2 K83
open K82 hiding mk tl_mk mk_tl mk_app
def splPartAt : Sp := fun vs H Q _ => ∃ (r : Nat) (z : Str) (n : Nat) (c : Lt), vs = [.str (sgL c), .int r, .str z, .int n] ∧ r ≤ 9 ∧ n ≤ z.length ∧ z.length ≤ 1200 ∧ IsB (tl z) ∧ RQ (lawP r (tl z) c n) H Q
section
variable {P : Program} {w0 : World} {K : PySem.W.Frag} {mg : Str → Option Value} {base : Heap}
theorem okl_part_at {f : Addr} {fd : FuncData} (F : Fun K "_law_part_at" "_law_part_at" s__law_part_at f fd) (B : Bn3 mg) (c__law_value : Dq P w0 K mg base CX0 1 "_law_value" ["bits"] splVal) (c__law_register_at : Dq P w0 K mg base CX0 2 "_law_register_at" ["registers", "bits", "at"] splRegAt)
    (c__law_copied_at : Dq P w0 K mg base CX0 3 "_law_copied_at" ["registers", "bits", "at"] (splAtR .c)) (c__law_signed_at : Dq P w0 K mg base CX0 3 "_law_signed_at" ["bits", "at"] spNumAt) (c__law_name_at : Dq P w0 K mg base CX0 2 "_law_name_at" ["bits", "at"] (splAtS .x))
    (c__law_some_at : Dq P w0 K mg base CX0 3 "_law_some_at" ["registers", "bits", "at"] (splAtR .P)) (c__law_leap_at : Dq P w0 K mg base CX0 2 "_law_leap_at" ["bits", "at"] (splAtS .l)) :
    FnOk P w0 K mg base CX0 4 f fd ["letter", "registers", "bits", "at"] splPartAt := by
  refine F.ok sc__law_part_at (fun vs H Q E h => ?_) (fun cdv A outer s H vs Q E hr h => ?_)
  · obtain ⟨r, z, n, c, rfl, _⟩ := h
    rfl
  · obtain ⟨r, z, n, c, rfl, h9, hn, hz, hb, q1, q2⟩ := h
    refine ⟨_, (pss_cons (ps_if (pt_cmpR op_eq (pv 0) pe_str (nomark _)) (pss_one (ps_ret (pe_q c__law_register_at hr (by decide) (by rfl) (pa_cons (pv 1) (pa_cons (pv 2) (pa_cons (pv 3) pa_nil)))))) pss_nil)
      (pss_cons (ps_if (pt_cmpR op_eq (pv 0) pe_str (nomark _)) (pss_one (ps_ret (pe_q c__law_copied_at hr (by decide) (by rfl) (pa_cons (pv 1) (pa_cons (pv 2) (pa_cons (pv 3) pa_nil)))))) pss_nil)
      (pss_cons (ps_if (pt_cmpR op_eq (pv 0) pe_str (nomark _)) (pss_one (ps_ret (pe_q c__law_signed_at hr (by decide) (by rfl) (pa_cons (pv 2) (pa_cons (pv 3) pa_nil))))) pss_nil)
      (pss_cons (ps_if (pt_cmpR op_eq (pv 0) pe_str (nomark _)) (pss_one (ps_ret (pe_q c__law_name_at hr (by decide) (by rfl) (pa_cons (pv 2) (pa_cons (pv 3) pa_nil))))) pss_nil)
      (pss_cons (ps_if (pt_cmpR op_eq (pv 0) pe_str (nomark _)) (pss_one (ps_ret (pe_q c__law_some_at hr (by decide) (by rfl) (pa_cons (pv 1) (pa_cons (pv 2) (pa_cons (pv 3) pa_nil)))))) pss_nil)
      (pss_cons (ps_if (pt_cmpR op_eq (pv 0) pe_str (nomark _)) (pss_one (ps_ret (pe_q c__law_leap_at hr (by decide) (by rfl) (pa_cons (pv 2) (pa_cons (pv 3) pa_nil))))) pss_nil)
      (pss_cons (ps_set (i := 4) sc__law_part_at.nd rfl (Or.inl rfl) (pe_q c__law_value hr (by decide) (by rfl) (pa_cons (pe_slice sl_str (pv 2) (po_some (pv 3)) (po_some (pe_op op_add (pv 3) pe_int))) pa_nil)))
      (pss_one (ps_ret (pe_ifExp (PW.pt (pw_and (pt_cmpR op_le (pe_op op_add (pv 3) pe_int) (pe_callB call_len_str (by rfl) B.len PySem.boot_len (pa_cons (pv 2) pa_nil)) (nomark _)) (pw_and1 (pt_cmpR op_lt (pv 4) pe_int (nomark _))))) (pe_tup (pa_cons (pv 4) (pa_cons (pe_op op_add (pv 3) pe_int) pa_nil))) pe_non)))))))))), ?_⟩
    have hzl : z.length = (tl z).length := rfl
    cases c with
    | p => exact ⟨_, rfl, rfl, _, rfl, iteTd (by decide +kernel) ⟨_, rfl, _, rfl, _, rfl, r, z, n, rfl, h9, hz, hb, q1, q2⟩⟩
    | c => exact ⟨_, rfl, rfl, _, rfl, iteFd (by decide +kernel) ⟨_, rfl, rfl, _, rfl, iteTd (by decide +kernel) ⟨_, rfl, _, rfl, _, rfl, r, z, n, rfl, h9, hn, hz, hb, q1, q2⟩⟩⟩
    | n =>
      rw [lawP_n] at q1 q2
      exact ⟨_, rfl, rfl, _, rfl, iteFd (by decide +kernel) ⟨_, rfl, rfl, _, rfl, iteFd (by decide +kernel) ⟨_, rfl, rfl, _, rfl, iteTd (by decide +kernel) ⟨_, rfl, _, rfl, num_imp (E := E) ⟨z, n, rfl, hn, hz, hb, q1, q2⟩⟩⟩⟩⟩
    | x => exact ⟨_, rfl, rfl, _, rfl, iteFd (by decide +kernel) ⟨_, rfl, rfl, _, rfl, iteFd (by decide +kernel) ⟨_, rfl, rfl, _, rfl, iteFd (by decide +kernel) ⟨_, rfl, rfl, _, rfl, iteTd (by decide +kernel) ⟨_, rfl, _, rfl, r, z, n, rfl, hn, hz, hb, q1, q2⟩⟩⟩⟩⟩
    | P => exact ⟨_, rfl, rfl, _, rfl, iteFd (by decide +kernel) ⟨_, rfl, rfl, _, rfl, iteFd (by decide +kernel) ⟨_, rfl, rfl, _, rfl, iteFd (by decide +kernel) ⟨_, rfl, rfl, _, rfl, iteFd (by decide +kernel) ⟨_, rfl, rfl, _, rfl, iteTd (by decide +kernel) ⟨_, rfl, _, rfl, _, rfl, r, z, n, rfl, h9, hn, hz, hb, q1, q2⟩⟩⟩⟩⟩⟩
    | l => exact ⟨_, rfl, rfl, _, rfl, iteFd (by decide +kernel) ⟨_, rfl, rfl, _, rfl, iteFd (by decide +kernel) ⟨_, rfl, rfl, _, rfl, iteFd (by decide +kernel) ⟨_, rfl, rfl, _, rfl, iteFd (by decide +kernel) ⟨_, rfl, rfl, _, rfl, iteFd (by decide +kernel) ⟨_, rfl, rfl, _, rfl, iteTd (by decide +kernel) ⟨_, rfl, _, rfl, r, z, n, rfl, hn, hz, hb, q1, q2⟩⟩⟩⟩⟩⟩⟩
    | k =>
      refine ⟨_, rfl, rfl, _, rfl, iteFd (by decide +kernel) ⟨_, rfl, rfl, _, rfl, iteFd (by decide +kernel) ⟨_, rfl, rfl, _, rfl, iteFd (by decide +kernel) ⟨_, rfl, rfl, _, rfl, iteFd (by decide +kernel) ⟨_, rfl, rfl, _, rfl, iteFd (by decide +kernel) ⟨_, rfl, rfl, _, rfl, iteFd (by decide +kernel) ?_⟩⟩⟩⟩⟩⟩
      refine ⟨_, rfl, _, rfl, _, rfl, _, rfl, _, _, rfl, rfl, _, rfl, z, rfl, small5 (by omega), ?_⟩
      rw [show L2.cutS z (some ((n : Nat) : Int)) (some (((n : Nat) : Int) + 2)) = K83.mk (((tl z).drop n).take 2) from by
        rw [show ((n : Nat) : Int) + 2 = ((n + 2 : Nat) : Int) from by omega, K82.cutS_nn, Nat.add_sub_cancel_left]]
      refine ⟨_, rfl, by rw [K83.mk_len, List.length_take]; omega, by rw [K83.tl_mk]; exact isB_cut hb n 2, ?_⟩
      rw [K83.tl_mk]
      by_cases hle : n + 2 ≤ (tl z).length
      · have e := digAt_some hle
        generalize bval (((tl z).drop n).take 2) = v at e ⊢
        have eL := lawP_k (r := r) e
        refine ⟨_, rfl, _, _, rfl, rfl, _, rfl, z, rfl, small5 (by omega), _, _, rfl, rfl, _, rfl, iteTd (decide_eq_true (by omega)) ⟨_, rfl, _, _, rfl, rfl, _, rfl, ?_⟩⟩
        by_cases h3 : v < 3
        · rw [if_pos h3] at eL
          exact iteTd (decide_eq_true (by omega)) ⟨_, rfl, _, rfl, _, _, rfl, rfl, (by show 2 ≤ sizeLine; decide), fun p hp => q2 _ _ eL p _ _ hp (Same.new hp) upd_same (.int _)⟩
        · rw [if_neg h3] at eL
          exact iteFd (decide_eq_false (by omega)) (q1 eL H (Same.refl H))
      · have eL := lawP_none (r := r) (l := tl z) (c := .k) (n := n) (by
          show (digAt (tl z) n 2).map (fun q => (PyData.int (q.1 : Nat), q.2)) = none
          rw [digAt_none hle]
          rfl)
        exact ⟨_, rfl, _, _, rfl, rfl, _, rfl, z, rfl, small5 (by omega), _, _, rfl, rfl, _, rfl, iteFd (decide_eq_false (by omega)) (q1 eL H (Same.refl H))⟩
end
end SA

set_option Elab.async false
set_option linter.all false
set_option maxRecDepth 100000
set_option maxHeartbeats 1000000
namespace K83
open PySem PySem.Spec
open K82 (L one tl IsB bval bdig enc dec zig zag)
def WordsAt (l : L) (n : Nat) (ws : List Str) : Prop := (∃ v w ls, digAt l n 5 = some (v, n + 5) ∧ tab[v]? = some (w, ls) ∧ ws = [w]) ∨ (ws = [] ∧ ∀ r, rdI r l n = none)
def prW (l : L) (n : Nat) (w : Str) : Bool := decide (L2.V.str (mk (bdig 5 (wix w))) = L2.V.str (mk ((l.drop n).take 5)))
theorem bdig_inj {a b k : Nat} (ha : a < 2 ^ k) (hb : b < 2 ^ k) (h : bdig k a = bdig k b) : a = b := by
  rw [← K82.bval_bdig k a ha, ← K82.bval_bdig k b hb, h]
theorem prW_iff {l : L} {n : Nat} {w : Str} : prW l n w = true ↔ bdig 5 (wix w) = (l.drop n).take 5 := by
  unfold prW
  rw [decide_eq_true_eq]
  constructor
  · intro h
    injection h with h
    have := congrArg tl h
    rwa [tl_mk, tl_mk] at this
  · intro h
    rw [h]
theorem shp_once : ∀ q ∈ tab, (shp.map (·.1)).count q.1 = 1 := by decide +kernel
theorem words_of {l : L} {n : Nat} (hb : IsB l) {ys : List Str} (hp : ys.Perm (shp.map (·.1))) : WordsAt l n (ys.filter (prW l n)) := by
  have inT : ∀ w ∈ ys, ∃ ls, (w, ls) ∈ tab := fun w hw => tab_of_shp (hp.mem_iff.mp hw)
  by_cases hle : n + 5 ≤ l.length
  · have e := digAt_some hle
    have hv := (digAt_lt hb e).1
    have ht : bdig 5 (bval ((l.drop n).take 5)) = (l.drop n).take 5 := bdig_bval 5 _ (isB_cut hb n 5) (by rw [List.length_take, List.length_drop]; omega)
    generalize hbv : bval ((l.drop n).take 5) = v at e hv ht
    have pv : ∀ w ∈ ys, (prW l n w = true ↔ wix w = v) := fun w hw => by
      obtain ⟨ls, hm⟩ := inT w hw
      obtain ⟨_, t2, _⟩ := tab_ix _ hm
      rw [prW_iff, ← ht]
      exact ⟨fun h => bdig_inj t2 hv h, fun h => by rw [h]⟩
    cases htv : tab[v]? with
    | none =>
      refine .inr ⟨?_, fun r => rdI_none2 e htv⟩
      rw [List.filter_eq_nil_iff]
      intro w hw hpw
      obtain ⟨ls, hm⟩ := inT w hw
      obtain ⟨t1, _, _⟩ := tab_ix _ hm
      rw [(pv w hw).mp hpw, htv] at t1
      cases t1
    | some q =>
      obtain ⟨w, ls⟩ := q
      have hm := List.mem_of_getElem? htv
      refine .inl ⟨v, w, ls, e, htv, ?_⟩
      have hx := tab_wix v (by
        have := (List.getElem?_eq_some_iff.mp htv).1
        rw [tab_len] at this
        exact this) _ htv
      have hx : wix w = v := hx
      have e2 : ys.filter (prW l n) = ys.filter (· == w) := by
        refine List.filter_congr fun x hxm => ?_
        rw [Bool.eq_iff_iff, pv x hxm, beq_iff_eq]
        constructor
        · intro h
          obtain ⟨ls2, hm2⟩ := inT x hxm
          obtain ⟨t1, _, _⟩ := tab_ix _ hm2
          rw [h, htv] at t1
          injection t1 with t1
          injection t1 with t1 _
          exact t1.symm
        · intro h
          rw [h, hx]
      rw [e2, List.filter_beq, hp.count_eq, shp_once _ hm]
      rfl
  · refine .inr ⟨?_, fun r => rdI_none1 (digAt_none hle)⟩
    rw [List.filter_eq_nil_iff]
    intro w hw hpw
    have := congrArg List.length (prW_iff.mp hpw)
    rw [K82.bdig_len, List.length_take, List.length_drop] at this
    omega
end K83

set_option Elab.async false
set_option linter.all false
set_option maxRecDepth 100000
set_option maxHeartbeats 1000000
namespace K83
open PySem PySem.Spec
open K82 (L one tl IsB bval bdig enc dec zig zag)
theorem lawP_rd {r : Nat} {l : L} {c : Lt} {n b : Nat} {d : D} (h : lawP r l c n = some (d, b)) : rdPart l c n = some (d, b) ∧ isPart r c d = true := by
  unfold lawP at h
  obtain ⟨⟨d', b'⟩, h1, h2⟩ := Option.bind_eq_some_iff.mp h
  have h2 : (if isPart r c d' = true then some (d', b') else none) = some (d, b) := h2
  split at h2
  · rename_i hp
    injection h2 with h2
    injection h2 with h2 h3
    subst h2 h3
    exact ⟨h1, hp⟩
  · cases h2
theorem lawI_bad {r : Nat} {l : L} {n v : Nat} {w : Str} {ls : List Lt} (h1 : digAt l n 5 = some (v, n + 5)) (h2 : tab[v]? = some (w, ls)) (h3 : lawPs r l ls (n + 5) = none) : rdI r l n = none := by
  rw [← lawI_eq]
  unfold lawI
  rw [h1]
  show (match tab[v]? with | none => none | some (w, ls) => (lawPs r l ls (n + 5)).bind fun t => if (decide (w = "copy") && t.1.all isSlot) = true then none else some (PyData.tuple (.str w :: t.1), t.2)) = none
  rw [h2]
  show (lawPs r l ls (n + 5)).bind _ = none
  rw [h3]
  rfl
theorem lawI_good {r : Nat} {l : L} {n v k : Nat} {w : Str} {ls : List Lt} {ps : List D} (h1 : digAt l n 5 = some (v, n + 5)) (h2 : tab[v]? = some (w, ls)) (h3 : lawPs r l ls (n + 5) = some (ps, k)) :
    rdI r l n = if (decide (w = "copy") && ps.all isSlot) = true then none else some (.tuple (.str w :: ps), k) := by
  rw [← lawI_eq]
  unfold lawI
  rw [h1]
  show (match tab[v]? with | none => none | some (w, ls) => (lawPs r l ls (n + 5)).bind fun t => if (decide (w = "copy") && t.1.all isSlot) = true then none else some (PyData.tuple (.str w :: t.1), t.2)) = _
  rw [h2]
  show (lawPs r l ls (n + 5)).bind _ = _
  rw [h3]
  rfl
theorem cop_head {r : Nat} {d : D} (h : (isSlot d || isReg r d) = true) : ∃ z ch rest, d = .str z ∧ tl z = ch :: rest ∧ isSlot d = decide (ch = 115) := by
  by_cases hs : isSlot d = true
  · obtain ⟨z, f, rfl, e, _⟩ := isSlot_ex hs
    exact ⟨z, 115, f, rfl, e, hs⟩
  · have hr : isReg r d = true := by
      rw [Bool.or_eq_true] at h
      exact h.resolve_left hs
    obtain ⟨z, a, rfl, _, _, e⟩ := isReg_ex hr
    refine ⟨z, 114, _, rfl, e, ?_⟩
    rw [show isSlot (.str z) = false by simpa using hs]
    rfl
theorem lawPs_len {r : Nat} {l : L} : ∀ (cs : List Lt) (n k : Nat) (ps : List D), lawPs r l cs n = some (ps, k) → arePs r cs ps = true
  | [], n, k, ps, h => by
    injection h with h
    injection h with h1 h2
    subst h1
    rfl
  | c :: cs, n, k, ps, h => by
    have h : (lawP r l c n).bind (fun q => (lawPs r l cs q.2).map fun t => (q.1 :: t.1, t.2)) = some (ps, k) := h
    obtain ⟨⟨d, b⟩, h1, h2⟩ := Option.bind_eq_some_iff.mp h
    obtain ⟨⟨ds, e'⟩, h3, h4⟩ := Option.map_eq_some_iff.mp h2
    injection h4 with h4 h5
    have h4 : d :: ds = ps := h4
    subst h4
    show (isPart r c d && arePs r cs ds) = true
    rw [(lawP_rd h1).2, lawPs_len cs b e' ds h3]
    rfl
end K83
namespace SA
open PySem PySem.Spec PyProof.Rows L2 K83
open K82 hiding mk tl_mk mk_tl mk_app
def splOneAt : Sp := fun vs H Q _ => ∃ (r : Nat) (z : Str) (n : Nat), vs = [.int r, .str z, .int n] ∧ r ≤ 9 ∧ n ≤ z.length ∧ z.length ≤ 1200 ∧ IsB (tl z) ∧ RQ (rdI r (tl z) n) H Q
section
variable {P : Program} {w0 : World} {K : PySem.W.Frag} {mg : Str → Option Value} {base : Heap}
theorem okl_one_at {f : Addr} {fd : FuncData} (F : Fun K "_law_one_at" "_law_one_at" s__law_one_at f fd) (B : Bn3 mg) (c__law_shapes : Dq P w0 K mg base CX0 1 "_law_shapes" [] splShapes) (c__law_first : Dq P w0 K mg base CX0 2 "_law_first" ["word"] splFirst)
    (c__law_part_at : Dq P w0 K mg base CX0 4 "_law_part_at" ["letter", "registers", "bits", "at"] splPartAt) : FnOk P w0 K mg base CX0 5 f fd ["registers", "bits", "at"] splOneAt := by
  refine F.ok sc__law_one_at (fun vs H Q E h => ?_) (fun cdv A outer s H vs Q E hr h => ?_)
  · obtain ⟨r, z, n, rfl, _⟩ := h
    rfl
  · obtain ⟨r, z, n, rfl, h9, hn, hz, hb, q1, q2⟩ := h
    refine ⟨_, (Evl.pss_cut (ps_setLc (i := 3) (own := [("word", 8)]) (g := (gName 8)) (tt := _) (by rfl) sc__law_one_at.nd rfl rfl (sw_true rfl rfl rfl (by decide +kernel)) (pi_list (pe_callB (call_sortedD rfl) (by rfl) B.sorted (by decide +kernel) (pa_cons (pe_q0 c__law_shapes hr (by decide) (by rfl) pass0) pa_nil))) (blkOk_by (N := n__law_one_at) (sc := defScope s__law_one_at) (by decide +kernel)) (fun _ _ _ _ _ => (pg_name (i := 8) sc__law_one_at.nd rfl (Or.inl rfl))) (fun _ _ _ _ _ => (pts_one (pt_cmpR op_eq (pe_q c__law_first hr (by decide) (by rfl) (pa_cons (pv 8) pa_nil)) (pe_slice sl_str (pv 1) (po_some (pv 2)) (po_some (pe_op op_add (pv 2) pe_int))) (nomark _)))) (fun _ _ _ _ _ => (pv 8)))
      (pss_cons (ps_if (pt_cmpR (op_eq_nilL hr.units) (pv 3) (pe_lst pa_nil) (nomark _)) (pss_one (ps_ret pe_non)) pss_nil)
      (pss_cons (ps_par (i := 4) (j := 5) rfl sc__law_one_at.nd rfl rfl (by decide) rfl rfl (pa_cons (pe_lst (pa_cons (pe_ix ix_list (pv 3) pe_int (fun _ _ => rfl)) pa_nil)) (pa_cons (pe_op op_add (pv 2) pe_int) pa_nil)) rfl)
      (Evl.pss_cut (ps_for PassesOwn.never rfl (pi_str (pe_dget (hu_of hr) (pe_q0 c__law_shapes hr (by decide) (by rfl) pass0) (pe_ix ix_list (pv 3) pe_int (fun _ _ => rfl)) (fun _ _ => rfl))) (pg_name (i := 6) sc__law_one_at.nd rfl (Or.inl rfl)) (pss_cons (ps_set (i := 7) sc__law_one_at.nd rfl (Or.inl rfl) (pe_q c__law_part_at hr (by decide) (by rfl) (pa_cons (pv 6) (pa_cons (pv 0) (pa_cons (pv 1) (pa_cons (pv 5) pa_nil))))))
      (pss_cons (ps_if (pt_cmpR op_isN (pv 7) pe_non (nomark _)) (pss_one (ps_ret pe_non)) pss_nil)
      (pss_cons (ps_expr (pe_bm PySem.F.plainAttrs_list PySem.F.slot_list_append PySem.F.type_list_append mt_append (pv 4) (pa_cons (pe_ix ix_tup (pv 7) pe_int (fun _ _ => rfl)) pa_nil)))
      (pss_one (ps_set (i := 5) sc__law_one_at.nd rfl (Or.inl rfl) (pe_ix ix_tup (pv 7) pe_int (fun _ _ => rfl))))))))
      (Evl.pss_cut (ps_if (PW.pt (pw_and (pt_cmpR op_eq (pe_ix ix_list (pv 3) pe_int (fun _ _ => rfl)) pe_str (nomark _)) (pw_and (pt_cmpR op_eq (pe_item_str (pe_ix ix_list (pv 4) pe_int (fun _ _ => rfl)) pe_int (fun _ _ => rfl)) pe_str (nomark _)) (pw_and1 (pt_cmpR op_eq (pe_item_str (pe_ix ix_list (pv 4) pe_int (fun _ _ => rfl)) pe_int (fun _ _ => rfl)) pe_str (nomark _)))))) (pss_one (ps_ret pe_non)) pss_nil)
      (pss_one (ps_ret (pe_tup (pa_cons (pe_callTy call_tuple_of (by rfl) B.tuple (by decide +kernel) (pa_cons (pv 4) pa_nil)) (pa_cons (pv 5) pa_nil)))))))))), ?_⟩
    have hzl : z.length = (tl z).length := rfl
    have hcut : L2.cutS z (some ((n : Nat) : Int)) (some (((n : Nat) : Int) + 5)) = K83.mk (((tl z).drop n).take 5) := by
      rw [show ((n : Nat) : Int) + 5 = ((n + 5 : Nat) : Int) from by omega, K82.cutS_nn, Nat.add_sub_cancel_left]
    refine ⟨fun σ H1 => ∃ (W : Addr) (ws : List Str), σ = [some (.int (r : Nat)), some (.str z), some (.int (n : Nat)), some (.ref W), none, none, none, none, none] ∧ Same H H1 ∧ H1 W = some (.lst (ws.map V.str)) ∧ WordsAt (tl z) n ws, ?_, ?_⟩
    · refine ⟨rfl, fun p H1 hp s1 e1 => ⟨p, kvS shp, shp.map (·.1), rfl, .of e1, shp_ks, by decide +kernel, fun ys l hpm hs hl => ?_⟩⟩
      have s2 := s1.trans (Same.new hl (o := .lst (ys.map V.str)))
      have el : (upd H1 l (.lst (ys.map V.str))) l = some (.lst (ys.map V.str)) := upd_same
      generalize upd H1 l (.lst (ys.map V.str)) = H2 at s2 el ⊢
      refine ⟨l, rfl, ⟨_, SqL.of el⟩, fun W hW => lc_list (K := K) (a := l) (xs := ys.map V.str) (fun i H' => Same H2 H' ∧ H' W = some (.lst (((ys.take i).filter (prW (tl z) n)).map V.str))) ⟨Same.new hW, by rw [upd_same]; rfl⟩ (fun i H' _ h => SqL.of (h.1 _ _ el)) ?_ ?_⟩
      · rintro i x H3 hx ⟨s3, e3⟩
        rw [List.getElem?_map] at hx
        obtain ⟨w, hw, rfl⟩ := Option.map_eq_some_iff.mp hx
        obtain ⟨ls, hm⟩ := tab_of_shp (hpm.mem_iff.mp (List.mem_of_getElem? hw))
        refine ⟨rfl, _, rfl, w, ls, rfl, hm, fun H4 s4 => ?_⟩
        refine ⟨_, rfl, _, rfl, _, rfl, _, rfl, _, _, rfl, rfl, _, rfl, z, rfl, small5 (by omega), rfl, _, rfl, ?_⟩
        rw [hcut]
        have hi : i < ys.length := (List.getElem?_eq_some_iff.mp hw).1
        have hyl : ys.length = 26 := hpm.length_eq.trans (by decide +kernel)
        have e4 : (ys.take (i + 1)).filter (prW (tl z) n) = (ys.take i).filter (prW (tl z) n) ++ if prW (tl z) n w = true then [w] else [] := by
          rw [List.take_add_one, hw, List.filter_append]
          congr 1
          show List.filter _ [w] = _
          by_cases hp : prW (tl z) n w = true
          · rw [List.filter_cons_of_pos hp, if_pos hp]
            rfl
          · rw [List.filter_cons_of_neg hp, if_neg hp]
            rfl
        refine ite2 (fun h => ?_) (fun h => ?_)
        · refine ⟨_, rfl, _, s4 _ _ e3, ?_, Same.upd' (s3.trans s4) hW, ?_⟩
          · rw [List.length_map]
            have := List.length_filter_le (prW (tl z) n) (ys.take i)
            rw [List.length_take] at this
            exact small1000 (by omega)
          · rw [upd_same, e4, if_pos (show prW (tl z) n w = true from h), List.map_append]
            rfl
        · refine ⟨s3.trans s4, ?_⟩
          rw [e4, if_neg (show ¬ prW (tl z) n w = true from h), List.append_nil]
          exact s4 _ _ e3
      · rintro H3 ⟨s3, e3⟩
        rw [List.length_map, List.take_length] at e3
        exact ⟨W, _, rfl, s2.trans s3, e3, words_of hb hpm⟩
    rintro σ H1 ⟨W, ws, rfl, s1, eW, hws⟩
    rcases hws.symm with ⟨rfl, hno⟩ | ⟨v, w, ls, hd, ht, rfl⟩
    · exact ⟨_, rfl, (by show 0 ≤ sizeLine; exact Nat.zero_le _), fun q hq => ⟨W, q, _, rfl, rfl, SqL.of ((Same.new hq) _ _ eW), SqL.of upd_same, _, rfl, iteTd rfl (q1 (hno r) _ (s1.trans (Same.new hq)))⟩⟩
    refine ⟨_, rfl, (by show 0 ≤ sizeLine; exact Nat.zero_le _), fun q hq => ⟨W, q, _, rfl, rfl, SqL.of ((Same.new hq) _ _ eW), SqL.of upd_same, _, rfl, iteFd rfl ?_⟩⟩
    have s2 := s1.trans (Same.new hq (o := .lst []))
    have eW2 := (Same.new hq (o := .lst [])) _ _ eW
    generalize upd H1 q (.lst []) = H2 at s2 eW2 ⊢
    refine ⟨_, rfl, W, _, 0, .str w, rfl, rfl, SqL.of eW2, at0 _ _, (by show 1 ≤ sizeLine; decide), fun L hL => ⟨_, rfl, _, _, rfl, rfl, _, _, rfl, ?_⟩⟩
    have s3 := s2.trans (Same.new hL (o := .lst [.str w]))
    have eW3 := (Same.new hL (o := .lst [.str w])) _ _ eW2
    have eL3 : (upd H2 L (.lst [.str w])) L = some (.lst [.str w]) := upd_same
    have nWL : W ≠ L := ne_of_none eW2 hL
    have hLH : H L = none := s2.free hL
    generalize upd H2 L (.lst [.str w]) = H3 at s3 eW3 eL3 ⊢
    have hm := List.mem_of_getElem? ht
    have hd5 : n + 5 ≤ (tl z).length := digAt_le hd
    refine ⟨fun σ H' => ∃ (xs : List V) (ps : List PyData) (k : Nat) (y6 y7 : Option V), σ = [some (.int (r : Nat)), some (.str z), some (.int (n : Nat)), some (.ref W), some (.ref L), some (.int (k : Nat)), y6, y7, none] ∧ Same H H' ∧ H' W = some (.lst [.str w]) ∧ H' L = some (.lst (.str w :: xs)) ∧ DnAll (fun a => a ≠ L) H' xs ps ∧ lawPs r (tl z) ls (n + 5) = some (ps, k), ?_, ?_⟩
    · refine ⟨rfl, fun p H4 hp s4 e4 => ?_⟩
      have dg : DGet H4 p (.str w) (some (.str (shapeL ls))) := shp_tab (w, ls) hm ▸ DGet.k (k := Sum.inr w) e4
      refine ⟨_, rfl, W, _, 0, .str w, rfl, rfl, SqL.of (s4 _ _ eW3), at0 _ _, p, _, rfl, dg, shapeL ls, rfl, ?_⟩
      have hsz : (shapeL ls).cps.size = ls.length := shapeL_len ls
      refine for_it walk_str (fun i σ H' => ∃ (xs : List V) (ps : List PyData) (k : Nat) (y6 y7 : Option V), σ = [some (.int (r : Nat)), some (.str z), some (.int (n : Nat)), some (.ref W), some (.ref L), some (.int (k : Nat)), y6, y7, none] ∧ Same H H' ∧ H' W = some (.lst [.str w]) ∧ H' L = some (.lst (.str w :: xs)) ∧ DnAll (fun a => a ≠ L) H' xs ps ∧ xs.length = i ∧ k ≤ (tl z).length ∧ lawPs r (tl z) (ls.take i) (n + 5) = some (ps, k))
        ⟨[], [], n + 5, none, none, rfl, s3.trans s4, s4 _ _ eW3, s4 _ _ eL3, .nil, rfl, hd5, rfl⟩ (fun _ _ _ _ _ => trivial) ?_ ?_
      · rintro i x σ H5 H' hi ⟨xs, ps, k, y6, y7, rfl, s5, eW5, eL5, dn, hxl, hkl, hps⟩ ⟨rfl, ch, hch, rfl⟩
        obtain ⟨cl, hcl, rfl⟩ := shapeL_at hch
        obtain ⟨st1, st2⟩ := lawPs_step hcl hps
        refine ⟨_, rfl, _, rfl, _, rfl, _, rfl, r, z, k, cl, rfl, h9, hkl, hz, hb, fun en H6 s6 => ?_, fun d b es p6 x H6 hp6 s6 e6 hd6 => ?_⟩
        · exact ⟨_, rfl, rfl, _, rfl, iteTd rfl (q1 (lawI_bad hd ht (st1 en)) H6 (s5.trans s6))⟩
        · obtain ⟨rd, _⟩ := lawP_rd es
          have eL6 := s6 _ _ eL5
          have npL : p6 ≠ L := fun h => by rw [h] at hp6; rw [hp6] at eL5; cases eL5
          have kp : ∀ c o, c ≠ L → H6 c = some o → upd H6 L (.lst ((.str w :: xs) ++ [x])) c = some o := fun c o hc e => by rw [upd_ne hc]; exact e
          refine ⟨_, rfl, rfl, _, rfl, iteFd rfl ⟨_, rfl, .inl ⟨rfl, _, SqL.of eL6⟩, _, rfl, p6, _, 0, _, rfl, rfl, SqT.of e6, at0 _ _, L, .str w :: xs, x, rfl, rfl, eL6, ?_, _, rfl, p6, _, 1, _, rfl, rfl, SqT.of (kp _ _ npL e6), rfl, ?_⟩⟩
          · rw [List.length_cons, hxl]
            have h4 : ls.length ≤ 4 := (tab_copy _ hm).2.2
            have hil : i < ls.length := (List.getElem?_eq_some_iff.mp hcl).1
            exact small20 (by show i + 1 ≤ 20; omega)
          · refine ⟨xs ++ [x], ps ++ [d], b, _, _, rfl, Same.upd' (s5.trans s6) hLH, kp _ _ nWL (s6 _ _ eW5), upd_same, ?_, by rw [List.length_append, hxl]; rfl, rdPart_le hkl rd, st2 _ _ es⟩
            exact DnAll.app ((dn.same s6).keep kp fun _ h => h) (.cons (hd6.offL (rdPart_flat rd) eL6 kp) .nil)
      · rintro σ H5 ⟨xs, ps, k, y6, y7, rfl, s5, eW5, eL5, dn, hxl, hkl, hps⟩
        rw [hsz, List.take_length] at hps
        exact ⟨xs, ps, k, y6, y7, rfl, s5, eW5, eL5, dn, hps⟩
    rintro σ H4 ⟨xs, ps, k, y6, y7, rfl, s4, eW4, eL4, dn, hps⟩
    have hR := lawI_good hd ht hps
    refine ⟨fun σ H' => H' = H4 ∧ rdI r (tl z) n = some (.tuple (.str w :: ps), k) ∧ σ = [some (.int (r : Nat)), some (.str z), some (.int (n : Nat)), some (.ref W), some (.ref L), some (.int (k : Nat)), y6, y7, none], ?_, ?_⟩
    · refine ⟨_, rfl, W, _, 0, .str w, rfl, rfl, SqL.of eW4, at0 _ _, rfl, _, rfl, ?_⟩
      by_cases hw : w = "copy"
      · subst hw
        have hls : ls = [.c, .c] := (tab_copy _ hm).1 rfl
        subst hls
        have hap := lawPs_len _ _ _ _ hps
        obtain ⟨hl2, hall⟩ := arePs_all r _ _ hap
        match ps, hl2, hall, hR, dn with
        | [d1, d2], _, hall, hR, dn =>
        have c1 : (isSlot d1 || isReg r d1) = true := hall (d1, .c) (by simp)
        have c2 : (isSlot d2 || isReg r d2) = true := hall (d2, .c) (by simp)
        obtain ⟨z1, ch1, r1, rfl, t1, i1⟩ := cop_head c1
        obtain ⟨z2, ch2, r2, rfl, t2, i2⟩ := cop_head c2
        match xs, dn with
        | [x1, x2], .cons h1 (.cons h2 .nil) =>
        obtain rfl : x1 = .str z1 := by cases h1; rfl
        obtain rfl : x2 = .str z2 := by cases h2; rfl
        have hd0 : ∀ {zz : Str} {c : Nat} {rr : List Nat}, tl zz = c :: rr → zz.cps[(0 : Int).toNat]? = some c ∧ (0 : Int) < zz.length := fun {zz c rr} h => by
          have e : zz.cps.toList[0]? = some c := by
            show (tl zz)[0]? = _
            rw [h]
            rfl
          refine ⟨by simpa using e, ?_⟩
          have : zz.length = (tl zz).length := rfl
          rw [this, h, List.length_cons]
          omega
        have dS : ∀ c : Nat, decide (V.str (⟨#[c]⟩ : Str) = V.str "s") = decide (c = 115) := fun c => by
          rw [decide_eq_decide, K83.ss]
          constructor
          · intro h
            injection h with h
            have := congrArg tl h
            have : [c] = [115] := this
            injection this
          · intro h
            rw [h]
        have hR : rdI r (tl z) n = if (isSlot (.str z1) && (isSlot (.str z2) && true)) = true then none else some (.tuple [.str "copy", .str z1, .str z2], k) := hR
        refine iteTd (by decide) ⟨_, rfl, L, _, 1, .str z1, rfl, rfl, SqL.of eL4, rfl, z1, 0, ch1, rfl, rfl, by decide, by decide, (hd0 t1).2, (hd0 t1).1, rfl, _, rfl, ?_⟩
        rw [dS, ← i1]
        cases hs1 : isSlot (.str z1) with
        | false =>
          rw [hs1] at hR
          exact iteFd rfl ⟨rfl, hR, rfl⟩
        | true =>
          refine iteTd rfl ⟨_, rfl, L, _, 2, .str z2, rfl, rfl, SqL.of eL4, rfl, z2, 0, ch2, rfl, rfl, by decide, by decide, (hd0 t2).2, (hd0 t2).1, rfl, _, rfl, ?_⟩
          rw [dS, ← i2]
          rw [hs1] at hR
          cases hs2 : isSlot (.str z2) with
          | false =>
            rw [hs2] at hR
            exact iteFd rfl ⟨rfl, hR, rfl⟩
          | true =>
            rw [hs2] at hR
            exact iteTd rfl (q1 hR H4 s4)
      · rw [decide_eq_false hw, Bool.false_and] at hR
        exact iteFd (decide_eq_false fun h => hw (V.str.inj h)) ⟨rfl, hR, rfl⟩
    rintro σ H5 ⟨rfl, hR, rfl⟩
    refine ⟨_, rfl, L, _, rfl, .inl ⟨SqL.of eL4, fun p2 hp2 => ⟨_, rfl, (by show 2 ≤ sizeLine; decide), fun p3 hp3 => ?_⟩⟩⟩
    have n23 : p2 ≠ p3 := ne_of_none upd_same hp3
    refine q2 _ _ hR p3 (.ref p2) _ (s4.free ((Same.new hp2).free hp3)) (s4.trans ((Same.new hp2).trans (Same.new hp3))) upd_same ?_
    exact .tup trivial (by rw [upd_ne n23, upd_same]) (.cons (.str w) (((dn.same (Same.new hp2)).same (Same.new hp3)).any))
end
end SA

set_option Elab.async false
set_option linter.all false
set_option maxRecDepth 100000
set_option maxHeartbeats 1000000
namespace SA
open PySem PySem.Spec PyProof.Rows L2 K83
open K82 hiding mk tl_mk mk_tl mk_app
def OutQ (o : Except Nat (List (Nat × PyData))) (H : Hp) (Q : VK) : Prop := (∀ ds, o = .ok ds → ∀ (p L : Addr) (xs : List V) (H' : Hp), Same H H' → H' p = some (.tup [.str "value", .ref L]) → H' L = some (.lst xs) → DnAll anyA H' xs (ds.map itD) → Q (.ref p) H') ∧
  ∀ a, o = .error a → ∀ (p : Addr) (H' : Hp), Same H H' → H' p = some (.tup [.str "BadBits", .int (a : Nat)]) → Q (.ref p) H'
def splDue : Sp := fun vs H Q _ => ∃ (r : Nat) (z : Str), vs = [.int r, .str z] ∧ r ≤ 9 ∧ z.length ≤ 1000 ∧ IsB (tl z) ∧ OutQ (rdB r (tl z)) H Q
section
variable {P : Program} {w0 : World} {K : PySem.W.Frag} {mg : Str → Option Value} {base : Heap}
theorem okl_due {f : Addr} {fd : FuncData} (F : Fun K "_law_due" "_law_due" s__law_due f fd) (B : Bn3 mg) (c__law_one_at : Dq P w0 K mg base CX0 5 "_law_one_at" ["registers", "bits", "at"] splOneAt) : FnOk P w0 K mg base CX0 6 f fd ["registers", "bits"] splDue := by
  refine F.ok sc__law_due (fun vs H Q E h => ?_) (fun cdv A outer s H vs Q E hr h => ?_)
  · obtain ⟨r, z, rfl, _⟩ := h
    rfl
  · obtain ⟨r, z, rfl, h9, hz, hb, q1, q2⟩ := h
    refine ⟨_, (pss_cons (ps_par (i := 2) (j := 3) rfl sc__law_due.nd rfl rfl (by decide) rfl rfl (pa_cons (pe_lst pa_nil) (pa_cons pe_int pa_nil)) rfl)
      (pss_cons (ps_for PassesOwn.never rfl (pi_range1 (by rfl) B.range (pa_cons (pe_callB call_len_str (by rfl) B.len PySem.boot_len (pa_cons (pv 1) pa_nil)) pa_nil)) (pg_name (i := 4) sc__law_due.nd rfl (Or.inl rfl)) (pss_cons (ps_set (i := 5) sc__law_due.nd rfl (Or.inl rfl) (pe_q c__law_one_at hr (by decide) (by rfl) (pa_cons (pv 0) (pa_cons (pv 1) (pa_cons (pv 3) pa_nil)))))
      (pss_cons (ps_if (pt_cmpR op_isN (pv 5) pe_non (nomark _)) (pss_one (ps_ret (pe_ifExp (pt_cmpR op_eq (pv 3) (pe_callB call_len_str (by rfl) B.len PySem.boot_len (pa_cons (pv 1) pa_nil)) (nomark _)) (pe_tup (pa_cons pe_str (pa_cons (pv 2) pa_nil))) (pe_tup (pa_cons pe_str (pa_cons (pv 3) pa_nil)))))) pss_nil)
      (pss_cons (ps_expr (pe_bm PySem.F.plainAttrs_list PySem.F.slot_list_append PySem.F.type_list_append mt_append (pv 2) (pa_cons (pe_tup (pa_cons (pv 3) (pa_cons (pe_ix ix_tup (pv 5) pe_int (fun _ _ => rfl)) pa_nil))) pa_nil)))
      (pss_one (ps_set (i := 3) sc__law_due.nd rfl (Or.inl rfl) (pe_ix ix_tup (pv 5) pe_int (fun _ _ => rfl))))))))
      (pss_one (ps_ret (pe_tup (pa_cons pe_str (pa_cons (pv 2) pa_nil))))))), ?_⟩
    have hzl : z.length = (tl z).length := rfl
    refine ⟨(by show 0 ≤ sizeLine; exact Nat.zero_le _), fun L hL => ⟨_, _, rfl, ?_⟩⟩
    refine ⟨_, rfl, z, rfl, small5 (by omega), _, rfl, by omega, by omega, ?_⟩
    rw [Int.toNat_natCast]
    refine for_range (lo := 0) (n := z.length) (fun i σ H' => ∃ (ds : List (Nat × PyData)) (xs : List V) (k : Nat) (y4 y5 : Option V), σ = [some (.int (r : Nat)), some (.str z), some (.ref L), some (.int (k : Nat)), y4, y5] ∧ Same H H' ∧ H' L = some (.lst xs) ∧ DnAll (fun a => a ≠ L) H' xs (ds.map itD) ∧ xs.length = i ∧ k ≤ (tl z).length ∧ i ≤ k ∧ rdB r (tl z) = appA ds (rdAll r (tl z) ((tl z).length + 1 - i) k))
      ⟨[], [], 0, none, none, rfl, Same.new hL, upd_same, .nil, rfl, Nat.zero_le _, Nat.le_refl _, ?_⟩ ?_ ?_
    · show rdAll r (tl z) ((tl z).length + 1) 0 = appA [] (rdAll r (tl z) ((tl z).length + 1 - 0) 0)
      rw [Nat.sub_zero]
      cases rdAll r (tl z) ((tl z).length + 1) 0 <;> rfl
    · rintro i σ H1 hi ⟨ds, xs, k, y4, y5, rfl, s1, e1, dn, hxl, hkl, hik, hrec⟩
      rw [show (tl z).length + 1 - i = ((tl z).length - i) + 1 by omega] at hrec
      refine ⟨_, rfl, _, rfl, _, rfl, r, z, k, rfl, h9, hkl, by omega, hb, fun en H2 s2 => ?_, fun d b es p x H2 hp s2 e2 hd => ?_⟩
      · have e1' := s2 _ _ e1
        refine ⟨_, rfl, rfl, _, rfl, iteTd rfl ⟨_, rfl, _, rfl, z, rfl, small5 (by omega), rfl, _, rfl, ?_⟩⟩
        by_cases hend : k = z.length
        · refine iteTd (decide_eq_true (by rw [hend])) ⟨_, rfl, (by show 2 ≤ sizeLine; decide), fun p hp => q1 ds ?_ p L xs _ (s1.trans (s2.trans (Same.new hp))) upd_same ((Same.new hp) _ _ e1') (((dn.same s2).same (Same.new hp)).any)⟩
          rw [hrec, rdAll_stop (by omega)]
          show Except.ok (ds ++ []) = _
          rw [List.append_nil]
        · refine iteFd (decide_eq_false fun h => hend (by injection h with h; omega)) ⟨_, rfl, (by show 2 ≤ sizeLine; decide), fun p hp => q2 k ?_ p _ (s1.trans (s2.trans (Same.new hp))) upd_same⟩
          rw [hrec, rdAll_err (by omega) en]
          rfl
      · obtain ⟨g1, g2⟩ := rdI_gt es
        have e1' := s2 _ _ e1
        have npL : p ≠ L := fun h => by rw [h] at hp; rw [hp] at e1; cases e1
        refine ⟨_, rfl, rfl, _, rfl, iteFd rfl ⟨_, rfl, .inl ⟨rfl, _, SqL.of e1'⟩, _, rfl, _, rfl, p, _, 0, _, rfl, rfl, SqT.of e2, at0 _ _, (by show 2 ≤ sizeLine; decide), fun T hT => ?_⟩⟩
        have nTL : T ≠ L := fun h => by rw [h] at hT; rw [hT] at e1'; cases e1'
        have sT := Same.new hT (o := .tup [.int (k : Nat), x])
        have kp : ∀ c o, c ≠ L → (upd H2 T (.tup [.int (k : Nat), x])) c = some o → upd (upd H2 T (.tup [.int (k : Nat), x])) L (.lst (xs ++ [.ref T])) c = some o := fun c o hc e => by rw [upd_ne hc]; exact e
        refine ⟨L, xs, .ref T, rfl, rfl, sT _ _ e1', ?_, _, rfl, p, _, 1, _, rfl, rfl, SqT.of (kp _ _ npL (sT _ _ e2)), rfl, ?_⟩
        · exact small1000 (by omega)
        · rw [rdAll_go (by omega) es, appA_app] at hrec
          refine ⟨ds ++ [(k, d)], xs ++ [.ref T], b, _, _, rfl, Same.upd' ((s1.trans s2).trans sT) hL, upd_same, ?_, by rw [List.length_append, hxl]; rfl, g2, by omega, ?_⟩
          · rw [List.map_append]
            exact DnAll.app (((dn.same s2).same sT).keep kp fun _ h => h) (.cons (.tup nTL (kp _ _ nTL upd_same) (.cons (.int _) (.cons ((hd.same sT).offL2 (rdI_flat es) (sT _ _ e1') kp) .nil))) .nil)
          · rw [hrec, show (tl z).length + 1 - (i + 1) = (tl z).length - i by omega]
    · rintro σ H1 ⟨ds, xs, k, y4, y5, rfl, s1, e1, dn, hxl, hkl, hik, hrec⟩
      refine ⟨_, rfl, (by show 2 ≤ sizeLine; decide), fun p hp => q1 ds ?_ p L xs _ (s1.trans (Same.new hp)) upd_same ((Same.new hp) _ _ e1) ((dn.same (Same.new hp)).any)⟩
      rw [hrec, show (tl z).length + 1 - z.length = 0 + 1 by omega, rdAll_stop (by omega)]
      show Except.ok (ds ++ []) = _
      rw [List.append_nil]
end
end SA

set_option Elab.async false
set_option linter.all false
set_option maxRecDepth 100000
set_option maxHeartbeats 2000000
namespace PySem.Spec
open PySem
theorem dict_eq_declines_str (l : Addr) (es : Array DictEntry) (ep : Nat) (dd : Option Addr) (sl : Array (Option Value)) (b : Str) (u : Tok) :
    Meets (Builtin.«dict.__eq__» ⟨[.ref l, .str b u], []⟩) (fun _ R s => s.heap.get? l = some { cls := .type "dict", dict := dd, data := .dict es ep, slots := sl } ∧ R (.ok (.ret .notImplemented)) s) :=
  .of_wp fun prog w A R s h => by obtain ⟨hp, g, d, tk, os⟩ := s; obtain ⟨hl, h⟩ := h; have f1 := F.sub_str_dict; wp_walk using wpAny_loadPart' hl, wpAny_load hl; exact ⟨_, rfl, h⟩
theorem str_eq_declines_dict (b : Str) (u : Tok) (l : Addr) (es : Array DictEntry) (ep : Nat) (dd : Option Addr) (sl : Array (Option Value)) :
    Meets (Builtin.«str.__eq__» ⟨[.str b u, .ref l], []⟩) (fun _ R s => s.heap.get? l = some { cls := .type "dict", dict := dd, data := .dict es ep, slots := sl } ∧ R (.ok (.ret .notImplemented)) s) :=
  .of_wp fun prog w A R s h => by obtain ⟨hp, g, d, tk, os⟩ := s; obtain ⟨hl, h⟩ := h; wp_walk using wpAny_loadPart' hl, wpAny_load hl; exact ⟨_, rfl, h⟩
end PySem.Spec

namespace SA
open PySem PySem.Spec PyProof.Rows L2 K83
def rEqDS : R2 := fun x y H Q => ∃ (a : Addr) (kvs : List (L2.Key × V)) (z : Str), x = .ref a ∧ y = .str z ∧ H a = some (.dK kvs) ∧ Q (.bl false) H
theorem op_eqDS {X : Cx} (hu : X.A.units + 64 < cLine) : OpR X (compareOp .Eq) rEqDS := by
  intro pins s σ H x y v u Q I rx ry h
  obtain ⟨a, kvs, z, rfl, rfl, ha, q⟩ := h
  cases (show v = Value.ref a from rx)
  obtain ⟨tk, rfl⟩ := ry
  obtain ⟨_, _, va, _, da⟩ := (show ObjOk X.prog X.w H s.heap a (.dK kvs) from I.hok a _ ha)
  obtain ⟨⟨cls, dd, data, sl⟩, es, ep, ho, hx, hd, _⟩ := da
  simp only at hd
  have hc : cls = .type "dict" := hx.1
  subst hc hd
  exact SeqAt.rc_eq_decline_or (k := false) ⟨_, ho, rfl⟩ (typeIs_str s z tk) (by decide) F.sub_str_dict F.slot_dict_eq F.slot_str_eq_refl
    (fun _ hq => call_meets F.slot_dict_eq ⟨_, ho, rfl⟩ F.entry_dict_eq (F.args_dict_eq_2 _ _) (dict_eq_declines_str a es ep dd sl z tk) ⟨ho, hq⟩)
    (fun _ hq => call_meets F.slot_str_eq_refl (typeIs_str s z tk) F.entry_str_eq (F.args_str_eq_2 _ _) (str_eq_declines_dict z tk a es ep dd sl) ⟨ho, hq⟩)
    (fun _ hq => wpAny_of_eq (rfl : isSame (.ref a) (.str z tk) = pure false) hq) (.inr (by omega)) ⟨.bl false, H, I, rfl, q⟩
theorem OpR.or {X : Cx} {op : Value → Value → Sem Value} {r1 r2 : R2} (h1 : OpR X op r1) (h2 : OpR X op r2) : OpR X op (fun x y H Q => r1 x y H Q ∨ r2 x y H Q) := by
  intro pins s σ H x y v u Q I rx ry h
  exact h.elim (h1 pins s σ H x y v u Q I rx ry) (h2 pins s σ H x y v u Q I rx ry)
end SA

set_option Elab.async false
set_option linter.all false
set_option maxRecDepth 100000
set_option maxHeartbeats 4000000
namespace SA
open PySem PySem.Spec PyProof.Rows L2 K83
open K82 hiding mk tl_mk mk_tl mk_app
/-- the error classes, as the law looks at them -/
structure ErrF (K : PySem.W.Frag) (mg : Str → Option Value) (SE BB BA : Addr) : Prop where
  gSE : mg "StopError" = some (.ref SE)
  gBB : mg "BadBits" = some (.ref BB)
  gBA : mg "BadAddress" = some (.ref BA)
  xBB : PySem.W.exmOne K (.ref BB) (.ref SE) = some true
  xBA : PySem.W.exmOne K (.ref BA) (.ref SE) = some true
  cBB : ExcC K BB
  cBA : ExcC K BA
  fBB : XfC K BB
  noat : PySem.W.findIn K (.ref BB) "at" = some none
  kBB : PySem.W.kitOne K (.ref BB) (.ref BB) = some true
  kBAb : PySem.W.kitOne K (.ref BA) (.ref BB) = some false
  kBA : PySem.W.kitOne K (.ref BA) (.ref BA) = some true
/-- a new tuple -/
def T1 (H : Hp) (Q : VK) (t : List V) : Prop := ∀ (p : Addr) (H' : Hp), H p = none → Same H H' → H' p = some (.tup t) → Q (.ref p) H'
def OutE (BB BA : Addr) (Q : VK) : XK := fun cls d H' => (cls = .ref BA ∧ d = none ∧ T1 H' Q [.str "BadAddress"]) ∨ ∃ (dx : Addr) (v : V), cls = .ref BB ∧ d = some dx ∧ H' dx = some (.xd [("at", v)]) ∧ T1 H' Q [.str "BadBits", v]
/-- what may stand before == here -/
def OkA (d : PyData) : Prop := SeqAt.shaped d = true ∨ d = .dict []
def splRefusal (K : PySem.W.Frag) (BR BB BA : Addr) : Sp := fun vs H Q _ => ∃ (y x a : V) (da : PyData), vs = [y, x, a] ∧ Dn anyA H a da ∧ OkA da ∧ ∀ (H1 : Hp) (Q' : VK) (E' : XK), Same H H1 → (∀ v H', T1 H' Q [.str "value", v] → Q' v H') → (∀ cls d H', OutE BB BA Q cls d H' → E' cls d H') →
  (PyData.eqv da (.str "all") = true → spRdBits K BR BB [y, x] H1 Q' E') ∧ (PyData.eqv da (.str "all") = false → spInsAt K BR BB BA [y, x, a] H1 Q' E')
section
variable {P : Program} {w0 : World} {K : PySem.W.Frag} {mg : Str → Option Value} {base : Heap} {SE BI BB BR BA : Addr}
theorem T1.of {H H1 : Hp} {Q : VK} {t : List V} (h : T1 H Q t) (s : Same H H1) : T1 H1 Q t := fun p H' hp s' e => h p H' (s.free hp) (s.trans s') e
theorem shaped_lay {d : PyData} (h : SeqAt.shaped d = true) : d.canLay0 = true := by
  have h : (PyData.canLay0 d && decide (PyData.depth d ≤ 64)) = true := h
  rw [Bool.and_eq_true] at h
  exact h.1
theorem okl_refusal {f : Addr} {fd : FuncData} (F : Fun K "_law_refusal" "_law_refusal" s__law_refusal f fd) (B : Bn3 mg) (EF : ErrF K mg SE BB BA) (c_read_bits : Dq P w0 K mg base (L2.CX P w0) 7 "read_bits" ["registers", "bits"] (spRdBits K BR BB))
    (c_instruction_at : Dq P w0 K mg base (L2.CX P w0) 7 "instruction_at" ["registers", "bits", "address"] (spInsAt K BR BB BA)) : FnOk P w0 K mg base CX0 8 f fd ["registers", "bits", "address"] (splRefusal K BR BB BA) := by
  refine F.ok sc__law_refusal (fun vs H Q E h => ?_) (fun cdv A outer s H vs Q E hr h => ?_)
  · obtain ⟨y, x, a, da, rfl, _⟩ := h
    rfl
  · obtain ⟨y, x, a, da, rfl, hd, hsh, h⟩ := h
    refine ⟨_, pss_cons (ps_asg (pe_tup (pa_cons pe_non (pa_cons pe_non pa_nil))) (pg_tup (by rfl) (pgs_cons (pg_name (i := 3) sc__law_refusal.nd rfl (Or.inl rfl)) (pgs_cons (pg_name (i := 4) sc__law_refusal.nd rfl (Or.inl rfl)) pgs_nil))))
      (pss_cons (ps_try_hold (i := 5) (X := (cxOf CX0 P w0 K mg base n__law_refusal "_law_refusal" (defScope s__law_refusal) f cdv A outer s H E).nox) (c := .ref SE)
        (tb := fun W D σ H' => σ = [some y, some x, some a, some .non, some .non, none] ∧ Dn anyA H' a da ∧ (PyData.eqv da (.str "all") = true → spRdBits K BR BB [y, x] H' (fun v H2 => D.nx [some y, some x, some a, some .non, some v, none] H2) (fun cls d H2 => ∀ σ', W cls d σ' H2)) ∧
          (PyData.eqv da (.str "all") = false → spInsAt K BR BB BA [y, x, a] H' (fun v H2 => D.nx [some y, some x, some a, some .non, some v, none] H2) (fun cls d H2 => ∀ σ', W cls d σ' H2)))
        rfl rfl rfl sc__law_refusal.nd rfl rfl ⟨rfl, by decide, .inl EF.gSE⟩ LamX.takes0
        (fun W pn xe tk _ => ⟨fun pins s' σ H' D I h' => by
          obtain ⟨rfl, hd', hW1, hW2⟩ := h'
          refine (pss_one (ps_set (i := 4) sc__law_refusal.nd rfl (.inl rfl)
            (pe_ifExp (pt_cmpR (OpR.or (op_eqD hr.units) (op_eqDS hr.units)) (pv 2) pe_str (nomark _))
              (pe_qX (E := fun cls d H' => ∀ σ', W cls d σ' H') c_read_bits hr (by decide) (by rfl) (passes_call tk fun _ _ σ _ h => h σ) (pa_cons (pv 0) (pa_cons (pv 1) pa_nil)))
              (pe_qX (E := fun cls d H' => ∀ σ', W cls d σ' H') c_instruction_at hr (by decide) (by rfl) (passes_call tk fun _ _ σ _ h => h σ) (pa_cons (pv 0) (pa_cons (pv 1) (pa_cons (pv 2) pa_nil))))))).run pins s' _ _ D I ?_
          refine ⟨_, rfl, ?_⟩
          rcases hsh with hsh | rfl
          · refine .inl ⟨da, .str "all", hd'.dp (shaped_lay hsh), .str _, hsh, (by decide +kernel), _, rfl, ?_⟩
            cases he : PyData.eqv da (.str "all") with
            | true => exact iteT ⟨_, rfl, _, rfl, hW1 he⟩
            | false => exact iteF ⟨_, rfl, _, rfl, _, rfl, hW2 he⟩
          · match a, hd', hW2 with
            | .ref b, .dct _ e, hW2 => exact .inr ⟨b, [], _, rfl, rfl, e, _, rfl, iteF ⟨_, rfl, _, rfl, _, rfl, hW2 rfl⟩⟩⟩)
        (fun a oe cls d pn _ _ => pss_one (ps_set (i := 3) sc__law_refusal.nd rfl (.inl rfl) (pv 5))))
      (pss_cons (ps_if (pt_cmpR op_isN (pv 3) pe_non (nomark _)) (pss_one (ps_ret (pe_tup (pa_cons pe_str (pa_cons (pv 4) pa_nil))))) pss_nil)
      (pss_cons (ps_if (pt_val (pe_callB call_isH (by rfl) B.isinstance (by decide +kernel) (pa_cons (pv 3) (pa_cons (pe_glob (v := .ref BB) (by rfl) EF.gBB rfl) pa_nil)))) (pss_one (ps_ret (pe_tup (pa_cons pe_str (pa_cons (pe_hfld (pv 3)) pa_nil))))) pss_nil)
      (pss_one (ps_ret (pe_ifExp (pt_val (pe_callB call_isH (by rfl) B.isinstance (by decide +kernel) (pa_cons (pv 3) (pa_cons (pe_glob (v := .ref BA) (by rfl) EF.gBA rfl) pa_nil)))) (pe_tup (pa_cons pe_str pa_nil)) (pe_tup (pa_cons pe_str pa_nil)))))))), ?_⟩
    refine ⟨(by show 2 ≤ sizeLine; decide), fun t ht => ⟨t, _, rfl, SqT.of upd_same, rfl, _, _, rfl, _, _, rfl, rfl, ?_⟩⟩
    have s1 : Same H (upd H t (.tup [V.non, V.non])) := Same.new ht
    refine ⟨rfl, hd.same s1, h _ _ _ s1 (fun v H2 q => ?_) (fun cls d H2 o σ' => ?_)⟩
    · exact ⟨_, rfl, rfl, _, rfl, iteT ⟨_, rfl, (by show 2 ≤ sizeLine; decide), fun p hp => q p _ hp (Same.new hp) upd_same⟩⟩
    · rcases o with ⟨rfl, rfl, q⟩ | ⟨dx, v, rfl, rfl, e2, q⟩
      · refine ⟨true, EF.xBA, fun z => (nomatch z), fun _ hl y hy => ?_⟩
        match σ', hl with
        | [x0, x1, x2, x3, x4, x5], _ =>
          refine ⟨_, rfl, ?_⟩
          have e3 : (upd H2 y (HX (.ref BA) none y)) y = some (HX (.ref BA) none y) := upd_same
          have s3 : Same H2 (upd H2 y (HX (.ref BA) none y)) := Same.new hy
          have hd : ∀ dy, (none : Option Addr) = some dy → ∃ fs, (upd H2 y (HX (.ref BA) none y)) dy = some (.xd fs) := fun dy e => by cases e
          refine ⟨_, rfl, rfl, _, rfl, iteF ?_⟩
          refine ⟨_, rfl, y, BA, none, _, _, false, rfl, .own BB, e3, hd, EF.cBA, EF.kBAb, _, rfl, iteF ?_⟩
          refine ⟨_, rfl, y, BA, none, _, _, true, rfl, .own BA, e3, hd, EF.cBA, EF.kBA, _, rfl, iteT ⟨(by show 1 ≤ sizeLine; decide), fun p hp => ?_⟩⟩
          exact q p _ (s3.free hp) (s3.trans (Same.new hp)) upd_same
      · refine ⟨true, EF.xBB, fun z => (nomatch z), fun _ hl y hy => ?_⟩
        match σ', hl with
        | [x0, x1, x2, x3, x4, x5], _ =>
          refine ⟨_, rfl, ?_⟩
          have e3 : (upd H2 y (HX (.ref BB) (some dx) y)) y = some (HX (.ref BB) (some dx) y) := upd_same
          have s3 : Same H2 (upd H2 y (HX (.ref BB) (some dx) y)) := Same.new hy
          have e4 := s3 _ _ e2
          have hd : ∀ dy, some dx = some dy → ∃ fs, (upd H2 y (HX (.ref BB) (some dx) y)) dy = some (.xd fs) := fun dy e => by cases e; exact ⟨_, e4⟩
          refine ⟨_, rfl, rfl, _, rfl, iteF ?_⟩
          refine ⟨_, rfl, y, BB, some dx, _, _, true, rfl, .own BB, e3, hd, EF.cBB, EF.kBB, _, rfl, iteT ?_⟩
          refine ⟨_, rfl, y, BB, dx, _, _, rfl, e3, e4, EF.fBB, EF.noat, rfl, (by show 2 ≤ sizeLine; decide), fun p hp => ?_⟩
          exact q p _ (s3.free hp) (s3.trans (Same.new hp)) upd_same
end
end SA

set_option Elab.async false
set_option linter.all false
set_option maxRecDepth 100000
set_option maxHeartbeats 1000000
namespace K83
open PySem PySem.Spec
open K82 (L one tl IsB)
theorem cut_n0 (z : Str) (a : Nat) : L2.cutS z (some (a : Int)) none = mk ((tl z).drop a) := by
  unfold L2.cutS mk tl
  rw [HT.sIx_nat, HT.sIx_none, show z.length = z.cps.toList.length from rfl]
  generalize z.cps.toList = l
  congr 1
  by_cases h : a ≤ l.length
  · rw [Nat.min_eq_left h, List.take_of_length_le (by rw [List.length_drop]; exact Nat.le_refl _)]
  · rw [Nat.min_eq_right (by omega), List.drop_of_length_le (by omega), List.drop_of_length_le (by omega), List.take_nil]
theorem isB_take {l : L} (h : IsB l) (a : Nat) : IsB (l.take a) := fun c hc => h c (List.mem_of_mem_take hc)
theorem isB_drop {l : L} (h : IsB l) (a : Nat) : IsB (l.drop a) := fun c hc => h c (List.mem_of_mem_drop hc)
theorem isB_one {c : Nat} (h : c = 48 ∨ c = 49) : IsB [c] := fun x hx => by rw [List.mem_singleton.mp hx]; exact h
end K83
namespace SA
open PySem PySem.Spec PyProof.Rows L2 K83
open K82 hiding mk tl_mk mk_tl mk_app
def splChanged : Sp := fun vs H Q _ => ∃ (d w c : Addr) (n : Nat) (z : Str), vs = [.ref d, .str z] ∧ DrawAt H d w c n ∧ n < 2 ^ 37 ∧ IsB (tl z) ∧ z.length ≤ 660 ∧ ∀ (z' : Str) (H' : Hp), IsB (tl z') → z'.length ≤ z.length + 12 → DrawAt H' d w c (n + 100) → But2 d w H H' → Q (.str z') H'
section
variable {P : Program} {w0 : World} {K : PySem.W.Frag} {mg : Str → Option Value} {base : Heap}
theorem okl_changed {f : Addr} {fd : FuncData} (F : Fun K "_law_changed" "_law_changed" s__law_changed f fd) (B : Bn3 mg) (c__law_take : Dq P w0 K mg base CX0 2 "_law_take" ["draw", "many"] spTake) (c_pickS : Dq P w0 K mg base CX0 3 "_law_pick" ["draw", "some"] spPickS)
    (c__law_bits : Dq P w0 K mg base CX0 4 "_law_bits" ["draw", "most"] splBits) : FnOk P w0 K mg base CX0 5 f fd ["draw", "bits"] splChanged := by
  refine F.ok sc__law_changed (fun vs H Q E h => ?_) (fun cdv A outer s H vs Q E hr h => ?_)
  · obtain ⟨d, w, c, n, z, rfl, _⟩ := h
    rfl
  · obtain ⟨d, w, c, n, z, rfl, hD, hn, hb, hz, k⟩ := h
    refine ⟨_, (pss_cons (ps_par (i := 2) (j := 3) rfl sc__law_changed.nd rfl rfl (by decide) rfl rfl (pa_cons (pe_q c__law_take hr (by decide) (by rfl) (pa_cons (pv 0) (pa_cons pe_int pa_nil))) (pa_cons (pe_q c__law_take hr (by decide) (by rfl) (pa_cons (pv 0) (pa_cons (pe_op op_add (pe_callB call_len_str (by rfl) B.len PySem.boot_len (pa_cons (pv 1) pa_nil)) pe_int) pa_nil))) pa_nil)) rfl)
      (pss_cons (ps_if (pt_cmpR op_lt (pv 2) pe_int (nomark _)) (pss_one (ps_ret (pv 1))) pss_nil)
      (pss_cons (ps_if (pt_cmpR op_eq (pv 2) pe_int (nomark _)) (pss_one (ps_ret (pe_slice sl_str (pv 1) po_none (po_some (pv 3))))) pss_nil)
      (pss_cons (ps_if (pt_cmpR op_eq (pv 2) pe_int (nomark _)) (pss_one (ps_ret (pe_op op_add_str (pv 1) (pe_q c__law_bits hr (by decide) (by rfl) (pa_cons (pv 0) (pa_cons pe_int pa_nil)))))) pss_nil)
      (pss_cons (ps_if (pt_cmpR op_eq (pv 2) pe_int (nomark _)) (pss_one (ps_ret (pe_op op_add_str (pe_op op_add_str (pe_slice sl_str (pv 1) po_none (po_some (pv 3))) (pe_q c_pickS hr (by decide) (by rfl) (pa_cons (pv 0) (pa_cons pe_str pa_nil)))) (pe_slice sl_str (pv 1) (po_some (pv 3)) po_none)))) pss_nil)
      (pss_cons (ps_if (PW.pt (pw_or (pt_cmpR op_eq (pv 2) pe_int (nomark _)) (pw_or1 (pt_cmpR op_eq (pv 3) (pe_callB call_len_str (by rfl) B.len PySem.boot_len (pa_cons (pv 1) pa_nil)) (nomark _))))) (pss_one (ps_ret (pe_op op_add_str (pe_slice sl_str (pv 1) po_none (po_some (pv 3))) (pe_slice sl_str (pv 1) (po_some (pe_op op_add (pv 3) pe_int)) po_none)))) pss_nil)
      (pss_one (ps_ret (pe_op op_add_str (pe_op op_add_str (pe_slice sl_str (pv 1) po_none (po_some (pv 3))) (pe_ifExp (pt_cmpR op_eq (pe_item_str (pv 1) (pv 3) (fun _ _ => rfl)) pe_str (nomark _)) pe_str pe_str)) (pe_slice sl_str (pv 1) (po_some (pe_op op_add (pv 3) pe_int)) po_none)))))))))), ?_⟩
    have big : (2 : Nat) ^ 37 + 1000 < 2 ^ 38 ∧ (2 : Nat) ^ 38 + 1000 < 2 ^ 39 ∧ (2 : Nat) ^ 39 + 1000 < 2 ^ 40 ∧ (10000 : Int) < 2 ^ 62 := by decide
    have hzl : z.length = (tl z).length := rfl
    have lt : ∀ j, ((tl z).take j).length ≤ z.length := fun j => by rw [List.length_take, hzl]; omega
    have ld : ∀ j, ((tl z).drop j).length ≤ z.length := fun j => by rw [List.length_drop, hzl]; omega
    refine ⟨_, rfl, d, w, c, n, 7, rfl, hD, by omega, by decide, by decide, fun i H1 i0 i1 D1 b1 => ?_⟩
    refine ⟨_, rfl, _, rfl, z, rfl, small5 (by omega), _, _, rfl, rfl, d, w, c, n + 1, (z.length : Int) + 1, rfl, D1, by omega, by omega, by omega, fun j H2 j0 j1 D2 b2 => ⟨_, _, rfl, ?_⟩⟩
    obtain ⟨j, rfl⟩ := Int.eq_ofNat_of_zero_le j0
    have hj : j ≤ z.length := by omega
    have b12 := b1.trans b2
    refine ⟨_, rfl, _, _, rfl, rfl, _, rfl, ite2 (fun _ => ?_) (fun _ => ?_)⟩
    · exact ⟨_, rfl, k z H2 hb (by omega) (D2.mono (by omega)) b12⟩
    refine ⟨_, rfl, rfl, _, rfl, ite2 (fun _ => ?_) (fun _ => ?_)⟩
    · refine ⟨_, rfl, _, rfl, _, rfl, z, rfl, small5 (by omega), ?_⟩
      rw [K83.cut_0n]
      exact k _ H2 (by rw [K83.tl_mk]; exact isB_take hb j) (by rw [K83.mk_len]; have := lt j; omega) (D2.mono (by omega)) b12
    refine ⟨_, rfl, rfl, _, rfl, ite2 (fun _ => ?_) (fun _ => ?_)⟩
    · refine ⟨_, rfl, _, rfl, d, w, c, n + 2, 12, rfl, D2, by omega, by decide, fun z' H3 hb' hz' D3 b3 => ⟨_, _, rfl, rfl, small5 (by omega), ?_⟩⟩
      rw [← K83.mk_tl z, ← K83.mk_tl z', K83.mk_app]
      refine k _ H3 (by rw [K83.tl_mk]; exact isB_app hb hb') ?_ (D3.mono (by omega)) (b12.trans b3)
      rw [K83.mk_len, List.length_append]
      have : z'.length = (tl z').length := rfl
      omega
    refine ⟨_, rfl, rfl, _, rfl, ite2 (fun _ => ?_) (fun _ => ?_)⟩
    · refine ⟨_, rfl, _, rfl, _, rfl, z, rfl, small5 (by omega), _, rfl, d, w, c, n + 2, "01", rfl, D2, by omega, by decide +kernel, by decide +kernel, fun ch H3 hch D3 b3 => ?_⟩
      have hc : ch = 48 ∨ ch = 49 := by
        rw [show tl ("01" : Str) = [48, 49] from by decide +kernel] at hch
        simpa using hch
      rw [K83.cut_0n]
      refine ⟨_, _, rfl, rfl, ?_, _, rfl, _, rfl, _, rfl, z, rfl, small5 (by omega), ?_⟩
      · show (K83.mk ((tl z).take j)).length + 1 ≤ sizeLine
        rw [K83.mk_len]
        have := lt j
        exact small5 (by omega)
      rw [K83.cut_n0]
      have e : (K83.mk ((tl z).take j) : Str) ++ ⟨#[ch]⟩ = K83.mk ((tl z).take j ++ [ch]) := K83.mk_app _ [ch]
      rw [e]
      refine ⟨_, _, rfl, rfl, ?_, ?_⟩
      · rw [K83.mk_len, K83.mk_len, List.length_append]
        have := lt j
        have := ld j
        exact small5 (by rw [List.length_singleton]; omega)
      rw [K83.mk_app]
      refine k _ H3 (by rw [K83.tl_mk]; exact isB_app (isB_app (isB_take hb j) (isB_one hc)) (isB_drop hb j)) ?_ (D3.mono (by omega)) (b12.trans b3)
      rw [K83.mk_len, List.length_append, List.length_append, List.length_singleton, List.length_take, List.length_drop]
      omega
    have del : Q (.str (K83.mk ((tl z).take j) ++ K83.mk ((tl z).drop (j + 1)))) H2 := by
      rw [K83.mk_app]
      refine k _ H2 (by rw [K83.tl_mk]; exact isB_app (isB_take hb j) (isB_drop hb (j + 1))) ?_ (D2.mono (by omega)) b12
      rw [K83.mk_len, List.length_append, List.length_take, List.length_drop]
      omega
    have delL : (K83.mk ((tl z).take j)).length + (K83.mk ((tl z).drop (j + 1))).length ≤ sizeLine := by
      rw [K83.mk_len, K83.mk_len]
      have := lt j
      have := ld (j + 1)
      exact small5 (by omega)
    have c1 : L2.cutS z (some (((j : Nat) : Int) + 1)) none = K83.mk ((tl z).drop (j + 1)) := by rw [show ((j : Nat) : Int) + 1 = ((j + 1 : Nat) : Int) from by omega, K83.cut_n0]
    have delT : ∃ v : V, True := ⟨.non, trivial⟩
    refine ⟨_, rfl, rfl, _, rfl, ite2 (fun _ => ?_) (fun _ => ⟨_, rfl, _, rfl, z, rfl, small5 (by omega), rfl, _, rfl, ite2 (fun _ => ?_) (fun hne => ?_)⟩)⟩
    · refine ⟨_, rfl, _, rfl, _, rfl, z, rfl, small5 (by omega), _, rfl, _, rfl, _, _, rfl, rfl, _, rfl, z, rfl, small5 (by omega), ?_⟩
      rw [K83.cut_0n, c1]
      exact ⟨_, _, rfl, rfl, delL, del⟩
    · refine ⟨_, rfl, _, rfl, _, rfl, z, rfl, small5 (by omega), _, rfl, _, rfl, _, _, rfl, rfl, _, rfl, z, rfl, small5 (by omega), ?_⟩
      rw [K83.cut_0n, c1]
      exact ⟨_, _, rfl, rfl, delL, del⟩
    · have hjl : j < (tl z).length := by
        rcases Nat.lt_or_ge j z.length with h | h
        · exact h
        · exact absurd (decide_eq_true (show V.int (j : Nat) = V.int (z.length : Nat) by rw [show j = z.length by omega])) hne
      have hcp : z.cps[((j : Nat) : Int).toNat]? = some ((tl z)[j]) := by
        have e : z.cps.toList[j]? = some ((tl z)[j]) := List.getElem?_eq_getElem hjl
        rw [Int.toNat_natCast]
        simpa using e
      generalize (tl z)[j] = ch at hcp
      have fin : ∀ (s : Str) (q : Nat), (q = 48 ∨ q = 49) → s = K83.mk [q] → ∃ i j', V.str (K83.mk ((tl z).take j)) = V.str i ∧ V.str s = V.str j' ∧ i.length + j'.length ≤ sizeLine ∧ ∃ i2 j2, V.str (i ++ j') = V.str i2 ∧ V.str (K83.mk ((tl z).drop (j + 1))) = V.str j2 ∧ i2.length + j2.length ≤ sizeLine ∧ Q (.str (i2 ++ j2)) H2 := by
        rintro s q hq rfl
        refine ⟨_, _, rfl, rfl, ?_, _, _, rfl, rfl, ?_, ?_⟩
        · rw [K83.mk_len, K83.mk_len]
          have := lt j
          exact small5 (by rw [List.length_singleton]; omega)
        · rw [K83.mk_app, K83.mk_len, K83.mk_len, List.length_append]
          have := lt j
          have := ld (j + 1)
          exact small5 (by rw [List.length_singleton]; omega)
        · rw [K83.mk_app, K83.mk_app]
          refine k _ H2 (by rw [K83.tl_mk]; exact isB_app (isB_app (isB_take hb j) (isB_one hq)) (isB_drop hb (j + 1))) ?_ (D2.mono (by omega)) b12
          rw [K83.mk_len, List.length_append, List.length_append, List.length_singleton, List.length_take, List.length_drop]
          omega
      refine ⟨_, rfl, _, rfl, _, rfl, z, rfl, small5 (by omega), ?_⟩
      rw [K83.cut_0n]
      refine ⟨_, rfl, _, rfl, z, _, ch, rfl, rfl, by omega, by omega, by omega, hcp, rfl, _, rfl, ite2 (fun _ => ?_) (fun _ => ?_)⟩
      · obtain ⟨i1, i2, f1, f2, f3, f4⟩ := fin "0" 48 (.inl rfl) (by decide +kernel)
        refine ⟨i1, i2, f1, f2, f3, _, rfl, _, rfl, _, _, rfl, rfl, _, rfl, z, rfl, small5 (by omega), ?_⟩
        rw [c1]
        exact f4
      · obtain ⟨i1, i2, f1, f2, f3, f4⟩ := fin "1" 49 (.inr rfl) (by decide +kernel)
        refine ⟨i1, i2, f1, f2, f3, _, rfl, _, rfl, _, _, rfl, rfl, _, rfl, z, rfl, small5 (by omega), ?_⟩
        rw [c1]
        exact f4
end
end SA

set_option Elab.async false
set_option linter.all false
set_option maxRecDepth 100000
set_option maxHeartbeats 1000000
namespace K83
open PySem PySem.Spec
open K82 (L one tl IsB bval bdig enc dec zig zag)
theorem tab_n : ∀ q ∈ tab, Lt.n ∈ q.2 → q.1 = ("const" : Str) ∧ q.2 = [Lt.p, Lt.n] := by decide +kernel
theorem okD_reg {r : Nat} {d : D} (h : isReg r d = true) : okD d = true := by
  obtain ⟨z, a, rfl, ha, _, e⟩ := isReg_ex h
  refine okD_of (show (tl z).length ≤ 1000 by rw [e]; simp) fun c hc => ?_
  rw [e] at hc
  simp only [List.mem_cons, List.not_mem_nil, or_false] at hc
  omega
theorem okD_part {r : Nat} {c : Lt} {d : D} (h : isPart r c d = true) (hn : c ≠ .n) : okD d = true := by
  cases c with
  | p => exact okD_reg h
  | n => exact absurd rfl hn
  | c =>
    have h : (isSlot d || isReg r d) = true := h
    rw [Bool.or_eq_true] at h
    rcases h with h | h
    · obtain ⟨z, f, rfl, e, e2, e3⟩ := isSlot_ex h
      refine okD_of (show (tl z).length ≤ 1000 by rw [e, List.length_cons]; omega) fun c hc => ?_
      rw [e] at hc
      rcases List.mem_cons.mp hc with rfl | hc
      · decide
      · unfold figsB at e2
        rw [Bool.and_eq_true, Bool.and_eq_true, List.all_eq_true] at e2
        obtain ⟨a, ha, rfl⟩ := dig_ex (e2.2.1 c hc)
        omega
    · exact okD_reg h
  | x =>
    match d, h with
    | .str z, h =>
      have h : K1.isName z = true := h
      unfold K1.isName at h
      rw [Bool.and_eq_true, Bool.and_eq_true, Bool.and_eq_true, decide_eq_true_eq, decide_eq_true_eq, List.all_eq_true] at h
      exact okD_of (by omega) fun c hc => small_lt (h.2.2.2 c hc)
  | k =>
    match d, h with
    | .int i, h =>
      have hi : 0 ≤ i ∧ i ≤ 2 := of_decide_eq_true h
      have : (2 : Nat) < 2 ^ 57 := by decide
      exact okI (by omega)
  | P =>
    match d, h with
    | .tuple ds, h =>
      have h : (decide (ds.length ≤ 3) && ds.all (isReg r)) = true := h
      rw [Bool.and_eq_true, decide_eq_true_eq] at h
      exact okT (by omega) (okDs_of fun x hx => okD_reg (List.all_eq_true.mp h.2 x hx))
  | l =>
    obtain ⟨w, i, rfl, hwi⟩ := isLeap_ex h
    have : (2147483648 : Nat) < 2 ^ 57 := by decide
    refine okT (by simp) (okDs_of fun x hx => ?_)
    simp only [List.mem_cons, List.not_mem_nil, or_false] at hx
    rcases hx with rfl | rfl
    · rcases hwi with ⟨rfl, _⟩ | ⟨rfl, _⟩ <;> decide +kernel
    · exact okI (by omega)
/-- what is no number that is far -/
def nearD (d : D) : Prop := ∀ (x : D) (v : Int), d = .tuple [.str "const", x, .int v] → v.natAbs < 10 ^ 12
theorem okD_judged {r : Nat} {d : D} (h : judged r d = true) (hv : nearD d) : okD d = true := by
  obtain ⟨w, ps, ls, rfl, hm, _, hps⟩ := judged_ex h
  have hl4 : ls.length ≤ 4 := (tab_copy _ hm).2.2
  obtain ⟨hlen, hall⟩ := arePs_all r ls ps hps
  refine okT (by rw [List.length_cons]; omega) (okDs_of fun x hx0 => ?_)
  rcases List.mem_cons.mp hx0 with rfl | hx
  · exact (by decide +kernel : ∀ q ∈ tab, okD (.str q.1) = true) _ hm
  · by_cases hn : Lt.n ∈ ls
    · obtain ⟨e1, e2⟩ := tab_n _ hm hn
      have e1 : w = "const" := e1
      have e2 : ls = [.p, .n] := e2
      subst e1 e2
      match ps, hlen, hall, hx, hv with
      | [d1, d2], _, hall, hx, hv =>
      have c1 : isReg r d1 = true := hall (d1, .p) (by simp)
      have c2 : isInt d2 = true := hall (d2, .n) (by simp)
      match d2, c2, hx, hv with
      | .int v, _, hx, hv =>
      rcases List.mem_cons.mp hx with e | hx
      · rw [e]
        exact okD_reg c1
      · rw [List.mem_singleton.mp hx]
        have := hv d1 v rfl
        have : (10 : Nat) ^ 12 < 2 ^ 57 := by decide
        exact okI (by omega)
    · obtain ⟨i, hi⟩ := List.getElem?_of_mem hx
      have hil := (List.getElem?_eq_some_iff.mp hi).1
      have hli : ls[i]? = some ls[i] := List.getElem?_eq_getElem (by omega)
      have hz : (x, ls[i]) ∈ ps.zip ls := List.mem_of_getElem? (i := i) (by rw [List.getElem?_zip_eq_some]; exact ⟨hi, hli⟩)
      exact okD_part (hall _ hz) fun e => hn (by rw [← e]; exact List.mem_of_getElem? hli)
theorem const_shape {r : Nat} {ps : List D} (h : judged r (.tuple (.str "const" :: ps)) = true) : ∃ x v, ps = [x, .int v] := by
  obtain ⟨w, ps', ls, e, hm, hlk, hps⟩ := judged_ex h
  injection e with e
  injection e with e1 e2
  injection e1 with e1
  subst e1 e2
  have hls : ls = [.p, .n] := by
    have : tab.lookup ("const" : Str) = some [Lt.p, Lt.n] := by decide +kernel
    rw [this] at hlk
    exact (Option.some.inj hlk).symm
  subst hls
  obtain ⟨hlen, hall⟩ := arePs_all r _ _ hps
  match ps, hlen, hall with
  | [d1, d2], _, hall =>
  have c2 : isInt d2 = true := hall (d2, .n) (by simp)
  match d2, c2 with
  | .int v, _ => exact ⟨d1, v, rfl⟩
theorem near_other {w : Str} {ps : List D} (h : w ≠ "const") : nearD (.tuple (.str w :: ps)) := fun x v e => by
  injection e with e
  injection e with e _
  injection e with e
  exact absurd e h
end K83
namespace SA
open PySem PySem.Spec PyProof.Rows L2 K83
open K82 hiding mk tl_mk mk_tl mk_app
theorem ix_tupK {X : Cx} {K : PySem.W.Frag} (hK : X.K = K) : IxR X (rIxT K) := hK ▸ ix_tup
abbrev dBA : PyData := .tuple [.str "BadAddress"]
abbrev dBB : PyData := .tuple [.str "BadBits", .none]
theorem nc_dBA : Nc 11 1 dBA := (sBA.cons (Nc.tnil 0)).mono (by decide) (by decide)
theorem nc_dBB : Nc 20 1 dBB := (sBB.tup2 (Nc.non.mono (by decide) (by decide) : Nc 0 0 .none)).mono (by decide) (by decide)
theorem eq_dBA : (!PyData.eqv dBA dBA) = false := by rw [SeqAt.eqv_refl _ nc_dBA.lay]; rfl
section
variable {P : Program} {w0 : World} {K : PySem.W.Frag} {mg : Str → Option Value} {base : Heap} {SE BI BB BR BA : Addr}
theorem out_due {o : Except Nat (List (Nat × PyData))} {H : Hp} {Q : VK} (h : ∀ (p : Addr) (H' : Hp), Same H H' → Dn anyA H' (.ref p) (outB o) → Q (.ref p) H') : OutQ o H Q :=
  ⟨fun ds e p L xs H' s ep eL dn => h p H' s (e ▸ .tup trivial ep (.cons (.str _) (.cons (.lst trivial eL dn) .nil))), fun a e p H' s ep => h p H' s (e ▸ .tup trivial ep (.cons (.str _) (.cons (.int _) .nil)))⟩
theorem ref_all {r : Nat} {z : Str} {H : Hp} {Q : VK} {E : XK} (h6 : 6 ≤ r) (h9 : r ≤ 9) (hz : z.length ≤ 1000) (hb : IsB (tl z)) (h : ∀ (p : Addr) (H' : Hp), Same H H' → Dn anyA H' (.ref p) (outB (rdB r (tl z))) → Q (.ref p) H') :
    splRefusal K BR BB BA [.int (r : Nat), .str z, .str "all"] H Q E := by
  have hzl : z.length = (tl z).length := rfl
  refine ⟨_, _, _, .str "all", rfl, .str _, .inl (by decide +kernel), fun H1 Q' E' s1 hQ hE => ⟨fun _ => ?_, fun e => absurd e (by decide +kernel)⟩⟩
  refine ⟨.int (r : Nat), .str z, "int", "str", rfl, .int _, .str _, .inr ⟨r, rfl, h6, h9, .inr ⟨z, rfl, by omega, hb, fun n _ _ => okAt_all (by omega) hb n, fun ds e p vs H2 hp s2 e2 dn => hQ _ _ fun t Ha ht sa ea => ?_, fun a e H2 s2 dx Hb sb hd e' => hE _ _ _ (.inr ⟨dx, .int (a : Nat), rfl, rfl, e', fun t Ha ht sa ea => ?_⟩)⟩⟩⟩
  · have e : rdB r (tl z) = .ok ds := e
    refine h t Ha (s1.trans (s2.trans sa)) ?_
    rw [e]
    exact .tup trivial ea (.cons (.str _) (.cons (.lst trivial (sa _ _ e2) (dn.any.same sa)) .nil))
  · have e : rdB r (tl z) = .error a := e
    refine h t Ha (s1.trans (s2.trans (sb.trans sa))) ?_
    rw [e]
    exact .tup trivial ea (.cons (.str _) (.cons (.int _) .nil))
theorem ref_at {r n : Nat} {z : Str} {H : Hp} {Q : VK} {E : XK} (h6 : 6 ≤ r) (h9 : r ≤ 9) (hz : z.length ≤ 1000) (hb : IsB (tl z)) (hn : n ≤ z.length) (h : ∀ (p : Addr) (H' : Hp), Same H H' → Dn anyA H' (.ref p) (outI (rdI r (tl z) n)) → Q (.ref p) H') :
    splRefusal K BR BB BA [.int (r : Nat), .str z, .int (n : Nat)] H Q E := by
  have hzl : z.length = (tl z).length := rfl
  refine ⟨_, _, _, .int (n : Nat), rfl, .int _, .inl rfl, fun H1 Q' E' s1 hQ hE => ⟨fun e => absurd e (by intro h; cases h), fun _ => ?_⟩⟩
  refine ⟨.int (r : Nat), .str z, .int (n : Nat), "int", "str", "int", rfl, .int _, .str _, .int _, .inr ⟨r, rfl, h6, h9, .inr ⟨z, rfl, by omega, hb, .inl ⟨n, rfl, hn, okAt_all (by omega) hb n, fun e H2 s2 => hE _ _ _ (.inl ⟨rfl, rfl, fun t Ha ht sa ea => ?_⟩), fun d b e p x H2 hp s2 e2 hd => hQ _ _ fun t Ha ht sa ea => ?_⟩⟩⟩⟩
  · refine h t Ha (s1.trans (s2.trans sa)) ?_
    rw [e]
    exact .tup trivial ea (.cons (.str _) .nil)
  · refine h t Ha (s1.trans (s2.trans sa)) ?_
    rw [e]
    exact .tup trivial ea (.cons (.str _) (.cons (.tup trivial (sa _ _ e2) (.cons (hd.same sa) (.cons (.int _) .nil))) .nil))
/-- no address -/
def BadA (n : Nat) (d : PyData) : Prop := (kindD d ≠ "int" ∨ ∃ i : Int, d = .int i ∧ ¬ (0 ≤ i ∧ i ≤ (n : Nat))) ∧ PyData.eqv d (.str "all") = false ∧ OkA d
theorem ref_bad {r : Nat} {z : Str} {a : V} {da : PyData} {H : Hp} {Q : VK} {E : XK} (h6 : 6 ≤ r) (h9 : r ≤ 9) (hz : z.length ≤ 1000) (hb : IsB (tl z)) (hd : Dn anyA H a da) (ha : BadA z.length da) (h : ∀ (p : Addr) (H' : Hp), Same H H' → H' p = some (.tup [.str "BadAddress"]) → Q (.ref p) H') :
    splRefusal K BR BB BA [.int (r : Nat), .str z, a] H Q E := by
  refine ⟨_, _, _, da, rfl, hd, ha.2.2, fun H1 Q' E' s1 hQ hE => ⟨fun e => absurd e (by rw [ha.2.1]; decide), fun _ => ?_⟩⟩
  refine ⟨.int (r : Nat), .str z, a, "int", "str", kindD da, rfl, .int _, .str _, (hd.same s1).kd, .inr ⟨r, rfl, h6, h9, .inr ⟨z, rfl, by omega, hb, .inr ⟨?_, hE _ _ _ (.inl ⟨rfl, rfl, fun t Ha ht sa ea => h t Ha (s1.trans sa) ea⟩)⟩⟩⟩⟩
  rcases ha.1 with hk | ⟨i, rfl, hi⟩
  · exact .inl hk
  · cases hd
    exact .inr ⟨i, rfl, hi⟩
theorem ref_odd {r : Nat} {x a : V} {dx da : PyData} {H : Hp} {Q : VK} {E : XK} (h6 : 6 ≤ r) (h9 : r ≤ 9) (hx : Dn anyA H x dx) (nb : NoBits x (kindD dx)) (hd : Dn anyA H a da) (hs : OkA da) (h : ∀ (p : Addr) (H' : Hp), Same H H' → H' p = some (.tup [.str "BadBits", .non]) → Q (.ref p) H') :
    splRefusal K BR BB BA [.int (r : Nat), x, a] H Q E := by
  refine ⟨_, _, _, da, rfl, hd, hs, fun H1 Q' E' s1 hQ hE => ⟨fun _ => ?_, fun _ => ?_⟩⟩
  · exact ⟨.int (r : Nat), x, "int", kindD dx, rfl, .int _, (hx.same s1).kd, .inr ⟨r, rfl, h6, h9, .inl ⟨nb, fun dx Hb sb hd e' => hE _ _ _ (.inr ⟨dx, .non, rfl, rfl, e', fun t Ha ht sa ea => h t Ha (s1.trans (sb.trans sa)) ea⟩)⟩⟩⟩
  · exact ⟨.int (r : Nat), x, a, "int", kindD dx, kindD da, rfl, .int _, (hx.same s1).kd, (hd.same s1).kd, .inr ⟨r, rfl, h6, h9, .inl ⟨nb, fun dx Hb sb hd e' => hE _ _ _ (.inr ⟨dx, .non, rfl, rfl, e', fun t Ha ht sa ea => h t Ha (s1.trans (sb.trans sa)) ea⟩)⟩⟩⟩
end
end SA

set_option Elab.async false
set_option linter.all false
set_option maxRecDepth 100000
set_option maxHeartbeats 8000000
namespace SA
open PySem PySem.Spec PyProof.Rows L2 K83
open K82 hiding mk tl_mk mk_tl mk_app
/-- f(bits = .., registers = ..) -/
def kwBA {α : Type} : List α → List α → List α := fun us zs => match us, zs with
  | [], [a, b] => [b, a]
  | _, _ => []
theorem Dn.ba {n : Addr → Prop} {H : Hp} {p : Addr} (h : Dn n H (.ref p) (outI none)) : H p = some (.tup [.str "BadAddress"]) := by
  match h with
  | .tup _ e (.cons (.str _) .nil) => exact e
theorem noB {z : Str} {c : Nat} (h : c ∈ tl z) (h2 : c ≠ 48) (h3 : c ≠ 49) : ¬ IsB (tl z) := fun hb => by
  rcases hb c h with e | e
  · exact h2 e
  · exact h3 e
theorem dxs_no {n : Addr → Prop} {H : Hp} {x : V} {dd : PyData} {z : Str} (hz : z.length ≤ 700) (h : dd ∈ ([.none, .int 5, .list [.str "0"], .str "2", .str (z ++ ("x" : Str)), .str " ", .tuple [.str "0", .str "1"], .dict []] : List PyData)) (hx : Dn n H x dd) : NoBits x (kindD dd) := by
  simp only [List.mem_cons, List.not_mem_nil, or_false] at h
  rcases h with rfl | rfl | rfl | rfl | rfl | rfl | rfl | rfl
  · exact .inl (by decide)
  · exact .inl (by decide)
  · exact .inl (by decide)
  · cases hx
    exact .inr ⟨_, rfl, by decide +kernel, noB (c := 50) (by decide +kernel) (by decide) (by decide)⟩
  · cases hx
    refine .inr ⟨_, rfl, ?_, noB (c := 120) ?_ (by decide) (by decide)⟩
    · rw [K83.len_app, show ("x" : Str).length = 1 from by decide +kernel]
      omega
    · show 120 ∈ (Str.append z "x").cps.toList
      rw [show (Str.append z "x").cps.toList = z.cps.toList ++ [120] from by simp [Str.append]; rfl]
      simp
  · cases hx
    exact .inr ⟨_, rfl, by decide +kernel, noB (c := 32) (by decide +kernel) (by decide) (by decide)⟩
  · exact .inl (by decide)
  · exact .inl (by decide)
theorem bad_ix {n : Nat} {da : PyData} (h : da ∈ ([.none, .bool true, .int (-1), .int (((n : Nat) : Int) + 7), .str "0", .tuple [.int 0], .dict []] : List PyData)) : BadA n da := by
  simp only [List.mem_cons, List.not_mem_nil, or_false] at h
  rcases h with rfl | rfl | rfl | rfl | rfl | rfl | rfl
  · exact ⟨.inl (by decide), rfl, .inl rfl⟩
  · exact ⟨.inl (by decide), rfl, .inl rfl⟩
  · exact ⟨.inr ⟨_, rfl, by omega⟩, rfl, .inl rfl⟩
  · exact ⟨.inr ⟨_, rfl, by omega⟩, rfl, .inl rfl⟩
  · exact ⟨.inl (by decide), by decide +kernel, .inl (by decide +kernel)⟩
  · exact ⟨.inl (by decide), rfl, .inl rfl⟩
  · exact ⟨.inl (by decide), rfl, .inr rfl⟩
section
variable {P : Program} {w0 : World} {K : PySem.W.Frag} {mg : Str → Option Value} {base : Heap} {SE BI BB BR BA : Addr}
theorem Dn.val {n : Addr → Prop} {H : Hp} {p : Addr} {ds : List (Nat × PyData)} (h : Dn n H (.ref p) (outB (.ok ds))) : ∃ L xs, H p = some (.tup [.str "value", .ref L]) ∧ H L = some (.lst xs) ∧ DnAll n H xs (ds.map itD) := by
  match h with
  | .tup _ e (.cons (.str _) (.cons (.lst _ e2 d) .nil)) => exact ⟨_, _, e, e2, d⟩
theorem Dn.bad {n : Addr → Prop} {H : Hp} {p : Addr} {a : Nat} (h : Dn n H (.ref p) (outB (.error a))) : H p = some (.tup [.str "BadBits", .int (a : Nat)]) := by
  match h with
  | .tup _ e (.cons (.str _) (.cons (.int _) .nil)) => exact e
theorem Dn.item {n : Addr → Prop} {H : Hp} {x : V} {q : Nat × PyData} (h : Dn n H x (itD q)) : ∃ T y, x = .ref T ∧ H T = some (.tup [.int (q.1 : Nat), y]) ∧ Dn n H y q.2 := by
  match x, h with
  | .ref T, .tup _ e (.cons (.int _) (.cons d .nil)) => exact ⟨T, _, rfl, e, d⟩
theorem Dn.ins {n : Addr → Prop} {H : Hp} {x : V} {w : Str} {ps : List PyData} (h : Dn n H x (.tuple (.str w :: ps))) : ∃ T ys, x = .ref T ∧ H T = some (.tup (.str w :: ys)) ∧ DnAll n H ys ps := by
  match x, h with
  | .ref T, .tup _ e (.cons (.str _) d) => exact ⟨T, _, rfl, e, d⟩
theorem okl_law {f : Addr} {fd : FuncData} (F : Fun K "law" "law" s_law f fd) (B : Bn3 mg) (SK : SysK K) (c__law_begun : Dq P w0 K mg base CX0 1 "_law_begun" ["script"] (spBegun K)) (c__law_take : Dq P w0 K mg base CX0 2 "_law_take" ["draw", "many"] spTake)
    (c__law_pick : Dq P w0 K mg base CX0 3 "_law_pick" ["draw", "some"] (spPick K)) (c__law_instruction : Dq P w0 K mg base CX0 7 "_law_instruction" ["draw", "registers"] splInstr) (c__law_told_bits : Dq P w0 K mg base CX0 5 "_law_told_bits" ["instruction"] splToldB)
    (c__law_bits : Dq P w0 K mg base CX0 4 "_law_bits" ["draw", "most"] splBits) (c__law_changed : Dq P w0 K mg base CX0 5 "_law_changed" ["draw", "bits"] splChanged) (c__law_due : Dq P w0 K mg base CX0 6 "_law_due" ["registers", "bits"] splDue)
    (c__law_one_at : Dq P w0 K mg base CX0 5 "_law_one_at" ["registers", "bits", "at"] splOneAt) (c__law_refusal : Dq P w0 K mg base CX0 8 "_law_refusal" ["registers", "bits", "address"] (splRefusal K BR BB BA))
    (c_bits_of : Dq P w0 K mg base (L2.CX P w0) 7 "bits_of" ["registers", "instructions"] (spBitsOfL K BR BI)) (k_read_bits : Dk P w0 K mg base (L2.CX P w0) 7 "read_bits" ["registers", "bits"] ["bits", "registers"] kwBA (spRdBits K BR BB)) :
    FnG P w0 K mg base 10 f fd ["script"] (spLawT K) := by
  refine Fun.okG F sc_law (fun vs H Q E h => ?_) (fun cdv A outer s H vs Q E hg hr h => ?_)
  · obtain ⟨a, ns, rfl, _⟩ := h
    rfl
  · obtain ⟨a, ns, rfl, hS, hn, k⟩ := h
    refine ⟨_, (Evl.pss_cut (ps_set (i := 1) sc_law.nd rfl (Or.inr rfl) (pe_q c__law_begun hr (by decide) (by rfl) (pa_cons (pv 0) pa_nil)))
      (Evl.pss_cut (ps_asg (pe_tup (pa_cons (pe_op op_add pe_int (pe_q c__law_take hr (by decide) (by rfl) (pa_cons (pv 1) (pa_cons pe_int pa_nil)))) (pa_cons (pe_q c__law_take hr (by decide) (by rfl) (pa_cons (pv 1) (pa_cons pe_int pa_nil))) pa_nil))) (pg_tup (by rfl) (pgs_cons (pg_name (i := 2) sc_law.nd rfl (Or.inr rfl)) (pgs_cons (pg_name (i := 3) sc_law.nd rfl (Or.inl rfl)) pgs_nil))))
      (Evl.pss_cut (ps_setLc (i := 5) (own := [("k", 4)]) (g := (gName 4)) (tt := tYes) (by rfl) sc_law.nd rfl rfl (sw_true rfl rfl rfl (by decide +kernel)) (pi_range1 (by rfl) B.range (pa_cons (pe_q c__law_take hr (by decide) (by rfl) (pa_cons (pv 1) (pa_cons pe_int pa_nil))) pa_nil)) (blkOk_by (N := n_law) (sc := defScope s_law) (by decide +kernel)) (fun _ _ _ _ _ => (pg_name (i := 4) sc_law.nd rfl (Or.inl rfl))) (fun _ _ _ _ _ => pts_nil) (fun _ _ _ _ _ => (pe_q c__law_told_bits hr (by decide) (by rfl) (pa_cons (pe_q c__law_instruction hr (by decide) (by rfl) (pa_cons (pv 1) (pa_cons (pv 2) pa_nil))) pa_nil))))
      (Evl.pss_cut (ps_set (i := 6) sc_law.nd rfl (Or.inl rfl) (pe_ifExp (pt_cmpR op_eq (pv 3) pe_int (nomark _)) (pe_q c__law_bits hr (by decide) (by rfl) (pa_cons (pv 1) (pa_cons pe_int pa_nil))) (pe_q c__law_changed hr (by decide) (by rfl) (pa_cons (pv 1) (pa_cons (pe_join pe_str (pv 5)) pa_nil)))))
      (Evl.pss_cut (ps_par (i := 7) (j := 8) rfl sc_law.nd rfl rfl (by decide) rfl rfl (pa_cons (pe_q c__law_due hr (by decide) (by rfl) (pa_cons (pv 2) (pa_cons (pv 6) pa_nil))) (pa_cons (pe_q c__law_refusal hr (by decide) (by rfl) (pa_cons (pv 2) (pa_cons (pv 6) (pa_cons pe_str pa_nil)))) pa_nil)) rfl)
      (Evl.pss_cut (ps_if (pt_cmpR op_ne (pe_callB (call_reprA SK hg hr.units) (by rfl) B.repr (by decide +kernel) (pa_cons (pv 8) pa_nil)) (pe_callB (call_reprA SK hg hr.units) (by rfl) B.repr (by decide +kernel) (pa_cons (pv 7) pa_nil)) (nomark _)) (pss_one (ps_ret pe_bl)) pss_nil)
      (Evl.pss_cut (ps_if (pt_cmpR op_eq (pe_ix ix_tup (pv 7) pe_int (fun _ _ => rfl)) pe_str (nomark _)) (Evl.pss_cut (ps_setLc (i := 10) (own := [("at", 9), ("item", 13)]) (g := (gTup K 2 (gCons (gName 9) (gCons (gName 13) gNil)))) (tt := _) (by rfl) sc_law.nd rfl rfl (sw_true rfl rfl rfl (by decide +kernel)) (pi_list (pe_ix ix_tup (pv 7) pe_int (fun _ _ => rfl))) (blkOk_by (N := n_law) (sc := defScope s_law) (by decide +kernel)) (fun _ _ _ _ _ => (pg_tup (by rfl) (pgs_cons (pg_name (i := 9) sc_law.nd rfl (Or.inl rfl)) (pgs_cons (pg_name (i := 13) sc_law.nd rfl (Or.inl rfl)) pgs_nil)))) (fun _ _ _ _ _ => (pts_one (PW.pt (pw_and (pt_cmpR op_eq (pe_ix (ix_tupK (K := K) rfl) (pv 13) pe_int (fun _ _ => rfl)) pe_str (nomark _)) (pw_and1 (pt_cmpR op_ge (pe_callB call_abs (by rfl) B.abs (by decide +kernel) (pa_cons (pe_ix (ix_tupK (K := K) rfl) (pv 13) pe_int (fun _ _ => rfl)) pa_nil)) (pe_op op_pow pe_int pe_int) (nomark _))))))) (fun _ _ _ _ _ => (pv 13)))
      (Evl.pss_cut (ps_if (PW.pt (pw_and (pt_cmpR (op_eq_nilL hr.units) (pv 10) (pe_lst pa_nil) (nomark _)) (pw_and1 (pt_cmpR op_ne (pe_qX c_bits_of hr (by decide) (by rfl) passN (pa_cons (pv 2) (pa_cons (pe_lc (own := [("at", 9), ("item", 13)]) (g := (gTup K 2 (gCons (gName 9) (gCons (gName 13) gNil)))) (tt := tYes) (by rfl) sc_law.nd (pi_list (pe_ix ix_tup (pv 8) pe_int (fun _ _ => rfl))) (blkOk_by (N := n_law) (sc := defScope s_law) (by decide +kernel)) (fun _ _ _ _ _ => (pg_tup (by rfl) (pgs_cons (pg_name (i := 9) sc_law.nd rfl (Or.inl rfl)) (pgs_cons (pg_name (i := 13) sc_law.nd rfl (Or.inl rfl)) pgs_nil)))) (fun _ _ _ _ _ => pts_nil) (fun _ _ _ _ _ => (pv 13))) pa_nil))) (pv 6) (nomark _))))) (pss_one (ps_ret pe_bl)) pss_nil)
      (pss_one (ps_if (pt_cmpR op_ne (pe_callB (call_reprA SK hg hr.units) (by rfl) B.repr (by decide +kernel) (pa_cons (pe_qK0 k_read_bits hr (by decide) (by rfl) passN (pk_cons (pv 6) (pk_cons (pv 2) pk_nil))) pa_nil)) (pe_callB (call_reprA SK hg hr.units) (by rfl) B.repr (by decide +kernel) (pa_cons (pe_ix ix_tup (pv 7) pe_int (fun _ _ => rfl)) pa_nil)) (nomark _)) (pss_one (ps_ret pe_bl)) pss_nil)))) (pss_one (ps_if (pt_cmpR op_ne (pe_callB (call_reprA SK hg hr.units) (by rfl) B.repr (by decide +kernel) (pa_cons (pe_q c__law_refusal hr (by decide) (by rfl) (pa_cons (pv 2) (pa_cons (pe_slice sl_str (pv 6) po_none (po_some (pe_ix ix_tup (pv 7) pe_int (fun _ _ => rfl)))) (pa_cons pe_str pa_nil)))) pa_nil)) (pe_callB (call_reprA SK hg hr.units) (by rfl) B.repr (by decide +kernel) (pa_cons (pe_tup (pa_cons pe_str (pa_cons (pe_ix ix_tup (pe_q c__law_due hr (by decide) (by rfl) (pa_cons (pv 2) (pa_cons (pe_slice sl_str (pv 6) po_none (po_some (pe_ix ix_tup (pv 7) pe_int (fun _ _ => rfl)))) pa_nil))) pe_int (fun _ _ => rfl)) pa_nil))) pa_nil)) (nomark _)) (pss_one (ps_ret pe_bl)) pss_nil)))
      (Evl.pss_cut (ps_for PassesOwn.never rfl (pi_range1 (by rfl) B.range (pa_cons pe_int pa_nil)) (pg_name (i := 4) sc_law.nd rfl (Or.inl rfl)) (pss_cons (ps_set (i := 9) sc_law.nd rfl (Or.inl rfl) (pe_q c__law_take hr (by decide) (by rfl) (pa_cons (pv 1) (pa_cons (pe_op op_add (pe_callB call_len_str (by rfl) B.len PySem.boot_len (pa_cons (pv 6) pa_nil)) pe_int) pa_nil))))
      (pss_cons (ps_set (i := 11) sc_law.nd rfl (Or.inl rfl) (pe_q c__law_one_at hr (by decide) (by rfl) (pa_cons (pv 2) (pa_cons (pv 6) (pa_cons (pv 9) pa_nil)))))
      (pss_one (ps_if (pt_cmpR op_ne (pe_callB (call_reprA SK hg hr.units) (by rfl) B.repr (by decide +kernel) (pa_cons (pe_q c__law_refusal hr (by decide) (by rfl) (pa_cons (pv 2) (pa_cons (pv 6) (pa_cons (pv 9) pa_nil)))) pa_nil)) (pe_callB (call_reprA SK hg hr.units) (by rfl) B.repr (by decide +kernel) (pa_cons (pe_ifExp (pt_cmpR op_isN (pv 11) pe_non (nomark _)) (pe_tup (pa_cons pe_str pa_nil)) (pe_tup (pa_cons pe_str (pa_cons (pv 11) pa_nil)))) pa_nil)) (nomark _)) (pss_one (ps_ret pe_bl)) pss_nil)))))
      (Evl.pss_cut (ps_for PassesOwn.never rfl (pi_list (pe_lst (pa_cons pe_non (pa_cons pe_bl (pa_cons (pe_neg pe_int) (pa_cons (pe_callB call_len_str (by rfl) B.len PySem.boot_len (pa_cons (pv 6) pa_nil)) (pa_cons (pe_op op_add (pe_callB call_len_str (by rfl) B.len PySem.boot_len (pa_cons (pv 6) pa_nil)) pe_int) (pa_cons pe_str (pa_cons (pe_tup (pa_cons pe_int pa_nil)) (pa_cons pe_dnewK pa_nil)))))))))) (pg_name (i := 9) sc_law.nd rfl (Or.inl rfl)) (pss_one (ps_if (pt_cmpR (op_neD hr.units) (pe_q c__law_refusal hr (by decide) (by rfl) (pa_cons (pv 2) (pa_cons (pv 6) (pa_cons (pv 9) pa_nil)))) (pe_tup (pa_cons pe_str pa_nil)) (nomark _)) (pss_one (ps_ret pe_bl)) pss_nil)))
      (Evl.pss_cut (ps_set (i := 12) sc_law.nd rfl (Or.inr rfl) (pe_q c__law_pick hr (by decide) (by rfl) (pa_cons (pv 1) (pa_cons (pe_lst (pa_cons pe_non (pa_cons pe_int (pa_cons (pe_lst (pa_cons pe_str pa_nil)) (pa_cons pe_str (pa_cons (pe_op op_add_str (pv 6) pe_str) (pa_cons pe_str (pa_cons (pe_tup (pa_cons pe_str (pa_cons pe_str pa_nil))) (pa_cons pe_dnewK pa_nil))))))))) pa_nil))))
      (pss_one (ps_ret (pe_cmpR op_eq (pe_callB (call_reprA SK hg hr.units) (by rfl) B.repr (by decide +kernel) (pa_cons (pe_lc (own := [("at", 9)]) (g := (gName 9)) (tt := tYes) (by rfl) sc_law.nd (pi_list (pe_lst (pa_cons pe_str (pa_cons pe_int (pa_cons pe_non pa_nil))))) (blkOk_by (N := n_law) (sc := defScope s_law) (by decide +kernel)) (fun _ _ _ _ _ => (pg_name (i := 9) sc_law.nd rfl (Or.inl rfl))) (fun _ _ _ _ _ => pts_nil) (fun _ _ _ _ _ => (pe_q c__law_refusal hr (by decide) (by rfl) (pa_cons (pv 2) (pa_cons (pv 12) (pa_cons (pv 9) pa_nil)))))) pa_nil)) (pe_callB (call_reprA SK hg hr.units) (by rfl) B.repr (by decide +kernel) (pa_cons (pe_op op_rep (pe_lst (pa_cons (pe_tup (pa_cons pe_str (pa_cons pe_non pa_nil))) pa_nil)) pe_int) pa_nil)) (nomark _)))))))))))))), ?_⟩
    have big : (2 : Nat) ^ 36 > 100000 ∧ (2 : Nat) ^ 36 < 2 ^ 37 ∧ (2 : Nat) ^ 37 < 2 ^ 38 ∧ (2 : Nat) ^ 38 < 2 ^ 39 ∧ (2 : Nat) ^ 39 < 2 ^ 40 ∧ (10000 : Int) < 2 ^ 62 := by decide
    -- 0: the draw
    refine ⟨fun σ H' => ∃ d w c, σ = [some (.ref a), some (.ref d), none, none, none, none, none, none, none, none, none, none, none, none] ∧ DrawAt H' d w c 0, ?_, ?_⟩
    · exact ⟨_, rfl, a, ns, rfl, hS, hn, fun d w c H' _ _ _ hD s => ⟨d, w, c, rfl, hD⟩⟩
    rintro σ H1 ⟨d, w, c, rfl, D1⟩
    -- 1: the registers
    refine ⟨fun σ H' => ∃ (r : Nat) (v : V) (wy : Int), σ = [some (.ref a), some (.ref d), some v, some (.int wy), none, none, none, none, none, none, none, none, none, none] ∧ v = .int r ∧ 6 ≤ r ∧ r ≤ 9 ∧ DrawAt H' d w c 2, ?_, ?_⟩
    · refine ⟨_, rfl, d, w, c, 0, 4, rfl, D1, by omega, by decide, by decide, fun i H2 i0 i1 D2 b2 => ⟨_, _, rfl, rfl, _, rfl, d, w, c, 1, 5, rfl, D2, by omega, by decide, by decide, fun j H3 j0 j1 D3 b3 => ⟨(by show 2 ≤ sizeLine; decide), fun t ht => ⟨t, _, rfl, SqT.of upd_same, rfl, _, _, rfl, _, _, rfl, rfl, ?_⟩⟩⟩⟩
      obtain ⟨m, rfl⟩ := Int.eq_ofNat_of_zero_le i0
      exact ⟨6 + m, _, _, rfl, by show V.int (6 + (m : Int)) = V.int (((6 + m : Nat)) : Int); rw [Int.natCast_add]; rfl, by omega, by omega, D3.new ht⟩
    rintro σ H2 ⟨r, v, wy, rfl, rfl, h6, h9, D2⟩
    -- 2: the items
    refine ⟨fun σ H' => ∃ (L : Addr) (ls : List K82.L), σ = [some (.ref a), some (.ref d), some (.int r), some (.int wy), none, some (.ref L), none, none, none, none, none, none, none, none] ∧ H' L = some (.lst ((ls.map K83.mk).map V.str)) ∧ ls.length ≤ 5 ∧ (∀ x ∈ ls, IsB x ∧ x.length ≤ 130) ∧ DrawAt H' d w c 1000, ?_, ?_⟩
    · refine ⟨_, rfl, d, w, c, 2, 6, rfl, D2, by omega, by decide, by decide, fun i H3 i0 i1 D3 b3 => ?_⟩
      obtain ⟨m, rfl⟩ := Int.eq_ofNat_of_zero_le i0
      refine ⟨_, rfl, by omega, by omega, fun q hq => ?_⟩
      show ∃ W, _
      rw [Int.toNat_natCast]
      have kq := D3.knowD hq
      refine lc_range (lo := 0) (n := m) (fun i H' => ∃ ls : List K82.L, H' q = some (.lst ((ls.map K83.mk).map V.str)) ∧ ls.length = i ∧ (∀ x ∈ ls, IsB x ∧ x.length ≤ 130) ∧ DrawAt H' d w c (3 + 130 * i)) ⟨[], upd_same, rfl, (fun x h => by cases h), D3.new hq⟩ ?_ ?_
      · rintro i H4 hi ⟨ls, e4, hl, ho, D4⟩
        refine ⟨rfl, yes ⟨_, rfl, _, rfl, d, w, c, 3 + 130 * i, r, rfl, D4, by omega, by omega, h9, fun a2 xs2 ds2 H5 e5 fa hd oo jj D5 b5 => ?_⟩⟩
        refine ⟨r, .ref a2, .tuple ds2, rfl, .tup trivial e5 hd.any, oo, jj, fun H6 s6 => ?_⟩
        have e6 := s6 _ _ (b5 _ _ e4 kq.1 kq.2.1)
        refine ⟨_, e6, ?_, ls ++ [encI (.tuple ds2)], ?_, by rw [List.length_append, hl]; rfl, fun x hx => ?_, ((D5.same s6).upd kq.1 kq.2.1 kq.2.2).mono (by omega)⟩
        · rw [List.length_map, List.length_map, hl]
          exact small20 (by omega)
        · rw [upd_same, List.map_append, List.map_append]
          rfl
        · rcases List.mem_append.mp hx with hx | hx
          · exact ho x hx
          · rw [List.mem_singleton.mp hx]
            exact ⟨encI_isB, (encI_len2 jj oo).2⟩
      · rintro H4 ⟨ls, e4, hl, ho, D4⟩
        exact ⟨q, ls, rfl, e4, by omega, ho, D4.mono (by omega)⟩
    rintro σ H3 ⟨L, ls, rfl, e3, l5, hls, D3⟩
    -- 3: the bits
    refine ⟨fun σ H' => ∃ z : Str, σ = [some (.ref a), some (.ref d), some (.int r), some (.int wy), none, some (.ref L), some (.str z), none, none, none, none, none, none, none] ∧ IsB (tl z) ∧ z.length ≤ 662 ∧ DrawAt H' d w c 1200, ?_, ?_⟩
    · refine ⟨_, rfl, rfl, _, rfl, ite2 (fun _ => ?_) (fun _ => ?_)⟩
      · exact ⟨_, rfl, d, w, c, 1000, 60, rfl, D3, by omega, by decide, fun z H4 hb hz D4 b4 => ⟨z, rfl, hb, by omega, D4.mono (by omega)⟩⟩
      · have hfl : ls.flatten.length ≤ 650 := by
          have h : ∀ l : List K82.L, (∀ x ∈ l, x.length ≤ 130) → l.flatten.length ≤ l.length * 130 := by
            intro l
            induction l with
            | nil => intro _; simp
            | cons x l ih =>
              intro h
              have := ih fun y hy => h y (List.mem_cons_of_mem _ hy)
              have h1 := h x List.mem_cons_self
              rw [List.flatten_cons, List.length_append, List.length_cons, Nat.succ_mul]
              omega
          have := h ls fun x hx => (hls x hx).2
          omega
        refine ⟨_, rfl, ⟨_, rfl⟩, _, rfl, _, L, _, rfl, rfl, .inl (SqL.of e3), ?_, ?_⟩
        · have := sum_le (k := 130) ls fun x hx => (hls x hx).2
          rw [show ("" : Str).length = 0 by decide +kernel]
          omega
        · rw [join_flat]
          exact ⟨d, w, c, 1000, _, rfl, D3, by omega, by rw [K83.tl_mk]; exact isB_flat fun x hx => (hls x hx).1, by rw [K83.mk_len]; omega, fun z H4 hb hz D4 b4 => ⟨z, rfl, hb, Nat.le_trans hz (by rw [K83.mk_len]; omega), D4.mono (by omega)⟩⟩
    rintro σ H4 ⟨z, rfl, hb, hz, D4⟩
    have hzl : z.length = (tl z).length := rfl
    have gB := fun (y : Str) (hb : IsB (tl y)) (hy : (tl y).length ≤ 700) => (outB_nc (r := r) hb hy).gd (by decide) (by decide)
    -- 4: what is due, and what is told
    refine ⟨fun σ H' => ∃ tD tT, σ = [some (.ref a), some (.ref d), some (.int r), some (.int wy), none, some (.ref L), some (.str z), some (.ref tD), some (.ref tT), none, none, none, none, none] ∧ Same H4 H' ∧ Dn anyA H' (.ref tD) (outB (rdB r (tl z))) ∧ Dn anyA H' (.ref tT) (outB (rdB r (tl z))), ?_, ?_⟩
    · refine ⟨_, rfl, _, rfl, r, z, rfl, h9, by omega, hb, out_due fun tD H5 s5 dD => ⟨_, rfl, _, rfl, ref_all (E := fun _ _ _ => False) h6 h9 (by omega) hb fun tT H6 s6 dT => ⟨_, _, rfl, ?_⟩⟩⟩
      exact ⟨tD, tT, rfl, s5.trans s6, dD.same s6, dT⟩
    rintro σ H5 ⟨tD, tT, rfl, s5, dD, dT⟩
    -- 5: they are alike
    have g5 := gB z hb (by omega)
    refine ⟨fun σ H' => H' = H5 ∧ σ = [some (.ref a), some (.ref d), some (.int r), some (.int wy), none, some (.ref L), some (.str z), some (.ref tD), some (.ref tT), none, none, none, none, none], ?_, ?_⟩
    · exact ⟨_, rfl, _, _, rfl, dT.dx, g5.1, g5.2.1, g5.2.2, _, rfl, _, _, rfl, dD.dx, g5.1, g5.2.1, g5.2.2, rfl, _, rfl, iteNS rfl ⟨rfl, rfl⟩⟩
    rintro σ H6 ⟨rfl, rfl⟩
    -- 6: written back, or the rest ahead is good
    refine ⟨fun σ H' => ∃ y10, σ = [some (.ref a), some (.ref d), some (.int r), some (.int wy), none, some (.ref L), some (.str z), some (.ref tD), some (.ref tT), none, y10, none, none, none] ∧ Same H6 H', ?_, ?_⟩
    · cases hrd : rdB r (tl z) with
      | ok ds =>
        rw [hrd] at dD dT g5
        obtain ⟨LD, xsD, eD, eLD, nD⟩ := dD.val
        obtain ⟨LT, xsT, eT, eLT, nT⟩ := dT.val
        obtain ⟨q1, q2, q3⟩ := rdB_ok hb hrd
        have hlD : xsD.length = ds.length := by rw [nD.len, List.length_map]
        have hlT : xsT.length = ds.length := by rw [nT.len, List.length_map]
        refine ⟨_, rfl, tD, _, 0, _, rfl, rfl, SqT.of eD, at0 _ _, rfl, _, rfl, iteTd (by decide +kernel) ?_⟩
        refine ⟨fun σ H' => ∃ (W : Addr) (fs : List V), σ = [some (.ref a), some (.ref d), some (.int r), some (.int wy), none, some (.ref L), some (.str z), some (.ref tD), some (.ref tT), none, some (.ref W), none, none, none] ∧ Same H6 H' ∧ H' W = some (.lst fs) ∧ (fs = [] → ∀ q ∈ ds, nearD q.2), ?_, ?_⟩
        · refine ⟨_, rfl, tD, _, 1, _, rfl, rfl, SqT.of eD, rfl, LD, rfl, ⟨_, SqL.of eLD⟩, fun W hW => lc_list (K := K) (a := LD) (xs := xsD) (fun i H' => Same H6 H' ∧ ∃ fs : List V, H' W = some (.lst fs) ∧ fs.length ≤ i ∧ (fs = [] → ∀ q ∈ ds.take i, nearD q.2)) ⟨Same.new hW, [], upd_same, Nat.le_refl _, fun _ q hq => by simp at hq⟩ (fun i H' _ h => SqL.of (h.1 _ _ eLD)) ?_ ?_⟩
          · rintro i x H7 hx ⟨s7, fs, eW, hfl, hnear⟩
            have hil : i < xsD.length := (List.getElem?_eq_some_iff.mp hx).1
            obtain ⟨dd, hdi, hdn⟩ := (nD.same s7).at hx
            rw [List.getElem?_map] at hdi
            obtain ⟨q, hq, rfl⟩ := Option.map_eq_some_iff.mp hdi
            obtain ⟨T, y, rfl, eT7, hy⟩ := hdn.item
            have hjq := q1 q (List.mem_of_getElem? hq)
            obtain ⟨w', ps, ls2, hq2, hm, _, hps⟩ := judged_ex hjq.1
            have hj2 := hjq.1
            rw [hq2] at hy hj2
            obtain ⟨Ti, ys, rfl, eTi, hys⟩ := hy.ins
            have tk : ds.take (i + 1) = ds.take i ++ [q] := by
              rw [List.take_add_one, hq]
              rfl
            refine ⟨T, _, rfl, SqT.of eT7, rfl, _, _, rfl, _, _, rfl, rfl, rfl, _, rfl, Ti, _, 0, _, rfl, rfl, SqT.of eTi, at0 _ _, rfl, _, rfl, ?_⟩
            by_cases hw : w' = "const"
            · subst hw
              obtain ⟨x1, v, rfl⟩ := const_shape hj2
              match ys, hys, eTi with
              | [y1, _], .cons h1 (.cons (.int _) .nil), eTi =>
              have h12 : CPow 10 12 := ⟨by decide, by decide, by decide⟩
              have e12 : (10 : Int) ^ (Int.toNat 12) = 1000000000000 := by decide
              have e12n : (10 : Nat) ^ 12 = 1000000000000 := by decide
              refine iteTd (by decide) ⟨_, rfl, Ti, _, 2, .int v, rfl, rfl, SqT.of eTi, rfl, _, rfl, _, _, rfl, rfl, h12, _, _, rfl, rfl, _, rfl, ite2 (fun h => ?_) (fun h => ?_)⟩
              · refine ⟨_, rfl, fs, eW, small1000 (by omega), Same.upd' s7 hW, fs ++ [.ref Ti], upd_same, by rw [List.length_append]; simp; omega, fun e => absurd e (by simp)⟩
              · refine ⟨s7, fs, eW, by omega, fun e p hp => ?_⟩
                rw [tk] at hp
                rcases List.mem_append.mp hp with hp | hp
                · exact hnear e p hp
                · rw [List.mem_singleton.mp hp, hq2]
                  intro x2 v2 e2
                  injection e2 with e2
                  injection e2 with _ e2
                  injection e2 with _ e2
                  injection e2 with e2 _
                  injection e2 with e2
                  rw [← e2, e12n]
                  rcases (show v < 0 ∨ 0 ≤ v by omega) with hv | hv
                  · have h := fun z => h (decide_eq_true z)
                    rw [if_pos hv, e12] at h
                    have h : ¬ (1000000000000 : Int) ≤ -v := h
                    omega
                  · have h := fun z => h (decide_eq_true z)
                    rw [if_neg (by omega), e12] at h
                    have h : ¬ (1000000000000 : Int) ≤ v := h
                    omega
            · refine iteFd (decide_eq_false fun h => hw (V.str.inj h)) ⟨s7, fs, eW, by omega, fun e p hp => ?_⟩
              rw [tk] at hp
              rcases List.mem_append.mp hp with hp | hp
              · exact hnear e p hp
              · rw [List.mem_singleton.mp hp, hq2]
                exact near_other hw
          · rintro H7 ⟨s7, fs, eW, hfl, hnear⟩
            rw [hlD, List.take_length] at hnear
            exact ⟨W, fs, rfl, s7, eW, hnear⟩
        rintro σ H7 ⟨W, fs, rfl, s7, eW, hnear⟩
        refine ⟨fun σ H' => σ = [some (.ref a), some (.ref d), some (.int r), some (.int wy), none, some (.ref L), some (.str z), some (.ref tD), some (.ref tT), none, some (.ref W), none, none, none] ∧ Same H6 H', ?_, ?_⟩
        · refine ⟨_, rfl, (by show 0 ≤ sizeLine; exact Nat.zero_le _), fun qz hqz => ⟨W, qz, fs, rfl, rfl, SqL.of ((Same.new hqz) _ _ eW), SqL.of upd_same, _, rfl, ?_⟩⟩
          have s8 := s7.trans (Same.new hqz (o := .lst []))
          generalize upd H7 qz (.lst []) = H8 at s8 ⊢
          match fs, hnear with
          | _ :: _, _ => exact iteFd rfl ⟨rfl, s8⟩
          | [], hnear =>
          have hnear := hnear rfl
          have nT8 := nT.same s8
          refine iteTd rfl ⟨_, rfl, _, rfl, tT, _, 1, _, rfl, rfl, SqT.of (s8 _ _ eT), rfl, LT, rfl, ⟨_, SqL.of (s8 _ _ eLT)⟩, fun Z hZ => lc_list (K := K) (a := LT) (xs := xsT) (fun i H' => Same H8 H' ∧ ∃ ys : List V, H' Z = some (.lst ys) ∧ ys.length = i ∧ DnAll (fun b => b ≠ Z) H' ys ((ds.take i).map Prod.snd)) ⟨Same.new hZ, [], upd_same, rfl, .nil⟩ (fun i H' _ h => SqL.of (h.1 _ _ (s8 _ _ eLT))) ?_ ?_⟩
          · rintro i x H9 hx ⟨s9, ys, eZ, hyl, dn⟩
            have hil : i < xsT.length := (List.getElem?_eq_some_iff.mp hx).1
            obtain ⟨dd, hdi, hdn⟩ := ((DnAll.off hZ nT8).same s9).at hx
            rw [List.getElem?_map] at hdi
            obtain ⟨q, hq, rfl⟩ := Option.map_eq_some_iff.mp hdi
            obtain ⟨T, y, rfl, eT9, hy⟩ := hdn.item
            have tk : (ds.take (i + 1)).map Prod.snd = (ds.take i).map Prod.snd ++ [q.2] := by
              rw [List.take_add_one, hq, List.map_append]
              rfl
            have kp : ∀ b o, b ≠ Z → H9 b = some o → upd H9 Z (.lst (ys ++ [y])) b = some o := fun b o hb e => by rw [upd_ne hb]; exact e
            refine ⟨T, _, rfl, SqT.of eT9, rfl, _, _, rfl, _, _, rfl, rfl, rfl, yes ⟨_, rfl, ys, eZ, small1000 (by omega), Same.upd' s9 hZ, ys ++ [y], upd_same, by rw [List.length_append, hyl]; rfl, ?_⟩⟩
            rw [tk]
            exact DnAll.app (dn.keep kp fun _ h => h) (.cons (hy.keep (fun b o hb e => kp b o hb.2 e) fun _ h => h.2) .nil)
          · rintro H9 ⟨s9, ys, eZ, hyl, dn⟩
            rw [hlT, List.take_length] at dn
            refine ⟨r, Z, ys, ds.map Prod.snd, rfl, h6, h9, eZ, dn, fun x hx => ?_, by rw [List.length_map]; omega, ?_, ?_⟩
            · obtain ⟨q, hq, rfl⟩ := List.mem_map.mp hx
              exact okD_judged (q1 q hq).1 (hnear q hq)
            · intro hall H10 s10
              refine ⟨_, rfl, rfl, _, rfl, iteNS ?_ ⟨rfl, s8.trans (s9.trans s10)⟩⟩
              rw [show (((ds.map Prod.snd).map encI).flatten : K82.L) = tl z from q2, K83.mk_tl]
            · intro i x hi hj _
              obtain ⟨q, hq, rfl⟩ := List.mem_map.mp (List.mem_of_getElem? hi)
              rw [(q1 q hq).1] at hj
              cases hj
        rintro σ H8 ⟨rfl, s8⟩
        have gl := (items_nc hb (by omega) hrd).gd (by decide) (by decide)
        refine ⟨_, rfl, _, rfl, .int (r : Nat), .str z, "int", "str", rfl, .int _, .str _, .inr ⟨r, rfl, h6, h9, .inr ⟨z, rfl, by omega, hb, fun n _ _ => okAt_all (by omega) hb n, fun ds' e p vs H9 hp s9 e9 dn => ?_, fun a' e => ?_⟩⟩⟩
        · have e : rdB r (tl z) = .ok ds' := e
          rw [hrd] at e
          obtain rfl := Except.ok.inj e
          have s89 := s8.trans s9
          exact ⟨_, .list (ds.map itD), rfl, .lst (SqL.of e9) dn.dx, gl.1, gl.2.1, gl.2.2, _, rfl, tD, _, 1, _, rfl, rfl, SqT.of (s89 _ _ eD), rfl, _, .list (ds.map itD), rfl, .lst (SqL.of (s89 _ _ eLD)) (nD.same s89).dx, gl.1, gl.2.1, gl.2.2, rfl, _, rfl, iteNS rfl ⟨_, rfl, s89⟩⟩
        · have e : rdB r (tl z) = .error a' := e
          rw [hrd] at e
          cases e
      | error a' =>
        rw [hrd] at dD dT g5
        have eD := dD.bad
        obtain ⟨ha, _, ds, hds⟩ := rdB_bad hb hrd
        refine ⟨_, rfl, tD, _, 0, _, rfl, rfl, SqT.of eD, at0 _ _, rfl, _, rfl, iteFd (by decide +kernel) ?_⟩
        have hbt : IsB (tl (K83.mk ((tl z).take a'))) := by rw [K83.tl_mk]; exact isB_take hb a'
        have hlt : (K83.mk ((tl z).take a')).length ≤ 662 := by rw [K83.mk_len, List.length_take]; omega
        have gt := gB (K83.mk ((tl z).take a')) hbt (by rw [K83.tl_mk, List.length_take]; omega)
        refine ⟨_, rfl, _, rfl, _, rfl, tD, _, 1, _, rfl, rfl, SqT.of eD, rfl, _, rfl, z, rfl, small5 (by omega), ?_⟩
        rw [K83.cut_0n]
        refine ref_all (E := fun _ _ _ => False) h6 h9 (by omega) hbt fun p H7 s7 dn => ?_
        rw [K83.tl_mk, hds] at dn gt
        refine ⟨_, _, rfl, dn.dx, gt.1, gt.2.1, gt.2.2, ?_⟩
        refine ⟨_, rfl, _, rfl, _, rfl, tD, _, 1, _, rfl, rfl, SqT.of (s7 _ _ eD), rfl, _, rfl, z, rfl, small5 (by omega), ?_⟩
        rw [K83.cut_0n]
        refine ⟨r, K83.mk ((tl z).take a'), rfl, h9, by omega, hbt, out_due fun p2 H8 s8 dn2 => ?_⟩
        rw [K83.tl_mk, hds] at dn2
        obtain ⟨L2', xs2, e2, eL2, n2⟩ := dn2.val
        refine ⟨p2, _, 1, _, rfl, rfl, SqT.of e2, rfl, (by show 2 ≤ sizeLine; decide), fun p3 hp3 => ⟨_, outB (.ok ds), rfl, .tup (SqT.of upd_same) (.cons (.str _) (.cons (.lst (SqL.of ((Same.new hp3) _ _ eL2)) (n2.same (Same.new hp3)).dx) .nil)), gt.1, gt.2.1, gt.2.2, rfl, _, rfl, iteNS rfl ⟨_, rfl, s7.trans (s8.trans (Same.new hp3))⟩⟩⟩
    rintro σ H7 ⟨y10, rfl, s7⟩
    have D7 := (D4.same s5).same s7
    -- 7: at every index
    refine ⟨fun σ H' => ∃ y4 y9 y11, σ = [some (.ref a), some (.ref d), some (.int r), some (.int wy), y4, some (.ref L), some (.str z), some (.ref tD), some (.ref tT), y9, y10, y11, none, none] ∧ DrawAt H' d w c 1300, ?_, ?_⟩
    · refine ⟨12, rfl, by decide, by decide, ?_⟩
      refine for_range (lo := 0) (n := 12) (fun i σ H' => ∃ y4 y9 y11, σ = [some (.ref a), some (.ref d), some (.int r), some (.int wy), y4, some (.ref L), some (.str z), some (.ref tD), some (.ref tT), y9, y10, y11, none, none] ∧ DrawAt H' d w c (1200 + i)) ⟨none, none, none, rfl, D7⟩ ?_ ?_
      · rintro i σ H8 hi ⟨y4, y9, y11, rfl, D8⟩
        refine ⟨_, rfl, _, rfl, z, rfl, small5 (by omega), _, _, rfl, rfl, d, w, c, 1200 + i, (z.length : Int) + 1, rfl, D8, by omega, by omega, by omega, fun j H9 j0 j1 D9 b9 => ?_⟩
        obtain ⟨j, rfl⟩ := Int.eq_ofNat_of_zero_le j0
        have hj : j ≤ z.length := by omega
        have gI := (outI_nc (r := r) (n := j) hb (by omega)).gd (by decide) (by decide)
        refine ⟨_, rfl, _, rfl, _, rfl, r, z, j, rfl, h9, hj, by omega, hb, fun e H10 s10 => ?_, fun dd b e p x H10 hp s10 ep hx => ?_⟩
        · refine ⟨_, rfl, _, rfl, _, rfl, ref_at (E := fun _ _ _ => False) h6 h9 (by omega) hb hj fun t H11 s11 dn => ?_⟩
          rw [e] at dn gI
          refine ⟨_, _, rfl, dn.dx, gI.1, gI.2.1, gI.2.2, _, rfl, rfl, _, rfl, iteTd rfl ⟨(by show 1 ≤ sizeLine; decide), fun p2 hp2 => ?_⟩⟩
          exact ⟨_, outI none, rfl, .tup (SqT.of upd_same) (.cons (.str _) .nil), gI.1, gI.2.1, gI.2.2, rfl, _, rfl, iteNS rfl ⟨_, _, _, rfl, (((D9.same s10).same s11).new hp2).mono (by omega)⟩⟩
        · refine ⟨_, rfl, _, rfl, _, rfl, ref_at (E := fun _ _ _ => False) h6 h9 (by omega) hb hj fun t H11 s11 dn => ?_⟩
          rw [e] at dn gI
          have hO : outI (some (dd, b)) = .tuple [.str "value", .tuple [dd, .int (b : Nat)]] := rfl
          generalize outI (some (dd, b)) = dO at dn gI hO
          refine ⟨_, _, rfl, dn.dx, gI.1, gI.2.1, gI.2.2, _, rfl, rfl, _, rfl, iteFd rfl ⟨_, rfl, (by show 2 ≤ sizeLine; decide), fun p2 hp2 => ?_⟩⟩
          have s12 := s11.trans (Same.new (o := HO.tup [.str "value", .ref p]) hp2)
          have dx2 : Dx K (upd H11 p2 (.tup [.str "value", .ref p])) (.ref p2) (.tuple [.str "value", .tuple [dd, .int (b : Nat)]]) := .tup (SqT.of upd_same) (.cons (.str _) (.cons (.tup (SqT.of (s12 _ _ ep)) (.cons (hx.same s12).dx (.cons (.int _) .nil))) .nil))
          have D12 := (((D9.same s10).same s11).new (o := HO.tup [.str "value", .ref p]) hp2).mono (show 1200 + i + 1 ≤ 1200 + (i + 1) by omega)
          rw [← hO] at dx2
          exact ⟨_, dO, rfl, dx2, gI.1, gI.2.1, gI.2.2, rfl, _, rfl, iteNS rfl ⟨_, _, _, rfl, D12⟩⟩
      · rintro σ H8 ⟨y4, y9, y11, rfl, D8⟩
        exact ⟨y4, y9, y11, rfl, D8.mono (by omega)⟩
    rintro σ H8 ⟨y4, y9, y11, rfl, D8⟩
    -- 8: what is no address
    refine ⟨fun σ H' => ∃ y9, σ = [some (.ref a), some (.ref d), some (.int r), some (.int wy), y4, some (.ref L), some (.str z), some (.ref tD), some (.ref tT), y9, y10, y11, none, none] ∧ DrawAt H' d w c 1300, ?_, ?_⟩
    · refine ⟨_, rfl, z, rfl, small5 (by omega), _, rfl, z, rfl, small5 (by omega), _, _, rfl, rfl, (by show 1 ≤ sizeLine; decide), fun t ht q hq => ⟨(by show 8 ≤ sizeLine; decide), fun l hl => ?_⟩⟩
      have st := Same.new (o := HO.tup [.int 0]) ht
      have sq := Same.new (o := HO.dK []) hq
      have sl := Same.new (o := HO.lst [.non, .bl true, .int (-1), .int (z.length : Nat), .int (((z.length : Nat) : Int) + 7), .str "0", .ref t, .ref q]) hl
      have et := sl _ _ (sq _ _ (upd_same (o := HO.tup [.int 0]) (H := H8) (a := t)))
      have eq := sl _ _ (upd_same (o := HO.dK []) (H := upd H8 t (.tup [.int 0])) (a := q))
      have D9 := ((D8.new (o := HO.tup [.int 0]) ht).new (o := HO.dK []) hq).new (o := HO.lst [.non, .bl true, .int (-1), .int (z.length : Nat), .int (((z.length : Nat) : Int) + 7), .str "0", .ref t, .ref q]) hl
      have el : (upd (upd (upd H8 t (.tup [.int 0])) q (.dK [])) l (HO.lst [.non, .bl true, .int (-1), .int (z.length : Nat), .int (((z.length : Nat) : Int) + 7), .str "0", .ref t, .ref q])) l = some (HO.lst [.non, .bl true, .int (-1), .int (z.length : Nat), .int (((z.length : Nat) : Int) + 7), .str "0", .ref t, .ref q]) := upd_same
      generalize upd (upd (upd H8 t (.tup [.int 0])) q (.dK [])) l (HO.lst [.non, .bl true, .int (-1), .int (z.length : Nat), .int (((z.length : Nat) : Int) + 7), .str "0", .ref t, .ref q]) = H9 at et eq D9 el ⊢
      refine ⟨l, rfl, ⟨_, SqL.of el⟩, for_list (K := K) (a := l) (xs := [.non, .bl true, .int (-1), .int (z.length : Nat), .int (((z.length : Nat) : Int) + 7), .str "0", .ref t, .ref q]) (fun i σ H' => Same H9 H' ∧ ∃ y9, σ = [some (.ref a), some (.ref d), some (.int r), some (.int wy), y4, some (.ref L), some (.str z), some (.ref tD), some (.ref tT), y9, y10, y11, none, none])
        ⟨Same.refl _, y9, rfl⟩ (fun i σ H' _ ⟨e, _⟩ => SqL.of (e _ _ el)) ?_ ?_⟩
      · rintro i x σ H10 hx ⟨s10, y9', rfl⟩
        have fin : ∀ (p : Addr) (H' : Hp), Same H10 H' → H' p = some (.tup [.str "BadAddress"]) → 1 ≤ sizeLine ∧ ∀ pb, H' pb = none → ∃ d1 d2, Dp K (upd H' pb (.tup [.str "BadAddress"])) (.ref p) d1 ∧ Dp K (upd H' pb (.tup [.str "BadAddress"])) (.ref pb) d2 ∧ SeqAt.shaped d1 = true ∧ SeqAt.shaped d2 = true ∧ (!PyData.eqv d1 d2) = false := fun p H' s e =>
          ⟨by decide, fun pb hpb => ⟨dBA, dBA, .tup (SqT.of ((Same.new hpb) _ _ e)) (.cons (.str _) .nil), .tup (SqT.of upd_same) (.cons (.str _) .nil), nc_dBA.shaped (by decide), nc_dBA.shaped (by decide), eq_dBA⟩⟩
        have go : ∀ (p : Addr) (H' : Hp), Same H10 H' → H' p = some (.tup [.str "BadAddress"]) → True := fun _ _ _ _ => trivial
        refine ⟨_, rfl, _, rfl, _, rfl, ?_⟩
        have main : ∀ (y : V) (da : PyData), y = x → Dn anyA H10 y da → (BadA z.length da ∨ da = .int (z.length : Nat)) → ∀ Q' : VK, (∀ (p : Addr) (H' : Hp), Same H10 H' → H' p = some (.tup [.str "BadAddress"]) → Q' (.ref p) H') → splRefusal K BR BB BA [.int (r : Nat), .str z, x] H10 Q' (fun _ _ _ => False) := fun y da hy hd hb' Q' hQ => by
          subst hy
          rcases hb' with hb' | rfl
          · exact ref_bad h6 h9 (by omega) hb hd hb' hQ
          · cases hd
            refine ref_at h6 h9 (by omega) hb (Nat.le_refl _) fun p H' s dn => hQ p H' s ?_
            rw [rdI_end (by omega)] at dn
            exact dn.ba
        have hxx : ∃ da, Dn anyA H10 x da ∧ (BadA z.length da ∨ da = .int (z.length : Nat)) := by
          have hm := List.mem_of_getElem? hx
          simp only [List.mem_cons, List.not_mem_nil, or_false] at hm
          rcases hm with rfl | rfl | rfl | rfl | rfl | rfl | rfl | rfl
          · exact ⟨_, .non, .inl (bad_ix (by simp))⟩
          · exact ⟨_, .bl true, .inl (bad_ix (by simp))⟩
          · exact ⟨_, .int (-1), .inl (bad_ix (by simp))⟩
          · exact ⟨_, .int _, .inr rfl⟩
          · exact ⟨_, .int _, .inl (bad_ix (by simp))⟩
          · exact ⟨_, .str "0", .inl (bad_ix (by simp))⟩
          · exact ⟨_, .tup trivial (s10 _ _ et) (.cons (.int 0) .nil), .inl (bad_ix (by simp))⟩
          · exact ⟨_, .dct trivial (s10 _ _ eq), .inl (bad_ix (by simp))⟩
        obtain ⟨da, hd, hb'⟩ := hxx
        refine main x da rfl hd hb' _ fun p H' s e => ?_
        obtain ⟨f1, f2⟩ := fin p H' s e
        refine ⟨f1, fun pb hpb => ?_⟩
        obtain ⟨d1, d2, g1, g2, g3, g4, g5⟩ := f2 pb hpb
        refine ⟨d1, d2, g1, g2, g3, g4, _, rfl, ?_⟩
        rw [g5]
        exact iteF ⟨s10.trans (s.trans (Same.new hpb)), _, rfl⟩
      · rintro σ H10 ⟨s10, y9', rfl⟩
        exact ⟨y9', rfl, D9.same s10⟩
    rintro σ H9 ⟨y9', rfl, D9⟩
    -- 9: what is no string of bits
    refine ⟨fun σ H' => ∃ x dx, σ = [some (.ref a), some (.ref d), some (.int r), some (.int wy), y4, some (.ref L), some (.str z), some (.ref tD), some (.ref tT), y9', y10, y11, some x, none] ∧ Dn anyA H' x dx ∧ NoBits x (kindD dx), ?_, ?_⟩
    · refine ⟨_, rfl, (by show 1 ≤ sizeLine; decide), fun l1 hl1 => ⟨_, rfl, _, _, rfl, rfl, ?_, (by show 2 ≤ sizeLine; decide), fun t ht q hq => ⟨(by show 8 ≤ sizeLine; decide), fun l hl => ?_⟩⟩⟩
      · rw [show ("x" : Str).length = 1 from by decide +kernel]
        exact small5 (by omega)
      have k1 := D9.knowD hl1
      have D10 := D9.new (o := HO.lst [.str "0"]) hl1
      have kt := D10.knowD ht
      have D11 := D10.new (o := HO.tup [.str "0", .str "1"]) ht
      have kq := D11.knowD hq
      have D12 := D11.new (o := HO.dK []) hq
      have kl := D12.knowD hl
      have s1 := Same.new (o := HO.lst [.str "0"]) hl1
      have s2 := Same.new (o := HO.tup [.str "0", .str "1"]) ht
      have s3 := Same.new (o := HO.dK []) hq
      have e1 := s3 _ _ (s2 _ _ (upd_same (o := HO.lst [.str "0"]) (H := H9) (a := l1)))
      have e2 := s3 _ _ (upd_same (o := HO.tup [.str "0", .str "1"]) (H := upd H9 l1 (.lst [.str "0"])) (a := t))
      have e3 := upd_same (o := HO.dK []) (H := upd (upd H9 l1 (.lst [.str "0"])) t (.tup [.str "0", .str "1"])) (a := q)
      generalize upd (upd (upd H9 l1 (.lst [.str "0"])) t (.tup [.str "0", .str "1"])) q (.dK []) = H10 at D12 e1 e2 e3 hl kl ⊢
      have D13 := D12.new (o := HO.lst [.non, .int 5, .ref l1, .str "2", .str (z ++ ("x" : Str)), .str " ", .ref t, .ref q]) hl
      have s4 := Same.new (o := HO.lst [.non, .int 5, .ref l1, .str "2", .str (z ++ ("x" : Str)), .str " ", .ref t, .ref q]) hl
      refine ⟨d, w, c, l, 1300, _, rfl, D13, by omega, kl.1, kl.2.1, SqL.of upd_same, by simp, (by show 8 < 2 ^ 29; decide), fun x H11 hx D14 b14 => ?_⟩
      have hxx : ∃ dx, Dn anyA H11 x dx ∧ dx ∈ ([.none, .int 5, .list [.str "0"], .str "2", .str (z ++ ("x" : Str)), .str " ", .tuple [.str "0", .str "1"], .dict []] : List PyData) := by
        simp only [List.mem_cons, List.not_mem_nil, or_false] at hx
        rcases hx with rfl | rfl | rfl | rfl | rfl | rfl | rfl | rfl
        · exact ⟨_, .non, by simp⟩
        · exact ⟨_, .int 5, by simp⟩
        · exact ⟨_, .lst trivial (b14 _ _ (s4 _ _ e1) k1.1 k1.2.1) (.cons (.str "0") .nil), by simp⟩
        · exact ⟨_, .str "2", by simp⟩
        · exact ⟨_, .str _, by simp⟩
        · exact ⟨_, .str " ", by simp⟩
        · exact ⟨_, .tup trivial (b14 _ _ (s4 _ _ e2) kt.1 kt.2.1) (.cons (.str "0") (.cons (.str "1") .nil)), by simp⟩
        · exact ⟨_, .dct trivial (b14 _ _ (s4 _ _ e3) kq.1 kq.2.1), by simp⟩
      obtain ⟨dx, hd, hm⟩ := hxx
      exact ⟨x, dx, rfl, hd, dxs_no (by omega) hm hd⟩
    rintro σ H10 ⟨x, dx, rfl, hx, nb⟩
    -- 10: all refuse it
    have g3 := (Nc.lst (m := 20) (k := 1) (n := 3) (ds := List.replicate 3 dBB) (fun x hx => by
      rw [List.eq_of_mem_replicate hx]
      exact nc_dBB) (by simp)).gd (by decide) (by decide)
    refine ⟨(by show 3 ≤ sizeLine; decide), fun l hl => ?_⟩
    have sl := Same.new (o := HO.lst [.str "all", .int 0, .non]) hl
    have el : (upd H10 l (.lst [.str "all", .int 0, .non])) l = some (.lst [.str "all", .int 0, .non]) := upd_same
    have hx := hx.same sl
    generalize upd H10 l (.lst [.str "all", .int 0, .non]) = H11 at sl el hx ⊢
    refine ⟨l, rfl, ⟨_, SqL.of el⟩, fun Z hZ => lc_list (K := K) (a := l) (xs := [.str "all", .int 0, .non]) (fun i H' => Same H11 H' ∧ ∃ ys, H' Z = some (.lst ys) ∧ ys.length = i ∧ DnAll (fun b => b ≠ Z) H' ys (List.replicate i dBB)) ⟨Same.new hZ, [], upd_same, rfl, .nil⟩ (fun i H' _ h => SqL.of (h.1 _ _ el)) ?_ ?_⟩
    · rintro i y H12 hy ⟨s12, ys, eZ, hyl, dn⟩
      have hi3 : i < 3 := (List.getElem?_eq_some_iff.mp hy).1
      have hyy : ∃ da, Dn anyA H12 y da ∧ OkA da := by
        have hm := List.mem_of_getElem? hy
        simp only [List.mem_cons, List.not_mem_nil, or_false] at hm
        rcases hm with rfl | rfl | rfl
        · exact ⟨_, .str "all", .inl (by decide +kernel)⟩
        · exact ⟨_, .int 0, .inl rfl⟩
        · exact ⟨_, .non, .inl rfl⟩
      obtain ⟨da, hd, hok⟩ := hyy
      refine ⟨rfl, yes ⟨_, rfl, _, rfl, _, rfl, ref_odd (E := fun _ _ _ => False) h6 h9 (hx.same s12) nb hd hok fun p H13 s13 ep => ?_⟩⟩
      have eZ2 := s13 _ _ eZ
      have npZ : p ≠ Z := fun h => by rw [h, eZ2] at ep; cases ep
      have kp : ∀ b o, b ≠ Z → H13 b = some o → upd H13 Z (.lst (ys ++ [.ref p])) b = some o := fun b o hb e => by rw [upd_ne hb]; exact e
      refine ⟨ys, eZ2, ?_, Same.upd' (s12.trans s13) hZ, ys ++ [.ref p], upd_same, by rw [List.length_append, hyl]; rfl, ?_⟩
      · rw [hyl]
        exact small20 (by omega)
      · rw [List.replicate_succ']
        exact DnAll.app ((dn.same s13).keep kp fun _ h => h) (.cons (.tup npZ (kp _ _ npZ ep) (.cons (.str _) (.cons .non .nil))) .nil)
    · rintro H12 ⟨s12, ys, eZ, hyl, dn⟩
      refine ⟨_, .list (List.replicate 3 dBB), rfl, .lst (SqL.of eZ) dn.dx, g3.1, g3.2.1, g3.2.2, ?_⟩
      refine ⟨(by show 2 ≤ sizeLine; decide), fun t ht => ⟨(by show 1 ≤ sizeLine; decide), fun l2 hl2 => ⟨l2, 3, _, rfl, rfl, upd_same, by decide, by decide, (by show 1 * 3 ≤ sizeLine; decide), fun l3 hl3 => ?_⟩⟩⟩
      have et := (Same.new hl3 (o := HO.lst (List.replicate (3 : Int).toNat [V.ref t]).flatten)) _ _ ((Same.new hl2 (o := HO.lst [.ref t])) _ _ (upd_same (o := HO.tup [.str "BadBits", .non]) (H := H12) (a := t)))
      have dt : ∀ n : Nat, DxAll K (upd (upd (upd H12 t (.tup [.str "BadBits", .non])) l2 (.lst [.ref t])) l3 (.lst (List.replicate (3 : Int).toNat [V.ref t]).flatten)) (List.replicate n (V.ref t)) (List.replicate n dBB) := fun n => by
        induction n with
        | zero => exact .nil
        | succ n ih => exact .cons (.tup (SqT.of et) (.cons (.str _) (.cons .non .nil))) ih
      refine ⟨_, .list (List.replicate 3 dBB), rfl, .lst (SqL.of upd_same) (dt 3), g3.1, g3.2.1, g3.2.2, rfl, ?_⟩
      rw [decide_eq_true rfl]
      exact k _
end
end SA

set_option Elab.async false
set_option linter.all false
set_option maxRecDepth 100000
set_option maxHeartbeats 0
namespace SA
open PySem PySem.Spec PyProof.Rows L2
open K83
open K82 hiding mk tl_mk mk_tl mk_app
theorem tupleB_ok {K : PySem.W.Frag} {a : Addr} (h : tupleB K a = true) : ∃ o, K.lookup a = some o ∧ o.cls = .type "tuple" ∧ o.dict = none := by
  unfold tupleB at h
  split at h
  · rename_i c dt sl e
    exact ⟨_, e, congrArg Value.type (of_decide_eq_true h), rfl⟩
  · cases h
theorem mapE {K : PySem.W.Frag} (l : List Str) : (l.map He.Dv.str).map (He.Dv.v K) = l.map V.str := by rw [List.map_map]; rfl
theorem kb_ba {K : PySem.W.Frag} {x qual p1 p2 : Str} {st : Stmt} {f : Addr} {fd : FuncData} (F : Fun K x qual st f fd)
    (h : ∀ (kV doc pm : Value) (an : Option Addr) (cdv ct u v : Value), bindArgs (PySem.W.fnOf x qual (defArgs st) (defBody st) (defScope st) .none kV doc pm an cdv ct) ⟨[], [(p2, u), (p1, v)]⟩ = pure [(p1, v), (p2, u)]) : KBinds K fd [p1, p2] [p2, p1] kwBA kwBA := by
  obtain ⟨oc, od, kV, doc, pm, an, cdv, ct, osl, rfl, _, _⟩ := F.ex
  refine ⟨fun s us ws _ hl => ?_, fun r rz => ?_⟩
  · match us, ws, hl with
    | [], [u, v], _ => exact .of_eq (h kV doc pm an cdv ct u v)
    | [], [], hl => cases hl
    | [], [_], hl => cases hl
    | [], _ :: _ :: _ :: _, hl => cases hl
    | _ :: _, _, hl => cases hl
  · cases r with
    | cons _ _ => exact .nil
    | nil => cases rz with
      | nil => exact .nil
      | cons e r2 => cases r2 with
        | nil => exact .nil
        | cons e2 r3 => cases r3 with
          | nil => exact .cons e2 (.cons e .nil)
          | cons _ _ => exact .nil
theorem instL : (kv_INSTRUCTIONS.map fun q => (q.1, match q.2 with | .str z => z | _ => "")) = (K83.tab.map fun q => (q.1, lettersW q.1 q.2)) := by decide +kernel
theorem instE {K : PySem.W.Frag} : (kv_INSTRUCTIONS.map fun q => (q.1, q.2.v K)) = (K83.tab.map fun q => (q.1, V.str (lettersW q.1 q.2))) := by
  have h := congrArg (fun l : List (Str × Str) => l.map fun q => (q.1, V.str q.2)) instL
  simp only [List.map_map] at h
  rw [← (show (kv_INSTRUCTIONS.map ((fun q : Str × Str => (q.1, V.str q.2)) ∘ fun q => (q.1, match q.2 with | .str z => z | _ => ""))) = (kv_INSTRUCTIONS.map fun q => (q.1, q.2.v K)) from rfl)]
  exact h
theorem rdN_imp {P : Program} {w0 : World} {K : PySem.W.Frag} {mg : Str → Option Value} {base : Heap} {f : Addr} {fd : FuncData} (G : FnOk P w0 K mg base CX0 3 f fd ["bits", "at"] spNumAt) : FnOk P w0 K mg base CX0 3 f fd ["bits", "at"] (spRdP .n) := G.imp fun vs H Q E ⟨z, n, h1, h2, h3, h4, h5⟩ => by
  refine ⟨z, n, h1, h2, h3, h4, ?_⟩
  obtain ⟨q1, q2⟩ := h5
  have e1 : rdPart (tl z) .n n = (dec ((tl z).drop n)).map fun p => (.int (zag p.1), n + p.2) := by
    show K83.numAt (tl z) n = _
    unfold K83.numAt decAt
    rw [Option.map_map]
    rfl
  rw [e1] at q1 q2
  unfold RdQ rdN
  cases hd : dec ((tl z).drop n) with
  | none =>
    rw [hd] at q1
    exact ⟨fun _ => q1 rfl, fun a b e => nomatch e⟩
  | some p =>
    rw [hd] at q2
    refine ⟨(fun e => nomatch e), fun a b e p' H' hp s q => ?_⟩
    obtain rfl : zag p.1 = a := congrArg (fun x : Int × Int => x.1) (Option.some.inj e)
    obtain rfl : ((n + p.2 : Nat) : Int) = b := congrArg (fun x : Int × Int => x.2) (Option.some.inj e)
    exact q2 _ _ rfl p' _ H' hp s q (.int _)
section
variable {P : Program} {w0 : World} {K : PySem.W.Frag} {h : Heap} {mg : Str → Option Value} {fL : Addr}
theorem law_of (X : K.In h) (GG : h.Ns mainGlobals mg) (hfa : mg ("law" : Str) = some (.ref fL)) (c : Says84 w0 K) (base : Heap) : LawRun P w0 K mg base fL 63 := by
  have c2 := c.t.d
  obtain ⟨fd_is_number, F_is_number⟩ := FunD_fun (st := s_is_number) (c2.def_ 0 (d := d_is_number) rfl)
  have g_is_number := He.glo_ok X GG (c2.fact 0 (f := .glo "is_number") rfl)
  have b_is_number := F_is_number.binds (ps := ["thing"]) fun _ _ _ _ _ _ us hl => match us, hl with | [_], _ => rfl
  obtain ⟨fd_is_number_between, F_is_number_between⟩ := FunD_fun (st := s_is_number_between) (c2.def_ 1 (d := d_is_number_between) rfl)
  have g_is_number_between := He.glo_ok X GG (c2.fact 1 (f := .glo "is_number_between") rfl)
  have b_is_number_between := F_is_number_between.binds (ps := ["thing", "low", "high"]) fun _ _ _ _ _ _ us hl => match us, hl with | [_, _, _], _ => rfl
  obtain ⟨fd_is_tuple_of, F_is_tuple_of⟩ := FunD_fun (st := s_is_tuple_of) (c2.def_ 2 (d := d_is_tuple_of) rfl)
  have g_is_tuple_of := He.glo_ok X GG (c2.fact 2 (f := .glo "is_tuple_of") rfl)
  have b_is_tuple_of := F_is_tuple_of.binds (ps := ["thing", "many"]) fun _ _ _ _ _ _ us hl => match us, hl with | [_, _], _ => rfl
  obtain ⟨fd_is_list, F_is_list⟩ := FunD_fun (st := s_is_list) (c2.def_ 3 (d := d_is_list) rfl)
  have g_is_list := He.glo_ok X GG (c2.fact 3 (f := .glo "is_list") rfl)
  have b_is_list := F_is_list.binds (ps := ["thing"]) fun _ _ _ _ _ _ us hl => match us, hl with | [_], _ => rfl
  obtain ⟨fd_BadBits___init__, F_BadBits___init__⟩ := FunD_fun (st := s_BadBits___init__) (c2.def_ 4 (d := d_BadBits___init__) rfl)
  have b_BadBits___init__ := F_BadBits___init__.binds (ps := ["self", "at"]) fun _ _ _ _ _ _ us hl => match us, hl with | [_, _], _ => rfl
  obtain ⟨fd_BadInstruction___init__, F_BadInstruction___init__⟩ := FunD_fun (st := s_BadInstruction___init__) (c2.def_ 5 (d := d_BadInstruction___init__) rfl)
  have b_BadInstruction___init__ := F_BadInstruction___init__.binds (ps := ["self", "at"]) fun _ _ _ _ _ _ us hl => match us, hl with | [_, _], _ => rfl
  obtain ⟨fd_is_name, F_is_name⟩ := FunD_fun (st := s_is_name) (c2.def_ 6 (d := d_is_name) rfl)
  have g_is_name := He.glo_ok X GG (c2.fact 4 (f := .glo "is_name") rfl)
  have b_is_name := F_is_name.binds (ps := ["thing"]) fun _ _ _ _ _ _ us hl => match us, hl with | [_], _ => rfl
  obtain ⟨fd_is_place, F_is_place⟩ := FunD_fun (st := s_is_place) (c2.def_ 7 (d := d_is_place) rfl)
  have g_is_place := He.glo_ok X GG (c2.fact 5 (f := .glo "is_place") rfl)
  have b_is_place := F_is_place.binds (ps := ["thing"]) fun _ _ _ _ _ _ us hl => match us, hl with | [_], _ => rfl
  obtain ⟨fd_place_number, F_place_number⟩ := FunD_fun (st := s_place_number) (c2.def_ 8 (d := d_place_number) rfl)
  have g_place_number := He.glo_ok X GG (c2.fact 6 (f := .glo "place_number") rfl)
  have b_place_number := F_place_number.binds (ps := ["place"]) fun _ _ _ _ _ _ us hl => match us, hl with | [_], _ => rfl
  obtain ⟨fd_is_bit_string, F_is_bit_string⟩ := FunD_fun (st := s_is_bit_string) (c2.def_ 9 (d := d_is_bit_string) rfl)
  have g_is_bit_string := He.glo_ok X GG (c2.fact 7 (f := .glo "is_bit_string") rfl)
  have b_is_bit_string := F_is_bit_string.binds (ps := ["thing"]) fun _ _ _ _ _ _ us hl => match us, hl with | [_], _ => rfl
  obtain ⟨fd_bits_of_count, F_bits_of_count⟩ := FunD_fun (st := s_bits_of_count) (c2.def_ 10 (d := d_bits_of_count) rfl)
  have g_bits_of_count := He.glo_ok X GG (c2.fact 8 (f := .glo "bits_of_count") rfl)
  have b_bits_of_count := F_bits_of_count.binds (ps := ["number"]) fun _ _ _ _ _ _ us hl => match us, hl with | [_], _ => rfl
  obtain ⟨fd_bits_of_number, F_bits_of_number⟩ := FunD_fun (st := s_bits_of_number) (c2.def_ 11 (d := d_bits_of_number) rfl)
  have g_bits_of_number := He.glo_ok X GG (c2.fact 9 (f := .glo "bits_of_number") rfl)
  have b_bits_of_number := F_bits_of_number.binds (ps := ["number"]) fun _ _ _ _ _ _ us hl => match us, hl with | [_], _ => rfl
  obtain ⟨fd_digits, F_digits⟩ := FunD_fun (st := s_digits) (c2.def_ 12 (d := d_digits) rfl)
  have g_digits := He.glo_ok X GG (c2.fact 10 (f := .glo "digits") rfl)
  have b_digits := F_digits.binds (ps := ["number", "many"]) fun _ _ _ _ _ _ us hl => match us, hl with | [_, _], _ => rfl
  obtain ⟨fd_count_at, F_count_at⟩ := FunD_fun (st := s_count_at) (c2.def_ 13 (d := d_count_at) rfl)
  have g_count_at := He.glo_ok X GG (c2.fact 11 (f := .glo "count_at") rfl)
  have b_count_at := F_count_at.binds (ps := ["bits", "at"]) fun _ _ _ _ _ _ us hl => match us, hl with | [_, _], _ => rfl
  obtain ⟨fd_number_at, F_number_at⟩ := FunD_fun (st := s_number_at) (c2.def_ 14 (d := d_number_at) rfl)
  have g_number_at := He.glo_ok X GG (c2.fact 12 (f := .glo "number_at") rfl)
  have b_number_at := F_number_at.binds (ps := ["bits", "at"]) fun _ _ _ _ _ _ us hl => match us, hl with | [_, _], _ => rfl
  obtain ⟨fd_has_instruction_form, F_has_instruction_form⟩ := FunD_fun (st := s_has_instruction_form) (c2.def_ 15 (d := d_has_instruction_form) rfl)
  have g_has_instruction_form := He.glo_ok X GG (c2.fact 13 (f := .glo "has_instruction_form") rfl)
  have b_has_instruction_form := F_has_instruction_form.binds (ps := ["registers", "thing"]) fun _ _ _ _ _ _ us hl => match us, hl with | [_, _], _ => rfl
  obtain ⟨fd__is_register, F__is_register⟩ := FunD_fun (st := s__is_register) (c2.def_ 16 (d := d__is_register) rfl)
  have g__is_register := He.glo_ok X GG (c2.fact 14 (f := .glo "_is_register") rfl)
  have b__is_register := F__is_register.binds (ps := ["registers", "thing"]) fun _ _ _ _ _ _ us hl => match us, hl with | [_, _], _ => rfl
  obtain ⟨fd__are_copied, F__are_copied⟩ := FunD_fun (st := s__are_copied) (c2.def_ 17 (d := d__are_copied) rfl)
  have g__are_copied := He.glo_ok X GG (c2.fact 15 (f := .glo "_are_copied") rfl)
  have b__are_copied := F__are_copied.binds (ps := ["registers", "places"]) fun _ _ _ _ _ _ us hl => match us, hl with | [_, _], _ => rfl
  obtain ⟨fd__has_part_form, F__has_part_form⟩ := FunD_fun (st := s__has_part_form) (c2.def_ 18 (d := d__has_part_form) rfl)
  have g__has_part_form := He.glo_ok X GG (c2.fact 16 (f := .glo "_has_part_form") rfl)
  have b__has_part_form := F__has_part_form.binds (ps := ["registers", "part", "letter"]) fun _ _ _ _ _ _ us hl => match us, hl with | [_, _, _], _ => rfl
  obtain ⟨fd__is_leap, F__is_leap⟩ := FunD_fun (st := s__is_leap) (c2.def_ 19 (d := d__is_leap) rfl)
  have g__is_leap := He.glo_ok X GG (c2.fact 17 (f := .glo "_is_leap") rfl)
  have b__is_leap := F__is_leap.binds (ps := ["thing"]) fun _ _ _ _ _ _ us hl => match us, hl with | [_], _ => rfl
  obtain ⟨fd__half_of, F__half_of⟩ := FunD_fun (st := s__half_of) (c2.def_ 20 (d := d__half_of) rfl)
  have g__half_of := He.glo_ok X GG (c2.fact 18 (f := .glo "_half_of") rfl)
  have b__half_of := F__half_of.binds (ps := ["word"]) fun _ _ _ _ _ _ us hl => match us, hl with | [_], _ => rfl
  obtain ⟨fd_bits_of_instruction, F_bits_of_instruction⟩ := FunD_fun (st := s_bits_of_instruction) (c2.def_ 21 (d := d_bits_of_instruction) rfl)
  have g_bits_of_instruction := He.glo_ok X GG (c2.fact 19 (f := .glo "bits_of_instruction") rfl)
  have b_bits_of_instruction := F_bits_of_instruction.binds (ps := ["told"]) fun _ _ _ _ _ _ us hl => match us, hl with | [_], _ => rfl
  obtain ⟨fd__copied_bits, F__copied_bits⟩ := FunD_fun (st := s__copied_bits) (c2.def_ 22 (d := d__copied_bits) rfl)
  have g__copied_bits := He.glo_ok X GG (c2.fact 20 (f := .glo "_copied_bits") rfl)
  have b__copied_bits := F__copied_bits.binds (ps := ["place"]) fun _ _ _ _ _ _ us hl => match us, hl with | [_], _ => rfl
  obtain ⟨fd__register_bits, F__register_bits⟩ := FunD_fun (st := s__register_bits) (c2.def_ 23 (d := d__register_bits) rfl)
  have g__register_bits := He.glo_ok X GG (c2.fact 21 (f := .glo "_register_bits") rfl)
  have b__register_bits := F__register_bits.binds (ps := ["place"]) fun _ _ _ _ _ _ us hl => match us, hl with | [_], _ => rfl
  obtain ⟨fd__part_bits, F__part_bits⟩ := FunD_fun (st := s__part_bits) (c2.def_ 24 (d := d__part_bits) rfl)
  have g__part_bits := He.glo_ok X GG (c2.fact 22 (f := .glo "_part_bits") rfl)
  have b__part_bits := F__part_bits.binds (ps := ["part", "letter"]) fun _ _ _ _ _ _ us hl => match us, hl with | [_, _], _ => rfl
  obtain ⟨fd_read_instruction, F_read_instruction⟩ := FunD_fun (st := s_read_instruction) (c2.def_ 25 (d := d_read_instruction) rfl)
  have g_read_instruction := He.glo_ok X GG (c2.fact 23 (f := .glo "read_instruction") rfl)
  have b_read_instruction := F_read_instruction.binds (ps := ["registers", "bits", "at"]) fun _ _ _ _ _ _ us hl => match us, hl with | [_, _, _], _ => rfl
  obtain ⟨fd__digits_at, F__digits_at⟩ := FunD_fun (st := s__digits_at) (c2.def_ 26 (d := d__digits_at) rfl)
  have g__digits_at := He.glo_ok X GG (c2.fact 24 (f := .glo "_digits_at") rfl)
  have b__digits_at := F__digits_at.binds (ps := ["bits", "at", "many"]) fun _ _ _ _ _ _ us hl => match us, hl with | [_, _, _], _ => rfl
  obtain ⟨fd__register_at, F__register_at⟩ := FunD_fun (st := s__register_at) (c2.def_ 27 (d := d__register_at) rfl)
  have g__register_at := He.glo_ok X GG (c2.fact 25 (f := .glo "_register_at") rfl)
  have b__register_at := F__register_at.binds (ps := ["bits", "at"]) fun _ _ _ _ _ _ us hl => match us, hl with | [_, _], _ => rfl
  obtain ⟨fd__copied_at, F__copied_at⟩ := FunD_fun (st := s__copied_at) (c2.def_ 28 (d := d__copied_at) rfl)
  have g__copied_at := He.glo_ok X GG (c2.fact 26 (f := .glo "_copied_at") rfl)
  have b__copied_at := F__copied_at.binds (ps := ["bits", "at"]) fun _ _ _ _ _ _ us hl => match us, hl with | [_, _], _ => rfl
  obtain ⟨fd__name_at, F__name_at⟩ := FunD_fun (st := s__name_at) (c2.def_ 29 (d := d__name_at) rfl)
  have g__name_at := He.glo_ok X GG (c2.fact 27 (f := .glo "_name_at") rfl)
  have b__name_at := F__name_at.binds (ps := ["bits", "at"]) fun _ _ _ _ _ _ us hl => match us, hl with | [_, _], _ => rfl
  obtain ⟨fd__part_number_at, F__part_number_at⟩ := FunD_fun (st := s__part_number_at) (c2.def_ 30 (d := d__part_number_at) rfl)
  have g__part_number_at := He.glo_ok X GG (c2.fact 28 (f := .glo "_part_number_at") rfl)
  have b__part_number_at := F__part_number_at.binds (ps := ["bits", "at"]) fun _ _ _ _ _ _ us hl => match us, hl with | [_, _], _ => rfl
  obtain ⟨fd__registers_at, F__registers_at⟩ := FunD_fun (st := s__registers_at) (c2.def_ 31 (d := d__registers_at) rfl)
  have g__registers_at := He.glo_ok X GG (c2.fact 29 (f := .glo "_registers_at") rfl)
  have b__registers_at := F__registers_at.binds (ps := ["bits", "at"]) fun _ _ _ _ _ _ us hl => match us, hl with | [_, _], _ => rfl
  obtain ⟨fd__leap_at, F__leap_at⟩ := FunD_fun (st := s__leap_at) (c2.def_ 32 (d := d__leap_at) rfl)
  have g__leap_at := He.glo_ok X GG (c2.fact 30 (f := .glo "_leap_at") rfl)
  have b__leap_at := F__leap_at.binds (ps := ["bits", "at"]) fun _ _ _ _ _ _ us hl => match us, hl with | [_, _], _ => rfl
  obtain ⟨fd__check_bits, F__check_bits⟩ := FunD_fun (st := s__check_bits) (c2.def_ 33 (d := d__check_bits) rfl)
  have g__check_bits := He.glo_ok X GG (c2.fact 31 (f := .glo "_check_bits") rfl)
  have b__check_bits := F__check_bits.binds (ps := ["bits"]) fun _ _ _ _ _ _ us hl => match us, hl with | [_], _ => rfl
  obtain ⟨fd__check_registers, F__check_registers⟩ := FunD_fun (st := s__check_registers) (c2.def_ 34 (d := d__check_registers) rfl)
  have g__check_registers := He.glo_ok X GG (c2.fact 32 (f := .glo "_check_registers") rfl)
  have b__check_registers := F__check_registers.binds (ps := ["registers"]) fun _ _ _ _ _ _ us hl => match us, hl with | [_], _ => rfl
  obtain ⟨fd_bits_of, F_bits_of⟩ := FunD_fun (st := s_bits_of) (c2.def_ 35 (d := d_bits_of) rfl)
  have g_bits_of := He.glo_ok X GG (c2.fact 33 (f := .glo "bits_of") rfl)
  have b_bits_of := F_bits_of.binds (ps := ["registers", "instructions"]) fun _ _ _ _ _ _ us hl => match us, hl with | [_, _], _ => rfl
  obtain ⟨fd_read_bits, F_read_bits⟩ := FunD_fun (st := s_read_bits) (c2.def_ 36 (d := d_read_bits) rfl)
  have g_read_bits := He.glo_ok X GG (c2.fact 34 (f := .glo "read_bits") rfl)
  have b_read_bits := F_read_bits.binds (ps := ["registers", "bits"]) fun _ _ _ _ _ _ us hl => match us, hl with | [_, _], _ => rfl
  obtain ⟨fd_instruction_at, F_instruction_at⟩ := FunD_fun (st := s_instruction_at) (c2.def_ 37 (d := d_instruction_at) rfl)
  have g_instruction_at := He.glo_ok X GG (c2.fact 35 (f := .glo "instruction_at") rfl)
  have b_instruction_at := F_instruction_at.binds (ps := ["registers", "bits", "address"]) fun _ _ _ _ _ _ us hl => match us, hl with | [_, _, _], _ => rfl
  obtain ⟨fd__law_begun, F__law_begun⟩ := FunD_fun (st := s__law_begun) (c2.def_ 38 (d := d__law_begun) rfl)
  have g__law_begun := He.glo_ok X GG (c2.fact 36 (f := .glo "_law_begun") rfl)
  have b__law_begun := F__law_begun.binds (ps := ["script"]) fun _ _ _ _ _ _ us hl => match us, hl with | [_], _ => rfl
  obtain ⟨fd__law_mixed, F__law_mixed⟩ := FunD_fun (st := s__law_mixed) (c2.def_ 39 (d := d__law_mixed) rfl)
  have g__law_mixed := He.glo_ok X GG (c2.fact 37 (f := .glo "_law_mixed") rfl)
  have b__law_mixed := F__law_mixed.binds (ps := ["draw"]) fun _ _ _ _ _ _ us hl => match us, hl with | [_], _ => rfl
  obtain ⟨fd__law_take, F__law_take⟩ := FunD_fun (st := s__law_take) (c2.def_ 40 (d := d__law_take) rfl)
  have g__law_take := He.glo_ok X GG (c2.fact 38 (f := .glo "_law_take") rfl)
  have b__law_take := F__law_take.binds (ps := ["draw", "many"]) fun _ _ _ _ _ _ us hl => match us, hl with | [_, _], _ => rfl
  obtain ⟨fd__law_pick, F__law_pick⟩ := FunD_fun (st := s__law_pick) (c2.def_ 41 (d := d__law_pick) rfl)
  have g__law_pick := He.glo_ok X GG (c2.fact 39 (f := .glo "_law_pick") rfl)
  have b__law_pick := F__law_pick.binds (ps := ["draw", "some"]) fun _ _ _ _ _ _ us hl => match us, hl with | [_, _], _ => rfl
  obtain ⟨fd__law_names, F__law_names⟩ := FunD_fun (st := s__law_names) (c2.def_ 42 (d := d__law_names) rfl)
  have g__law_names := He.glo_ok X GG (c2.fact 40 (f := .glo "_law_names") rfl)
  have b__law_names := F__law_names.binds (ps := ["draw", "many"]) fun _ _ _ _ _ _ us hl => match us, hl with | [_, _], _ => rfl
  obtain ⟨fd__law_figure, F__law_figure⟩ := FunD_fun (st := s__law_figure) (c2.def_ 43 (d := d__law_figure) rfl)
  have g__law_figure := He.glo_ok X GG (c2.fact 41 (f := .glo "_law_figure") rfl)
  have b__law_figure := F__law_figure.binds (ps := ["draw"]) fun _ _ _ _ _ _ us hl => match us, hl with | [_], _ => rfl
  obtain ⟨fd__law_digits, F__law_digits⟩ := FunD_fun (st := s__law_digits) (c2.def_ 44 (d := d__law_digits) rfl)
  have g__law_digits := He.glo_ok X GG (c2.fact 42 (f := .glo "_law_digits") rfl)
  have b__law_digits := F__law_digits.binds (ps := ["number", "many"]) fun _ _ _ _ _ _ us hl => match us, hl with | [_, _], _ => rfl
  obtain ⟨fd__law_count, F__law_count⟩ := FunD_fun (st := s__law_count) (c2.def_ 45 (d := d__law_count) rfl)
  have g__law_count := He.glo_ok X GG (c2.fact 43 (f := .glo "_law_count") rfl)
  have b__law_count := F__law_count.binds (ps := ["number"]) fun _ _ _ _ _ _ us hl => match us, hl with | [_], _ => rfl
  obtain ⟨fd__law_signed, F__law_signed⟩ := FunD_fun (st := s__law_signed) (c2.def_ 46 (d := d__law_signed) rfl)
  have g__law_signed := He.glo_ok X GG (c2.fact 44 (f := .glo "_law_signed") rfl)
  have b__law_signed := F__law_signed.binds (ps := ["number"]) fun _ _ _ _ _ _ us hl => match us, hl with | [_], _ => rfl
  obtain ⟨fd__law_spelt, F__law_spelt⟩ := FunD_fun (st := s__law_spelt) (c2.def_ 47 (d := d__law_spelt) rfl)
  have g__law_spelt := He.glo_ok X GG (c2.fact 45 (f := .glo "_law_spelt") rfl)
  have b__law_spelt := F__law_spelt.binds (ps := ["name"]) fun _ _ _ _ _ _ us hl => match us, hl with | [_], _ => rfl
  obtain ⟨fd__law_registers, F__law_registers⟩ := FunD_fun (st := s__law_registers) (c2.def_ 48 (d := d__law_registers) rfl)
  have g__law_registers := He.glo_ok X GG (c2.fact 46 (f := .glo "_law_registers") rfl)
  have b__law_registers := F__law_registers.binds (ps := ["places"]) fun _ _ _ _ _ _ us hl => match us, hl with | [_], _ => rfl
  obtain ⟨fd__law_copied, F__law_copied⟩ := FunD_fun (st := s__law_copied) (c2.def_ 49 (d := d__law_copied) rfl)
  have g__law_copied := He.glo_ok X GG (c2.fact 47 (f := .glo "_law_copied") rfl)
  have b__law_copied := F__law_copied.binds (ps := ["place"]) fun _ _ _ _ _ _ us hl => match us, hl with | [_], _ => rfl
  obtain ⟨fd__law_first, F__law_first⟩ := FunD_fun (st := s__law_first) (c2.def_ 50 (d := d__law_first) rfl)
  have g__law_first := He.glo_ok X GG (c2.fact 48 (f := .glo "_law_first") rfl)
  have b__law_first := F__law_first.binds (ps := ["word"]) fun _ _ _ _ _ _ us hl => match us, hl with | [_], _ => rfl
  obtain ⟨fd__law_bits, F__law_bits⟩ := FunD_fun (st := s__law_bits) (c2.def_ 51 (d := d__law_bits) rfl)
  have g__law_bits := He.glo_ok X GG (c2.fact 49 (f := .glo "_law_bits") rfl)
  have b__law_bits := F__law_bits.binds (ps := ["draw", "most"]) fun _ _ _ _ _ _ us hl => match us, hl with | [_, _], _ => rfl
  obtain ⟨fd__law_shapes, F__law_shapes⟩ := FunD_fun (st := s__law_shapes) (c2.def_ 52 (d := d__law_shapes) rfl)
  have g__law_shapes := He.glo_ok X GG (c2.fact 50 (f := .glo "_law_shapes") rfl)
  have b__law_shapes := F__law_shapes.binds (ps := []) fun _ _ _ _ _ _ us hl => match us, hl with | [], _ => rfl
  obtain ⟨fd__law_part, F__law_part⟩ := FunD_fun (st := s__law_part) (c2.def_ 53 (d := d__law_part) rfl)
  have g__law_part := He.glo_ok X GG (c2.fact 51 (f := .glo "_law_part") rfl)
  have b__law_part := F__law_part.binds (ps := ["draw", "registers", "letter"]) fun _ _ _ _ _ _ us hl => match us, hl with | [_, _, _], _ => rfl
  obtain ⟨fd__law_instruction, F__law_instruction⟩ := FunD_fun (st := s__law_instruction) (c2.def_ 54 (d := d__law_instruction) rfl)
  have g__law_instruction := He.glo_ok X GG (c2.fact 52 (f := .glo "_law_instruction") rfl)
  have b__law_instruction := F__law_instruction.binds (ps := ["draw", "registers"]) fun _ _ _ _ _ _ us hl => match us, hl with | [_, _], _ => rfl
  obtain ⟨fd__law_leap_bits, F__law_leap_bits⟩ := FunD_fun (st := s__law_leap_bits) (c2.def_ 55 (d := d__law_leap_bits) rfl)
  have g__law_leap_bits := He.glo_ok X GG (c2.fact 53 (f := .glo "_law_leap_bits") rfl)
  have b__law_leap_bits := F__law_leap_bits.binds (ps := ["leap"]) fun _ _ _ _ _ _ us hl => match us, hl with | [_], _ => rfl
  obtain ⟨fd__law_part_bits, F__law_part_bits⟩ := FunD_fun (st := s__law_part_bits) (c2.def_ 56 (d := d__law_part_bits) rfl)
  have g__law_part_bits := He.glo_ok X GG (c2.fact 54 (f := .glo "_law_part_bits") rfl)
  have b__law_part_bits := F__law_part_bits.binds (ps := ["letter", "part"]) fun _ _ _ _ _ _ us hl => match us, hl with | [_, _], _ => rfl
  obtain ⟨fd__law_told_bits, F__law_told_bits⟩ := FunD_fun (st := s__law_told_bits) (c2.def_ 57 (d := d__law_told_bits) rfl)
  have g__law_told_bits := He.glo_ok X GG (c2.fact 55 (f := .glo "_law_told_bits") rfl)
  have b__law_told_bits := F__law_told_bits.binds (ps := ["instruction"]) fun _ _ _ _ _ _ us hl => match us, hl with | [_], _ => rfl
  obtain ⟨fd__law_is_name, F__law_is_name⟩ := FunD_fun (st := s__law_is_name) (c2.def_ 58 (d := d__law_is_name) rfl)
  have g__law_is_name := He.glo_ok X GG (c2.fact 56 (f := .glo "_law_is_name") rfl)
  have b__law_is_name := F__law_is_name.binds (ps := ["thing"]) fun _ _ _ _ _ _ us hl => match us, hl with | [_], _ => rfl
  obtain ⟨fd__law_read, F__law_read⟩ := FunD_fun (st := s__law_read) (c2.def_ 59 (d := d__law_read) rfl)
  have g__law_read := He.glo_ok X GG (c2.fact 57 (f := .glo "_law_read") rfl)
  have b__law_read := F__law_read.binds (ps := ["bits", "at"]) fun _ _ _ _ _ _ us hl => match us, hl with | [_, _], _ => rfl
  obtain ⟨fd__law_value, F__law_value⟩ := FunD_fun (st := s__law_value) (c2.def_ 60 (d := d__law_value) rfl)
  have g__law_value := He.glo_ok X GG (c2.fact 58 (f := .glo "_law_value") rfl)
  have b__law_value := F__law_value.binds (ps := ["bits"]) fun _ _ _ _ _ _ us hl => match us, hl with | [_], _ => rfl
  obtain ⟨fd__law_refusal, F__law_refusal⟩ := FunD_fun (st := s__law_refusal) (c2.def_ 61 (d := d__law_refusal) rfl)
  have g__law_refusal := He.glo_ok X GG (c2.fact 59 (f := .glo "_law_refusal") rfl)
  have b__law_refusal := F__law_refusal.binds (ps := ["registers", "bits", "address"]) fun _ _ _ _ _ _ us hl => match us, hl with | [_, _, _], _ => rfl
  obtain ⟨fd__law_name_at, F__law_name_at⟩ := FunD_fun (st := s__law_name_at) (c2.def_ 62 (d := d__law_name_at) rfl)
  have g__law_name_at := He.glo_ok X GG (c2.fact 60 (f := .glo "_law_name_at") rfl)
  have b__law_name_at := F__law_name_at.binds (ps := ["bits", "at"]) fun _ _ _ _ _ _ us hl => match us, hl with | [_, _], _ => rfl
  obtain ⟨fd__law_register_at, F__law_register_at⟩ := FunD_fun (st := s__law_register_at) (c2.def_ 63 (d := d__law_register_at) rfl)
  have g__law_register_at := He.glo_ok X GG (c2.fact 61 (f := .glo "_law_register_at") rfl)
  have b__law_register_at := F__law_register_at.binds (ps := ["registers", "bits", "at"]) fun _ _ _ _ _ _ us hl => match us, hl with | [_, _, _], _ => rfl
  obtain ⟨fd__law_copied_at, F__law_copied_at⟩ := FunD_fun (st := s__law_copied_at) (c2.def_ 64 (d := d__law_copied_at) rfl)
  have g__law_copied_at := He.glo_ok X GG (c2.fact 62 (f := .glo "_law_copied_at") rfl)
  have b__law_copied_at := F__law_copied_at.binds (ps := ["registers", "bits", "at"]) fun _ _ _ _ _ _ us hl => match us, hl with | [_, _, _], _ => rfl
  obtain ⟨fd__law_signed_at, F__law_signed_at⟩ := FunD_fun (st := s__law_signed_at) (c2.def_ 65 (d := d__law_signed_at) rfl)
  have g__law_signed_at := He.glo_ok X GG (c2.fact 63 (f := .glo "_law_signed_at") rfl)
  have b__law_signed_at := F__law_signed_at.binds (ps := ["bits", "at"]) fun _ _ _ _ _ _ us hl => match us, hl with | [_, _], _ => rfl
  obtain ⟨fd__law_some_at, F__law_some_at⟩ := FunD_fun (st := s__law_some_at) (c2.def_ 66 (d := d__law_some_at) rfl)
  have g__law_some_at := He.glo_ok X GG (c2.fact 64 (f := .glo "_law_some_at") rfl)
  have b__law_some_at := F__law_some_at.binds (ps := ["registers", "bits", "at"]) fun _ _ _ _ _ _ us hl => match us, hl with | [_, _, _], _ => rfl
  obtain ⟨fd__law_leap_at, F__law_leap_at⟩ := FunD_fun (st := s__law_leap_at) (c2.def_ 67 (d := d__law_leap_at) rfl)
  have g__law_leap_at := He.glo_ok X GG (c2.fact 65 (f := .glo "_law_leap_at") rfl)
  have b__law_leap_at := F__law_leap_at.binds (ps := ["bits", "at"]) fun _ _ _ _ _ _ us hl => match us, hl with | [_, _], _ => rfl
  obtain ⟨fd__law_part_at, F__law_part_at⟩ := FunD_fun (st := s__law_part_at) (c2.def_ 68 (d := d__law_part_at) rfl)
  have g__law_part_at := He.glo_ok X GG (c2.fact 66 (f := .glo "_law_part_at") rfl)
  have b__law_part_at := F__law_part_at.binds (ps := ["letter", "registers", "bits", "at"]) fun _ _ _ _ _ _ us hl => match us, hl with | [_, _, _, _], _ => rfl
  obtain ⟨fd__law_one_at, F__law_one_at⟩ := FunD_fun (st := s__law_one_at) (c2.def_ 69 (d := d__law_one_at) rfl)
  have g__law_one_at := He.glo_ok X GG (c2.fact 67 (f := .glo "_law_one_at") rfl)
  have b__law_one_at := F__law_one_at.binds (ps := ["registers", "bits", "at"]) fun _ _ _ _ _ _ us hl => match us, hl with | [_, _, _], _ => rfl
  obtain ⟨fd__law_due, F__law_due⟩ := FunD_fun (st := s__law_due) (c2.def_ 70 (d := d__law_due) rfl)
  have g__law_due := He.glo_ok X GG (c2.fact 68 (f := .glo "_law_due") rfl)
  have b__law_due := F__law_due.binds (ps := ["registers", "bits"]) fun _ _ _ _ _ _ us hl => match us, hl with | [_, _], _ => rfl
  obtain ⟨fd__law_changed, F__law_changed⟩ := FunD_fun (st := s__law_changed) (c2.def_ 71 (d := d__law_changed) rfl)
  have g__law_changed := He.glo_ok X GG (c2.fact 69 (f := .glo "_law_changed") rfl)
  have b__law_changed := F__law_changed.binds (ps := ["draw", "bits"]) fun _ _ _ _ _ _ us hl => match us, hl with | [_, _], _ => rfl
  obtain ⟨fd_law, F_law⟩ := FunD_fun (st := s_law) (c2.def_ 72 (d := d_law) rfl)
  have g_law := He.glo_ok X GG (c2.fact 70 (f := .glo "law") rfl)
  have b_law := F_law.binds (ps := ["script"]) fun _ _ _ _ _ _ us hl => match us, hl with | [_], _ => rfl
  have z_isinstance := He.free_ok X GG (c2.fact 82 (f := .free "isinstance") rfl)
  have z_int := He.free_ok X GG (c2.fact 83 (f := .free "int") rfl)
  have z_bool := He.free_ok X GG (c2.fact 84 (f := .free "bool") rfl)
  have z_str := He.free_ok X GG (c2.fact 85 (f := .free "str") rfl)
  have z_len := He.free_ok X GG (c2.fact 86 (f := .free "len") rfl)
  have z_abs := He.free_ok X GG (c2.fact 87 (f := .free "abs") rfl)
  have z_range := He.free_ok X GG (c2.fact 88 (f := .free "range") rfl)
  have z_repr := He.free_ok X GG (c2.fact 89 (f := .free "repr") rfl)
  have z_ValueError := He.free_ok X GG (c2.fact 90 (f := .free "ValueError") rfl)
  have z_tuple := He.free_ok X GG (c2.fact 91 (f := .free "tuple") rfl)
  have z_list := He.free_ok X GG (c2.fact 92 (f := .free "list") rfl)
  have z_all := He.free_ok X GG (c2.fact 93 (f := .free "all") rfl)
  have z_zip := He.free_ok X GG (c2.fact 94 (f := .free "zip") rfl)
  have z_enumerate := He.free_ok X GG (c2.fact 95 (f := .free "enumerate") rfl)
  have z_sorted := He.free_ok X GG (c2.fact 96 (f := .free "sorted") rfl)
  have g_StopError := He.glo_ok X GG (c2.fact 71 (f := .glo "StopError") rfl)
  have g_BadBits := He.glo_ok X GG (c2.fact 72 (f := .glo "BadBits") rfl)
  have g_BadInstruction := He.glo_ok X GG (c2.fact 73 (f := .glo "BadInstruction") rfl)
  have g_KEPT := He.glo_ok X GG (c2.fact 74 (f := .glo "KEPT") rfl)
  have g_MOST_OF_PLACES := He.glo_ok X GG (c2.fact 75 (f := .glo "MOST_OF_PLACES") rfl)
  have g_INSTRUCTIONS := He.glo_ok X GG (c2.fact 76 (f := .glo "INSTRUCTIONS") rfl)
  have g_LEAPS := He.glo_ok X GG (c2.fact 77 (f := .glo "LEAPS") rfl)
  have g_WORDS := He.glo_ok X GG (c2.fact 78 (f := .glo "WORDS") rfl)
  have g_READERS := He.glo_ok X GG (c2.fact 79 (f := .glo "READERS") rfl)
  have g_BadRegisters := He.glo_ok X GG (c2.fact 80 (f := .glo "BadRegisters") rfl)
  have g_BadAddress := He.glo_ok X GG (c2.fact 81 (f := .glo "BadAddress") rfl)
  obtain ⟨x1_BadRegisters, x2_BadRegisters, x3_BadRegisters, x4_BadRegisters⟩ := He.exc_ok (c2.fact 97 (f := .exc "BadRegisters") rfl)
  obtain ⟨x1_BadAddress, x2_BadAddress, x3_BadAddress, x4_BadAddress⟩ := He.exc_ok (c2.fact 98 (f := .exc "BadAddress") rfl)
  have m_BadBits_StopError := He.exm_ok (c2.fact 99 (f := .exm "BadBits" "StopError" true) rfl)
  have m_BadAddress_StopError := He.exm_ok (c2.fact 100 (f := .exm "BadAddress" "StopError" true) rfl)
  have st_LETTERS_words := He.str_ok X GG (c2.fact 101 (f := .str "LETTERS_words" K83.lettersS) rfl)
  have st_LETTERS_coding := He.str_ok X GG (c2.fact 102 (f := .str "LETTERS_coding" K83.lettersS) rfl)
  have in_MOST_PARTS := He.int_ok X GG (c2.fact 103 (f := .int "MOST_PARTS" 3) rfl)
  have m := c.more
  unfold ex84 at m
  simp only [Bool.and_eq_true, decide_eq_true_eq] at m
  obtain ⟨mSys, mx_BadRegisters, mx_BadAddress, mx_BadBits, mx_BadInstruction, mo_BadBits, mo_BadInstruction, mt_KEPT, mt_WORDS, mv_MOST_OF_PLACES, mv_INSTRUCTIONS, mv_LEAPS, mv_READERS, mb0, me0, me1, me2⟩ := m
  have SK := sysB_ok mSys
  have GD_MOST_OF_PLACES := gdt_of (tab_at c.t (i := 0) (t := (fun K => He.ga K "MOST_OF_PLACES", kv_MOST_OF_PLACES.map Prod.fst)) rfl) mv_MOST_OF_PLACES
  have GD_INSTRUCTIONS := gdt_of (tab_at c.t (i := 1) (t := (fun K => He.ga K "INSTRUCTIONS", kv_INSTRUCTIONS.map Prod.fst)) rfl) mv_INSTRUCTIONS
  have GD_LEAPS := gdt_of (tab_at c.t (i := 2) (t := (fun K => He.ga K "LEAPS", kv_LEAPS.map Prod.fst)) rfl) mv_LEAPS
  have GD_READERS := gdt_of (tab_at c.t (i := 3) (t := (fun K => He.ga K "READERS", kv_READERS.map Prod.fst)) rfl) mv_READERS
  have O_BadBits := ownB_ok mo_BadBits
  have O_BadInstruction := ownB_ok mo_BadInstruction
  have C_BadRegisters : Cl0 K mg "BadRegisters" (He.ga K "BadRegisters") := ⟨g_BadRegisters, x1_BadRegisters, x2_BadRegisters, x3_BadRegisters, x4_BadRegisters⟩
  have C_BadAddress : Cl0 K mg "BadAddress" (He.ga K "BadAddress") := ⟨g_BadAddress, x1_BadAddress, x2_BadAddress, x3_BadAddress, x4_BadAddress⟩
  have B : Bn3 mg := { isinstance := z_isinstance, int := z_int, bool := z_bool, str := z_str, len := z_len, abs := z_abs, range := z_range, repr := z_repr, ValueError := z_ValueError, tuple := z_tuple, list := z_list, all := z_all, zip := z_zip, enumerate := z_enumerate, sorted := z_sorted }
  have T : Top83 K w0 mg (He.ga K "KEPT") (He.ga K "MOST_OF_PLACES") (He.ga K "INSTRUCTIONS") (He.ga K "LEAPS") (He.ga K "WORDS") := {
    kept := g_KEPT, keptT := fun H => mapE K1.keptS ▸ He.tupB_ok mt_KEPT H, lettersX := st_LETTERS_words, lettersC := st_LETTERS_coding, MOST_OF_PLACES := g_MOST_OF_PLACES, mostD := GD_MOST_OF_PLACES,
    INSTRUCTIONS := g_INSTRUCTIONS, instD := (by have e : (kv_INSTRUCTIONS.map fun q => (q.1, q.2.v K)) = (K83.tab.map fun q => (q.1, V.str (lettersW q.1 q.2))) := instE
                                                 exact e ▸ GD_INSTRUCTIONS), LEAPS := g_LEAPS, leapD := GD_LEAPS, words := g_WORDS, wordsT := fun H => mapE (K83.tab.map Prod.fst) ▸ He.tupB_ok mt_WORDS H, wordsK := tupleB_ok mb0, most := in_MOST_PARTS }
  have G_I : FnOk P w0 K mg base CX0 1 _ fd_BadBits___init__ ["self", "at"] (spInit1 (He.ga K "BadBits") "at") := okI_BadBits F_BadBits___init__ O_BadBits
  have OB : Cl1 P w0 K mg base "BadBits" "at" (He.ga K "BadBits") _ fd_BadBits___init__ := ⟨g_BadBits, O_BadBits, G_I, b_BadBits___init__⟩
  have G_J : FnOk P w0 K mg base CX0 1 _ fd_BadInstruction___init__ ["self", "at"] (spInit1 (He.ga K "BadInstruction") "at") := okI_BadInstruction F_BadInstruction___init__ O_BadInstruction
  have OI : Cl1 P w0 K mg base "BadInstruction" "at" (He.ga K "BadInstruction") _ fd_BadInstruction___init__ := ⟨g_BadInstruction, O_BadInstruction, G_J, b_BadInstruction___init__⟩
  have EF : ErrF K mg (He.ga K "StopError") (He.ga K "BadBits") (He.ga K "BadAddress") := ⟨g_StopError, g_BadBits, C_BadAddress.g, m_BadBits_StopError, m_BadAddress_StopError, (excB_ok mx_BadBits).1, (excB_ok mx_BadAddress).1, (excB_ok mx_BadBits).2, O_BadBits.no "at" (List.mem_singleton.mpr rfl), me0, me1, me2⟩
  have G_is_number : FnOk P w0 K mg base CX0 1 _ fd_is_number ["thing"] (spIsNum K) := ok_is_number F_is_number B.toBn2
  have c_is_number : Dq P w0 K mg base CX0 1 "is_number" ["thing"] (spIsNum K) := ⟨_, _, G_is_number, g_is_number, F_is_number.kp, b_is_number⟩
  have G_is_number_between : FnOk P w0 K mg base CX0 2 _ fd_is_number_between ["thing", "low", "high"] (spNumB K) := ok_is_number_between F_is_number_between c_is_number
  have c_is_number_between : Dq P w0 K mg base CX0 2 "is_number_between" ["thing", "low", "high"] (spNumB K) := ⟨_, _, G_is_number_between, g_is_number_between, F_is_number_between.kp, b_is_number_between⟩
  have G_is_bit_string : FnOk P w0 K mg base CX0 1 _ fd_is_bit_string ["thing"] (spBitS K) := ok_is_bit_string F_is_bit_string B.toBn2
  have c_is_bit_string : Dq P w0 K mg base CX0 1 "is_bit_string" ["thing"] (spBitS K) := ⟨_, _, G_is_bit_string, g_is_bit_string, F_is_bit_string.kp, b_is_bit_string⟩
  have G_bits_of_count : FnOk P w0 K mg base CX0 1 _ fd_bits_of_count ["number"] spBitsC := ok_bits_of_count F_bits_of_count B.toBn2
  have c_bits_of_count : Dq P w0 K mg base CX0 1 "bits_of_count" ["number"] spBitsC := ⟨_, _, G_bits_of_count, g_bits_of_count, F_bits_of_count.kp, b_bits_of_count⟩
  have G_bits_of_number : FnOk P w0 K mg base CX0 2 _ fd_bits_of_number ["number"] spBitsN := ok_bits_of_number F_bits_of_number c_bits_of_count
  have c_bits_of_number : Dq P w0 K mg base CX0 2 "bits_of_number" ["number"] spBitsN := ⟨_, _, G_bits_of_number, g_bits_of_number, F_bits_of_number.kp, b_bits_of_number⟩
  have G_count_at : FnOk P w0 K mg base CX0 1 _ fd_count_at ["bits", "at"] spCntAt := ok_count_at F_count_at B.toBn2
  have c_count_at : Dq P w0 K mg base CX0 1 "count_at" ["bits", "at"] spCntAt := ⟨_, _, G_count_at, g_count_at, F_count_at.kp, b_count_at⟩
  have G_number_at : FnOk P w0 K mg base CX0 2 _ fd_number_at ["bits", "at"] spNumAt := ok_number_at F_number_at B.toBn2 c_count_at
  have c_number_at : Dq P w0 K mg base CX0 2 "number_at" ["bits", "at"] spNumAt := ⟨_, _, G_number_at, g_number_at, F_number_at.kp, b_number_at⟩
  have G__law_mixed : FnOk P w0 K mg base CX0 1 _ fd__law_mixed ["draw"] spMixed := ok_mixed F__law_mixed z_int
  have c__law_mixed : Dq P w0 K mg base CX0 1 "_law_mixed" ["draw"] spMixed := ⟨_, _, G__law_mixed, g__law_mixed, F__law_mixed.kp, b__law_mixed⟩
  have G__law_begun : FnOk P w0 K mg base CX0 1 _ fd__law_begun ["script"] (spBegun K) := ok_begun F__law_begun z_int z_abs
  have c__law_begun : Dq P w0 K mg base CX0 1 "_law_begun" ["script"] (spBegun K) := ⟨_, _, G__law_begun, g__law_begun, F__law_begun.kp, b__law_begun⟩
  have G_is_tuple_of : FnOk P w0 K mg base CX0 1 _ fd_is_tuple_of ["thing", "many"] (spTupOf K) := ok_is_tuple_of F_is_tuple_of B
  have c_is_tuple_of : Dq P w0 K mg base CX0 1 "is_tuple_of" ["thing", "many"] (spTupOf K) := ⟨_, _, G_is_tuple_of, g_is_tuple_of, F_is_tuple_of.kp, b_is_tuple_of⟩
  have G_is_list : FnOk P w0 K mg base CX0 1 _ fd_is_list ["thing"] (spIsList K) := ok_is_list F_is_list B
  have c_is_list : Dq P w0 K mg base CX0 1 "is_list" ["thing"] (spIsList K) := ⟨_, _, G_is_list, g_is_list, F_is_list.kp, b_is_list⟩
  have G_is_name : FnOk P w0 K mg base CX0 1 _ fd_is_name ["thing"] (spIsName K) := ok_is_name F_is_name T B
  have c_is_name : Dq P w0 K mg base CX0 1 "is_name" ["thing"] (spIsName K) := ⟨_, _, G_is_name, g_is_name, F_is_name.kp, b_is_name⟩
  have G_is_place : FnOk P w0 K mg base CX0 1 _ fd_is_place ["thing"] (spIsPlace K) := ok_is_place F_is_place T B
  have c_is_place : Dq P w0 K mg base CX0 1 "is_place" ["thing"] (spIsPlace K) := ⟨_, _, G_is_place, g_is_place, F_is_place.kp, b_is_place⟩
  have G_place_number : FnOk P w0 K mg base CX0 1 _ fd_place_number ["place"] spPlaceN := ok_place_number F_place_number B
  have c_place_number : Dq P w0 K mg base CX0 1 "place_number" ["place"] spPlaceN := ⟨_, _, G_place_number, g_place_number, F_place_number.kp, b_place_number⟩
  have G_digits : FnOk P w0 K mg base CX0 1 _ fd_digits ["number", "many"] spDigits := ok_digits F_digits B
  have c_digits : Dq P w0 K mg base CX0 1 "digits" ["number", "many"] spDigits := ⟨_, _, G_digits, g_digits, F_digits.kp, b_digits⟩
  have G__half_of : FnOk P w0 K mg base CX0 1 _ fd__half_of ["word"] spHalf := ok_half_of F__half_of T
  have c__half_of : Dq P w0 K mg base CX0 1 "_half_of" ["word"] spHalf := ⟨_, _, G__half_of, g__half_of, F__half_of.kp, b__half_of⟩
  have G__is_register : FnOk P w0 K mg base CX0 2 _ fd__is_register ["registers", "thing"] (spIsReg K) := ok_is_register F__is_register c_is_place c_place_number
  have c__is_register : Dq P w0 K mg base CX0 2 "_is_register" ["registers", "thing"] (spIsReg K) := ⟨_, _, G__is_register, g__is_register, F__is_register.kp, b__is_register⟩
  have G__register_bits : FnOk P w0 K mg base CX0 2 _ fd__register_bits ["place"] spRegBits := ok_register_bits F__register_bits c_digits c_place_number
  have c__register_bits : Dq P w0 K mg base CX0 2 "_register_bits" ["place"] spRegBits := ⟨_, _, G__register_bits, g__register_bits, F__register_bits.kp, b__register_bits⟩
  have G__copied_bits : FnOk P w0 K mg base CX0 3 _ fd__copied_bits ["place"] spCopBits := ok_copied_bits F__copied_bits c_bits_of_count c_place_number c__register_bits
  have c__copied_bits : Dq P w0 K mg base CX0 3 "_copied_bits" ["place"] spCopBits := ⟨_, _, G__copied_bits, g__copied_bits, F__copied_bits.kp, b__copied_bits⟩
  have G__are_copied : FnOk P w0 K mg base CX0 3 _ fd__are_copied ["registers", "places"] (spCopied K) := ok_are_copied F__are_copied B c_is_place c__is_register
  have c__are_copied : Dq P w0 K mg base CX0 3 "_are_copied" ["registers", "places"] (spCopied K) := ⟨_, _, G__are_copied, g__are_copied, F__are_copied.kp, b__are_copied⟩
  have G__is_leap : FnOk P w0 K mg base CX0 3 _ fd__is_leap ["thing"] spIsLeap := ok_is_leap F__is_leap T B c_is_tuple_of c__half_of c_is_number_between
  have c__is_leap : Dq P w0 K mg base CX0 3 "_is_leap" ["thing"] spIsLeap := ⟨_, _, G__is_leap, g__is_leap, F__is_leap.kp, b__is_leap⟩
  have G__has_part_form : FnOk P w0 K mg base CX0 4 _ fd__has_part_form ["registers", "part", "letter"] (spPartF K) := ok_has_part_form F__has_part_form T B c__is_register c_is_number c_is_name c_is_number_between c__is_leap
  have c__has_part_form : Dq P w0 K mg base CX0 4 "_has_part_form" ["registers", "part", "letter"] (spPartF K) := ⟨_, _, G__has_part_form, g__has_part_form, F__has_part_form.kp, b__has_part_form⟩
  have G_has_instruction_form : FnOk P w0 K mg base CX0 5 _ fd_has_instruction_form ["registers", "thing"] (spInsF K) := ok_has_instruction_form F_has_instruction_form T B c__are_copied c__has_part_form
  have c_has_instruction_form : Dq P w0 K mg base CX0 5 "has_instruction_form" ["registers", "thing"] (spInsF K) := ⟨_, _, G_has_instruction_form, g_has_instruction_form, F_has_instruction_form.kp, b_has_instruction_form⟩
  have G__part_bits : FnOk P w0 K mg base CX0 4 _ fd__part_bits ["part", "letter"] spPartB := ok_part_bits F__part_bits T B c__register_bits c_bits_of_number c_digits
  have c__part_bits : Dq P w0 K mg base CX0 4 "_part_bits" ["part", "letter"] spPartB := ⟨_, _, G__part_bits, g__part_bits, F__part_bits.kp, b__part_bits⟩
  have G_bits_of_instruction : FnOk P w0 K mg base CX0 5 _ fd_bits_of_instruction ["told"] spInsB := ok_bits_of_instruction F_bits_of_instruction T B c_digits c__copied_bits c__part_bits
  have c_bits_of_instruction : Dq P w0 K mg base CX0 5 "bits_of_instruction" ["told"] spInsB := ⟨_, _, G_bits_of_instruction, g_bits_of_instruction, F_bits_of_instruction.kp, b_bits_of_instruction⟩
  have G__digits_at : FnOk P w0 K mg base CX0 1 _ fd__digits_at ["bits", "at", "many"] spDigAt := ok_digits_at F__digits_at B
  have c__digits_at : Dq P w0 K mg base CX0 1 "_digits_at" ["bits", "at", "many"] spDigAt := ⟨_, _, G__digits_at, g__digits_at, F__digits_at.kp, b__digits_at⟩
  have G__register_at : FnOk P w0 K mg base CX0 2 _ fd__register_at ["bits", "at"] spRegAt := ok_register_at F__register_at c__digits_at
  have c__register_at : Dq P w0 K mg base CX0 2 "_register_at" ["bits", "at"] spRegAt := ⟨_, _, G__register_at, g__register_at, F__register_at.kp, b__register_at⟩
  have G__part_number_at : FnOk P w0 K mg base CX0 2 _ fd__part_number_at ["bits", "at"] (spRdP .k) := ok_part_number_at F__part_number_at c__digits_at
  have c__part_number_at : Dq P w0 K mg base CX0 2 "_part_number_at" ["bits", "at"] (spRdP .k) := ⟨_, _, G__part_number_at, g__part_number_at, F__part_number_at.kp, b__part_number_at⟩
  have G__copied_at : FnOk P w0 K mg base CX0 3 _ fd__copied_at ["bits", "at"] (spRdP .c) := ok_copied_at F__copied_at c__register_at c_count_at
  have c__copied_at : Dq P w0 K mg base CX0 3 "_copied_at" ["bits", "at"] (spRdP .c) := ⟨_, _, G__copied_at, g__copied_at, F__copied_at.kp, b__copied_at⟩
  have G__leap_at : FnOk P w0 K mg base CX0 3 _ fd__leap_at ["bits", "at"] (spRdP .l) := ok_leap_at F__leap_at T c__digits_at c__half_of
  have c__leap_at : Dq P w0 K mg base CX0 3 "_leap_at" ["bits", "at"] (spRdP .l) := ⟨_, _, G__leap_at, g__leap_at, F__leap_at.kp, b__leap_at⟩
  have G__registers_at : FnOk P w0 K mg base CX0 3 _ fd__registers_at ["bits", "at"] (spRdP .P) := ok_registers_at F__registers_at B c__digits_at c__register_at
  have c__registers_at : Dq P w0 K mg base CX0 3 "_registers_at" ["bits", "at"] (spRdP .P) := ⟨_, _, G__registers_at, g__registers_at, F__registers_at.kp, b__registers_at⟩
  have G__name_at : FnOk P w0 K mg base CX0 2 _ fd__name_at ["bits", "at"] (spRdP .x) := ok_name_at F__name_at T B c__digits_at
  have c__name_at : Dq P w0 K mg base CX0 2 "_name_at" ["bits", "at"] (spRdP .x) := ⟨_, _, G__name_at, g__name_at, F__name_at.kp, b__name_at⟩
  have G__check_bits : FnOk P w0 K mg base (L2.CX P w0) 3 _ fd__check_bits ["bits"] (spChkB K (He.ga K "BadBits")) := ok_check_bits F__check_bits OB c_is_bit_string
  have c__check_bits : Dq P w0 K mg base (L2.CX P w0) 3 "_check_bits" ["bits"] (spChkB K (He.ga K "BadBits")) := ⟨_, _, G__check_bits, g__check_bits, F__check_bits.kp, b__check_bits⟩
  have G__check_registers : FnOk P w0 K mg base (L2.CX P w0) 3 _ fd__check_registers ["registers"] (spChkR K (He.ga K "BadRegisters")) := ok_check_registers F__check_registers C_BadRegisters c_is_number_between
  have c__check_registers : Dq P w0 K mg base (L2.CX P w0) 3 "_check_registers" ["registers"] (spChkR K (He.ga K "BadRegisters")) := ⟨_, _, G__check_registers, g__check_registers, F__check_registers.kp, b__check_registers⟩
  have G_bits_of_L : FnOk P w0 K mg base (L2.CX P w0) 7 _ fd_bits_of ["registers", "instructions"] (spBitsOfL K (He.ga K "BadRegisters") (He.ga K "BadInstruction")) := ok_bits_of_L F_bits_of B OI c__check_registers c_is_list c_has_instruction_form c_bits_of_instruction
  have c_bits_of_L : Dq P w0 K mg base (L2.CX P w0) 7 "bits_of" ["registers", "instructions"] (spBitsOfL K (He.ga K "BadRegisters") (He.ga K "BadInstruction")) := ⟨_, _, G_bits_of_L, g_bits_of, F_bits_of.kp, b_bits_of⟩
  have G__law_digits : FnOk P w0 K mg base CX0 1 _ fd__law_digits ["number", "many"] spDig := okl_digits F__law_digits B.toBn2
  have c__law_digits : Dq P w0 K mg base CX0 1 "_law_digits" ["number", "many"] spDig := ⟨_, _, G__law_digits, g__law_digits, F__law_digits.kp, b__law_digits⟩
  have G__law_count : FnOk P w0 K mg base CX0 2 _ fd__law_count ["number"] spBitsC := okl_count F__law_count c__law_digits
  have c__law_count : Dq P w0 K mg base CX0 2 "_law_count" ["number"] spBitsC := ⟨_, _, G__law_count, g__law_count, F__law_count.kp, b__law_count⟩
  have G__law_signed : FnOk P w0 K mg base CX0 3 _ fd__law_signed ["number"] spBitsN := okl_signed F__law_signed c__law_count
  have c__law_signed : Dq P w0 K mg base CX0 3 "_law_signed" ["number"] spBitsN := ⟨_, _, G__law_signed, g__law_signed, F__law_signed.kp, b__law_signed⟩
  have G__law_spelt : FnOk P w0 K mg base CX0 2 _ fd__law_spelt ["name"] splSpelt := okl_spelt F__law_spelt c__law_digits
  have c__law_spelt : Dq P w0 K mg base CX0 2 "_law_spelt" ["name"] splSpelt := ⟨_, _, G__law_spelt, g__law_spelt, F__law_spelt.kp, b__law_spelt⟩
  have G_regs_T : FnOk P w0 K mg base CX0 2 _ fd__law_registers ["places"] splRegsT := okl_registers_T F__law_registers B c__law_digits
  have c_regs_T : Dq P w0 K mg base CX0 2 "_law_registers" ["places"] splRegsT := ⟨_, _, G_regs_T, g__law_registers, F__law_registers.kp, b__law_registers⟩
  have G_regs_L : FnOk P w0 K mg base CX0 2 _ fd__law_registers ["places"] splRegsL := okl_registers_L F__law_registers B c__law_digits
  have c_regs_L : Dq P w0 K mg base CX0 2 "_law_registers" ["places"] splRegsL := ⟨_, _, G_regs_L, g__law_registers, F__law_registers.kp, b__law_registers⟩
  have G__law_copied : FnOk P w0 K mg base CX0 3 _ fd__law_copied ["place"] splCop := okl_copied F__law_copied B c_regs_L c__law_count
  have c__law_copied : Dq P w0 K mg base CX0 3 "_law_copied" ["place"] splCop := ⟨_, _, G__law_copied, g__law_copied, F__law_copied.kp, b__law_copied⟩
  have G__law_leap_bits : FnOk P w0 K mg base CX0 2 _ fd__law_leap_bits ["leap"] splLeap := okl_leap_bits F__law_leap_bits B c__law_digits
  have c__law_leap_bits : Dq P w0 K mg base CX0 2 "_law_leap_bits" ["leap"] splLeap := ⟨_, _, G__law_leap_bits, g__law_leap_bits, F__law_leap_bits.kp, b__law_leap_bits⟩
  have G__law_first : FnOk P w0 K mg base CX0 2 _ fd__law_first ["word"] splFirst := okl_first F__law_first c__law_digits
  have c__law_first : Dq P w0 K mg base CX0 2 "_law_first" ["word"] splFirst := ⟨_, _, G__law_first, g__law_first, F__law_first.kp, b__law_first⟩
  have G__law_part_bits : FnOk P w0 K mg base CX0 4 _ fd__law_part_bits ["letter", "part"] splPartB := okl_part_bits F__law_part_bits B c_regs_L c_regs_T c__law_copied c__law_signed c__law_spelt c__law_digits c__law_leap_bits
  have c__law_part_bits : Dq P w0 K mg base CX0 4 "_law_part_bits" ["letter", "part"] splPartB := ⟨_, _, G__law_part_bits, g__law_part_bits, F__law_part_bits.kp, b__law_part_bits⟩
  have G__law_is_name : FnOk P w0 K mg base CX0 1 _ fd__law_is_name ["thing"] splIsName := okl_is_name F__law_is_name B.toBn2
  have c__law_is_name : Dq P w0 K mg base CX0 1 "_law_is_name" ["thing"] splIsName := ⟨_, _, G__law_is_name, g__law_is_name, F__law_is_name.kp, b__law_is_name⟩
  have G__law_shapes : FnOk P w0 K mg base CX0 1 _ fd__law_shapes [] splShapes := okl_shapes F__law_shapes
  have c__law_shapes : Dq P w0 K mg base CX0 1 "_law_shapes" [] splShapes := ⟨_, _, G__law_shapes, g__law_shapes, F__law_shapes.kp, b__law_shapes⟩
  have G__law_told_bits : FnOk P w0 K mg base CX0 5 _ fd__law_told_bits ["instruction"] splToldB := okl_told_bits F__law_told_bits B c__law_shapes c__law_first c__law_part_bits
  have c__law_told_bits : Dq P w0 K mg base CX0 5 "_law_told_bits" ["instruction"] splToldB := ⟨_, _, G__law_told_bits, g__law_told_bits, F__law_told_bits.kp, b__law_told_bits⟩
  have G__law_value : FnOk P w0 K mg base CX0 1 _ fd__law_value ["bits"] splVal := okl_value F__law_value B.toBn2
  have c__law_value : Dq P w0 K mg base CX0 1 "_law_value" ["bits"] splVal := ⟨_, _, G__law_value, g__law_value, F__law_value.kp, b__law_value⟩
  have G__law_read : FnOk P w0 K mg base CX0 2 _ fd__law_read ["bits", "at"] spCntAt := okl_read F__law_read B.toBn2 c__law_value
  have c__law_read : Dq P w0 K mg base CX0 2 "_law_read" ["bits", "at"] spCntAt := ⟨_, _, G__law_read, g__law_read, F__law_read.kp, b__law_read⟩
  have G__law_signed_at : FnOk P w0 K mg base CX0 3 _ fd__law_signed_at ["bits", "at"] spNumAt := okl_signed_at F__law_signed_at B.toBn2 c__law_read
  have c__law_signed_at : Dq P w0 K mg base CX0 3 "_law_signed_at" ["bits", "at"] spNumAt := ⟨_, _, G__law_signed_at, g__law_signed_at, F__law_signed_at.kp, b__law_signed_at⟩
  have G__law_register_at : FnOk P w0 K mg base CX0 2 _ fd__law_register_at ["registers", "bits", "at"] splRegAt := okl_register_at F__law_register_at B c__law_value
  have c__law_register_at : Dq P w0 K mg base CX0 2 "_law_register_at" ["registers", "bits", "at"] splRegAt := ⟨_, _, G__law_register_at, g__law_register_at, F__law_register_at.kp, b__law_register_at⟩
  have G__law_copied_at : FnOk P w0 K mg base CX0 3 _ fd__law_copied_at ["registers", "bits", "at"] (splAtR .c) := okl_copied_at F__law_copied_at B c__law_register_at c__law_read
  have c__law_copied_at : Dq P w0 K mg base CX0 3 "_law_copied_at" ["registers", "bits", "at"] (splAtR .c) := ⟨_, _, G__law_copied_at, g__law_copied_at, F__law_copied_at.kp, b__law_copied_at⟩
  have G__law_some_at : FnOk P w0 K mg base CX0 3 _ fd__law_some_at ["registers", "bits", "at"] (splAtR .P) := okl_some_at F__law_some_at B c__law_value c__law_register_at
  have c__law_some_at : Dq P w0 K mg base CX0 3 "_law_some_at" ["registers", "bits", "at"] (splAtR .P) := ⟨_, _, G__law_some_at, g__law_some_at, F__law_some_at.kp, b__law_some_at⟩
  have G__law_leap_at : FnOk P w0 K mg base CX0 2 _ fd__law_leap_at ["bits", "at"] (splAtS .l) := okl_leap_at F__law_leap_at B c__law_value
  have c__law_leap_at : Dq P w0 K mg base CX0 2 "_law_leap_at" ["bits", "at"] (splAtS .l) := ⟨_, _, G__law_leap_at, g__law_leap_at, F__law_leap_at.kp, b__law_leap_at⟩
  have G__law_name_at : FnOk P w0 K mg base CX0 2 _ fd__law_name_at ["bits", "at"] (splAtS .x) := okl_name_at F__law_name_at B c__law_value c__law_is_name
  have c__law_name_at : Dq P w0 K mg base CX0 2 "_law_name_at" ["bits", "at"] (splAtS .x) := ⟨_, _, G__law_name_at, g__law_name_at, F__law_name_at.kp, b__law_name_at⟩
  have G__law_part_at : FnOk P w0 K mg base CX0 4 _ fd__law_part_at ["letter", "registers", "bits", "at"] splPartAt := okl_part_at F__law_part_at B c__law_value c__law_register_at c__law_copied_at c__law_signed_at c__law_name_at c__law_some_at c__law_leap_at
  have c__law_part_at : Dq P w0 K mg base CX0 4 "_law_part_at" ["letter", "registers", "bits", "at"] splPartAt := ⟨_, _, G__law_part_at, g__law_part_at, F__law_part_at.kp, b__law_part_at⟩
  have G__law_one_at : FnOk P w0 K mg base CX0 5 _ fd__law_one_at ["registers", "bits", "at"] splOneAt := okl_one_at F__law_one_at B c__law_shapes c__law_first c__law_part_at
  have c__law_one_at : Dq P w0 K mg base CX0 5 "_law_one_at" ["registers", "bits", "at"] splOneAt := ⟨_, _, G__law_one_at, g__law_one_at, F__law_one_at.kp, b__law_one_at⟩
  have G__law_due : FnOk P w0 K mg base CX0 6 _ fd__law_due ["registers", "bits"] splDue := okl_due F__law_due B c__law_one_at
  have c__law_due : Dq P w0 K mg base CX0 6 "_law_due" ["registers", "bits"] splDue := ⟨_, _, G__law_due, g__law_due, F__law_due.kp, b__law_due⟩
  have R : RdT P w0 K mg base (He.ga K "READERS") := ⟨g_READERS, fun c => by
    cases c with
    | p => exact ⟨_, _, GD_READERS.kd (z := sg .p) (by rfl), (G__register_at.mono (by decide)).imp fun vs H Q E ⟨z, n, h1, h2, h3, h4, h5⟩ => ⟨z, n, h1, h3, h4, h5⟩, F__register_at.kp, b__register_at⟩
    | c => exact ⟨_, _, GD_READERS.kd (z := sg .c) (by rfl), G__copied_at, F__copied_at.kp, b__copied_at⟩
    | n => exact ⟨_, _, GD_READERS.kd (z := sg .n) (by rfl), rdN_imp (G_number_at.mono (by decide)), F_number_at.kp, b_number_at⟩
    | x => exact ⟨_, _, GD_READERS.kd (z := sg .x) (by rfl), G__name_at.mono (by decide), F__name_at.kp, b__name_at⟩
    | k => exact ⟨_, _, GD_READERS.kd (z := sg .k) (by rfl), G__part_number_at.mono (by decide), F__part_number_at.kp, b__part_number_at⟩
    | P => exact ⟨_, _, GD_READERS.kd (z := sg .P) (by rfl), G__registers_at, F__registers_at.kp, b__registers_at⟩
    | l => exact ⟨_, _, GD_READERS.kd (z := sg .l) (by rfl), G__leap_at, F__leap_at.kp, b__leap_at⟩⟩
  have c_part_0 : Dq P w0 K mg base CX0 4 "_law_part" ["draw", "registers", "letter"] spNo := ⟨_, _, fnNo, g__law_part, F__law_part.kp, b__law_part⟩
  have G__law_take : FnOk P w0 K mg base CX0 2 _ fd__law_take ["draw", "many"] spTake := ok_take F__law_take F__law_mixed b__law_mixed g__law_mixed z_int G__law_mixed
  have c__law_take : Dq P w0 K mg base CX0 2 "_law_take" ["draw", "many"] spTake := ⟨_, _, G__law_take, g__law_take, F__law_take.kp, b__law_take⟩
  have G__law_pick : FnOk P w0 K mg base CX0 3 _ fd__law_pick ["draw", "some"] (spPick K) := ok_pick F__law_pick F__law_take b__law_take g__law_take z_len G__law_take
  have c__law_pick : Dq P w0 K mg base CX0 3 "_law_pick" ["draw", "some"] (spPick K) := ⟨_, _, G__law_pick, g__law_pick, F__law_pick.kp, b__law_pick⟩
  have G_read_instruction : FnOk P w0 K mg base CX0 6 _ fd_read_instruction ["registers", "bits", "at"] spRdI := ok_read_instruction F_read_instruction T R B c__digits_at c_has_instruction_form
  have c_read_instruction : Dq P w0 K mg base CX0 6 "read_instruction" ["registers", "bits", "at"] spRdI := ⟨_, _, G_read_instruction, g_read_instruction, F_read_instruction.kp, b_read_instruction⟩
  have G_instruction_at : FnOk P w0 K mg base (L2.CX P w0) 7 _ fd_instruction_at ["registers", "bits", "address"] (spInsAt K (He.ga K "BadRegisters") (He.ga K "BadBits") (He.ga K "BadAddress")) := ok_instruction_at F_instruction_at B C_BadAddress c__check_registers c__check_bits c_is_number_between c_read_instruction
  have c_instruction_at : Dq P w0 K mg base (L2.CX P w0) 7 "instruction_at" ["registers", "bits", "address"] (spInsAt K (He.ga K "BadRegisters") (He.ga K "BadBits") (He.ga K "BadAddress")) := ⟨_, _, G_instruction_at, g_instruction_at, F_instruction_at.kp, b_instruction_at⟩
  have G_read_bits : FnOk P w0 K mg base (L2.CX P w0) 7 _ fd_read_bits ["registers", "bits"] (spRdBits K (He.ga K "BadRegisters") (He.ga K "BadBits")) := ok_read_bits F_read_bits B OB c__check_registers c__check_bits c_read_instruction
  have c_read_bits : Dq P w0 K mg base (L2.CX P w0) 7 "read_bits" ["registers", "bits"] (spRdBits K (He.ga K "BadRegisters") (He.ga K "BadBits")) := ⟨_, _, G_read_bits, g_read_bits, F_read_bits.kp, b_read_bits⟩
  have G_pickS : FnOk P w0 K mg base CX0 3 _ fd__law_pick ["draw", "some"] spPickS := okl_pickS F__law_pick B.toBn2 c__law_take
  have c_pickS : Dq P w0 K mg base CX0 3 "_law_pick" ["draw", "some"] spPickS := ⟨_, _, G_pickS, g__law_pick, F__law_pick.kp, b__law_pick⟩
  have G__law_figure : FnOk P w0 K mg base CX0 3 _ fd__law_figure ["draw"] spFig82 := okl_figure F__law_figure c__law_take
  have c__law_figure : Dq P w0 K mg base CX0 3 "_law_figure" ["draw"] spFig82 := ⟨_, _, G__law_figure, g__law_figure, F__law_figure.kp, b__law_figure⟩
  have G__law_names : FnOk P w0 K mg base CX0 4 _ fd__law_names ["draw", "many"] splNames := okl_names F__law_names B c__law_pick c_pickS
  have c__law_names : Dq P w0 K mg base CX0 4 "_law_names" ["draw", "many"] splNames := ⟨_, _, G__law_names, g__law_names, F__law_names.kp, b__law_names⟩
  have G_part_R : FnOk P w0 K mg base CX0 5 _ fd__law_part ["draw", "registers", "letter"] splDPartR := okl_part_R F__law_part B c__law_take c__law_figure c__law_pick c_pickS c__law_names c_part_0
  have c_part_R : Dq P w0 K mg base CX0 5 "_law_part" ["draw", "registers", "letter"] splDPartR := ⟨_, _, G_part_R, g__law_part, F__law_part.kp, b__law_part⟩
  have G__law_part : FnOk P w0 K mg base CX0 6 _ fd__law_part ["draw", "registers", "letter"] splDPart := okl_part F__law_part B c__law_take c__law_figure c__law_pick c_pickS c__law_names c_part_R
  have c__law_part : Dq P w0 K mg base CX0 6 "_law_part" ["draw", "registers", "letter"] splDPart := ⟨_, _, G__law_part, g__law_part, F__law_part.kp, b__law_part⟩
  have G__law_instruction : FnOk P w0 K mg base CX0 7 _ fd__law_instruction ["draw", "registers"] splInstr := okl_instruction F__law_instruction B c__law_shapes c__law_pick c__law_take c__law_part
  have c__law_instruction : Dq P w0 K mg base CX0 7 "_law_instruction" ["draw", "registers"] splInstr := ⟨_, _, G__law_instruction, g__law_instruction, F__law_instruction.kp, b__law_instruction⟩
  have G__law_bits : FnOk P w0 K mg base CX0 4 _ fd__law_bits ["draw", "most"] splBits := okl_bits F__law_bits B.toBn2 c__law_take c__law_pick
  have c__law_bits : Dq P w0 K mg base CX0 4 "_law_bits" ["draw", "most"] splBits := ⟨_, _, G__law_bits, g__law_bits, F__law_bits.kp, b__law_bits⟩
  have G__law_refusal : FnOk P w0 K mg base CX0 8 _ fd__law_refusal ["registers", "bits", "address"] (splRefusal K (He.ga K "BadRegisters") (He.ga K "BadBits") (He.ga K "BadAddress")) := okl_refusal F__law_refusal B EF c_read_bits c_instruction_at
  have c__law_refusal : Dq P w0 K mg base CX0 8 "_law_refusal" ["registers", "bits", "address"] (splRefusal K (He.ga K "BadRegisters") (He.ga K "BadBits") (He.ga K "BadAddress")) := ⟨_, _, G__law_refusal, g__law_refusal, F__law_refusal.kp, b__law_refusal⟩
  have G__law_changed : FnOk P w0 K mg base CX0 5 _ fd__law_changed ["draw", "bits"] splChanged := okl_changed F__law_changed B c__law_take c_pickS c__law_bits
  have c__law_changed : Dq P w0 K mg base CX0 5 "_law_changed" ["draw", "bits"] splChanged := ⟨_, _, G__law_changed, g__law_changed, F__law_changed.kp, b__law_changed⟩
  have k_read_bits : Dk P w0 K mg base (L2.CX P w0) 7 "read_bits" ["registers", "bits"] ["bits", "registers"] kwBA (spRdBits K (He.ga K "BadRegisters") (He.ga K "BadBits")) := ⟨_, _, _, G_read_bits, g_read_bits, F_read_bits.kp, kb_ba F_read_bits (fun _ _ _ _ _ _ _ _ => rfl)⟩
  have G_law := okl_law F_law B SK c__law_begun c__law_take c__law_pick c__law_instruction c__law_told_bits c__law_bits c__law_changed c__law_due c__law_one_at c__law_refusal c_bits_of_L k_read_bits
  cases hfa.symm.trans g_law
  refine lawRun_of G_law ⟨by decide, by decide, by decide⟩ fun s u => ?_
  obtain ⟨oc, od, kV, doc, pm, an, cdv, ct, osl, rfl, _, _⟩ := F_law.ex
  exact .of_eq rfl
end
end SA

set_option Elab.async false
set_option linter.all false
set_option maxRecDepth 100000
set_option maxHeartbeats 0
open PySem PySem.W PySem.Calls PyProof.Rows
theorem PySem.Challenge.cw_stopanywhere_k84_bits_read_or_refused_holds : PySem.Challenge.rw_stopanywhere_k84_bits_read_or_refused.Holds := by
  w_on; o_law
  refine HandSHeadRun.head_any (r := SA.R) (q := view SA.R.prog [91]) (H := SA.hk84) (ob := SA.ob84) (M := 16000) (loose := SA.names) (d := HandSHeadRun.topDef SA.R.prog 91) (kwd := []) SA.ob_eq
    (by kernel_rfl) (fun s => by kernel_rfl) SA.run (by kernel_rfl) (by kernel_rfl) (by kernel_rfl) (by rfl) (by first | assumption | decide +kernel) (by decide +kernel) ⟨rfl, rfl, rfl, rfl, rfl, by decide +kernel⟩ ?hw ?hc
  case hw => w_witness2
  case hc =>
    refine SA.walk_G (l := PySem.Challenge.rw_stopanywhere_k84_bits_read_or_refused) (n := 63) rfl (by decide) (by kernel_rfl) ?F
    intro w mg fa h Y G hmg0
    obtain ⟨K, KX, c⟩ := Y
    have hmg : mg ("law" : PySem.Str) = some (.ref fa) := by
      have e : (HandSHeadRun.topDef SA.R.prog 91).name = ("law" : PySem.Str) := by kernel_rfl
      rw [← e]
      exact hmg0
    exact ⟨K, KX, fun base _ _ => SA.law_of KX G hmg c base⟩

