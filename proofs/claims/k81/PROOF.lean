import PyProof.Rows.All
import Wide.All
import OpenK.AllK
import Wide.FinOn
import HandS.Base
import HandS.Call
import HandS.List
import HandS.Ends
import HandS.Exc
import HandS.ExcInit
import HandS.WideBits
import PyProof.ReprReads
import KE.KExcIs
import HandS.ExcField
import HandS.IsInst
import HandS.MakeKw
import HandS.ForMost
import HandS.ForExc
import HandS.EndBits
import HandS.Walk
import HandS.Property
import HandS.Strs
import KE.GoesMore
import HandS.TryMany
import HandS.WordsExc
import HandS.Conv
import HandS.TupSets
import HandS.OwnEq
import PyProof.InstNe
import HandS.Style
import PyProof.CallFns
import PyProof.ReprRoads
import HandS.More
import HandS.Text
import HandS.StrMore
import PyProof.Rows.StrCut
import HandS.FStr
import HandS.Small
import HandS.Comp
import HandS.ExcOwn
import HandS.TryOnly
import PyProof.StrOps2
import HandS.NoneIn
import HandS.Defaults
import PySem.Challenge.RW_pulledonce_k81_texts_refused
set_option Elab.async false
set_option linter.all false
set_option maxRecDepth 100000
set_option maxHeartbeats 4000000
/-! Rules of my own over the hand layer: powers of great ints, exceptions held as values, repr of data. -/
namespace VK
open PySem PySem.Spec PyProof.Rows L2

/-! ### powers -/
def PowOk (i j : Int) : Prop := 0 ≤ j ∧ (Builtin.Int.intBits i : Int) * j ≤ 2 ^ 27
theorem op_powB {X : Cx} : OpR X (binaryOp .Pow) (rI PowOk fun i j => .int (i ^ j.toNat)) :=
  opI fun _ _ _ _ _ _ _ hc q => pow_int hc.1 hc.2 q

/-! ### an exception of one's own, held as a value: its object exo, its dict exd -/
section
variable {X : Cx} {e : Expr} {es : List Expr} {te : TE} {ta : TA} {p pos : Pos}
def tErr (sp : Sp) (dvs : List V) (C : Addr) (ta : TA) : TE := fun σ H Q => ta σ H fun vs H1 => vs.length ≤ 1000 ∧
  ∀ a, H1 a = none → sp (.ref a :: (vs ++ dvs)) (upd H1 a (exo a C none)) (fun v H2 => v = .non ∧ Q (.ref a) H2) fun _ _ _ => False

/-- C(e, ..), C an own class over ValueError with its own __init__ -/
theorem pe_err {CX : CXT} {x : Str} {C fI : Addr} {k : Nat} {fd : FuncData} {ps : List Str} {sp : Sp} {ds : List Value} {dvs : List V}
    (T : OexC X.K C) (iC : PySem.W.findIn X.K (.ref C) "__init__" = some (some (.ref fI)))
    (tI : PySem.W.typeIn X.K (.ref fI) = some (.type "function"))
    (F1 : FnOk X.prog X.w X.K X.mg X.base CX k fI fd ps sp) (hr : Room (k + 1) X.A) (hb : Binds X.K fd ps ds) (hd : Vals dvs ds)
    (hx : Passes CX X (fun _ _ _ => False)) (hg : Gl X x) (hm : X.mg x = some (.ref C)) (ha : PA X (e :: es) ta)
    (hdb : (x == ("__debug__" : Str)) = false := by decide)
    (he : starEach (e :: es) X.env = (false, eval e X.env) :: starEach es X.env := by rfl)
    (hpl : (backTo pos (starEach es X.env)).any (·.1) = false := by rfl) :
    PE X (.Call (.Name x p) (e :: es) [] pos) (tErr sp dvs C ta) := by
  refine ⟨fun pins s σ H Q I h => ?_⟩
  obtain ⟨nm, q, N, bs, bm, sn, sub, ab, col, dd, k0, k1, k2, k3, k5, hC, hbm⟩ := T.cls
  refine wpAny_Call_Name_kw (ld_glob I hg hm ?_ hdb)
  refine PySem.W.callWith_K (h₀ := X.base) I.ok.mod.kin T.kC (thn (ha.run pos pins s σ H _ I h) fun us s1 ha1 => ?_) he hpl
  obtain ⟨vs, H1, I1, r1, hz, q1⟩ := ha1
  refine ⟨I1.kIn, ?_⟩
  show wpAny _ _ (call (.ref C) us) _ _ _
  obtain ⟨hp, g, dr, tk, os⟩ := s1
  generalize hA : hp.objs.size + 1 = aa at *
  have hle : hp.objs.size ≤ aa := by omega
  have hnew : H1 aa = none := I1.hok.fresh hle
  have want := q1 aa hnew
  have keepAll : ∀ b o, hp.get? b = some o →
      ((hp.push (PySem.W.kdv_tup us)).push (PySem.HandSPX.excO C hp.objs.size)).get? b = some o :=
    fun b o e => Heap.get?_push_of_some _ (Heap.get?_push_of_some _ e)
  have at2 : ((hp.push (PySem.W.kdv_tup us)).push (PySem.HandSPX.excO C hp.objs.size)).get? aa =
      some (PySem.HandSPX.excO C hp.objs.size) := by
    subst hA
    heap_get
  have I2 : Inv X pins σ (upd H1 aa (exo aa C none))
      ⟨(hp.push (PySem.W.kdv_tup us)).push (PySem.HandSPX.excO C hp.objs.size), g, dr, tk, os⟩ :=
    I1.laid (t' := tk) (o := exo aa C none) keepAll hle (exo_ok at2)
  have r2 : Vals (V.ref aa :: (vs ++ dvs)) (Value.ref aa :: (us ++ ds)) := .cons rfl (r1.append hd)
  have hl : (Value.ref aa :: us ++ ds).length = ps.length := by
    have e0 := r2.length
    rw [F1.len _ _ _ _ want] at e0
    exact e0.symm
  have hus : us.length ≤ sizeLine := by
    rw [← Paired.length r1, sizeLine_eq]
    omega
  subst hA
  refine wpAny_call (PySem.HandSPX.call_own F.excBase_ValueError
    (fun Y => PySem.HandSPX.refsVE_contains Y bm hbm) (I1.kIn _ _ hC) (PySem.W.looks_findIn I1.kIn iC)
    (fun self => PySem.W.bind_fn I1.kIn self tI) hus ?_)
  refine codeAny_mono (F1.run _ X.stack _ _ ⟨_ :: us, []⟩ (_ :: (us ++ ds)) _ _ (fun _ _ _ => False)
    (hr.make C us []) (I2.env0.make C us []) (hb _ (_ :: us) I2.kIn hl) r2 want) fun r s' hq' => ?_
  cases r with
  | error er => exact hx pins σ _ _ er s' I2 hq'
  | ok fl =>
    cases fl with
    | ret u =>
      obtain ⟨v, H2, I3, rv, ev, q2⟩ := I2.after hq'
      subst ev
      exact ⟨rv, .ref _, H2, I3, rfl, q2⟩
    | next => exact hq'.elim
    | brk => exact hq'.elim
    | cont => exact hq'.elim
end
end VK
set_option Elab.async false
set_option linter.all false
set_option maxRecDepth 100000
set_option maxHeartbeats 4000000
namespace VK
open PySem PySem.Spec PyProof.Rows L2

/-! ### repr of a list of data; a dict of scalars may stand among its items -/
def keyD : Key → PyData
  | .inl i => .int i
  | .inr x => .str x
/-- scalars as data -/
inductive ScD : V → PyData → Prop where
  | non : ScD .non .none
  | bl (b : Bool) : ScD (.bl b) (.bool b)
  | int (i : Int) : ScD (.int i) (.int i)
  | str (x : Str) : ScD (.str x) (.str x)
inductive ShwV (K : PySem.W.Frag) (H : Hp) : V → PyData → Prop where
  | data {x : V} {d : PyData} (h : Dp K H x d) (n : d.hasDict = false) : ShwV K H x d
  | dct {p : Addr} {kvs : List (Key × V)} {des : List (PyData × PyData)} (e : H p = some (.dK kvs))
      (r : Paired (fun kv de => de.1 = keyD kv.1 ∧ ScD kv.2 de.2) kvs des) : ShwV K H (.ref p) (.dict des)
inductive ShwAll (K : PySem.W.Frag) (H : Hp) : List V → List PyData → Prop where
  | nil : ShwAll K H [] []
  | cons {x : V} {d : PyData} {xs : List V} {ds : List PyData} : ShwV K H x d → ShwAll K H xs ds → ShwAll K H (x :: xs) (d :: ds)
theorem ScD.reads {x : V} {d : PyData} {u : Value} {h : Heap} (k : ScD x d) (r : RelV x u) : Reads h u d [] := by
  cases k with
  | non => cases r; exact .none
  | bl b => cases r; exact .bool b
  | int i => obtain ⟨t, rfl⟩ := r; exact .int i t
  | str x => obtain ⟨t, rfl⟩ := r; exact .str x t
section
variable {X : Cx} {pins : List (Addr × Obj)} {σ : L2.St} {H : Hp} {s : Shared}
theorem dict_reads {h : Heap} : ∀ (kvs : List (Key × V)) (des : List (PyData × PyData)) (vs : List (Key × Value)) (es : List DictEntry),
    Paired (fun kv de => de.1 = keyD kv.1 ∧ ScD kv.2 de.2) kvs des → KV kvs vs → Pairs (mixKind X.prog X.w) es vs →
    ReadsAll h (es.map (·.key)) (des.map (·.1)) [] ∧ ReadsAll h (es.map (·.val)) (des.map (·.2)) []
  | [], des, vs, es, ra, rb, rc => by
    cases ra
    cases rb
    cases rc
    exact ⟨.nil, .nil⟩
  | kv :: kvs, des, vs, es, ra, rb, rc => by
    cases ra with
    | @cons _ de _ des a ra =>
      cases rb with
      | @cons _ kv2 _ vs b rb =>
        cases rc with
        | @cons e _ es _ c1 c2 rc =>
          obtain ⟨a1, a2⟩ := a
          obtain ⟨b1, b2⟩ := b
          obtain ⟨i1, i2⟩ := dict_reads kvs des vs es ra rb rc
          have c3 : keyIs kv2.1 e.key = true := c1
          have k1 : Reads h e.key de.1 [] := by
            rw [a1, b1]
            rcases keyIs_shape c3 with ⟨i, t, e1, e2⟩ | ⟨x, t, e1, e2⟩
            · rw [e2, e1]; exact .int i t
            · rw [e2, e1]; exact .str x t
          have k2 : Reads h e.val de.2 [] := by
            rw [c2]
            exact a2.reads b2
          exact ⟨ReadsAll.cons (as := []) (bs := []) k1 i1, ReadsAll.cons (as := []) (bs := []) k2 i2⟩
theorem ShwV.reads (I : Inv X pins σ H s) {x : V} {d : PyData} {u : Value} (k : ShwV X.K H x d) (r : RelV x u) :
    ∃ as, Reads s.heap u d as ∧ (d.hasDict = true → sysModules ∉ as) := by
  cases k with
  | data h n =>
    obtain ⟨as, q⟩ := Dp.reads I _ _ _ h r
    exact ⟨as, q, fun z => by rw [n] at z; cases z⟩
  | @dct p kvs des e rr =>
    cases r
    have ob : ObjOk X.prog X.w H s.heap p (.dK kvs) := I.hok p _ e
    obtain ⟨_, hs, vs, kv, o, es, ep, ho, ex, hd, _, pr, _⟩ := ob
    obtain ⟨i1, i2⟩ := dict_reads (X := X) (h := s.heap) _ _ _ _ rr kv pr
    refine ⟨[p], Reads.dict (as := []) (bs := []) ho ex.1 hd i1 i2, fun _ hm => ?_⟩
    have e2 : sysModules = p := by simpa using hm
    rw [e2] at hs
    simp at hs
theorem shw_all (I : Inv X pins σ H s) : ∀ {xs : List V} {ds : List PyData} {us : List Value}, ShwAll X.K H xs ds → Vals xs us →
    PyData.showableAll ds = true → (∀ t ∈ PyData.shownAll ds, t.length ≤ sizeLine) →
    (∃ as, ReadsAll s.heap us ds as) ∧ ∃ bs, ReadAtMost s.heap (PyData.depthAll ds) bs ∧
      ReprAllK X.prog X.w bs s.heap (PyData.depthAll ds) us (PyData.shownAll ds)
  | _, _, _, .nil, .nil, _, _ => ⟨⟨_, .nil⟩, [], (fun _ h => by cases h), by simp only [PyData.shownAll]; exact .nil⟩
  | _, _, _, .cons (d := d) (ds := ds) k ks, .cons r rs, hs, hz => by
    have hs2 : d.showable = true ∧ PyData.showableAll ds = true := by simpa [PyData.showableAll] using hs
    obtain ⟨as, q1, q2⟩ := k.reads I r
    have hz1 : d.shown.length ≤ sizeLine := hz _ (by simp only [PyData.shownAll]; exact List.mem_cons_self ..)
    obtain ⟨b1, m1, k1⟩ := ReprK.of_reads (prog := X.prog) (w := X.w) q1 hs2.1 q2 hz1
    obtain ⟨⟨as2, q3⟩, b2, m2, k2⟩ := shw_all I ks rs hs2.2 fun t ht => hz t (by simp only [PyData.shownAll]; exact List.mem_cons_of_mem _ ht)
    refine ⟨⟨_, .cons q1 q3⟩, b1 ++ b2, ?_, ?_⟩
    · have a1 : d.depth ≤ PyData.depthAll (d :: ds) := by simp only [PyData.depthAll]; exact Nat.le_max_left ..
      have a2 : PyData.depthAll ds ≤ PyData.depthAll (d :: ds) := by simp only [PyData.depthAll]; exact Nat.le_max_right ..
      exact (m1.mono a1).append (m2.mono a2)
    · simp only [PyData.depthAll, PyData.shownAll]
      refine .cons ((k1.more fun b hb => List.mem_append_left _ hb).level_le (Nat.le_max_left ..)) ?_
      exact k2.more_le (fun b hb => List.mem_append_right _ hb) (Nat.le_max_right ..)
end
def rShow (K : PySem.W.Frag) : List V → Hp → VK → Prop := fun vs H Q => ∃ (p : Addr) (xs : List V) (ds : List PyData),
  vs = [.ref p] ∧ SqL K H p xs ∧ ShwAll K H xs ds ∧ PyData.showableAll ds = true ∧ (listText (PyData.shownAll ds)).length ≤ sizeLine ∧
    PyData.depthAll ds ≤ 40 ∧ Q (.str (listText (PyData.shownAll ds))) H
theorem call_show {X : Cx} (hg : X.A.guards = some []) (hu : X.A.units + 64 < cLine) : CallR X (.builtin "repr") (rShow X.K) := by
  intro pins s σ H vs us Q I r h
  obtain ⟨p, xs, ds, rfl, hS, hA, sh, hz, hd, q⟩ := h
  obtain ⟨u, rfl, ru⟩ := vals1 r
  cases ru
  obtain ⟨its, rv, ⟨o, n, ho, hc, _, hdat⟩, _⟩ := I.list hS
  obtain ⟨⟨as, ra⟩, bs, mb, hk⟩ := shw_all I hA rv sh fun t ht => Nat.le_trans (listText_mem_le ht) hz
  have hna : p ∉ bs := not_mem_of_deeper (Reads.list ho hc hdat ra) (by simp only [PyData.depth]; omega) mb
  have fin : ∀ (h' : Heap) (u : Tok) (tk : Nat), (∀ b o, s.heap.get? b = some o → h'.get? b = some o) →
      EP X pins σ Q (.str (listText (PyData.shownAll ds)) u) { s with heap := h', toks := tk } :=
    fun h' u tk k => ⟨.str _, H, I.kept k, ⟨u, rfl⟩, q⟩
  refine call_repr_slot (by omega) ⟨o, ho, hc⟩ F.slot_list_repr.toG ?_
  have hg2 : X.A.in1.guards = some [] := hg
  cases rv with
  | nil =>
    cases hA
    simp only [PyData.shownAll, listText_nil] at fin
    exact call_list_repr_empty ⟨o, ho, hc⟩ ho hdat ⟨_, _, rfl, fin s.heap _ _ fun _ _ e => e⟩
  | cons r1 r2 =>
    refine call_list_reprK ho hc hdat hna (by simpa using hk.length_eq) (fun i y e => hk.item i y (by simpa using e)) hg2 (fun b _ => Clear.nil b) ?_ (fun _ _ e => e) (fun h' u tk k => ⟨_, _, rfl, fin h' u tk k⟩) hz
    show X.A.units + 1 + _ < cLine
    omega
end VK
set_option Elab.async false
set_option linter.all false
set_option maxRecDepth 100000
set_option maxHeartbeats 4000000
namespace VK
open PySem PySem.Spec PyProof.Rows L2

/-! ### a held exception's field; isinstance of it -/
/-- at a an exception of the class at C with the fields fs -/
def ErrAt (H : Hp) (a C : Addr) (fs : List (Str × V)) : Prop := ∃ d, H a = some (exo a C (some d)) ∧ H d = some (exd d fs)
theorem ErrAt.same {H H' : Hp} {a C : Addr} {fs : List (Str × V)} (k : ErrAt H a C fs) (s : Same H H') : ErrAt H' a C fs := by
  obtain ⟨d, e1, e2⟩ := k
  exact ⟨d, s _ _ e1, s _ _ e2⟩
theorem ErrAt.inst {X : Cx} {pins : List (Addr × Obj)} {σ : L2.St} {H : Hp} {s : Shared} {a C : Addr} {fs : List (Str × V)}
    (I : Inv X pins σ H s) (k : ErrAt H a C fs) : ∃ (oe od : Obj) (mA : Str → Option Value),
      PySem.W.InstAt s.heap a oe C (some od) ∧ (∀ n, PySem.W.lookIn n od = some (mA n)) ∧ ∀ f, RelO (fs.lookup f) (mA f) := by
  obtain ⟨d, e1, e2⟩ := k
  obtain ⟨t1, ho⟩ := exo_at I.hok e1
  obtain ⟨mA, hns, hr⟩ := exd_at I.hok e2
  obtain ⟨od, hd, hl⟩ := lookIn_ns hns
  exact ⟨_, od, mA, ⟨ho, rfl, rfl, hd⟩, hl, hr⟩
def tErrF (K : PySem.W.Frag) (f : Str) (te : TE) : TE := fun σ H Q => te σ H fun x H1 => ∃ (a C : Addr) (fs : List (Str × V)) (v : V),
  x = .ref a ∧ XfC K C ∧ PySem.W.findIn K (.ref C) f = some none ∧ ErrAt H1 a C fs ∧ fs.lookup f = some v ∧ Q v H1
theorem pe_errF {X : Cx} {e : Expr} {te : TE} {pos : Pos} {f : Str} (he : PE X e te)
    (hb : attributeBase e f X.env (eval e X.env) = eval e X.env := by rfl) : PE X (.Attribute e f pos) (tErrF X.K f te) := by
  refine ⟨fun pins s σ H Q I h => ?_⟩
  refine attr_of hb (thn (he.run pins s σ H _ I h) fun u s1 hh => ?_)
  obtain ⟨x, H1, I1, rx, a, C, fs, v, ex, T, hno, k, l, q⟩ := hh
  subst ex
  obtain rfl : u = Value.ref a := rx
  obtain ⟨oe, od, mA, J, hl, hr⟩ := k.inst I1
  obtain ⟨u, hu, ru⟩ := RelO.some_of (v := v) (o := mA f) (by rw [← l]; exact hr f)
  refine HandSPX.exc_get I1.kIn J T.ga T.gg T.exC ?_ (handed_of ru) ⟨v, H1, I1.tok _, ru, q⟩
  exact PySem.W.findObj_own T.hdC hno rfl (by rw [hl, hu])

/-- what the class must say for isinstance -/
structure ErrI (K : PySem.W.Frag) (C : Addr) : Prop where
  xf : XfC K C
  cl : PySem.W.findIn K (.ref C) "__class__" = some (some (.builtin "object.__class__"))
  sp : PySem.W.specialIn K (.builtin "object.__class__") "__get__" = some (some (.builtin "getset_descriptor.__get__"))
  tk : PySem.W.takesIn K (.builtin "object.__class__") = some true
  ob : PySem.W.mroIn K C (.type "object") = some true
  is : (PySem.W.clsIn K C).isSome = true
def rErrIs (K : PySem.W.Frag) : List V → Hp → VK → Prop := fun vs H Q => ∃ (a C : Addr) (fs : List (Str × V)) (c : V) (cv : Value) (b : Bool),
  vs = [.ref a, c] ∧ ErrI K C ∧ ErrAt H a C fs ∧ ClsV c cv ∧ PySem.W.kitOne K (.ref C) cv = some b ∧ Q (.bl b) H
theorem call_errIs {X : Cx} : CallR X (.builtin "isinstance") (rErrIs X.K) := by
  intro pins s σ H vs us Q I r h
  obtain ⟨a, C, fs, c, cv, b, rfl, T, k, hc, e, q⟩ := h
  obtain ⟨u1, u2, rfl, r1, r2⟩ := vals2 r
  cases r1
  have e2 := hc.eq r2
  subst e2
  obtain ⟨oe, od, mA, J, _, _⟩ := k.inst I
  refine PySem.W.kia_one (PySem.W.kitx_exc (od := some od) T.is T.xf.ga T.xf.gg T.xf.exC T.cl T.sp T.tk T.ob) I.kIn J e (fun z => nomatch z) fun tk => ?_
  exact ⟨.bl b, H, I.tok tk, rfl, q⟩
/-- either rule for a call of a built-in -/
theorem CallR.or {X : Cx} {f : Value} {r r' : List V → Hp → VK → Prop} (h : CallR X f r) (h' : CallR X f r') :
    CallR X f (fun vs H Q => r vs H Q ∨ r' vs H Q) := fun pins s σ H xs us Q I rv q => q.elim (h pins s σ H xs us Q I rv) (h' pins s σ H xs us Q I rv)
end VK
set_option Elab.async false
set_option linter.all false
set_option maxRecDepth 100000
set_option maxHeartbeats 4000000
/-! an own exception made by a call with one keyword -/
namespace VKX
open PySem PySem.HandSPX PySem.Builtin PySem.Builtin.ObjectAttr
section
variable {prog : Program} {w : World} {A : Around} {E : Value → Shared → Prop} {R : Result → Shared → Prop} {h : Heap} {g : Array GenState} {d : Drawn} {t : Nat} {os : OsState}
variable {nm q f : Str} {v : Value} {C N : Addr} {bs bm bmB : List Value} {hdct : Bool} {sn : List Str} {sub : List Value} {ab : Bool} {col : Option Bool} {dd : Option Addr} {k0 k1 k2 k3 k5 : Option Value} {B newId initId : String}
theorem kw_check (F : ExcBaseFacts B newId initId bmB) (hT : ∀ X : String, bm.contains (.type X) = bmB.contains (.type X)) {Q : Unit → Shared → Prop}
    (hC : h.get? C = some (excClassObj nm q C N bs bm hdct sn sub ab col dd k0 k1 k2 k3 k5 newId)) (hq : Q () ⟨h, g, d, t, os⟩) :
    wpAny (model prog w) A (checkBuiltinCall newId ⟨[.ref C], [(f, v)]⟩) Q E ⟨h, g, d, t, os⟩ := by
  have inB : (Value.ref C :: bm).contains (.type B) = true := by
    rw [List.contains_cons, hT, F.hasB]
    exact Bool.or_true _
  have star := F.noStar
  simp only [checkBuiltinCall, F.newKind, F.newSplit, F.newRow]
  repeat (first
    | refine wpAny_loadPart_at hC ?_
    | (refine wpAny_isSubtype_exc hC ?_; rw [inB])
    | refine wpAny_staticBase_exc hC ?_
    | refine wpAny_madeBy_exc hC ?_
    | simp only [bne_self_eq_false, Bool.false_eq_true, if_false]
    | wp_step)
  exact hq
theorem kw_new (F : ExcBaseFacts B newId initId bmB) (hT : ∀ X : String, bm.contains (.type X) = bmB.contains (.type X))
    (hC : h.get? C = some (excClassObj nm q C N bs bm hdct sn sub ab col dd k0 k1 k2 k3 k5 newId))
    (hq : R (.ok (.ret (.ref (h.objs.size + 1)))) ⟨(h.push (W.kdv_tup [])).push (excO C h.objs.size), g, d, t, os⟩) :
    codeAny (model prog w) A (.builtin newId ⟨[.ref C], [(f, v)]⟩) R ⟨h, g, d, t, os⟩ := by
  have ends := F.ends
  have inB : (Value.ref C :: bm).contains (.type B) = true := by
    rw [List.contains_cons, hT, F.hasB]
    exact Bool.or_true _
  have noA : (Value.ref C :: bm).contains (.type "AttributeError") = false := by
    rw [List.contains_cons, hT, F.noAttr]
    exact rfl
  have noN : (Value.ref C :: bm).contains (.type "NameError") = false := by
    rw [List.contains_cons, hT, F.noName]
    exact rfl
  refine codeAny_builtinAt F.entry ?_
  unfold Builtin.«BaseException.__new__»
  refine wpAt_bind ?_
  show wpAt _ _ _ (stack >>= _) _ _ _
  refine wpAt_bind (wpAt_stack fun p below => wpAt_of_wpAny ?_)
  wp_walk
  refine wpAt_of_wpAny ?_
  rw [F.owner]
  repeat (first
    | with_reducible refine wpAny_madeHere_exc F.canon hC ?_
    | with_reducible refine wpAny_loadPart_at hC ?_
    | (with_reducible refine wpAny_isSubtype_exc hC ?_; first | rw [inB] | rw [noA] | rw [noN])
    | wp_step)
  show R _ _
  rw [Heap.size_push]
  exact hq
theorem kw_call {fI : Addr} (F : ExcBaseFacts B newId initId bmB) (hT : ∀ X : String, bm.contains (.type X) = bmB.contains (.type X))
    (hC : h.get? C = some (excClassObj nm q C N bs bm hdct sn sub ab col dd k0 k1 k2 k3 k5 newId))
    (hi : W.Looks (model prog w) h (typeLookup (.ref C) "__init__") (some (.ref fI)))
    (hb : ∀ self, W.Looks (model prog w) h (bindSpecial (.ref fI) self) (.ref fI, [self]))
    (hq : codeAny (model prog w) (A.under (.builtin "type.__call__" ⟨[.ref C], [(f, v)]⟩))
      (.call (.ref fI) ⟨[.ref (h.objs.size + 1)], [(f, v)]⟩) (W.InitBack (h.objs.size + 1) R)
      ⟨(h.push (W.kdv_tup [])).push (excO C h.objs.size), g, d, t, os⟩) :
    codeAny (model prog w) A (.call (.ref C) ⟨[], [(f, v)]⟩) R ⟨h, g, d, t, os⟩ := by
  have f1 := tc_lookup
  have f2 := tc_bind (.ref C)
  have hTy : (⟨h, g, d, t, os⟩ : Shared).TypeIs (.ref C) "type" := ⟨_, hC, rfl⟩
  refine codeAny_of_tree ?_
  show wpAny _ _ (callAny (.ref C) _) _ _ _
  repeat (any_goals (first
    | assumption
    | with_reducible refine wpAny_loadPart_at hC ?_
    | wp_step))
  refine ⟨rfl, ?_⟩
  refine codeAny_call_builtin_at (Code.quiet_builtin _ (by decide +kernel)) entry_typeCall ?_
  refine wpAny_check_type_call_sub hC ?_
  repeat (first
    | with_reducible refine wpAny_loadPart_at hC ?_
    | with_reducible refine wpAny_madeBy_exc hC ?_
    | wp_step)
  refine codeAny_call_builtin_code (Code.quiet_builtin _ F.quiet) (kw_check F hT hC ?_)
  refine kw_new F hT hC ?_
  show wpAny _ _ _ _ _ _
  have k : ∀ b o, h.get? b = some o → ((h.push (W.kdv_tup [])).push (excO C h.objs.size)).get? b = some o :=
    fun b o e => Heap.get?_push_of_some _ (Heap.get?_push_of_some _ e)
  have hC2 := k _ _ hC
  have at2 : ((h.push (W.kdv_tup [])).push (excO C h.objs.size)).get? (h.objs.size + 1) = some (excO C h.objs.size) := by
    heap_get
  have inC : (Value.ref C :: bm).contains (.ref C) = true := by simp
  have i1 := hi.keeps k
  have b1 := (hb (.ref (h.objs.size + 1))).keeps k
  unfold isInstance
  repeat (first
    | with_reducible refine wpAny_loadPart_at at2 ?_
    | (with_reducible refine wpAny_isSubtype_exc hC2 ?_; rw [inC])
    | wp_step)
  show wpAny _ _ (typeLookup (.ref C) _) _ _ _
  refine i1.at ?_
  refine wpAny_holding (wpAny_bind (b1.at ?_))
  refine wpAny_bind (wpAny_call (codeAny_mono hq fun r s' z => ?_))
  rcases r with e | (_ | _ | _ | _)
  all_goals (first | exact z | exact z.elim | skip)
  obtain ⟨rfl, z⟩ := z
  first
    | exact wpAny_pure (wpAny_pure z)
    | (wp_walk; done)
    | (wp_walk; exact z)
end
end VKX
set_option Elab.async false
set_option linter.all false
set_option maxRecDepth 100000
set_option maxHeartbeats 4000000
namespace VK
open PySem PySem.Spec PyProof.Rows L2
section
variable {X : Cx} {e : Expr} {te : TE} {p pos kpos : Pos}
def tErrK (sp : Sp) (C : Addr) (te : TE) : TE := fun σ H Q => tCons te tNil σ H fun vs H1 => ∃ y, vs = [y] ∧
  ∀ a, H1 a = none → sp [.ref a, y] (upd H1 a (exo a C none)) (fun v H2 => v = .non ∧ Q (.ref a) H2) fun _ _ _ => False
/-- C(f = e) -/
theorem pe_errK {CX : CXT} {x f self : Str} {C fI : Addr} {k : Nat} {fd : FuncData} {sp : Sp}
    (T : OexC X.K C) (iC : PySem.W.findIn X.K (.ref C) "__init__" = some (some (.ref fI)))
    (tI : PySem.W.typeIn X.K (.ref fI) = some (.type "function"))
    (F1 : FnOk X.prog X.w X.K X.mg X.base CX k fI fd [self, f] sp) (hr : Room (k + 1) X.A)
    (hb : ∀ (s : Shared) (u v : Value), BindsTo s fd ⟨[u], [(f, v)]⟩ [(self, u), (f, v)])
    (hx : Passes CX X (fun _ _ _ => False)) (hg : Gl X x) (hm : X.mg x = some (.ref C)) (he : PE X e te)
    (hdb : (x == ("__debug__" : Str)) = false := by decide)
    (hall : (backToKw pos (keywordEach [⟨some f, e, kpos⟩] X.env)).all (·.1.isSome) = true := by rfl)
    (hks : (backToKw pos (keywordEach [⟨some f, e, kpos⟩] X.env)).filterMap (·.1) = [f] := by rfl)
    (hpl : ((backTo pos (starEach [] X.env)).any (·.1) || (backToKw pos (keywordEach [⟨some f, e, kpos⟩] X.env)).any (·.1.isNone)) = false := by rfl) :
    PE X (.Call (.Name x p) [] [⟨some f, e, kpos⟩] pos) (tErrK sp C te) := by
  refine ⟨fun pins s σ H Q I h => ?_⟩
  obtain ⟨nm, q, N, bs, bm, sn, sub, ab, col, dd, k0, k1, k2, k3, k5, hC, hbm⟩ := T.cls
  refine wpAny_Call_Name_kw (ld_glob I hg hm ?_ hdb)
  refine PySem.W.callWith_KW0 (h₀ := X.base) I.ok.mod.kin T.kC hall ?_ hpl
  rw [hks]
  refine thn ((pk_cons he pk_nil).run pos pins s σ H _ I h) fun us s1 ha1 => ?_
  obtain ⟨vs, H1, I1, r1, y, ey, q1⟩ := ha1
  subst ey
  obtain ⟨u, rfl, ru⟩ := vals1 r1
  refine ⟨I1.kIn, ?_⟩
  show wpAny _ _ (call (.ref C) [] [(f, u)]) _ _ _
  obtain ⟨hp, g, dr, tk, os⟩ := s1
  generalize hA : hp.objs.size + 1 = aa at *
  have hle : hp.objs.size ≤ aa := by omega
  have hnew : H1 aa = none := I1.hok.fresh hle
  have want := q1 aa hnew
  have keepAll : ∀ b o, hp.get? b = some o →
      ((hp.push (PySem.W.kdv_tup [])).push (PySem.HandSPX.excO C hp.objs.size)).get? b = some o :=
    fun b o e => Heap.get?_push_of_some _ (Heap.get?_push_of_some _ e)
  have at2 : ((hp.push (PySem.W.kdv_tup [])).push (PySem.HandSPX.excO C hp.objs.size)).get? aa =
      some (PySem.HandSPX.excO C hp.objs.size) := by
    subst hA
    heap_get
  have I2 : Inv X pins σ (upd H1 aa (exo aa C none))
      ⟨(hp.push (PySem.W.kdv_tup [])).push (PySem.HandSPX.excO C hp.objs.size), g, dr, tk, os⟩ :=
    I1.laid (t' := tk) (o := exo aa C none) keepAll hle (exo_ok at2)
  have r2 : Vals [V.ref aa, y] [Value.ref aa, u] := .cons rfl (.cons ru .nil)
  subst hA
  refine wpAny_call (VKX.kw_call F.excBase_ValueError
    (fun Y => PySem.HandSPX.refsVE_contains Y bm hbm) (I1.kIn _ _ hC) (PySem.W.looks_findIn I1.kIn iC)
    (fun self => PySem.W.bind_fn I1.kIn self tI) ?_)
  refine codeAny_mono (F1.run _ X.stack _ _ ⟨[_], [(f, u)]⟩ [_, u] _ _ (fun _ _ _ => False)
    (hr.make C [] [(f, u)]) (I2.env0.make C [] [(f, u)]) (hb _ _ u) r2 want) fun r s' hq' => ?_
  cases r with
  | error er => exact hx pins σ _ _ er s' I2 hq'
  | ok fl =>
    cases fl with
    | ret u =>
      obtain ⟨v, H2, I3, rv, ev, q2⟩ := I2.after hq'
      subst ev
      exact ⟨rv, .ref _, H2, I3, rfl, q2⟩
    | next => exact hq'.elim
    | brk => exact hq'.elim
    | cont => exact hq'.elim
end
end VK
set_option Elab.async false
set_option linter.all false
set_option maxRecDepth 100000
set_option maxHeartbeats 4000000
namespace K81
open PySem L2 VK
abbrev Fg := PySem.W.Frag
def top (i : Nat) : Stmt := PySem.Challenge.pw_pulledonce_k81_texts_refused.main.body.getD i (.Pass ⟨0, 0, 0, 0⟩)
abbrev sIsInt : Stmt := top 15
abbrev sIsName : Stmt := top 16
abbrev sIsNum : Stmt := top 17
abbrev sIsStage : Stmt := top 18
theorem same_new {H : Hp} {p : Addr} {o : HO} (h : H p = none) : Same H (upd H p o) := fun b u e => by
  rw [upd_ne (ne_of_none e h)]
  exact e
/-- the built-ins by name -/
structure Nm (mg : Str → Option Value) : Prop where
  len : mg "len" = none
  int : mg "int" = none
  bool : mg "bool" = none
  str : mg "str" = none
  tup : mg "tuple" = none
  lst : mg "list" = none
  all : mg "all" = none
  any : mg "any" = none
  max : mg "max" = none
  min : mg "min" = none
  set : mg "set" = none
  range : mg "range" = none
  isi : mg "isinstance" = none
  enm : mg "enumerate" = none
  repr : mg "repr" = none
theorem boot_all' : bootBuiltins "all" = some (.builtin "all") := by decide +kernel
theorem boot_bool' : bootBuiltins "bool" = some (.type "bool") := by decide +kernel
theorem boot_str' : bootBuiltins "str" = some (.type "str") := by decide +kernel
theorem boot_tup' : bootBuiltins "tuple" = some (.type "tuple") := by decide +kernel
/-- the constants of the module -/
structure Cst (K : Fg) (mg : Str → Option Value) (aS a1 a2 : Addr) : Prop where
  most : ∃ t, mg "MOST_STAGES" = some (.int 6 t)
  lett : ∃ t, mg "MOST_LETTERS" = some (.int 8 t)
  great : ∃ t, mg "GREATEST_NUMBER" = some (.int 4 t)
  gS : mg "SOURCES" = some (.ref aS)
  g1 : mg "STAGES_WITH_NAME" = some (.ref a1)
  g2 : mg "STAGES_WITH_NUMBER" = some (.ref a2)
  hS : ∀ H : Hp, SqT K H aS [.str "a", .str "b", .str "c", .str "d"]
  h1 : ∀ H : Hp, SqT K H a1 [.str "map", .str "keep", .str "while", .str "after"]
  h2 : ∀ H : Hp, SqT K H a2 [.str "take", .str "skip", .str "lots", .str "gather"]
/-! ### is_integer, is_name, is_stage_number -/
def spIsInt (K : Fg) : Sp := fun vs H Q _ => ∃ (v : V) (t : String) (b c : Bool), vs = [v] ∧ TyX K H v (.type t) ∧ kitB t "int" = some b ∧ kitB t "bool" = some c ∧ Q (.bl (b && !c)) H
def okSign (c : Nat) : Bool := decide (97 ≤ c) && decide (c ≤ 122)
def isNm (z : Str) : Bool := decide (1 ≤ z.length) && (decide (z.length ≤ 8) && z.cps.toList.all okSign)
def spIsName (K : Fg) : Sp := fun vs H Q _ => ∃ v : V, vs = [v] ∧
  ((∃ z : Str, v = .str z ∧ z.length ≤ 1000 ∧ ∀ H', Same H H' → Q (.bl (isNm z)) H') ∨ ∃ t : String, TyX K H v (.type t) ∧ kitB t "str" = some false ∧ Q (.bl false) H)
def okNum (i : Int) : Bool := decide (1 ≤ i) && decide (i ≤ 4)
def spIsNum (K : Fg) : Sp := fun vs H Q _ => ∃ v : V, vs = [v] ∧
  ((∃ i : Int, v = .int i ∧ Q (.bl (okNum i)) H) ∨ ∃ (t : String) (b c : Bool), TyX K H v (.type t) ∧ kitB t "int" = some b ∧ kitB t "bool" = some c ∧ (b && !c) = false ∧ Q (.bl false) H)
theorem scInt : FnScope ["value"] ["value"] (defScope sIsInt) := ⟨rfl, rfl, rfl, by decide +kernel, rfl, by decide +kernel, by decide +kernel⟩
theorem scName : FnScope ["value", "letter"] ["value"] (defScope sIsName) := ⟨rfl, rfl, rfl, by decide +kernel, rfl, by decide +kernel, by decide +kernel⟩
theorem scNum : FnScope ["value"] ["value"] (defScope sIsNum) := ⟨rfl, rfl, rfl, by decide +kernel, rfl, by decide +kernel, by decide +kernel⟩
theorem sign_le (a c : Nat) : (!decide ([c] < [a])) = decide (a ≤ c) := by
  have : ([c] < [a]) ↔ c < a := by
    constructor
    · intro h
      cases h with
      | rel h => exact h
      | cons h => cases h
    · intro h
      exact List.Lex.rel h
  by_cases h : a ≤ c
  · rw [decide_eq_true h, decide_eq_false]
    · rfl
    · rw [this]; omega
  · rw [decide_eq_false h, decide_eq_true]
    · rfl
    · rw [this]; omega
section
variable {P : Program} {w : World} {K : Fg} {mg : Str → Option Value} {base : Heap} {aS a1 a2 : Addr}
theorem ok_isInt {f : Addr} {fd : FuncData} (F : Fun K "is_integer" "is_integer" sIsInt f fd) (N : Nm mg) : FnOk P w K mg base CX0 1 f fd ["value"] (spIsInt K) := by
  refine F.ok scInt (fun vs H Q E h => ?_) (fun cdv A outer s H vs Q E hr h => ?_)
  · obtain ⟨v, t, b, c, rfl, _⟩ := h
    rfl
  · obtain ⟨v, t, b, c, rfl, ty, kb, kc, k⟩ := h
    refine ⟨_, pss_one (ps_ret (pe_and (pe_callB call_isi (by rfl) N.isi PyProof.Rows.boot_isinstance (pa_cons (pv 0) (pa_cons (pe_bltn (v := .ty "int") (by rfl) N.int PyProof.Rows.boot_int rfl) pa_nil)))
      (pe_one (pe_not (pe_callB call_isi (by rfl) N.isi PyProof.Rows.boot_isinstance (pa_cons (pv 0) (pa_cons (pe_bltn (v := .ty "bool") (by rfl) N.bool boot_bool' rfl) pa_nil))))))), ?_⟩
    refine ⟨_, rfl, v, .ty "int", .type t, .type "int", b, rfl, .ty _, ty, kit_ty kb, _, rfl, ?_⟩
    cases b with
    | false => exact iteF (A := True) k
    | true => exact iteT (B := True) ⟨_, rfl, v, .ty "bool", .type t, .type "bool", c, rfl, .ty _, ty, kit_ty kc, _, rfl, k⟩
theorem ok_isNum {f fI : Addr} {fd dI : FuncData} (F : Fun K "is_stage_number" "is_stage_number" sIsNum f fd) (N : Nm mg) (Z : Cst K mg aS a1 a2) (gI : mg "is_integer" = some (.ref fI)) (FI : Fun K "is_integer" "is_integer" sIsInt fI dI) (bI : Binds K dI ["value"] []) :
    FnOk P w K mg base CX0 2 f fd ["value"] (spIsNum K) := by
  have GI : FnOk P w K mg base CX0 1 fI dI ["value"] (spIsInt K) := ok_isInt FI N
  refine F.ok scNum (fun vs H Q E h => ?_) (fun cdv A outer s H vs Q E hr h => ?_)
  · obtain ⟨v, rfl, _⟩ := h
    rfl
  · obtain ⟨v, rfl, k⟩ := h
    obtain ⟨tg, hg⟩ := Z.great
    refine ⟨_, pss_one (ps_ret (pe_and (pe_call GI hr rfl gI FI.kp bI .nil pass0 (pa_cons (pv 0) pa_nil)) (pe_one (pe_chain op_le op_le pe_int (pv 0) (pe_glob (v := .int 4) rfl hg ⟨_, rfl⟩))))), ?_⟩
    rcases k with ⟨i, rfl, k⟩ | ⟨t, b, c, ty, kb, kc, e, k⟩
    · refine ⟨_, rfl, .int i, "int", true, false, rfl, .base (.int i), by decide +kernel, by decide +kernel, _, rfl, ?_⟩
      refine iteT (B := True) ⟨_, rfl, _, _, rfl, rfl, _, rfl, ?_⟩
      unfold okNum at k
      by_cases h1 : 1 ≤ i
      · rw [if_pos (decide_eq_true h1)]
        rw [decide_eq_true h1, Bool.true_and] at k
        exact ⟨_, _, rfl, rfl, k⟩
      · rw [if_neg (by rw [decide_eq_false h1]; exact Bool.false_ne_true)]
        rw [decide_eq_false h1, Bool.false_and] at k
        exact k
    · refine ⟨_, rfl, v, t, b, c, rfl, ty, kb, kc, _, rfl, ?_⟩
      rw [e]
      exact iteF (A := True) k
theorem ok_isName {f : Addr} {fd : FuncData} (F : Fun K "is_name" "is_name" sIsName f fd) (N : Nm mg) (Z : Cst K mg aS a1 a2) : FnOk P w K mg base CX0 1 f fd ["value"] (spIsName K) := by
  refine F.ok scName (fun vs H Q E h => ?_) (fun cdv A outer s H vs Q E hr h => ?_)
  · obtain ⟨v, rfl, _⟩ := h
    rfl
  · obtain ⟨v, rfl, k⟩ := h
    obtain ⟨tl, hl⟩ := Z.lett
    refine ⟨_, pss_one (ps_ret (pe_and (pe_callB call_isi (by rfl) N.isi PyProof.Rows.boot_isinstance (pa_cons (pv 0) (pa_cons (pe_bltn (v := .ty "str") (by rfl) N.str boot_str' rfl) pa_nil)))
      (pe_and (pe_chain op_le op_le pe_int (pe_callB call_len_str (by rfl) N.len PySem.boot_len (pa_cons (pv 0) pa_nil)) (pe_glob (v := .int 8) rfl hl ⟨_, rfl⟩))
      (pe_one (pe_callB (cr_all rfl) (by rfl) N.all boot_all' (pa_cons
        (pe_lc (own := [("letter", 1)]) (g := gName 1) (tt := tYes) rfl scName.nd (pi_str (pv 0)) (blkOk_by (N := ["value", "letter"]) (sc := defScope sIsName) (by decide +kernel))
          (fun _ _ _ _ _ => pg_name (i := 1) scName.nd rfl (Or.inl rfl)) (fun _ _ _ _ _ => pts_nil) (fun _ _ _ _ _ => by exact pe_chain op_le_str op_le_str pe_str (pv 1) pe_str)) pa_nil)))))), ?_⟩
    rcases k with ⟨z, rfl, hz, k⟩ | ⟨t, ty, kb, k⟩
    · refine ⟨_, rfl, .str z, .ty "str", .type "str", .type "str", true, rfl, .ty _, .base (.str z), kit_ty (by decide +kernel), _, rfl, ?_⟩
      refine iteT (B := True) ?_
      have hzl : z.length ≤ sizeLine := Nat.le_of_lt (small1000 hz)
      refine ⟨_, rfl, z, rfl, hzl, _, _, rfl, rfl, _, rfl, ?_⟩
      unfold isNm at k
      have nat1 : (1 : Int) ≤ (z.length : Int) ↔ 1 ≤ z.length := by omega
      have nat8 : (z.length : Int) ≤ 8 ↔ z.length ≤ 8 := by omega
      by_cases h1 : 1 ≤ z.length
      · rw [if_pos (decide_eq_true (nat1.mpr h1))]
        rw [decide_eq_true h1, Bool.true_and] at k
        refine ⟨_, _, rfl, rfl, _, rfl, ?_⟩
        by_cases h8 : z.length ≤ 8
        · rw [if_pos (decide_eq_true (nat8.mpr h8))]
          rw [decide_eq_true h8, Bool.true_and] at k
          refine ⟨_, rfl, z, rfl, fun D hD => ?_⟩
          refine lc_it walk_str (fun i H' => Same H H' ∧ H' D = some (.lst (((z.cps.toList.take i).map okSign).map V.bl))) ⟨same_new hD, upd_same⟩ (fun _ _ _ _ => trivial) ?_ ?_
          · rintro i x H1 H2 hi ⟨s1, h2⟩ ⟨rfl, c, hc, rfl⟩
            refine ⟨rfl, iteT (B := True) ⟨_, rfl, _, _, rfl, rfl, _, rfl, ?_⟩⟩
            have hcl : z.cps.toList[i]? = some c := by rw [Array.getElem?_toList]; exact hc
            have hlt : i < z.cps.toList.length := (List.getElem?_eq_some_iff.mp hcl).1
            have stp : ((z.cps.toList.take i).map okSign).map V.bl ++ [V.bl (okSign c)] = ((z.cps.toList.take (i + 1)).map okSign).map V.bl := by
              rw [List.take_add_one, hcl]
              simp
            have fin : ∀ b : Bool, b = okSign c → ∃ acc, H2 D = some (.lst acc) ∧ acc.length < sizeLine ∧ Same H (upd H2 D (.lst (acc ++ [.bl b]))) ∧ upd H2 D (.lst (acc ++ [.bl b])) D = some (.lst (((z.cps.toList.take (i + 1)).map okSign).map V.bl)) := by
              rintro b rfl
              refine ⟨_, h2, ?_, ?_, ?_⟩
              · rw [List.length_map, List.length_map, List.length_take]
                have : z.cps.toList.length = z.length := by rw [Array.length_toList]; rfl
                exact small1000 (by omega)
              · intro b o e
                have : b ≠ D := fun z => by rw [z, hD] at e; cases e
                rw [upd_ne this]
                exact s1 b o e
              · rw [upd_same, stp]
            have e1 : (!decide ((⟨#[c]⟩ : Str).cps.toList < ("a" : Str).cps.toList)) = decide (97 ≤ c) := sign_le 97 c
            have e2 : (!decide (("z" : Str).cps.toList < (⟨#[c]⟩ : Str).cps.toList)) = decide (c ≤ 122) := sign_le c 122
            by_cases l1 : 97 ≤ c
            · rw [if_pos (by rw [e1]; exact decide_eq_true l1)]
              refine ⟨_, _, rfl, rfl, ?_⟩
              refine fin _ ?_
              rw [e2]
              unfold okSign
              rw [decide_eq_true l1, Bool.true_and]
            · rw [if_neg (by rw [e1, decide_eq_false l1]; exact Bool.false_ne_true)]
              refine fin _ ?_
              unfold okSign
              rw [decide_eq_false l1, Bool.false_and]
          · rintro H1 ⟨s1, h2⟩
            refine ⟨D, (z.cps.toList.take z.cps.size).map okSign, rfl, SqL.of h2, ?_⟩
            have e : ((z.cps.toList.take z.cps.size).map okSign).any id = ((z.cps.toList.take z.cps.size).map okSign).any id := rfl
            have e3 : ((z.cps.toList.take z.cps.size).map okSign).all id = z.cps.toList.all okSign := by
              rw [List.take_of_length_le (by rw [Array.length_toList]; exact Nat.le_refl _), List.all_map]
              rfl
            rw [e3]
            exact k H1 s1
        · rw [if_neg (by rw [decide_eq_false (fun h => h8 (nat8.mp h))]; exact Bool.false_ne_true)]
          rw [decide_eq_false h8, Bool.false_and] at k
          exact k H (Same.refl H)
      · rw [if_neg (by rw [decide_eq_false (fun h => h1 (nat1.mp h))]; exact Bool.false_ne_true)]
        rw [decide_eq_false h1, Bool.false_and] at k
        exact ⟨_, rfl, iteF (A := True) (k H (Same.refl H))⟩
    · refine ⟨_, rfl, v, .ty "str", .type t, .type "str", false, rfl, .ty _, ty, kit_ty kb, _, rfl, ?_⟩
      exact iteF (A := True) k
end
end K81
set_option Elab.async false
set_option linter.all false
set_option maxRecDepth 100000
set_option maxHeartbeats 4000000
namespace K81
open PySem L2 VK
/-! ### programs and plans as data -/
mutual
inductive Sg where
  | nm (k n : Str)
  | num (k : Str) (n : Int)
  | flat
  | zip (p : Pg)
inductive Pg where
  | mk (s : Str) (l : Sgs)
inductive Sgs where
  | nil
  | cons (x : Sg) (r : Sgs)
end
def K1 : List Str := ["map", "keep", "while", "after"]
def K2 : List Str := ["take", "skip", "lots", "gather"]
def K0 : List Str := ["a", "b", "c", "d"]
mutual
/-- the depth behind a stage -/
def Sg.dep (d : Int) : Sg → Int
  | .nm k _ => if k = "map" then 0 else d
  | .num k _ => if k = "lots" then d + 1 else d
  | .flat => d - 1
  | .zip p => (if p.dep < d then p.dep else d) + 1
def Pg.dep : Pg → Int
  | .mk _ l => l.dep 0
def Sgs.dep (d : Int) : Sgs → Int
  | .nil => d
  | .cons x r => r.dep (x.dep d)
end
mutual
def Sg.srcs : Sg → List Str
  | .nm _ _ => []
  | .num _ _ => []
  | .flat => []
  | .zip p => p.srcs
def Pg.srcs : Pg → List Str
  | .mk s l => s :: l.srcs
def Sgs.srcs : Sgs → List Str
  | .nil => []
  | .cons x r => x.srcs ++ r.srcs
end
def Sgs.len : Sgs → Nat
  | .nil => 0
  | .cons _ r => r.len + 1
mutual
/-- how deep zips stand in zips -/
def Sg.nest : Sg → Nat
  | .nm _ _ => 0
  | .num _ _ => 0
  | .flat => 0
  | .zip p => p.nest + 1
def Pg.nest : Pg → Nat
  | .mk _ l => l.nest
def Sgs.nest : Sgs → Nat
  | .nil => 0
  | .cons x r => max x.nest r.nest
end
mutual
def Sg.ok (d : Int) (taken : List Str) : Sg → Prop
  | .nm k n => k ∈ K1 ∧ isNm n = true
  | .num k n => k ∈ K2 ∧ 1 ≤ n ∧ n ≤ 4
  | .flat => 0 < d
  | .zip p => p.ok ∧ ∀ s ∈ p.srcs, s ∉ taken
def Pg.ok : Pg → Prop
  | .mk s l => s ∈ K0 ∧ l.len ≤ 6 ∧ l.ok 0 [s]
def Sgs.ok (d : Int) (taken : List Str) : Sgs → Prop
  | .nil => True
  | .cons x r => x.ok d taken ∧ r.ok (x.dep d) (taken ++ x.srcs)
end
/-- an object of the class -/
def flds (s : Str) (ts ss : Addr) (d : Int) : List (Str × V) := putF "_depth" (.int d) (putF "_sources" (.ref ss) (putF "_stages" (.ref ts) (putF "_source" (.str s) [])))
theorem f1 : ¬ (("_source" : Str) = "_stages") := by decide +kernel
theorem f2 : ¬ (("_source" : Str) = "_sources") := by decide +kernel
theorem f3 : ¬ (("_source" : Str) = "_depth") := by decide +kernel
theorem f4 : ¬ (("_stages" : Str) = "_sources") := by decide +kernel
theorem f5 : ¬ (("_stages" : Str) = "_depth") := by decide +kernel
theorem f6 : ¬ (("_sources" : Str) = "_depth") := by decide +kernel
section
variable (s : Str) (ts ss : Addr) (d : Int)
theorem get_source : (flds s ts ss d).lookup ("_source" : Str) = some (.str s) := by
  unfold flds
  rw [lookup_putF, if_neg f3, lookup_putF, if_neg f2, lookup_putF, if_neg f1, lookup_putF, if_pos rfl]
theorem get_stages : (flds s ts ss d).lookup ("_stages" : Str) = some (.ref ts) := by
  unfold flds
  rw [lookup_putF, if_neg f5, lookup_putF, if_neg f4, lookup_putF, if_pos rfl]
theorem get_sources : (flds s ts ss d).lookup ("_sources" : Str) = some (.ref ss) := by
  unfold flds
  rw [lookup_putF, if_neg f6, lookup_putF, if_pos rfl]
theorem get_depth : (flds s ts ss d).lookup ("_depth" : Str) = some (.int d) := by
  unfold flds
  rw [lookup_putF, if_pos rfl]
end
mutual
/-- a Program at a -/
inductive PgAt (K : Fg) (C : Addr) (H : Hp) : V → Pg → Prop where
  | mk {a dx ts ss : Addr} {s : Str} {l : Sgs} {xs : List V} (h : H a = some (.ins C dx (flds s ts ss (l.dep 0)))) (hs : SqT K H ts xs) (hl : StAll K C H xs l)
      (hr : SqT K H ss ((s :: l.srcs).map V.str)) : PgAt K C H (.ref a) (.mk s l)
/-- a stage as a tuple -/
inductive StV (K : Fg) (C : Addr) (H : Hp) : V → Sg → Prop where
  | nm {a : Addr} {k n : Str} (h : SqT K H a [.str k, .str n]) : StV K C H (.ref a) (.nm k n)
  | num {a : Addr} {k : Str} {n : Int} (h : SqT K H a [.str k, .int n]) : StV K C H (.ref a) (.num k n)
  | flat {a : Addr} (h : SqT K H a [.str "flat"]) : StV K C H (.ref a) .flat
  | zip {a : Addr} {v : V} {p : Pg} (h : SqT K H a [.str "zip", v]) (hp : PgAt K C H v p) : StV K C H (.ref a) (.zip p)
inductive StAll (K : Fg) (C : Addr) (H : Hp) : List V → Sgs → Prop where
  | nil : StAll K C H [] .nil
  | cons {v : V} {vs : List V} {x : Sg} {r : Sgs} (h : StV K C H v x) (t : StAll K C H vs r) : StAll K C H (v :: vs) (.cons x r)
end
mutual
/-- a plan of the law: tuples alone -/
inductive PlAt (K : Fg) (H : Hp) : V → Pg → Prop where
  | mk {a b : Addr} {s : Str} {l : Sgs} {xs : List V} (h : SqT K H a [.str s, .ref b]) (hs : SqT K H b xs) (hl : PsAll K H xs l) : PlAt K H (.ref a) (.mk s l)
inductive PsV (K : Fg) (H : Hp) : V → Sg → Prop where
  | nm {a : Addr} {k n : Str} (h : SqT K H a [.str k, .str n]) : PsV K H (.ref a) (.nm k n)
  | num {a : Addr} {k : Str} {n : Int} (h : SqT K H a [.str k, .int n]) : PsV K H (.ref a) (.num k n)
  | flat {a : Addr} (h : SqT K H a [.str "flat"]) : PsV K H (.ref a) .flat
  | zip {a : Addr} {v : V} {p : Pg} (h : SqT K H a [.str "zip", v]) (hp : PlAt K H v p) : PsV K H (.ref a) (.zip p)
inductive PsAll (K : Fg) (H : Hp) : List V → Sgs → Prop where
  | nil : PsAll K H [] .nil
  | cons {v : V} {vs : List V} {x : Sg} {r : Sgs} (h : PsV K H v x) (t : PsAll K H vs r) : PsAll K H (v :: vs) (.cons x r)
end
/-! ### what stays: tuples, objects, what is locked -/
def fixd : HO → Bool
  | .tup _ => true
  | .ins _ _ _ => true
  | .frz _ _ => true
  | _ => false
def Kp (H H' : Hp) : Prop := ∀ b o, H b = some o → fixd o = true → H' b = some o
theorem Kp.refl (H : Hp) : Kp H H := fun _ _ h _ => h
theorem Kp.trans {H H1 H2 : Hp} (a : Kp H H1) (b : Kp H1 H2) : Kp H H2 := fun c o h f => b c o (a c o h f) f
theorem Kp.of {H H' : Hp} (s : Same H H') : Kp H H' := fun b o h _ => s b o h
theorem Kp.tup {K : Fg} {H H' : Hp} (k : Kp H H') {a : Addr} {xs : List V} (h : SqT K H a xs) : SqT K H' a xs := by
  rcases h with (h | ⟨o, h⟩) | h
  · exact .inl (.inl (k _ _ h rfl))
  · exact .inl (.inr ⟨o, k _ _ h rfl⟩)
  · exact .inr h
section
variable {K : Fg} {C : Addr} {H H' : Hp}
mutual
theorem PgAt.kp (k : Kp H H') : ∀ {v : V} {p : Pg}, PgAt K C H v p → PgAt K C H' v p
  | _, _, .mk h hs hl hr => .mk (k _ _ h rfl) (k.tup hs) (StAll.kp k hl) (k.tup hr)
theorem StV.kp (k : Kp H H') : ∀ {v : V} {x : Sg}, StV K C H v x → StV K C H' v x
  | _, _, .nm h => .nm (k.tup h)
  | _, _, .num h => .num (k.tup h)
  | _, _, .flat h => .flat (k.tup h)
  | _, _, .zip h hp => .zip (k.tup h) (PgAt.kp k hp)
theorem StAll.kp (k : Kp H H') : ∀ {vs : List V} {l : Sgs}, StAll K C H vs l → StAll K C H' vs l
  | _, _, .nil => .nil
  | _, _, .cons h t => .cons (StV.kp k h) (StAll.kp k t)
end
mutual
theorem PlAt.kp (k : Kp H H') : ∀ {v : V} {p : Pg}, PlAt K H v p → PlAt K H' v p
  | _, _, .mk h hs hl => .mk (k.tup h) (k.tup hs) (PsAll.kp k hl)
theorem PsV.kp (k : Kp H H') : ∀ {v : V} {x : Sg}, PsV K H v x → PsV K H' v x
  | _, _, .nm h => .nm (k.tup h)
  | _, _, .num h => .num (k.tup h)
  | _, _, .flat h => .flat (k.tup h)
  | _, _, .zip h hp => .zip (k.tup h) (PlAt.kp k hp)
theorem PsAll.kp (k : Kp H H') : ∀ {vs : List V} {l : Sgs}, PsAll K H vs l → PsAll K H' vs l
  | _, _, .nil => .nil
  | _, _, .cons h t => .cons (PsV.kp k h) (PsAll.kp k t)
end
theorem StAll.len : ∀ {vs : List V} {l : Sgs}, StAll K C H vs l → vs.length = l.len
  | _, _, .nil => rfl
  | _, _, .cons _ t => by
    show _ + 1 = _ + 1
    rw [StAll.len t]
theorem PsAll.len : ∀ {vs : List V} {l : Sgs}, PsAll K H vs l → vs.length = l.len
  | _, _, .nil => rfl
  | _, _, .cons _ t => by
    show _ + 1 = _ + 1
    rw [PsAll.len t]
end
/-- what isinstance(.., Program) asks of the class -/
structure Cl (K : Fg) (mg : Str → Option Value) (C : Addr) : Prop where
  cl : Cls K C
  g : mg "Program" = some (.ref C)
  ha : PySem.W.findIn K (.ref C) "__class__" = some (some (.builtin "object.__class__"))
  hn : PySem.W.specialIn K (.builtin "object.__class__") "__get__" = some (some (.builtin "getset_descriptor.__get__"))
  htk : PySem.W.takesIn K (.builtin "object.__class__") = some true
  hm : PySem.W.mroIn K C (.type "object") = some true
  kt : PySem.W.kitOne K (.type "tuple") (.ref C) = some false
  kc : PySem.W.kitOne K (.ref C) (.ref C) = some true
  ct : PySem.W.kitOne K (.ref C) (.type "tuple") = some false
  n1 : NoAttr K C "_source"
  n2 : NoAttr K C "_stages"
  n3 : NoAttr K C "_sources"
  n4 : NoAttr K C "_depth"
/-- what is_stage says of a pair's second -/
inductive Det (K : Fg) (C : Addr) (H : Hp) : Str → V → Bool → Prop where
  | nm {k n : Str} (hk : k ∈ K1) (l : n.length ≤ 1000) : Det K C H k (.str n) (isNm n)
  | num {k : Str} {i : Int} (hk : k ∈ K2) : Det K C H k (.int i) (okNum i)
  | zip {d : V} {t : Value} {b : Bool} (ty : TyX K H d t) (kt : PySem.W.kitOne K t (.ref C) = some b) : Det K C H "zip" d b
  | numN {k : Str} {d : V} {t : String} {b c : Bool} (hk : k ∈ K2) (ty : TyX K H d (.type t)) (kb : kitB t "int" = some b) (kc : kitB t "bool" = some c) (e : (b && !c) = false) : Det K C H k d false
  | oth {k : Str} {d : V} (h1 : k ∉ K1) (h2 : k ∉ K2) (h3 : k ≠ "zip") : Det K C H k d false
/-- what is_stage says -/
inductive IsSt (K : Fg) (C : Addr) (H : Hp) : V → Bool → Prop where
  | other {v : V} {t : Value} (ty : TyX K H v t) (kt : PySem.W.kitOne K t (.type "tuple") = some false) : IsSt K C H v false
  | none {a : Addr} (h : SqT K H a []) : IsSt K C H (.ref a) false
  | one {a : Addr} {k : Str} (h : SqT K H a [.str k]) : IsSt K C H (.ref a) (decide (V.str k = V.str "flat"))
  | two {a : Addr} {k : Str} {d : V} {b : Bool} (h : SqT K H a [.str k, d]) (e : Det K C H k d b) : IsSt K C H (.ref a) b
  | long {a : Addr} {xs : List V} (h : SqT K H a xs) (l : 3 ≤ xs.length) : IsSt K C H (.ref a) false
end K81
set_option Elab.async false
set_option linter.all false
set_option maxRecDepth 100000
set_option maxHeartbeats 4000000
namespace K81
open PySem L2 VK
theorem Cl.ty {K : Fg} {mg : Str → Option Value} {C : Addr} (c : Cl K mg C) {H : Hp} {a dx : Addr} {fs : List (Str × V)} (e : H a = some (.ins C dx fs)) : TyX K H (.ref a) (.ref C) :=
  .base (.ins e c.cl c.ha c.hn c.htk c.hm)
theorem TyX.same {K : Fg} {H H' : Hp} {v : V} {t : Value} (ty : TyX K H v t) (s : Same H H') : TyX K H' v t := by
  cases ty with
  | base h =>
    cases h with
    | non => exact .base .non
    | bl x => exact .base (.bl x)
    | int x => exact .base (.int x)
    | str x => exact .base (.str x)
    | flt x => exact .base (.flt x)
    | lst e => exact .base (.lst (s _ _ e))
    | frz e => exact .base (.frz (s _ _ e))
    | tup e => exact .base (.tup (s _ _ e))
    | dK e => exact .base (.dK (s _ _ e))
    | dT e => exact .base (.dT (s _ _ e))
    | ins e cl ha hn htk hm => exact .base (.ins (s _ _ e) cl ha hn htk hm)
  | byt b => exact .byt b
  | set e => exact .set (s _ _ e)
  | kList e c => exact .kList e c
  | kTuple e c => exact .kTuple e c
  | kDict e c => exact .kDict e c
  | fTuple e => exact .fTuple (s _ _ e)
  | fDict e => exact .fDict (s _ _ e)
theorem tyT {K : Fg} {H : Hp} {a : Addr} {xs : List V} (h : SqT K H a xs) : TyX K H (.ref a) (.type "tuple") := by
  rcases h with (h | ⟨o, h⟩) | h
  · exact .base (.tup h)
  · exact .fTuple h
  · obtain ⟨o, _, _, e, c, _⟩ := h
    exact .kTuple e c
theorem in_true {z : Str} {ws : List Str} (h : z ∈ ws) : inV (.str z) (ws.map V.str) = true := by
  unfold inV
  rw [List.any_map, List.any_eq_true]
  exact ⟨z, h, by show eqV (.str z) (.str z) = true; exact decide_eq_true rfl⟩
theorem in_false {z : Str} {ws : List Str} (h : z ∉ ws) : inV (.str z) (ws.map V.str) = false := by
  unfold inV
  rw [List.any_map, List.any_eq_false]
  intro y hy e
  exact h (by
    have : y = z := of_decide_eq_true e
    rw [← this]; exact hy)

def spIsStage (K : Fg) (C : Addr) : Sp := fun vs H Q _ => ∃ (v : V) (b : Bool), vs = [v] ∧ IsSt K C H v b ∧ ∀ H', Same H H' → Q (.bl b) H'
theorem scStage : FnScope ["value", "kind", "detail"] ["value"] (defScope sIsStage) := ⟨rfl, rfl, rfl, by decide +kernel, rfl, by decide +kernel, by decide +kernel⟩
theorem isNm_len {n : Str} (h : isNm n = true) : n.length ≤ 1000 := by
  unfold isNm at h
  rw [Bool.and_eq_true, Bool.and_eq_true, decide_eq_true_eq, decide_eq_true_eq] at h
  omega
section
variable {P : Program} {w : World} {K : Fg} {mg : Str → Option Value} {base : Heap} {aS a1 a2 C : Addr}
theorem ok_isStage {f fN fM fI : Addr} {fd dN dM dI : FuncData} (F : Fun K "is_stage" "is_stage" sIsStage f fd) (N : Nm mg) (Z : Cst K mg aS a1 a2) (c : Cl K mg C)
    (gI : mg "is_integer" = some (.ref fI)) (FI : Fun K "is_integer" "is_integer" sIsInt fI dI) (bI : Binds K dI ["value"] [])
    (gN : mg "is_name" = some (.ref fN)) (FN : Fun K "is_name" "is_name" sIsName fN dN) (bN : Binds K dN ["value"] [])
    (gM : mg "is_stage_number" = some (.ref fM)) (FM : Fun K "is_stage_number" "is_stage_number" sIsNum fM dM) (bM : Binds K dM ["value"] []) :
    FnOk P w K mg base CX0 3 f fd ["value"] (spIsStage K C) := by
  have GN : FnOk P w K mg base CX0 1 fN dN ["value"] (spIsName K) := ok_isName FN N Z
  have GM : FnOk P w K mg base CX0 2 fM dM ["value"] (spIsNum K) := ok_isNum FM N Z gI FI bI
  refine F.ok scStage (fun vs H Q E h => ?_) (fun cdv A outer s H vs Q E hr h => ?_)
  · obtain ⟨v, b, rfl, _⟩ := h
    rfl
  · obtain ⟨v, b, rfl, hv, k⟩ := h
    have hr1 := hr.mono (show 1 ≤ 2 by decide)
    refine ⟨_, pss_cons (ps_if (PW.pt (pw_or (pt_not (pt_val (pe_callB call_isi (by rfl) N.isi PyProof.Rows.boot_isinstance (pa_cons (pv 0) (pa_cons (pe_bltn (v := .ty "tuple") (by rfl) N.tup boot_tup' rfl) pa_nil)))))
        (pw_or1 (pt_cmpR op_notIn_seq (pe_callB call_len_seq (by rfl) N.len PySem.boot_len (pa_cons (pv 0) pa_nil)) (pe_tup (pa_cons pe_int (pa_cons pe_int pa_nil))) rfl))))
        (pss_one (ps_ret pe_bl)) pss_nil)
      (pss_cons (ps_if (pt_cmpR op_eq (pe_callB call_len_seq (by rfl) N.len PySem.boot_len (pa_cons (pv 0) pa_nil)) pe_int (nomark _))
        (pss_one (ps_ret (pe_cmpR op_eq (pe_ix ix_tup (pv 0) pe_int (fun _ _ => rfl)) pe_str (nomark _)))) pss_nil)
      (pss_cons (ps_asg (pv 0) (pg_tup rfl (pgs_cons (pg_name (i := 1) scStage.nd rfl (Or.inl rfl)) (pgs_cons (pg_name (i := 2) scStage.nd rfl (Or.inl rfl)) pgs_nil))))
      (pss_cons (ps_if (pt_cmpR op_in_seq (pv 1) (pe_glob (v := .ref a1) rfl Z.g1 rfl) rfl)
        (pss_one (ps_ret (pe_call GN hr1 rfl gN FN.kp bN .nil pass0 (pa_cons (pv 2) pa_nil)))) pss_nil)
      (pss_cons (ps_if (pt_cmpR op_in_seq (pv 1) (pe_glob (v := .ref a2) rfl Z.g2 rfl) rfl)
        (pss_one (ps_ret (pe_call GM hr rfl gM FM.kp bM .nil pass0 (pa_cons (pv 2) pa_nil)))) pss_nil)
      (pss_one (ps_ret (pe_and (pe_cmpR op_eq (pv 1) pe_str (nomark _)) (pe_one (pe_callB call_isi (by rfl) N.isi PyProof.Rows.boot_isinstance (pa_cons (pv 2) (pa_cons (pe_glob (v := .ref C) rfl c.g rfl) pa_nil))))))))))), ?_⟩
    have ktt : PySem.W.kitOne K (.type "tuple") (.type "tuple") = some true := kit_ty (by decide +kernel)
    cases hv with
    | other ty kt => exact ⟨_, rfl, v, .ty "tuple", _, .type "tuple", false, rfl, .ty _, ty, kt, _, rfl, iteT (B := True) (k H (Same.refl H))⟩
    | @none a h =>
      refine ⟨_, rfl, .ref a, .ty "tuple", .type "tuple", .type "tuple", true, rfl, .ty _, tyT h, ktt, _, rfl, ?_⟩
      refine iteF (A := True) ?_
      refine ⟨_, rfl, a, [], rfl, .inr h, by show 2 ≤ sizeLine; decide, fun p hp => ?_⟩
      exact ⟨p, _, rfl, .inr (.inl (.inl upd_same)), rfl, rfl, _, rfl, k _ (same_new hp)⟩
    | @one a kd h =>
      refine ⟨_, rfl, .ref a, .ty "tuple", .type "tuple", .type "tuple", true, rfl, .ty _, tyT h, ktt, _, rfl, ?_⟩
      refine iteF (A := True) ?_
      refine ⟨_, rfl, a, _, rfl, .inr h, by show 2 ≤ sizeLine; decide, fun p hp => ?_⟩
      refine ⟨p, _, rfl, .inr (.inl (.inl upd_same)), rfl, rfl, _, rfl, ?_⟩
      refine ⟨_, rfl, a, _, rfl, .inr ((Kp.of (same_new hp)).tup h), rfl, _, rfl, ?_⟩
      refine iteT (B := True) ?_
      exact ⟨_, rfl, a, _, _, _, rfl, rfl, (Kp.of (same_new hp)).tup h, rfl, rfl, k _ (same_new hp)⟩
    | @two a kd d b h e => 
      refine ⟨_, rfl, .ref a, .ty "tuple", .type "tuple", .type "tuple", true, rfl, .ty _, tyT h, ktt, _, rfl, ?_⟩
      refine iteF (A := True) ?_
      refine ⟨_, rfl, a, _, rfl, .inr h, by show 2 ≤ sizeLine; decide, fun p hp => ?_⟩
      refine ⟨p, _, rfl, .inr (.inl (.inl upd_same)), rfl, rfl, _, rfl, ?_⟩
      have s1 := same_new (o := .tup [.int 1, .int 2]) hp
      have h1 := (Kp.of s1).tup h
      refine ⟨_, rfl, a, _, rfl, .inr h1, rfl, _, rfl, ?_⟩
      refine iteF (A := True) ?_
      refine ⟨_, rfl, a, _, rfl, h1, rfl, _, _, rfl, _, _, rfl, rfl, ?_⟩
      have n12 : ∀ z ∈ K2, z ∉ K1 := by decide +kernel
      cases e with
      | @nm _ n hk l =>
        refine ⟨_, rfl, a1, _, rfl, .inr (Z.h1 _), rfl, rfl, _, rfl, ?_⟩
        rw [show inV (.str kd) [.str "map", .str "keep", .str "while", .str "after"] = true from in_true (ws := K1) hk]
        refine iteT (B := True) ⟨_, rfl, _, rfl, .inl ⟨n, rfl, l, fun H' s2 => k H' (s1.trans s2)⟩⟩
      | @num _ i hk =>
        refine ⟨_, rfl, a1, _, rfl, .inr (Z.h1 _), rfl, rfl, _, rfl, ?_⟩
        rw [show inV (.str kd) [.str "map", .str "keep", .str "while", .str "after"] = false from in_false (ws := K1) (n12 _ hk)]
        refine iteF (A := True) ?_
        refine ⟨_, rfl, a2, _, rfl, .inr (Z.h2 _), rfl, rfl, _, rfl, ?_⟩
        rw [show inV (.str kd) [.str "take", .str "skip", .str "lots", .str "gather"] = true from in_true (ws := K2) hk]
        refine iteT (B := True) ⟨_, rfl, _, rfl, .inl ⟨i, rfl, k _ s1⟩⟩
      | @zip _ t _ ty kt =>
        refine ⟨_, rfl, a1, _, rfl, .inr (Z.h1 _), rfl, rfl, _, rfl, ?_⟩
        rw [show inV (.str "zip") [.str "map", .str "keep", .str "while", .str "after"] = false from in_false (ws := K1) (by decide +kernel)]
        refine iteF (A := True) ?_
        refine ⟨_, rfl, a2, _, rfl, .inr (Z.h2 _), rfl, rfl, _, rfl, ?_⟩
        rw [show inV (.str "zip") [.str "take", .str "skip", .str "lots", .str "gather"] = false from in_false (ws := K2) (by decide +kernel)]
        refine iteF (A := True) ?_
        refine ⟨_, rfl, rfl, _, rfl, ?_⟩
        refine iteT (B := True) ?_
        refine ⟨_, rfl, d, .ref C, _, .ref C, b, rfl, .own C, TyX.same ty s1, kt, k _ s1⟩
      | @numN _ _ tt bb cc hk ty kb kc e =>
        refine ⟨_, rfl, a1, _, rfl, .inr (Z.h1 _), rfl, rfl, _, rfl, ?_⟩
        rw [show inV (.str kd) [.str "map", .str "keep", .str "while", .str "after"] = false from in_false (ws := K1) (n12 _ hk)]
        refine iteF (A := True) ?_
        refine ⟨_, rfl, a2, _, rfl, .inr (Z.h2 _), rfl, rfl, _, rfl, ?_⟩
        rw [show inV (.str kd) [.str "take", .str "skip", .str "lots", .str "gather"] = true from in_true (ws := K2) hk]
        refine iteT (B := True) ⟨_, rfl, _, rfl, .inr ⟨tt, bb, cc, TyX.same ty s1, kb, kc, e, k _ s1⟩⟩
      | @oth _ _ h1' h2' h3' =>
        refine ⟨_, rfl, a1, _, rfl, .inr (Z.h1 _), rfl, rfl, _, rfl, ?_⟩
        rw [show inV (.str kd) [.str "map", .str "keep", .str "while", .str "after"] = false from in_false (ws := K1) h1']
        refine iteF (A := True) ?_
        refine ⟨_, rfl, a2, _, rfl, .inr (Z.h2 _), rfl, rfl, _, rfl, ?_⟩
        rw [show inV (.str kd) [.str "take", .str "skip", .str "lots", .str "gather"] = false from in_false (ws := K2) h2']
        refine iteF (A := True) ?_
        refine ⟨_, rfl, rfl, _, rfl, ?_⟩
        have ne : ¬ (V.str kd = V.str "zip") := fun z => h3' (V.str.inj z)
        rw [decide_eq_false ne]
        exact iteF (A := True) (k _ s1)
    | @long a xs h l =>
      refine ⟨_, rfl, .ref a, .ty "tuple", .type "tuple", .type "tuple", true, rfl, .ty _, tyT h, ktt, _, rfl, ?_⟩
      refine iteF (A := True) ?_
      refine ⟨_, rfl, a, _, rfl, .inr h, by show 2 ≤ sizeLine; decide, fun p hp => ?_⟩
      refine ⟨p, _, rfl, .inr (.inl (.inl upd_same)), rfl, rfl, _, rfl, ?_⟩
      have nl : inV (.int (xs.length : Nat)) [.int 1, .int 2] = false := by
        unfold inV
        rw [List.any_eq_false]
        intro y hy e
        rcases List.mem_cons.mp hy with rfl | hy
        · have e : decide (_ = _) = true := e
          have := of_decide_eq_true e
          omega
        · rw [List.mem_singleton.mp hy] at e
          have e : decide (_ = _) = true := e
          have := of_decide_eq_true e
          omega
      rw [nl]
      exact iteT (B := True) (k _ (same_new hp))
end
end K81
set_option Elab.async false
set_option linter.all false
set_option maxRecDepth 100000
set_option maxHeartbeats 4000000
namespace K81
open PySem L2 VK
abbrev sSrcs : Stmt := top 19
abbrev sCan : Stmt := top 20
abbrev sDep : Stmt := top 21
abbrev sIsPos : Stmt := top 22
abbrev sArePos : Stmt := top 23
/-! ### a comprehension that only makes new things -/
def lcI (H1 : Hp) (D : Addr) (ys : List V) (i : Nat) (H : Hp) : Prop := Same H1 H ∧ H D = some (.lst (ys.take i))
theorem lcI0 {H1 : Hp} {D : Addr} {ys : List V} (hD : H1 D = none) : lcI H1 D ys 0 (upd H1 D (.lst [])) := ⟨same_new hD, by rw [upd_same]; rfl⟩
theorem lc_step {H1 H4 : Hp} {D : Addr} {ys : List V} {i : Nat} {y : V} (hD : H1 D = none) (s : Same H1 H4) (e : H4 D = some (.lst (ys.take i))) (hy : ys[i]? = some y) (hz : ys.length < sizeLine) :
    ∃ acc, H4 D = some (.lst acc) ∧ acc.length < sizeLine ∧ lcI H1 D ys (i + 1) (upd H4 D (.lst (acc ++ [y]))) := by
  refine ⟨_, e, ?_, ?_, ?_⟩
  · rw [List.length_take]
    omega
  · intro b o h
    have : b ≠ D := fun z => by rw [z, hD] at h; cases h
    rw [upd_ne this]
    exact s b o h
  · rw [upd_same, List.take_add_one, hy]
    rfl
theorem lcI.done {H1 H : Hp} {D : Addr} {ys : List V} {n : Nat} (h : lcI H1 D ys n H) (e : ys.length = n) : Same H1 H ∧ H D = some (.lst ys) := by
  refine ⟨h.1, ?_⟩
  rw [h.2, List.take_of_length_le (by omega)]
theorem boot_any' : bootBuiltins "any" = some (.builtin "any") := by decide +kernel
theorem in_dec (z : Str) (ws : List Str) : inV (.str z) (ws.map V.str) = decide (z ∈ ws) := by
  by_cases h : z ∈ ws
  · rw [decide_eq_true h, in_true h]
  · rw [decide_eq_false h, in_false h]
theorem all_flat (ws : List Str) : (ws.map V.str).all flatV = true := by
  rw [List.all_map, List.all_eq_true]
  exact fun _ _ => rfl
theorem boot_min' : bootBuiltins "min" = some (.builtin "min") := by decide +kernel
theorem dif {A B c : Prop} [i : Decidable c] (h1 : c → A) (h2 : ¬ c → B) : if decide c = true then A else B := by
  by_cases h : c
  · rw [if_pos (decide_eq_true h)]
    exact h1 h
  · rw [if_neg (by rw [decide_eq_false h]; exact Bool.false_ne_true)]
    exact h2 h
/-! ### the properties -/
def Prp (P : Program) (w : World) (K : Fg) (mg : Str → Option Value) (base : Heap) (C : Addr) (f g : Str) : Prop :=
  ∃ (p ga : Addr) (fd : FuncData), PropOf K C f p ga ∧ FnOk P w K mg base CX0 1 ga fd ["self"] (getSp C g) ∧ Binds K fd ["self"] []
/-- the stages as they are called with -/
def Sg.wf : Sg → Prop
  | .nm k _ => k ∈ K1
  | .num k _ => k ∈ K2
  | _ => True
def Sg.can (d : Int) (tk : List Str) : Sg → Bool
  | .flat => decide (0 < d)
  | x => !(x.srcs.any fun s => decide (s ∈ tk))
def spSrcs (K : Fg) (C : Addr) : Sp := fun vs H Q _ => ∃ (v : V) (x : Sg), vs = [v] ∧ StV K C H v x ∧ x.wf ∧ ∀ ss H', Same H H' → SqT K H' ss (x.srcs.map V.str) → Q (.ref ss) H'
def spCan (K : Fg) (C : Addr) : Sp := fun vs H Q _ => ∃ (v : V) (x : Sg) (d : Int) (l : Addr) (tk : List Str), vs = [v, .int d, .ref l] ∧ StV K C H v x ∧ x.wf ∧ x.srcs.length ≤ 1000 ∧ SqL K H l (tk.map V.str) ∧ ∀ H', Same H H' → Q (.bl (x.can d tk)) H'
def spDep (K : Fg) (C : Addr) : Sp := fun vs H Q _ => ∃ (v : V) (x : Sg) (d : Int), vs = [v, .int d] ∧ StV K C H v x ∧ x.wf ∧ Q (.int (x.dep d)) H
theorem scSrcs : FnScope ["stage"] ["stage"] (defScope sSrcs) := ⟨rfl, rfl, rfl, by decide +kernel, rfl, by decide +kernel, by decide +kernel⟩
theorem scCan : FnScope ["stage", "depth", "sources", "source"] ["stage", "depth", "sources"] (defScope sCan) := ⟨rfl, rfl, rfl, by decide +kernel, rfl, by decide +kernel, by decide +kernel⟩
theorem scDep : FnScope ["stage", "depth", "kind"] ["stage", "depth"] (defScope sDep) := ⟨rfl, rfl, rfl, by decide +kernel, rfl, by decide +kernel, by decide +kernel⟩
/-- a stage's kind, and what stands behind it -/
def Sg.kd : Sg → Str
  | .nm k _ => k
  | .num k _ => k
  | .flat => "flat"
  | .zip _ => "zip"
theorem StV.at0 {K : Fg} {C : Addr} {H : Hp} {v : V} {x : Sg} (h : StV K C H v x) : ∃ a r, v = .ref a ∧ SqT K H a (.str x.kd :: r) := by
  cases h with
  | nm h => exact ⟨_, _, rfl, h⟩
  | num h => exact ⟨_, _, rfl, h⟩
  | flat h => exact ⟨_, _, rfl, h⟩
  | zip h _ => exact ⟨_, _, rfl, h⟩
theorem kd_eq (a b : Str) : decide (V.str a = V.str b) = decide (a = b) := by
  by_cases h : a = b
  · rw [h]; simp
  · rw [decide_eq_false h, decide_eq_false (fun e => h (V.str.inj e))]
section
variable {P : Program} {w : World} {K : Fg} {mg : Str → Option Value} {base : Heap} {aS a1 a2 C : Addr}
theorem ok_srcs {f : Addr} {fd : FuncData} (F : Fun K "sources_of_stage" "sources_of_stage" sSrcs f fd) (c : Cl K mg C) (pp : Prp P w K mg base C "sources" "_sources") :
    FnOk P w K mg base CX0 3 f fd ["stage"] (spSrcs K C) := by
  obtain ⟨p, ga, gd, po, G, gb⟩ := pp
  refine F.ok scSrcs (fun vs H Q E h => ?_) (fun cdv A outer s H vs Q E hr h => ?_)
  · obtain ⟨v, b, rfl, _⟩ := h
    rfl
  · obtain ⟨v, x, rfl, hv, wf, k⟩ := h
    refine ⟨_, pss_one (ps_ret (pe_ifExp (pt_cmpR op_eq (pe_ix ix_tup (pv 0) pe_int (fun _ _ => rfl)) pe_str (nomark _))
      (pe_prop (pe_ix ix_tup (pv 0) pe_int (fun _ _ => rfl)) c.cl po G hr gb .nil pass0 rfl) (pe_tup pa_nil))), ?_⟩
    obtain ⟨a, r, rfl, ha⟩ := hv.at0
    refine ⟨_, rfl, a, _, _, .str x.kd, rfl, rfl, ha, at_of (j := 0) rfl rfl, rfl, _, rfl, ?_⟩
    rw [kd_eq]
    by_cases e : x.kd = "zip"
    · rw [decide_eq_true e]
      refine iteT (B := True) ?_
      cases hv with
      | nm h => exact absurd e ((by decide +kernel : ∀ z ∈ K1, ¬ (z = "zip")) _ wf)
      | num h => exact absurd e ((by decide +kernel : ∀ z ∈ K2, ¬ (z = "zip")) _ wf)
      | flat h => exact absurd e (by decide +kernel)
      | zip h hp =>
        cases hp with
        | @mk a dx ts ss s l xs h1 h2 h3 h4 =>
          exact ⟨_, rfl, _, _, _, _, rfl, rfl, h, rfl, _, _, _, rfl, h1, _, _, _, _, rfl, h1, get_sources _ _ _ _, k _ _ (Same.refl H) h4⟩
    · rw [decide_eq_false e]
      refine iteF (A := True) ?_
      refine ⟨by decide, fun q hq => k _ _ (same_new hq) ?_⟩
      cases hv with
      | nm h => exact .inl (.inl upd_same)
      | num h => exact .inl (.inl upd_same)
      | flat h => exact .inl (.inl upd_same)
      | zip h hp => exact absurd rfl e
theorem ok_can {f fs : Addr} {fd ds : FuncData} (F : Fun K "can_stand" "can_stand" sCan f fd) (N : Nm mg) (c : Cl K mg C) (pp : Prp P w K mg base C "sources" "_sources")
    (gS : mg "sources_of_stage" = some (.ref fs)) (FS : Fun K "sources_of_stage" "sources_of_stage" sSrcs fs ds) (bS : Binds K ds ["stage"] []) :
    FnOk P w K mg base CX0 4 f fd ["stage", "depth", "sources"] (spCan K C) := by
  have G : FnOk P w K mg base CX0 3 fs ds ["stage"] (spSrcs K C) := ok_srcs FS c pp
  refine F.ok scCan (fun vs H Q E h => ?_) (fun cdv A outer s H vs Q E hr h => ?_)
  · obtain ⟨v, x, d, l, tk, rfl, _⟩ := h
    rfl
  · obtain ⟨v, x, d, l, tk, rfl, hv, wf, hl, ht, k⟩ := h
    refine ⟨_, pss_cons (ps_if (pt_cmpR op_eq (pe_ix ix_tup (pv 0) pe_int (fun _ _ => rfl)) pe_str (nomark _)) (pss_one (ps_ret (pe_cmpR op_gt (pv 1) pe_int (nomark _)))) pss_nil)
      (pss_one (ps_ret (pe_not (pe_callB (cr_any rfl) (by rfl) N.any boot_any' (pa_cons
        (pe_lc (own := [("source", 3)]) (g := gName 3) (tt := tYes) (te := tOp (rIn K false) (tVar 3) (tVar 2)) rfl scCan.nd (pi_tup (pe_call G hr rfl gS FS.kp bS .nil pass0 (pa_cons (pv 0) pa_nil)))
          (blkOk_by (N := ["stage", "depth", "sources", "source"]) (sc := defScope sCan) (by decide +kernel)) (fun _ _ _ _ _ => pg_name (i := 3) scCan.nd rfl (Or.inl rfl)) (fun _ _ _ _ _ => pts_nil)
          (fun _ _ _ _ _ => by exact pe_cmpR op_in_seq (pv 3) (pv 2) rfl)) pa_nil))))), ?_⟩
    obtain ⟨a, r, rfl, ha⟩ := hv.at0
    refine ⟨_, rfl, a, _, _, .str x.kd, rfl, rfl, ha, at_of (j := 0) rfl rfl, rfl, _, rfl, ?_⟩
    rw [kd_eq]
    have walk : (x.kd = "flat" → x = .flat) ∧ (x.kd ≠ "flat" → x.can d tk = !(x.srcs.any fun s => decide (s ∈ tk))) := by
      cases x with
      | nm k n => exact ⟨fun e => absurd e ((by decide +kernel : ∀ z ∈ K1, ¬ (z = "flat")) _ wf), fun _ => rfl⟩
      | num k n => exact ⟨fun e => absurd e ((by decide +kernel : ∀ z ∈ K2, ¬ (z = "flat")) _ wf), fun _ => rfl⟩
      | flat => exact ⟨fun _ => rfl, fun e => absurd rfl e⟩
      | zip p => exact ⟨fun e => absurd e (by decide +kernel : ¬ (("zip" : Str) = "flat")), fun _ => rfl⟩
    by_cases e : x.kd = "flat"
    · rw [decide_eq_true e]
      refine iteT (B := True) ?_
      have e1 := walk.1 e
      subst e1
      exact ⟨_, rfl, d, 0, rfl, rfl, k _ (Same.refl H)⟩
    · rw [decide_eq_false e]
      refine iteF (A := True) ?_
      rw [walk.2 e] at k
      refine ⟨_, rfl, _, _, rfl, hv, wf, fun ss H1 s1 hss => ?_⟩
      refine ⟨ss, rfl, ⟨_, hss⟩, fun D hD => ?_⟩
      refine lc_it walk_tup (lcI H1 D ((x.srcs.map fun s => decide (s ∈ tk)).map V.bl)) (lcI0 hD) (fun i H' _ q => (Kp.of q.1).tup hss) ?_ ?_
      · rintro i y H2 H3 hi q ⟨rfl, hy⟩
        rw [List.getElem?_map] at hy
        cases e5 : x.srcs[i]? with
        | none =>
          rw [e5] at hy
          cases hy
        | some z =>
          rw [e5] at hy
          cases hy
          refine ⟨rfl, iteT (B := True) ⟨_, rfl, _, rfl, l, _, rfl, .inl ((s1.trans q.1).seq ht), rfl, all_flat _, ?_⟩⟩
          refine lc_step hD q.1 q.2 ?_ (by rw [List.length_map, List.length_map]; exact small1000 hl)
          rw [List.getElem?_map, List.getElem?_map, e5]
          show some (V.bl (decide (z ∈ tk))) = some (V.bl (inV (V.str z) (List.map V.str tk)))
          rw [in_dec]
      · intro H2 q
        obtain ⟨q1, q2⟩ := q.done (by rw [List.length_map, List.length_map, List.length_map])
        refine ⟨D, _, rfl, SqL.of q2, _, rfl, ?_⟩
        rw [List.any_map]
        exact k H2 (s1.trans q1)
theorem ok_dep {f : Addr} {fd : FuncData} (F : Fun K "depth_behind" "depth_behind" sDep f fd) (N : Nm mg) (c : Cl K mg C) (pp : Prp P w K mg base C "depth" "_depth") :
    FnOk P w K mg base CX0 3 f fd ["stage", "depth"] (spDep K C) := by
  obtain ⟨p, ga, gd, po, G, gb⟩ := pp
  refine F.ok scDep (fun vs H Q E h => ?_) (fun cdv A outer s H vs Q E hr h => ?_)
  · obtain ⟨v, x, d, rfl, _⟩ := h
    rfl
  · obtain ⟨v, x, d, rfl, hv, wf, k⟩ := h
    refine ⟨_, pss_cons (ps_set (i := 2) scDep.nd rfl (Or.inl rfl) (pe_ix ix_tup (pv 0) pe_int (fun _ _ => rfl)))
      (pss_cons (ps_if (pt_cmpR op_eq (pv 2) pe_str (nomark _)) (pss_one (ps_ret pe_int)) pss_nil)
      (pss_cons (ps_if (pt_cmpR op_eq (pv 2) pe_str (nomark _)) (pss_one (ps_ret (pe_op op_add (pv 1) pe_int))) pss_nil)
      (pss_cons (ps_if (pt_cmpR op_eq (pv 2) pe_str (nomark _)) (pss_one (ps_ret (pe_op op_sub (pv 1) pe_int))) pss_nil)
      (pss_cons (ps_if (pt_cmpR op_eq (pv 2) pe_str (nomark _)) (pss_one (ps_ret (pe_op op_add (pe_callB (call_min2 rfl) (by rfl) N.min boot_min' (pa_cons (pv 1) (pa_cons (pe_prop (pe_ix ix_tup (pv 0) pe_int (fun _ _ => rfl)) c.cl po G hr gb .nil pass0 rfl) pa_nil))) pe_int))) pss_nil)
      (pss_one (ps_ret (pv 1))))))), ?_⟩
    obtain ⟨a, r, rfl, ha⟩ := hv.at0
    refine ⟨_, rfl, a, _, _, .str x.kd, rfl, rfl, ha, at_of (j := 0) rfl rfl, _, rfl, rfl, _, rfl, ?_⟩
    have sk : ∀ {a b : Str}, V.str a = V.str b → a = b := fun h => V.str.inj h
    refine dif (fun e0 => ?_) (fun e0 => ?_)
    · cases x with
      | nm z n =>
        have : (Sg.nm z n).dep d = 0 := if_pos (sk e0)
        rw [this] at k
        exact k
      | num z n => exact absurd (sk e0) ((by decide +kernel : ∀ z ∈ K2, ¬ (z = "map")) _ wf)
      | flat => exact absurd (sk e0) (by decide +kernel : ¬ (("flat" : Str) = "map"))
      | zip p => exact absurd (sk e0) (by decide +kernel : ¬ (("zip" : Str) = "map"))
    refine ⟨_, rfl, rfl, _, rfl, ?_⟩
    refine dif (fun e1 => ?_) (fun e1 => ?_)
    · cases x with
      | nm z n => exact absurd (sk e1) ((by decide +kernel : ∀ z ∈ K1, ¬ (z = "lots")) _ wf)
      | num z n =>
        have : (Sg.num z n).dep d = d + 1 := if_pos (sk e1)
        rw [this] at k
        exact ⟨_, rfl, _, _, rfl, rfl, k⟩
      | flat => exact absurd (sk e1) (by decide +kernel : ¬ (("flat" : Str) = "lots"))
      | zip p => exact absurd (sk e1) (by decide +kernel : ¬ (("zip" : Str) = "lots"))
    refine ⟨_, rfl, rfl, _, rfl, ?_⟩
    refine dif (fun e2 => ?_) (fun e2 => ?_)
    · cases x with
      | nm z n => exact absurd (sk e2) ((by decide +kernel : ∀ z ∈ K1, ¬ (z = "flat")) _ wf)
      | num z n => exact absurd (sk e2) ((by decide +kernel : ∀ z ∈ K2, ¬ (z = "flat")) _ wf)
      | flat => exact ⟨_, rfl, _, _, rfl, rfl, k⟩
      | zip p => exact absurd (sk e2) (by decide +kernel : ¬ (("zip" : Str) = "flat"))
    refine ⟨_, rfl, rfl, _, rfl, ?_⟩
    refine dif (fun e3 => ?_) (fun e3 => ?_)
    · cases hv with
      | nm h => exact absurd (sk e3) ((by decide +kernel : ∀ z ∈ K1, ¬ (z = "zip")) _ wf)
      | num h => exact absurd (sk e3) ((by decide +kernel : ∀ z ∈ K2, ¬ (z = "zip")) _ wf)
      | flat h => exact absurd (sk e3) (by decide +kernel : ¬ (("flat" : Str) = "zip"))
      | zip h hp =>
        cases hp with
        | @mk a dx ts ss s l xs h1 h2 h3 h4 =>
          exact ⟨_, rfl, _, rfl, _, _, _, _, rfl, rfl, h, rfl, _, _, _, rfl, h1, _, _, _, _, rfl, h1, get_depth _ _ _ _, _, _, rfl, _, _, rfl, rfl, k⟩
    · cases x with
      | nm z n =>
        have : (Sg.nm z n).dep d = d := if_neg (fun e => e0 (congrArg V.str e))
        rw [this] at k
        exact ⟨_, rfl, k⟩
      | num z n =>
        have : (Sg.num z n).dep d = d := if_neg (fun e => e1 (congrArg V.str e))
        rw [this] at k
        exact ⟨_, rfl, k⟩
      | flat => exact absurd rfl e2
      | zip p => exact absurd rfl e3
end
end K81
set_option Elab.async false
set_option linter.all false
set_option maxRecDepth 100000
set_option maxHeartbeats 4000000
/-! enumerate of a tuple -/
namespace VK
open PySem PySem.Spec PyProof.Rows L2
section
open AutoSeq1 (wpAny_loadPart')
theorem new_enumT (a : Addr) (xs : Array Value) (n : Nat) (dd : Option Addr) (sl : Array (Option Value)) :
    Meets (Builtin.«enumerate.__new__» ⟨[.type "enumerate", .ref a], []⟩) (fun _ R s => s.heap.get? a = some { cls := .type "tuple", dict := dd, data := .seq xs n, slots := sl } ∧
      R (.ok (.ret (.ref (s.heap.push { cls := .type "tuple_iterator", data := .fields #[.ref a, .int 0 0] }).objs.size)))
        { s with heap := (s.heap.push { cls := .type "tuple_iterator", data := .fields #[.ref a, .int 0 0] }).push { cls := .type "enumerate", data := .fields #[.none, .bool false, .ref s.heap.objs.size, rawInt 0, .none, .none] } }) :=
  .of_wp fun prog w A R s h => by
    obtain ⟨hp, gs, dr, tk, os⟩ := s
    obtain ⟨ha, h⟩ := h
    have sub := sub_enumerate
    have hT : Heap.IsTuple (Shared.heap ⟨hp, gs, dr, tk, os⟩) a xs := ⟨_, ha, rfl, n, rfl⟩
    wp_walk using wpAny_loadPart' ha
    refine wpAny_stack_any fun below => wpAny_pure ?_
    split
    · rename_i c _ _ _ _ _
      cases (c == Value.type "enumerate") <;> (wp_walk using wpAny_loadPart' ha, wpAny_pyIter_tuple hT; exact ⟨_, rfl, h⟩)
    · wp_walk using wpAny_loadPart' ha, wpAny_pyIter_tuple hT
      exact ⟨_, rfl, h⟩
end
section
variable {prog : Program} {w : World} {A : Around} {E : Value → Shared → Prop} {s : Shared}
theorem call_enumT {a : Addr} {xs : Array Value} {Q : Value → Shared → Prop} (hT : s.heap.IsTuple a xs)
    (h : ∀ h', IsEnum h' (s.heap.objs.size + 1) s.heap.objs.size 0 .none → h'.IsTupleIter s.heap.objs.size a 0 →
      (∀ b o, s.heap.get? b = some o → h'.get? b = some o) → Q (.ref (s.heap.objs.size + 1)) { s with heap := h' }) :
    wpAny (model prog w) A (call (.type "enumerate") [.ref a]) Q E s := by
  obtain ⟨⟨cl, dd, dt, sl⟩, ha, hc, n, hd⟩ := hT
  cases (show cl = .type "tuple" from hc)
  cases (show dt = .seq xs n from hd)
  refine callType_new F.called_enumerate (by decide) (F.typeCall_enumerate_1 _) (F.newCall_enumerate_1 _) (fun ob => F.args_object_init_2 ob _) F.entry_enumerate_new (new_enumT a xs n dd sl) ⟨ha, ?_⟩
  generalize hI : s.heap.push { cls := .type "tuple_iterator", data := .fields #[.ref a, .int 0 0] } = hp1
  have z1 : hp1.objs.size = s.heap.objs.size + 1 := by rw [← hI, Heap.size_push]
  have k1 : ∀ b o, s.heap.get? b = some o → hp1.get? b = some o := fun b o e => by
    rw [← hI]
    exact Heap.get?_push_of_some _ e
  have it1 : hp1.get? s.heap.objs.size = some { cls := .type "tuple_iterator", data := .fields #[.ref a, .int 0 0] } := by
    rw [← hI]
    exact Heap.get?_push_size _ rfl
  have en := Heap.get?_push_size hp1 (o := { cls := .type "enumerate", data := .fields #[.none, .bool false, .ref s.heap.objs.size, rawInt 0, .none, .none] }) rfl
  show _ ∧ _
  rw [z1] at en ⊢
  exact ⟨⟨_, en, rfl⟩, h _ en ⟨_, Heap.get?_push_of_some _ it1, rfl, rfl⟩ fun b o e => Heap.get?_push_of_some _ (k1 b o e)⟩
end
/-- the tuple at a, each item in a new pair with its place -/
def IteT (K : PySem.W.Frag) (a : Addr) : It where
  go := fun i H => ∃ (xs : List V) (x : V), SqT K H a xs ∧ xs[i]? = some x
  yld := fun i H v H' => ∃ T x, v = .ref T ∧ H T = none ∧ H' = upd H T (.tup [.int (i : Nat), x]) ∧ ∀ xs, SqT K H a xs → xs[i]? = some x
  stop := fun i H => ∃ xs : List V, SqT K H a xs ∧ xs.length = i
theorem turn_enumT {P : Program} {w : World} {K : PySem.W.Frag} {elts : List Expr} {kk : Nat} {tpos : Pos} (a e it : Addr) :
    Turn P w K (.Tuple elts kk tpos) (IteT K a) [e, it] e (fun i h => (∃ old, IsEnum h e it ((i : Nat) : Int) old) ∧ h.IsTupleIter it a i ∧ e ≠ it) where
  mem := List.mem_cons_self
  obj := by
    rintro i h ⟨⟨old, he⟩, ⟨o, ho, hc, hd⟩, _⟩ b hb
    rcases List.mem_cons.mp hb with z | hb
    · subst z
      exact ⟨_, he, fun v q => nomatch q⟩
    · exact ⟨o, by rw [List.mem_singleton.mp hb]; exact ho, fun v q => by rw [hd] at q; cases q⟩
  keep := by
    rintro i h h' ⟨⟨old, he⟩, hi, hne⟩ k
    exact ⟨⟨old, k e List.mem_cons_self _ he⟩, hi.at fun o q => k it (List.mem_cons_of_mem _ List.mem_cons_self) o q, hne⟩
  item := by
    intro X hP hw hK hc i pins s σ H E I hf st hg
    subst hP hw hK
    obtain ⟨⟨old, he⟩, hit, hne⟩ := st
    obtain ⟨xs, x, hq, hx⟩ := hg
    obtain ⟨its, rv, p, hz⟩ := I.tuple hq
    obtain ⟨u, hu, ru⟩ := rv.get hx
    have hel : e < s.heap.objs.size := Heap.lt_size he
    have hil : it < s.heap.objs.size := by
      obtain ⟨_, q, _⟩ := hit
      exact Heap.lt_size q
    have nit : a ≠ it := by
      rintro rfl
      obtain ⟨o1, e1, c1, _⟩ := hit
      obtain ⟨o2, e2, c2, _⟩ := p
      rw [e1] at e2
      cases e2
      rw [c1] at c2
      injection c2 with c3
      exact absurd c3 (by decide)
    have nea : e ≠ a := by
      rintro rfl
      obtain ⟨o2, e2, c2, _⟩ := p
      rw [he] at e2
      cases e2
      injection c2 with c3
      exact absurd c3 (by decide)
    have hlt : i < its.toArray.size := by
      have h1 := (List.getElem?_eq_some_iff.mp hu).1
      rw [List.size_toArray]
      exact h1
    refine wpAny_pyNext_enum_itemD (Draws.tuple (A := X.A.in1) (I.ok.hd hc) it a nit its.toArray) he ⟨hit, p⟩ hlt hne (fun hm => ?_) fun x' h' tk hx' ho st' hT hsz hk => ?_
    · rcases List.mem_cons.mp hm with z | z
      · exact hne z
      · exact nea (List.mem_singleton.mp z)
    have ux : x' = u := by
      have h1 : its.toArray[i]? = some u := by rw [List.getElem?_toArray]; exact hu
      rw [hx'] at h1
      exact Option.some.inj h1
    subst ux
    refine ⟨_, rfl, wpAny_letOwnedTupleGo_enum (s := { s with heap := h', toks := tk + 1 }) ho fun h2 he' sb => ?_⟩
    have hT2 : h2.get? s.heap.objs.size = some { cls := .type "tuple", data := .seq #[.int i tk, x'] } := (sb.2 _ (Nat.ne_of_gt hel)).trans hT
    have new : ObjOk X.prog X.w (upd H s.heap.objs.size (.tup [.int (i : Nat), x])) h2 s.heap.objs.size (.tup [.int (i : Nat), x]) :=
      ⟨by show 2 ≤ sizeLine; decide, [.int i tk, x'], .cons ⟨_, rfl⟩ (.cons ru .nil), ⟨_, hT2, rfl, _, rfl⟩⟩
    have old' : ∀ b o, b ∉ [e, it] → s.heap.get? b = some o → h2.get? b = some o := fun b o hb q => by
      have be : b ≠ e := fun z => hb (by rw [z]; exact List.mem_cons_self)
      have bi : b ≠ it := fun z => hb (by rw [z]; exact List.mem_cons_of_mem _ List.mem_cons_self)
      exact (sb.2 b be).trans (hk b o be bi q)
    have I1 := I.turnedNew (t' := tk + 1) (ch := [e, it]) old' hf (Nat.le_refl _) new
    refine ⟨.ref s.heap.objs.size, _, I1, rfl, ⟨_, x, rfl, I.hok.fresh (Nat.le_refl _), rfl, fun ys hy => by rw [I.tuple_inj hy hq]; exact hx⟩, ⟨⟨x', ?_⟩, st'.1.at fun o q => (sb.2 it (Ne.symm hne)).trans q, hne⟩, fun b hb => ?_⟩
    · rw [show ((i + 1 : Nat) : Int) = (i : Int) + 1 from by omega]
      exact he'
    · have lt : b < s.heap.objs.size := by
        rcases List.mem_cons.mp hb with z | z
        · rw [z]; exact hel
        · rw [List.mem_singleton.mp z]; exact hil
      rw [upd_ne (Nat.ne_of_lt lt)]
      exact (hf b hb).1
  done := by
    intro X hP hw hK hc i pins s σ H E I hf st hg
    subst hP hw hK
    obtain ⟨⟨old, he⟩, hit, hne⟩ := st
    obtain ⟨xs, hq, hx⟩ := hg
    obtain ⟨its, rv, p, hz⟩ := I.tuple hq
    obtain ⟨f0, f1, f2, f3, f4, f5⟩ := hf it (List.mem_cons_of_mem _ List.mem_cons_self)
    have nit : a ≠ it := by
      rintro rfl
      obtain ⟨o1, e1, c1, _⟩ := hit
      obtain ⟨o2, e2, c2, _⟩ := p
      rw [e1] at e2
      cases e2
      rw [c1] at c2
      injection c2 with c3
      exact absurd c3 (by decide)
    have len : its.toArray.size = i := by rw [List.size_toArray, ← rv.length]; exact hx
    subst len
    exact wpAny_pyNext_enum_endD (Draws.tuple (A := X.A.in1) (I.ok.hd hc) it a nit its.toArray) he ⟨hit, p⟩ fun h' eb =>
      ⟨rfl, I.turned (t' := s.toks) (fun b o hb q => eb b o hb q) f0 f1 f3 f4 f5⟩
  self := fun A i s Q E st h => wpAny_pyIter_enum st.1.choose_spec h
/-- enumerate of a list or a tuple -/
def iEnumA (K : PySem.W.Frag) (ta : TA) : TI := fun σ H R => ta σ H fun vs H1 => ∃ a xs, vs = [.ref a] ∧ ∃ J : It, ((SqL K H1 a xs ∧ J = Ite K a) ∨ (SqT K H1 a xs ∧ J = IteT K a)) ∧ R J H1
theorem pi_enumA {X : Cx} {e : Expr} {ta : TA} {p pos tpos : Pos} {elts : List Expr} {kk : Nat} (hg : Gl X "enumerate") (hm : X.mg "enumerate" = none) (ha : PA X [e] ta)
    (hs : starEach [e] X.env = [(false, eval e X.env)] := by rfl) : PI X (.Tuple elts kk tpos) (.Call (.Name "enumerate" p) [e] [] pos) (iEnumA X.K ta) := by
  refine ⟨fun pins s σ H R I h => Call_ (ld_blt I hg hm boot_enumerate (PyProof.Rows.callWith_type1 (thn (ha.run pos pins s σ H _ I h) fun us s1 hh => ?_) hs rfl))⟩
  obtain ⟨vs, H1, I1, r1, a, xs, rfl, J, q1, q⟩ := hh
  cases r1 with
  | cons r rr =>
    cases rr
    cases r
    have fr : ∀ b, b ∈ [s1.heap.objs.size + 1, s1.heap.objs.size] → FpOk X pins H1 b := fun b hb => by
      have le : s1.heap.objs.size ≤ b := by
        rcases List.mem_cons.mp hb with z | z
        · rw [z]; exact Nat.le_succ _
        · rw [List.mem_singleton.mp z]; exact Nat.le_refl _
      exact I1.fpOk le (I1.hok.fresh le)
    rcases q1 with ⟨hq, rfl⟩ | ⟨hq, rfl⟩
    · obtain ⟨its, rv, p', hz⟩ := I1.list hq
      refine call_enumerate_list p'.isList fun h' he hit hsz hk => wpAny_pyIter_enum he ?_
      exact ⟨_, _, _, _, H1, rfl, I1.kept (t' := s1.toks) hk, turn_enum a _ _, ⟨⟨.none, he⟩, hit, Nat.succ_ne_self _⟩, fr, q⟩
    · obtain ⟨its, rv, p', hz⟩ := I1.tuple hq
      refine call_enumT p' fun h' he hit hk => wpAny_pyIter_enum he ?_
      exact ⟨_, _, _, _, H1, rfl, I1.kept (t' := s1.toks) hk, turn_enumT a _ _, ⟨⟨.none, he⟩, hit, Nat.succ_ne_self _⟩, fr, q⟩
theorem walk_enumT {K : PySem.W.Frag} {a : Addr} {xs : List V} : Walk (IteT K a) xs.length (fun H => SqT K H a xs) (YPair (fun i => some (.int (i : Nat))) (fun i => xs[i]?)) := by
  refine ⟨fun i _ hi q => ⟨xs, xs[i], q, List.getElem?_eq_getElem hi⟩, fun _ q => ⟨xs, q, rfl⟩, fun i H v H' _ q y => ?_⟩
  obtain ⟨T, x, h1, h2, h3, h4⟩ := y
  exact ⟨T, .int (i : Nat), x, h1, h2, h3, rfl, h4 xs q⟩
end VK
set_option Elab.async false
set_option linter.all false
set_option maxRecDepth 100000
set_option maxHeartbeats 4000000
/-! list.extend by a tuple -/
namespace VK
open PySem PySem.Spec PyProof.Rows L2
section
open AutoSeq1
theorem ext_meets (l : Addr) (its : Array Value) (n : Nat) (b : Addr) (ys : Array Value) (n2 : Nat) (dd : Option Addr) (sl : Array (Option Value))
    (h0 : ¬(!its.isEmpty && Builtin.List.listTooLong (its.size + ys.size)) = true) (h1 : its.size ≤ sizeLine) (h2 : its.size + ys.size ≤ sizeLine + 1) :
    Meets (Builtin.«list.extend» ⟨[.ref l, .ref b], []⟩) (fun _ R s => s.heap.get? l = some { cls := .type "list", dict := none, data := .seq its n, slots := #[] } ∧
      s.heap.get? b = some { cls := .type "tuple", dict := dd, data := .seq ys n2, slots := sl } ∧ R (.ok (.ret Value.none)) { s with heap := s.heap.update l (Obj.mapSeq fun x => x ++ ys), toks := s.toks }) :=
  .of_wp fun prog w A R s h => by
    obtain ⟨hp, gs, dr, tk, os⟩ := s
    obtain ⟨hl, hb, h⟩ := h
    have g1 := idx_int
    have g2 := AutoSeq1.sub_tuple_tuple
    have g3 := AutoSeq1.sub_list_list
    have g4 := AutoSeq1.sub_tuple_list
    have g5 := AutoSeq1.sub_list_tuple
    have hz : (its ++ ys).size ≤ sizeLine + 1 := by rw [Array.size_append]; exact h2
    wp_walk using (wpAny_updateSeq hl rfl (hz := h1) (_hz' := hz)), wpAny_loadPart' hl, wpAny_loadPart' hb
    exact ⟨_, rfl, h⟩
end
def rExtT (K : PySem.W.Frag) : V → List V → Hp → VK → Prop := fun x vs H Q => ∃ l b xs zs, x = .ref l ∧ vs = [.ref b] ∧ H l = some (.lst xs) ∧ SqT K H b zs ∧ xs.length + zs.length ≤ sizeLine ∧ Q .non (upd H l (.lst (xs ++ zs)))
theorem mt_extT {X : Cx} : MtM X "list.extend" (rExtT X.K) := by
  intro pins s σ H x vs v us Q I rx rv h
  obtain ⟨l, b, xs, zs, rfl, rfl, hH, hB, hz, q⟩ := h
  cases rx
  obtain ⟨u, rfl, ru⟩ := rv.one
  cases ru
  obtain ⟨z, its, n, r, hl, e⟩ := I.lstM hH
  obtain ⟨ys, r2, ⟨⟨cl, dd, dt, sl⟩, e2, hc, n2, hd⟩, hl2⟩ := I.tuple hB
  cases (show cl = .type "tuple" from hc)
  cases (show dt = .seq ys.toArray n2 from hd)
  have l1 := r.length
  have l2 := r2.length
  have hsz : its.toArray.size + ys.toArray.size ≤ sizeLine := by rw [List.size_toArray, List.size_toArray]; omega
  have short : ¬ (!its.toArray.isEmpty && Builtin.List.listTooLong (its.toArray.size + ys.toArray.size)) = true := by
    rw [notLongL hsz, Bool.and_false]
    exact Bool.false_ne_true
  refine call_meets F.slot_list_extend ⟨_, e, rfl⟩ F.entry_list_extend (F.args_list_extend_2 _ _) (ext_meets l its.toArray n b ys.toArray n2 dd sl short (by rw [List.size_toArray]; omega) (by omega)) ⟨e, e2, ?_⟩
  exact ⟨.non, _, I.lset (its' := its ++ ys) hH e (by simp) (r.append r2) (by rw [List.length_append]; exact hz), rfl, q⟩
end VK
set_option Elab.async false
set_option linter.all false
set_option maxRecDepth 100000
set_option maxHeartbeats 4000000
namespace K81
open PySem L2 VK
abbrev sI1 : Stmt := inClass (top 4) 0
abbrev sI2 : Stmt := inClass (top 5) 0
abbrev sInit : Stmt := inClass (top 24) 0
/-- __init__ of an own error with one field -/
def spErr (C : Addr) (f : Str) : Sp := fun vs H Q _ => ∃ (a : Addr) (v : V), vs = [.ref a, v] ∧ H a = some (exo a C none) ∧
  ∀ dx, H dx = none → dx ≠ a → Q .non (upd (upd H dx (exd dx [(f, v)])) a (exo a C (some dx)))
theorem read_raise {C : Addr} {f : Str} {x : V} {H1 : Hp} {R : Addr → Hp → Prop}
    (k : ∀ d H', H1 d = none → Same H1 H' → H' d = some (.xd [(f, x)]) → R d H') (a : Addr) (ha : H1 a = none) :
    spErr C f [.ref a, x] (upd H1 a (exo a C none)) (fun v H2 => v = .non ∧ ∃ (d : Addr) (fs : List (Str × V)), H2 a = some (exo a C (some d)) ∧ H2 d = some (exd d fs) ∧ H1 d = none ∧ R d (upd (del H2 a) d (.xd fs))) fun _ _ _ => False := by
  refine ⟨a, x, rfl, upd_same, fun dx hd hne => ?_⟩
  have h1d : H1 dx = none := by rw [upd_ne hne] at hd; exact hd
  refine ⟨rfl, dx, [(f, x)], upd_same, by rw [upd_ne hne, upd_same], h1d, k dx _ h1d (fun b o e => ?_) upd_same⟩
  have n1 : b ≠ a := ne_of_none e ha
  have n2 : b ≠ dx := ne_of_none e h1d
  rw [upd_ne n2, del_ne n1, upd_ne n1, upd_ne n2, upd_ne n1]
  exact e
structure ErrC (K : Fg) (mg : Str → Option Value) (name qual f : Str) (st : Stmt) (C fI : Addr) (fd : FuncData) : Prop where
  g : mg name = some (.ref C)
  ox : OexC K C
  xf : XfC K C
  no : PySem.W.findIn K (.ref C) f = some none
  ini : PySem.W.findIn K (.ref C) "__init__" = some (some (.ref fI))
  tyI : PySem.W.typeIn K (.ref fI) = some (.type "function")
  fn : Fun K "__init__" qual st fI fd
  bd : Binds K fd ["self", f] []
/-- a def with a default -/
structure FunD (K : Fg) (x qual : Str) (st : Stmt) (f : Addr) (fd : FuncData) : Prop where
  ex : ∃ (oc : Value) (od : Option Addr) (dV kV doc pm : Value) (an : Option Addr) (cdv ct : Value) (osl : Array (Option Value)),
    fd = PySem.W.fnOf x qual (defArgs st) (defBody st) (defScope st) dV kV doc pm an cdv ct ∧ K.lookup f = some ⟨oc, od, .func fd, osl⟩ ∧ PySem.W.codeIn K cdv qual = true
theorem FunD.okX {P : Program} {w : World} {K : Fg} {mg : Str → Option Value} {base : Heap} {x qual : Str} {st : Stmt} {f : Addr} {fd : FuncData} {N ps : List Str} {k : Nat} {sp : Sp} (F : FunD K x qual st f fd) (S : FnScope N ps (defScope st))
    (len : ∀ vs H Q E, sp vs H Q E → vs.length = ps.length)
    (hb : ∀ (cdv : Value) (A : Around) (outer : List Env) (s : Shared) (H : Hp) (vs : List V) (Q : VK) (E : XK), Room k (A.deeper (PyProof.Rows.envOfC qual (defScope st) s.heap.objs.size f cdv)) → sp vs H Q E →
      ∃ t, PSs (cxOf (L2.CX P w) P w K mg base N qual (defScope st) f cdv A outer s H E) (defBody st) t ∧ t { nx := fun _ H' => Q .non H', rt := Q } (start N vs) H) : FnOk P w K mg base (L2.CX P w) (k + 1) f fd ps sp := by
  obtain ⟨oc, od, dV, kV, doc, pm, an, cdv, ct, osl, rfl, lk, hcd⟩ := F.ex
  exact fn_of lk hcd S len fun A outer s H vs Q E hr q => hb cdv A outer s H vs Q E hr q
/-! ### what stands in a row of stages, from a depth and sources on -/
def Sg.vd : Sg → Prop
  | .nm k n => k ∈ K1 ∧ isNm n = true
  | .num k n => k ∈ K2 ∧ okNum n = true
  | _ => True
theorem Sg.vd.wf {x : Sg} (h : x.vd) : x.wf := by
  cases x with
  | nm k n => exact h.1
  | num k n => exact h.1
  | flat => trivial
  | zip p => trivial
abbrev Out := Sum (Int × List Str) Nat
inductive Rest (K : Fg) (C : Addr) (H : Hp) : Int → List Str → Nat → List V → Out → Prop where
  | nil {d : Int} {tk : List Str} {i : Nat} : Rest K C H d tk i [] (.inl (d, tk))
  | go {d : Int} {tk : List Str} {i : Nat} {v : V} {vs : List V} {x : Sg} {o : Out} (h : StV K C H v x) (w : x.vd) (l : x.srcs.length ≤ 1000) (c : x.can d tk = true) (r : Rest K C H (x.dep d) (tk ++ x.srcs) (i + 1) vs o) : Rest K C H d tk i (v :: vs) o
  | bad {d : Int} {tk : List Str} {i : Nat} {v : V} {vs : List V} (h : IsSt K C H v false) : Rest K C H d tk i (v :: vs) (.inr i)
  | cant {d : Int} {tk : List Str} {i : Nat} {v : V} {vs : List V} {x : Sg} (h : StV K C H v x) (w : x.vd) (l : x.srcs.length ≤ 1000) (c : x.can d tk = false) : Rest K C H d tk i (v :: vs) (.inr i)
/-- all but x stays -/
def Bx (x : Addr) (H H' : Hp) : Prop := ∀ b o, b ≠ x → H b = some o → H' b = some o
def spInit (K : Fg) (C CB CL : Addr) : Sp := fun vs H Q E => ∃ (x dx : Addr) (s : Str) (st : Addr) (xs : List V), vs = [.ref x, .str s, .ref st] ∧ H x = some (.ins C dx []) ∧ s ∈ K0 ∧ (SqL K H st xs ∨ SqT K H st xs) ∧
  ((xs.length ≤ 6 ∧ ∃ o : Out, Rest K C H 0 [s] 0 xs o ∧ match o with
      | .inl (d, tk) => ∀ (H' : Hp) (ts ss : Addr), Bx x H H' → H' x = some (.ins C dx (flds s ts ss d)) → SqT K H' ts xs → SqT K H' ss (tk.map V.str) → Q .non H'
      | .inr p => ∀ (H' : Hp) (e : Addr), H e = none → Same H H' → H' e = some (.xd [("position", .int (p : Nat))]) → E (.ref CB) (some e) H') ∨
   (6 < xs.length ∧ ∀ (H' : Hp) (e : Addr), H e = none → Same H H' → H' e = some (.xd [("value", .ref st)]) → E (.ref CL) (some e) H'))
theorem scI1 : FnScope ["self", "value"] ["self", "value"] (defScope sI1) := ⟨rfl, rfl, rfl, by decide +kernel, rfl, by decide +kernel, by decide +kernel⟩
theorem scI2 : FnScope ["self", "position"] ["self", "position"] (defScope sI2) := ⟨rfl, rfl, rfl, by decide +kernel, rfl, by decide +kernel, by decide +kernel⟩
theorem scInit : FnScope ["self", "source", "stages", "sources", "depth", "position", "stage"] ["self", "source", "stages"] (defScope sInit) := ⟨rfl, rfl, rfl, by decide +kernel, rfl, by decide +kernel, by decide +kernel⟩
theorem walk_l {K : Fg} {st : Addr} {xs : List V} {H1 : Hp} (h : SqL K H1 st xs) : ∃ G : Hp → Prop, Walk (Ite K st) xs.length G (YPair (fun i => some (.int (i : Nat))) (fun i => xs[i]?)) ∧ ∀ H', Same H1 H' → G H' := ⟨_, walk_enum, fun H' s => s.seq h⟩
theorem walk_t {K : Fg} {st : Addr} {xs : List V} {H1 : Hp} (h : SqT K H1 st xs) : ∃ G : Hp → Prop, Walk (IteT K st) xs.length G (YPair (fun i => some (.int (i : Nat))) (fun i => xs[i]?)) ∧ ∀ H', Same H1 H' → G H' := ⟨_, walk_enumT, fun H' s => (Kp.of s).tup h⟩
theorem len_put {f : Str} {v : V} {fs : List (Str × V)} {n : Nat} (h : fs.length ≤ n) : (putF f v fs).length ≤ n + 1 := Nat.le_trans (length_putF f v fs) (Nat.add_le_add_right h 1)
theorem tup_either {K : Fg} {st : Addr} {xs : List V} {H1 : Hp} {Q : VK} (h : SqL K H1 st xs ∨ SqT K H1 st xs) (k : ∀ (t : Addr) (H' : Hp), Same H1 H' → SqT K H' t xs → Q (.ref t) H') : kTup K (.ref st) H1 Q := by
  rcases h with h | h
  · exact .inl ⟨_, _, rfl, h, fun t ht => k t _ (same_new ht) (.inl (.inl upd_same))⟩
  · exact .inr ⟨_, _, rfl, h, k _ _ (Same.refl _) h⟩
theorem sq_same {K : Fg} {st : Addr} {xs : List V} {H H' : Hp} (s : Same H H') (h : SqL K H st xs ∨ SqT K H st xs) : SqL K H' st xs ∨ SqT K H' st xs := h.elim (fun h => .inl (s.seq h)) fun h => .inr ((Kp.of s).tup h)
theorem Bx.of {x : Addr} {H H' : Hp} (s : Same H H') : Bx x H H' := fun b o _ e => s b o e
theorem Bx.trans {x : Addr} {H H1 H2 : Hp} (a : Bx x H H1) (b : Bx x H1 H2) : Bx x H H2 := fun c o n e => b c o n (a c o n e)
theorem Bx.upd {x : Addr} {H : Hp} {o : HO} : Bx x H (upd H x o) := fun b u n e => by rw [upd_ne n]; exact e
theorem Bx.sq {K : Fg} {x st C dx : Addr} {fs : List (Str × V)} {xs : List V} {H H' : Hp} (s : Bx x H H') (hx : H x = some (.ins C dx fs)) (h : SqL K H st xs ∨ SqT K H st xs) : SqL K H' st xs ∨ SqT K H' st xs := by
  have ne : ∀ {o : HO}, H st = some o → (∀ C dx fs, o ≠ .ins C dx fs) → st ≠ x := fun {o} e n z => by
    rw [z, hx] at e
    exact n _ _ _ (Option.some.inj e).symm
  rcases h with ((h | ⟨o, h⟩) | h) | ((h | ⟨o, h⟩) | h)
  · exact .inl (.inl (.inl (s _ _ (ne h fun _ _ _ z => by cases z) h)))
  · exact .inl (.inl (.inr ⟨o, s _ _ (ne h fun _ _ _ z => by cases z) h⟩))
  · exact .inl (.inr h)
  · exact .inr (.inl (.inl (s _ _ (ne h fun _ _ _ z => by cases z) h)))
  · exact .inr (.inl (.inr ⟨o, s _ _ (ne h fun _ _ _ z => by cases z) h⟩))
  · exact .inr (.inr h)
theorem Bx.tup {K : Fg} {x st C dx : Addr} {fs : List (Str × V)} {xs : List V} {H H' : Hp} (s : Bx x H H') (hx : H x = some (.ins C dx fs)) (h : SqT K H st xs) : SqT K H' st xs := by
  have ne : ∀ {o : HO}, H st = some o → (∀ C dx fs, o ≠ .ins C dx fs) → st ≠ x := fun {o} e n z => by
    rw [z, hx] at e
    exact n _ _ _ (Option.some.inj e).symm
  rcases h with (h | ⟨o, h⟩) | h
  · exact (.inl (.inl (s _ _ (ne h fun _ _ _ z => by cases z) h)))
  · exact (.inl (.inr ⟨o, s _ _ (ne h fun _ _ _ z => by cases z) h⟩))
  · exact (.inr h)
theorem tySq {K : Fg} {st : Addr} {xs : List V} {H : Hp} (h : SqL K H st xs ∨ SqT K H st xs) : ∃ t, TyX K H (.ref st) (.type t) ∧ PySem.W.kitAny K (.type t) [.type "list", .type "tuple"] = some true := by
  have l1 : PySem.W.kitOne K (.type "list") (.type "list") = some true := kit_ty (by decide +kernel)
  have l2 : PySem.W.kitOne K (.type "tuple") (.type "list") = some false := kit_ty (by decide +kernel)
  have l3 : PySem.W.kitOne K (.type "tuple") (.type "tuple") = some true := kit_ty (by decide +kernel)
  rcases h with ((h | ⟨o, h⟩) | ⟨o, _, _, e, c, _⟩) | h
  · exact ⟨_, .base (.lst h), by unfold PySem.W.kitAny; rw [l1]⟩
  · exact ⟨_, .base (.frz h), by unfold PySem.W.kitAny; rw [l1]⟩
  · exact ⟨_, .kList e c, by unfold PySem.W.kitAny; rw [l1]⟩
  · refine ⟨_, tyT h, ?_⟩
    unfold PySem.W.kitAny
    rw [l2]
    show PySem.W.kitAny K (.type "tuple") [.type "tuple"] = some true
    unfold PySem.W.kitAny
    rw [l3]
theorem isSt_of {K : Fg} {mg : Str → Option Value} {C : Addr} {H : Hp} {v : V} {x : Sg} (c : Cl K mg C) (h : StV K C H v x) (w : x.vd) : IsSt K C H v true := by
  cases h with
  | @nm a k n h =>
    have e := Det.nm (K := K) (C := C) (H := H) w.1 (isNm_len w.2)
    rw [w.2] at e
    exact .two h e
  | @num a k n h =>
    have e := Det.num (K := K) (C := C) (H := H) (i := n) w.1
    rw [w.2] at e
    exact .two h e
  | @flat a h =>
    have e := IsSt.one (C := C) h
    rw [decide_eq_true rfl] at e
    exact e
  | @zip a v p h hp =>
    cases hp with
    | mk h1 h2 h3 h4 => exact .two h (.zip (c.ty h1) c.kc)
theorem Det.same {K : Fg} {C : Addr} {H H' : Hp} {k : Str} {d : V} {b : Bool} (e : Det K C H k d b) (s : Same H H') : Det K C H' k d b := by
  cases e with
  | nm hk l => exact .nm hk l
  | num hk => exact .num hk
  | zip ty kt => exact .zip (TyX.same ty s) kt
  | numN hk ty kb kc e => exact .numN hk (TyX.same ty s) kb kc e
  | oth h1 h2 h3 => exact .oth h1 h2 h3
theorem IsSt.same {K : Fg} {C : Addr} {H H' : Hp} {v : V} {b : Bool} (h : IsSt K C H v b) (s : Same H H') : IsSt K C H' v b := by
  cases h with
  | other ty kt => exact .other (TyX.same ty s) kt
  | none h => exact .none ((Kp.of s).tup h)
  | one h => exact .one ((Kp.of s).tup h)
  | two h e => exact .two ((Kp.of s).tup h) (e.same s)
  | long h l => exact .long ((Kp.of s).tup h) l
/-- the module: what is written at its top -/
structure Lb (K : Fg) (mg : Str → Option Value) (A I : Nat → Addr) (D J : Nat → FuncData) (aS a1 a2 C : Addr) : Prop where
  N : Nm mg
  Z : Cst K mg aS a1 a2
  c : Cl K mg C
  e3 : ErrC K mg "BadStages" "BadStages.__init__" "value" sI1 (A 3) (I 3) (J 3)
  e4 : ErrC K mg "BadStage" "BadStage.__init__" "position" sI2 (A 4) (I 4) (J 4)
  p1 : ∀ (P : Program) (w : World) (base : Heap), Prp P w K mg base C "source" "_source"
  p2 : ∀ (P : Program) (w : World) (base : Heap), Prp P w K mg base C "stages" "_stages"
  p3 : ∀ (P : Program) (w : World) (base : Heap), Prp P w K mg base C "sources" "_sources"
  p4 : ∀ (P : Program) (w : World) (base : Heap), Prp P w K mg base C "depth" "_depth"
  g13 : mg "is_integer" = some (.ref (A 13))
  F13 : Fun K "is_integer" "is_integer" sIsInt (A 13) (D 13)
  b13 : Binds K (D 13) ["value"] []
  g14 : mg "is_name" = some (.ref (A 14))
  F14 : Fun K "is_name" "is_name" sIsName (A 14) (D 14)
  b14 : Binds K (D 14) ["value"] []
  g15 : mg "is_stage_number" = some (.ref (A 15))
  F15 : Fun K "is_stage_number" "is_stage_number" sIsNum (A 15) (D 15)
  b15 : Binds K (D 15) ["value"] []
  g16 : mg "is_stage" = some (.ref (A 16))
  F16 : Fun K "is_stage" "is_stage" sIsStage (A 16) (D 16)
  b16 : Binds K (D 16) ["value"] []
  g17 : mg "sources_of_stage" = some (.ref (A 17))
  F17 : Fun K "sources_of_stage" "sources_of_stage" sSrcs (A 17) (D 17)
  b17 : Binds K (D 17) ["stage"] []
  g18 : mg "can_stand" = some (.ref (A 18))
  F18 : Fun K "can_stand" "can_stand" sCan (A 18) (D 18)
  b18 : Binds K (D 18) ["stage", "depth", "sources"] []
  g19 : mg "depth_behind" = some (.ref (A 19))
  F19 : Fun K "depth_behind" "depth_behind" sDep (A 19) (D 19)
  b19 : Binds K (D 19) ["stage", "depth"] []
  g20 : mg "is_position" = some (.ref (A 20))
  F20 : Fun K "is_position" "is_position" sIsPos (A 20) (D 20)
  b20 : Binds K (D 20) ["value", "many"] []
  g21 : mg "are_positions" = some (.ref (A 21))
  F21 : Fun K "are_positions" "are_positions" sArePos (A 21) (D 21)
  b21 : Binds K (D 21) ["value", "many"] []
section
variable {P : Program} {w : World} {K : Fg} {mg : Str → Option Value} {base : Heap} {A I : Nat → Addr} {D J : Nat → FuncData} {aS a1 a2 C : Addr}
theorem Lb.o16 (L : Lb K mg A I D J aS a1 a2 C) : FnOk P w K mg base CX0 3 (A 16) (D 16) ["value"] (spIsStage K C) :=
  ok_isStage L.F16 L.N L.Z L.c L.g13 L.F13 L.b13 L.g14 L.F14 L.b14 L.g15 L.F15 L.b15
theorem Lb.o17 (L : Lb K mg A I D J aS a1 a2 C) : FnOk P w K mg base CX0 3 (A 17) (D 17) ["stage"] (spSrcs K C) := ok_srcs L.F17 L.c (L.p3 _ _ _)
theorem Lb.o18 (L : Lb K mg A I D J aS a1 a2 C) : FnOk P w K mg base CX0 4 (A 18) (D 18) ["stage", "depth", "sources"] (spCan K C) := ok_can L.F18 L.N L.c (L.p3 _ _ _) L.g17 L.F17 L.b17
theorem Lb.o19 (L : Lb K mg A I D J aS a1 a2 C) : FnOk P w K mg base CX0 3 (A 19) (D 19) ["stage", "depth"] (spDep K C) := ok_dep L.F19 L.N L.c (L.p4 _ _ _)
theorem Lb.i3 (L : Lb K mg A I D J aS a1 a2 C) : FnOk P w K mg base CX0 1 (I 3) (J 3) ["self", "value"] (spErr (A 3) "value") := by
  refine L.e3.fn.ok scI1 (fun vs H Q E h => ?_) (fun cdv B outer s H vs Q E hr h => ?_)
  · obtain ⟨a, v, rfl, _⟩ := h
    rfl
  · obtain ⟨a, v, rfl, ha, k⟩ := h
    exact ⟨_, pss_one (ps_ost (pv 0) (pv 1)), _, rfl, _, rfl, a, _, rfl, L.e3.ox, L.e3.no, .inl ⟨ha, k⟩⟩
theorem Lb.i4 (L : Lb K mg A I D J aS a1 a2 C) : FnOk P w K mg base CX0 1 (I 4) (J 4) ["self", "position"] (spErr (A 4) "position") := by
  refine L.e4.fn.ok scI2 (fun vs H Q E h => ?_) (fun cdv B outer s H vs Q E hr h => ?_)
  · obtain ⟨a, v, rfl, _⟩ := h
    rfl
  · obtain ⟨a, v, rfl, ha, k⟩ := h
    exact ⟨_, pss_one (ps_ost (pv 0) (pv 1)), _, rfl, _, rfl, a, _, rfl, L.e4.ox, L.e4.no, .inl ⟨ha, k⟩⟩
theorem ok_init {f : Addr} {fd : FuncData} (F : FunD K "__init__" "Program.__init__" sInit f fd) (L : Lb K mg A I D J aS a1 a2 C) :
    FnOk P w K mg base (L2.CX P w) 5 f fd ["self", "source", "stages"] (spInit K C (A 4) (A 3)) := by
  refine F.okX scInit (fun vs H Q E h => ?_) (fun cdv B outer s H vs Q E hr h => ?_)
  · obtain ⟨x, dx, s, st, xs, rfl, _⟩ := h
    rfl
  · obtain ⟨x, dx, s, st, xs, rfl, hx, hs, hst, k⟩ := h
    have hr3 := hr.mono (show 3 ≤ 4 by decide)
    have hr2 := hr.mono (show 2 ≤ 4 by decide)
    obtain ⟨tm, hm⟩ := L.Z.most
    refine ⟨_, pss_cons (ps_if (pt_cmpR op_notIn_seq (pv 1) (pe_glob (v := .ref aS) rfl L.Z.gS rfl) rfl) pss_never pss_nil)
      (pss_cons (ps_if (PW.pt (pw_or (pt_not (pt_val (pe_callB call_isiT (by rfl) L.N.isi PyProof.Rows.boot_isinstance (pa_cons (pv 2) (pa_cons (pe_tup (pa_cons (pe_bltn (v := .ty "list") (by rfl) L.N.lst PyProof.Rows.boot_list rfl)
            (pa_cons (pe_bltn (v := .ty "tuple") (by rfl) L.N.tup boot_tup' rfl) pa_nil))) pa_nil)))))
          (pw_or1 (pt_cmpR op_gt (pe_callB call_len_seq (by rfl) L.N.len PySem.boot_len (pa_cons (pv 2) pa_nil)) (pe_glob (v := .int 6) rfl hm ⟨_, rfl⟩) (nomark _)))))
        (pss_one (ps_raise rfl (takes_of rfl rfl rfl rfl) (pmk_oex L.e3.ox L.e3.ini L.e3.tyI L.i3 hr2 L.e3.bd .nil pass0 rfl L.e3.g (pa_cons (pv 2) pa_nil)))) pss_nil)
      (pss_cons (ps_set (i := 3) scInit.nd rfl (Or.inl rfl) (pe_lst (pa_cons (pv 1) pa_nil)))
      (pss_cons (ps_set (i := 4) scInit.nd rfl (Or.inl rfl) pe_int)
      (pss_cons (ps_for (passes_of rfl) rfl (pi_enumA (by rfl) L.N.enm (pa_cons (pv 2) pa_nil))
          (pg_tup rfl (pgs_cons (pg_name (i := 5) scInit.nd rfl (Or.inl rfl)) (pgs_cons (pg_name (i := 6) scInit.nd rfl (Or.inl rfl)) pgs_nil)))
          (pss_cons (ps_if (PW.pt (pw_or (pt_not (pt_val (pe_call L.o16 hr3 rfl L.g16 L.F16.kp L.b16 .nil pass0 (pa_cons (pv 6) pa_nil))))
              (pw_or1 (pt_not (pt_val (pe_call L.o18 hr rfl L.g18 L.F18.kp L.b18 .nil pass0 (pa_cons (pv 6) (pa_cons (pv 4) (pa_cons (pv 3) pa_nil)))))))))
            (pss_one (ps_raise rfl (takes_of rfl rfl rfl rfl) (pmk_oex L.e4.ox L.e4.ini L.e4.tyI L.i4 hr2 L.e4.bd .nil pass0 rfl L.e4.g (pa_cons (pv 5) pa_nil)))) pss_nil)
          (pss_cons (ps_expr (pe_bm PySem.F.plainAttrs_list PySem.F.slot_list_extend PySem.F.type_list_extend mt_extT (pv 3) (pa_cons (pe_call L.o17 hr3 rfl L.g17 L.F17.kp L.b17 .nil pass0 (pa_cons (pv 6) pa_nil)) pa_nil)))
          (pss_one (ps_set (i := 4) scInit.nd rfl (Or.inl rfl) (pe_call L.o19 hr3 rfl L.g19 L.F19.kp L.b19 .nil pass0 (pa_cons (pv 6) (pa_cons (pv 4) pa_nil))))))))
      (pss_cons (ps_fld (pv 0) (pv 1) rfl)
      (pss_cons (ps_fld (pv 0) (pe_tupleOf (by rfl) L.N.tup (pv 2)) rfl)
      (pss_cons (ps_fld (pv 0) (pe_tupleOf (by rfl) L.N.tup (pv 3)) rfl)
      (pss_one (ps_fld (pv 0) (pv 4) rfl))))))))), ?_⟩
    have hst0 := hst
    -- source not in SOURCES
    refine ⟨_, rfl, aS, _, rfl, .inr (L.Z.hS _), rfl, rfl, _, rfl, ?_⟩
    rw [show inV (.str s) [.str "a", .str "b", .str "c", .str "d"] = true from in_true (ws := K0) hs]
    refine iteF (A := True) ?_
    -- isinstance(stages, (list, tuple)), its length
    refine ⟨_, rfl, by show 2 ≤ sizeLine; decide, fun p hp => ?_⟩
    obtain ⟨t, ty, kt⟩ := tySq hst
    have s1 : Same H (upd H p (.tup [.ty "list", .ty "tuple"])) := same_new hp
    have e1 : upd H p (.tup [.ty "list", .ty "tuple"]) p = some (.tup [.ty "list", .ty "tuple"]) := upd_same
    generalize upd H p (.tup [.ty "list", .ty "tuple"]) = H1 at s1 e1
    refine ⟨.ref st, p, _, .type t, _, true, rfl, e1, .cons (.ty _) (.cons (.ty _) .nil), TyX.same ty s1, kt, _, rfl, ?_⟩
    refine iteF (A := True) ?_
    refine ⟨_, rfl, st, xs, rfl, sq_same s1 hst, _, _, rfl, rfl, _, rfl, ?_⟩
    refine dif (fun big => ?_) (fun small => ?_)
    · refine ⟨_, rfl, by show 1 ≤ 1000; decide, fun a ha => read_raise (R := fun e H' => E (.ref (A 3)) (some e) H') (fun e H' he s2 e2 => ?_) a ha⟩
      rcases k with ⟨hl, _⟩ | ⟨_, k⟩
      · omega
      · exact k H' e (s1.free he) (s1.trans s2) e2
    rcases k with ⟨hl, o, rest0, k⟩ | ⟨hl, _⟩
    case inr => omega
    -- sources = [source]
    refine ⟨_, rfl, by show 1 ≤ sizeLine; decide, fun q hq => ?_⟩
    have s2 : Same H1 (upd H1 q (.lst [.str s])) := same_new hq
    have e2 : upd H1 q (.lst [.str s]) q = some (.lst [.str s]) := upd_same
    have hqH : H q = none := s1.free hq
    generalize upd H1 q (.lst [.str s]) = H2 at s2 e2
    have sHq : ∀ {H' : Hp} {o : HO}, Same H H' → Same H (upd H' q o) := fun {H' o} z b u e => by
      rw [upd_ne (ne_of_none e hqH)]
      exact z b u e
    -- the loop
    refine ⟨_, rfl, st, xs, rfl, ?_⟩
    have s12 := s1.trans s2
    have jn : ∃ (Jt : It) (G : Hp → Prop), Walk Jt xs.length G (YPair (fun i => some (.int (i : Nat))) (fun i => xs[i]?)) ∧ (∀ H', Same H H' → G H') ∧ ((SqL K H2 st xs ∧ Jt = Ite K st) ∨ (SqT K H2 st xs ∧ Jt = IteT K st)) := by
      rcases hst with hh | hh
      · obtain ⟨G, wk, hG⟩ := walk_l hh
        exact ⟨_, G, wk, hG, .inl ⟨s12.seq hh, rfl⟩⟩
      · obtain ⟨G, wk, hG⟩ := walk_t hh
        exact ⟨_, G, wk, hG, .inr ⟨(Kp.of s12).tup hh, rfl⟩⟩
    obtain ⟨Jt, G, wk, hG, ej⟩ := jn
    refine ⟨Jt, ej, ?_⟩
    refine for_it wk (fun i σ H' => ∃ (d : Int) (tk : List Str) (v5 v6 : Option V), σ = [some (.ref x), some (.str s), some (.ref st), some (.ref q), some (.int d), v5, v6] ∧ Same H H' ∧
      H' q = some (.lst (tk.map V.str)) ∧ tk.length ≤ 1 + 1000 * i ∧ Rest K C H d tk i (xs.drop i) o) ⟨0, [s], none, none, rfl, s12, e2, by show 1 ≤ 1 + 1000 * 0; decide, rest0⟩ (fun i σ H' _ hh => ?_) ?_ ?_
    · obtain ⟨d, tk, v5, v6, _, z, _⟩ := hh
      exact hG H' z
    · rintro i y σ Hi H' hi ⟨d, tk, v5, v6, rfl, si, hqi, hl1, rest⟩ ⟨T, a, b, rfl, hT, rfl, ea, eb⟩
      have ea' : V.int (i : Nat) = a := Option.some.inj ea
      subst ea'
      refine ⟨T, _, rfl, .inl (.inl upd_same), rfl, _, _, rfl, _, _, rfl, rfl, ?_⟩
      have sT : Same H (upd Hi T (.tup [.int (i : Nat), b])) := si.trans (same_new hT)
      have hqT : upd Hi T (.tup [.int (i : Nat), b]) q = some (.lst (tk.map V.str)) := by rw [upd_ne (ne_of_none hqi hT)]; exact hqi
      generalize upd Hi T (.tup [.int (i : Nat), b]) = G1 at sT hqT
      have hd : xs.drop i = b :: xs.drop (i + 1) := by
        rw [List.drop_eq_getElem_cons hi]
        have e9 : xs[i]? = some b := eb
        rw [List.getElem?_eq_getElem hi] at e9
        rw [Option.some.inj e9]
      rw [hd] at rest
      cases rest with
      | @go d tk i v vs x' o h w' l c r =>
        refine ⟨_, rfl, b, true, rfl, isSt_of L.c (StV.kp (Kp.of sT) h) w', fun G2 t2 => ?_⟩
        refine ⟨_, rfl, iteF (A := True) ?_⟩
        have h2 := StV.kp (Kp.of (sT.trans t2)) h
        refine ⟨_, rfl, _, rfl, _, rfl, b, x', d, q, tk, rfl, h2, w'.wf, l, SqL.of (t2 _ _ hqT), fun G3 t3 => ?_⟩
        rw [c]
        refine ⟨_, rfl, iteF (A := True) ?_⟩
        have q3 := t3 _ _ (t2 _ _ hqT)
        have s3 := (sT.trans t2).trans t3
        refine ⟨_, rfl, .inl ⟨rfl, _, SqL.of q3⟩, _, rfl, b, x', rfl, StV.kp (Kp.of s3) h, w'.wf, fun ss G4 t4 hss => ?_⟩
        have q4 := t4 _ _ q3
        have s4 := s3.trans t4
        refine ⟨q, ss, _, _, rfl, rfl, q4, hss, ?_, ?_⟩
        · rw [List.length_map, List.length_map]
          rw [sizeLine_eq]
          omega
        refine ⟨_, rfl, _, rfl, b, x', d, rfl, StV.kp (Kp.of (sHq s4)) h, w'.wf, ?_⟩
        refine ⟨_, tk ++ x'.srcs, _, _, rfl, sHq s4, ?_, ?_, r⟩
        · rw [upd_same, List.map_append]
        · rw [List.length_append]
          omega
      | bad h =>
        refine ⟨_, rfl, b, false, rfl, h.same sT, fun G2 t2 => ?_⟩
        refine ⟨_, rfl, iteT (B := True) ?_⟩
        refine ⟨_, rfl, by show 1 ≤ 1000; decide, fun a ha => read_raise (R := fun e H' => E (.ref (A 4)) (some e) H') (fun e H' he s3 e3 => ?_) a ha⟩
        exact k H' e ((sT.trans t2).free he) ((sT.trans t2).trans s3) e3
      | @cant d tk i v vs x' h w' l c =>
        refine ⟨_, rfl, b, true, rfl, isSt_of L.c (StV.kp (Kp.of sT) h) w', fun G2 t2 => ?_⟩
        refine ⟨_, rfl, iteF (A := True) ?_⟩
        have h2 := StV.kp (Kp.of (sT.trans t2)) h
        refine ⟨_, rfl, _, rfl, _, rfl, b, x', d, q, tk, rfl, h2, w'.wf, l, SqL.of (t2 _ _ hqT), fun G3 t3 => ?_⟩
        rw [c]
        refine ⟨_, rfl, iteT (B := True) ?_⟩
        have s3 := (sT.trans t2).trans t3
        refine ⟨_, rfl, by show 1 ≤ 1000; decide, fun a ha => read_raise (R := fun e H' => E (.ref (A 4)) (some e) H') (fun e H' he s4 e3 => ?_) a ha⟩
        exact k H' e (s3.free he) (s3.trans s4) e3
    · rintro σ H' ⟨d, tk, v5, v6, rfl, si, hqi, hl1, rest⟩
      rw [List.drop_length] at rest
      cases rest
      have qx : q ≠ x := fun z => by rw [z, hx] at hqH; cases hqH
      refine ⟨_, rfl, _, rfl, x, C, dx, [], rfl, si _ _ hx, L.c.cl, L.c.n1, by decide, ?_⟩
      have ba : Bx x H (upd H' x (.ins C dx (putF "_source" (.str s) []))) := (Bx.of si).trans Bx.upd
      have xa : upd H' x (.ins C dx (putF "_source" (.str s) [])) x = some (.ins C dx (putF "_source" (.str s) [])) := upd_same
      have qa : upd H' x (.ins C dx (putF "_source" (.str s) [])) q = some (.lst (tk.map V.str)) := by rw [upd_ne qx]; exact hqi
      generalize upd H' x (.ins C dx (putF "_source" (.str s) [])) = Ha at ba xa qa
      refine ⟨_, rfl, tup_either (ba.sq hx hst) fun ts Hb sb hts => ?_⟩
      refine ⟨_, rfl, x, C, dx, _, rfl, sb _ _ xa, L.c.cl, L.c.n2, Nat.lt_of_le_of_lt (len_put (n := 0) (Nat.le_refl 0)) (by decide), ?_⟩
      have xb := sb _ _ xa
      have qb := sb _ _ qa
      have bb : Bx x H Hb := ba.trans (Bx.of sb)
      have bc : Bx x Hb (upd Hb x (.ins C dx (putF "_stages" (.ref ts) (putF "_source" (.str s) [])))) := Bx.upd
      have xc : upd Hb x (.ins C dx (putF "_stages" (.ref ts) (putF "_source" (.str s) []))) x = some (.ins C dx (putF "_stages" (.ref ts) (putF "_source" (.str s) []))) := upd_same
      generalize upd Hb x (.ins C dx (putF "_stages" (.ref ts) (putF "_source" (.str s) []))) = Hc at bc xc
      refine ⟨_, rfl, tup_either (.inl (SqL.of (bc _ _ qx qb))) fun ss Hd sd hss => ?_⟩
      refine ⟨_, rfl, x, C, dx, _, rfl, sd _ _ xc, L.c.cl, L.c.n3, Nat.lt_of_le_of_lt (len_put (len_put (n := 0) (Nat.le_refl 0))) (by decide), ?_⟩
      have xd := sd _ _ xc
      have be : Bx x Hd (upd Hd x (.ins C dx (putF "_sources" (.ref ss) (putF "_stages" (.ref ts) (putF "_source" (.str s) []))))) := Bx.upd
      have xe : upd Hd x (.ins C dx (putF "_sources" (.ref ss) (putF "_stages" (.ref ts) (putF "_source" (.str s) [])))) x = some (.ins C dx (putF "_sources" (.ref ss) (putF "_stages" (.ref ts) (putF "_source" (.str s) [])))) := upd_same
      generalize upd Hd x (.ins C dx (putF "_sources" (.ref ss) (putF "_stages" (.ref ts) (putF "_source" (.str s) [])))) = He at be xe
      refine ⟨_, rfl, _, rfl, x, C, dx, _, rfl, xe, L.c.cl, L.c.n4, Nat.lt_of_le_of_lt (len_put (len_put (len_put (n := 0) (Nat.le_refl 0)))) (by decide), ?_⟩
      have bf : Bx x He (upd He x (.ins C dx (flds s ts ss d))) := Bx.upd
      have bcf : Bx x Hb (upd He x (.ins C dx (flds s ts ss d))) := bc.trans ((Bx.of sd).trans (be.trans bf))
      have bdf : Bx x Hd (upd He x (.ins C dx (flds s ts ss d))) := be.trans bf
      exact k _ ts ss (bb.trans bcf) upd_same (bcf.tup xb hts) (bdf.tup xd hss)
end
end K81
set_option Elab.async false
set_option linter.all false
set_option maxRecDepth 100000
set_option maxHeartbeats 4000000
/-! len(set(xs)) of any ints -/
namespace VK
open PySem PySem.Spec PyProof.Rows L2
theorem met_len (ns : List Int) : ∀ i, i ≤ ns.length → (firstMet (fun i => ns.getD i 0) i).length ≤ i ∧ ((firstMet (fun i => ns.getD i 0) i).length = i → firstMet (fun i => ns.getD i 0) i = ns.take i ∧ (ns.take i).Nodup)
  | 0, _ => ⟨Nat.le_refl 0, fun _ => ⟨rfl, List.nodup_nil⟩⟩
  | i + 1, hi => by
    have lt : i < ns.length := hi
    obtain ⟨a1, a2⟩ := met_len ns i (Nat.le_of_lt lt)
    have e : ns.getD i 0 = ns[i] := by
      rw [List.getD_eq_getElem?_getD, List.getElem?_eq_getElem lt]
      rfl
    rw [firstMet_succ]
    unfold step_dedup
    by_cases c : (firstMet (fun i => ns.getD i 0) i).any (· == ns.getD i 0) = true
    · rw [if_pos c]
      exact ⟨Nat.le_succ_of_le a1, fun z => absurd z (by omega)⟩
    · rw [if_neg c]
      refine ⟨by rw [List.length_append]; exact Nat.add_le_add_right a1 1, fun z => ?_⟩
      rw [List.length_append] at z
      obtain ⟨b1, b2⟩ := a2 (Nat.add_right_cancel z)
      rw [b1] at c
      have no : ns[i] ∉ ns.take i := fun m => c (List.any_eq_true.mpr ⟨_, m, by rw [e]; exact beq_self_eq_true _⟩)
      have tk : ns.take (i + 1) = ns.take i ++ [ns[i]] := by rw [List.take_succ, List.getElem?_eq_getElem lt]; rfl
      refine ⟨by rw [b1, e, tk], ?_⟩
      rw [tk]
      refine List.nodup_append.mpr ⟨b2, by simp, fun x hx y hy => ?_⟩
      rw [List.mem_singleton.mp hy]
      exact fun z => no (z ▸ hx)
theorem met_iff (ns : List Int) : (firstMet (fun i => ns.getD i 0) ns.length).length = ns.length ↔ ns.Nodup := by
  obtain ⟨_, b⟩ := met_len ns ns.length (Nat.le_refl _)
  rw [List.take_length] at b
  refine ⟨fun z => (b z).2, fun h => ?_⟩
  rw [firstMet_nodup ns h ns.length (Nat.le_refl _), List.take_length]
section
variable {X : Cx}
def tLenSetA (K : PySem.W.Frag) (ta : TE) : TE := fun σ H Q => ta σ H fun x H1 => ∃ (l : Addr) (ns : List Int), x = V.ref l ∧ SqL K H1 l (ns.map V.int) ∧ ns.length < 64 ∧ ∀ m : Nat, (m = ns.length ↔ ns.Nodup) → Q (.int m) H1
theorem pe_lenSetA {a : Expr} {ta : TE} {p p2 q pos : Pos} (hc : X.calm = true) (hg : Gl X "len") (hm : X.mg "len" = none) (hg2 : Gl X "set") (hm2 : X.mg "set" = none) (ha : PE X a ta)
    (na : starEach [a] X.env = (false, eval a X.env) :: starEach [] X.env := by rfl) : PE X (.Call (.Name "len" p) [.Call (.Name "set" p2) [a] [] q] [] pos) (tLenSetA X.K ta) := by
  refine ⟨fun pins s σ H Q I h => Call_ (ld_blt I hg hm PySem.boot_len ?_)⟩
  refine PyProof.Rows.callWith_builtin1 (PyProof.Rows.args_cons (Call_ (ld_blt I hg2 hm2 PyProof.Rows.boot_set ?_)) rfl) rfl rfl
  refine PyProof.Rows.callWith_type1 (PyProof.Rows.args_cons (thn (ha.run pins s σ H _ I h) fun v s1 hh => PyProof.Rows.args_nil ?_) na) na rfl
  obtain ⟨x, H1, I1, r1, l, ns, rfl, hq, h1, q1⟩ := hh
  cases r1
  obtain ⟨its, r, pl, hz⟩ := I1.list hq
  have hl : its.toArray.size = ns.length := by rw [List.size_toArray, ← r.length, List.length_map]
  refine call_set_list (I1.ok.hd hc) pl.isList (ns := ns) (by simpa using r.ints) (by unfold scanBound; omega) fun h' tk hS hk => ?_
  rw [hl] at hS
  refine PyProof.Rows.args_nil ?_
  obtain ⟨o, es, ep, t, ho, hex, hd, _, _, _, hf, hn⟩ := hS
  have le := (met_len ns ns.length (Nat.le_refl _)).1
  have I2 : Inv X pins σ H1 { s1 with heap := h', toks := tk } := I1.kept fun b o e => hk b o (Heap.lt_size e) e
  exact call_len_set ho hex hd hf (by rw [hn]; omega) ⟨.int _, H1, I2.tok _, ⟨_, by rw [hn]⟩, q1 _ (met_iff ns)⟩
end
end VK
namespace K81
open PySem L2 VK
/-! ### positions -/
inductive Itm (K : Fg) (H : Hp) : V → Option Int → Prop where
  | int (i : Int) : Itm K H (.int i) (some i)
  | oth {v : V} {t : String} {b c : Bool} (ty : TyX K H v (.type t)) (kb : kitB t "int" = some b) (kc : kitB t "bool" = some c) (e : (b && !c) = false) : Itm K H v none
def inB (m : Int) : Option Int → Bool
  | some i => decide (0 ≤ i) && decide (i < m)
  | none => false
def spIsPos (K : Fg) : Sp := fun vs H Q _ => ∃ (v : V) (m : Int) (c : Option Int), vs = [v, .int m] ∧ Itm K H v c ∧ Q (.bl (inB m c)) H
def arePos (m : Int) (cs : List (Option Int)) : Bool := cs.all (inB m) && decide cs.Nodup
def spArePos (K : Fg) : Sp := fun vs H Q _ => ∃ (v : V) (m : Int), vs = [v, .int m] ∧
  ((∃ t, TyX K H v t ∧ PySem.W.kitOne K t (.type "list") = some false ∧ Q (.bl false) H) ∨
   ∃ (a : Addr) (xs : List V) (cs : List (Option Int)), v = .ref a ∧ SqL K H a xs ∧ xs.length < 64 ∧ Paired (Itm K H) xs cs ∧ ∀ H', Same H H' → Q (.bl (arePos m cs)) H')
theorem Itm.same {K : Fg} {H H' : Hp} {v : V} {c : Option Int} (h : Itm K H v c) (s : Same H H') : Itm K H' v c := by
  cases h with
  | int i => exact .int i
  | oth ty kb kc e => exact .oth (TyX.same ty s) kb kc e
theorem itms_int {K : Fg} {H : Hp} {m : Int} : ∀ {xs : List V} {cs : List (Option Int)}, Paired (Itm K H) xs cs → cs.all (inB m) = true → ∃ ns : List Int, cs = ns.map some ∧ xs = ns.map V.int
  | _, _, .nil, _ => ⟨[], rfl, rfl⟩
  | _, _, .cons h t, e => by
    rw [List.all_cons, Bool.and_eq_true] at e
    obtain ⟨ns, e1, e2⟩ := itms_int t e.2
    cases h with
    | int i => exact ⟨i :: ns, by rw [e1]; rfl, by rw [e2]; rfl⟩
    | oth ty kb kc z => exact absurd e.1 Bool.false_ne_true
theorem pair_get {α β : Type} {F : α → β → Prop} : ∀ {xs : List α} {ys : List β} {i : Nat} {x : α}, Paired F xs ys → xs[i]? = some x → ∃ y, ys[i]? = some y ∧ F x y
  | _, _, 0, _, .cons h _, e => ⟨_, rfl, by cases e; exact h⟩
  | _, _, i + 1, _, .cons _ t, e => pair_get (i := i) t e
theorem nodup_some (ns : List Int) : (ns.map some).Nodup ↔ ns.Nodup := by
  induction ns with
  | nil => simp
  | cons a r ih =>
    rw [List.map_cons, List.nodup_cons, List.nodup_cons, ih]
    simp
theorem tyL {K : Fg} {H : Hp} {a : Addr} {xs : List V} (h : SqL K H a xs) : TyX K H (.ref a) (.type "list") := by
  rcases h with (h | ⟨o, h⟩) | ⟨o, _, _, e, c, _⟩
  · exact .base (.lst h)
  · exact .base (.frz h)
  · exact .kList e c
section
variable {P : Program} {w : World} {K : Fg} {mg : Str → Option Value} {base : Heap} {A I : Nat → Addr} {D J : Nat → FuncData} {aS a1 a2 C : Addr}
end
end K81
set_option Elab.async false
set_option linter.all false
set_option maxRecDepth 100000
set_option maxHeartbeats 4000000
namespace K81
open PySem L2 VK
/-! ### sources of what is well made: each once, of the four -/
mutual
theorem Sg.fine : ∀ (x : Sg) (d : Int) (tk : List Str), x.ok d tk → tk.Nodup → (tk ++ x.srcs).Nodup ∧ ∀ s ∈ x.srcs, s ∈ K0
  | .nm _ _, _, tk, _, n => ⟨by show (tk ++ []).Nodup; rw [List.append_nil]; exact n, fun _ h => by cases h⟩
  | .num _ _, _, tk, _, n => ⟨by show (tk ++ []).Nodup; rw [List.append_nil]; exact n, fun _ h => by cases h⟩
  | .flat, _, tk, _, n => ⟨by show (tk ++ []).Nodup; rw [List.append_nil]; exact n, fun _ h => by cases h⟩
  | .zip p, _, tk, h, n => by
    have h : p.ok ∧ ∀ s ∈ p.srcs, s ∉ tk := h
    obtain ⟨a, b⟩ := Pg.fine p h.1
    exact ⟨List.nodup_append.mpr ⟨n, a, fun x hx y hy e => h.2 y hy (e ▸ hx)⟩, b⟩
theorem Pg.fine : ∀ p : Pg, p.ok → p.srcs.Nodup ∧ ∀ s ∈ p.srcs, s ∈ K0
  | .mk s l, h => by
    have h : s ∈ K0 ∧ l.len ≤ 6 ∧ l.ok 0 [s] := h
    obtain ⟨a, b⟩ := Sgs.fine l 0 [s] h.2.2 (by simp)
    refine ⟨a, fun z hz => ?_⟩
    rcases List.mem_cons.mp hz with e | e
    · rw [e]; exact h.1
    · exact b z e
theorem Sgs.fine : ∀ (l : Sgs) (d : Int) (tk : List Str), l.ok d tk → tk.Nodup → (tk ++ l.srcs).Nodup ∧ ∀ s ∈ l.srcs, s ∈ K0
  | .nil, _, tk, _, n => ⟨by show (tk ++ []).Nodup; rw [List.append_nil]; exact n, fun _ h => by cases h⟩
  | .cons x r, d, tk, h, n => by
    have h : x.ok d tk ∧ r.ok (x.dep d) (tk ++ x.srcs) := h
    obtain ⟨a, b⟩ := Sg.fine x d tk h.1 n
    obtain ⟨a2, b2⟩ := Sgs.fine r _ _ h.2 a
    refine ⟨by show (tk ++ (x.srcs ++ r.srcs)).Nodup; rw [← List.append_assoc]; exact a2, fun z hz => ?_⟩
    rcases List.mem_append.mp hz with e | e
    · exact b z e
    · exact b2 z e
end
theorem nd_len {α : Type} [DecidableEq α] : ∀ (l m : List α), l.Nodup → (∀ x ∈ l, x ∈ m) → l.length ≤ m.length
  | [], _, _, _ => Nat.zero_le _
  | a :: r, m, n, h => by
    have n' := List.nodup_cons.mp n
    have ha : a ∈ m := h a List.mem_cons_self
    have e := List.length_erase_of_mem ha
    have p := List.length_pos_of_mem ha
    have := nd_len r (m.erase a) n'.2 fun x hx => (List.mem_erase_of_ne (fun z : x = a => n'.1 (by rw [← z]; exact hx))).mpr (h x (List.mem_cons_of_mem _ hx))
    rw [List.length_cons]
    omega
theorem Pg.few {p : Pg} (h : p.ok) : p.srcs.length ≤ 4 := nd_len _ K0 (Pg.fine p h).1 (Pg.fine p h).2
theorem Sg.few {x : Sg} {d : Int} {tk : List Str} (h : x.ok d tk) : x.srcs.length ≤ 1000 := by
  cases x with
  | nm k n => exact Nat.zero_le _
  | num k n => exact Nat.zero_le _
  | flat => exact Nat.zero_le _
  | zip p =>
    have h : p.ok ∧ ∀ s ∈ p.srcs, s ∉ tk := h
    exact Nat.le_trans (Pg.few h.1) (by decide)
theorem Sg.ok.vd {x : Sg} {d : Int} {tk : List Str} (h : x.ok d tk) : x.vd := by
  cases x with
  | nm k n => exact h
  | num k n =>
    have h : k ∈ K2 ∧ 1 ≤ n ∧ n ≤ 4 := h
    refine ⟨h.1, ?_⟩
    unfold okNum
    rw [decide_eq_true h.2.1, decide_eq_true h.2.2]
    rfl
  | flat => trivial
  | zip p => trivial
theorem any_no {l tk : List Str} : (!(l.any fun s => decide (s ∈ tk))) = true ↔ ∀ s ∈ l, s ∉ tk := by
  simp
theorem Sg.ok.can {x : Sg} {d : Int} {tk : List Str} (h : x.ok d tk) : x.can d tk = true := by
  cases x with
  | nm k n => rfl
  | num k n => rfl
  | flat => exact decide_eq_true h
  | zip p =>
    have h : p.ok ∧ ∀ s ∈ p.srcs, s ∉ tk := h
    exact any_no.mpr h.2
theorem Rest.same {K : Fg} {C : Addr} {H H' : Hp} (s : Same H H') {d : Int} {tk : List Str} {i : Nat} {xs : List V} {o : Out} (r : Rest K C H d tk i xs o) : Rest K C H' d tk i xs o := by
  induction r with
  | nil => exact .nil
  | go h w l c _ ih => exact .go (StV.kp (Kp.of s) h) w l c ih
  | bad h => exact .bad (h.same s)
  | cant h w l c => exact .cant (StV.kp (Kp.of s) h) w l c
theorem rest_good {K : Fg} {C : Addr} {H : Hp} : ∀ {xs : List V} {l : Sgs} {d : Int} {tk : List Str} (i : Nat), StAll K C H xs l → l.ok d tk → Rest K C H d tk i xs (.inl (l.dep d, tk ++ l.srcs))
  | _, _, d, tk, i, .nil, _ => by
    show Rest K C H d tk i [] (.inl (d, tk ++ []))
    rw [List.append_nil]
    exact .nil
  | _, _, d, tk, i, .cons (x := x) (r := r) h t, o => by
    have o : x.ok d tk ∧ r.ok (x.dep d) (tk ++ x.srcs) := o
    have z := rest_good (i + 1) t o.2
    rw [List.append_assoc] at z
    exact .go h o.1.vd (Sg.few o.1) o.1.can z
/-! ### Program(source, stages) -/
def MkEnd (K : Fg) (C CB : Addr) (s : Str) (xs : List V) (H1 : Hp) (Q : VK) (E : XK) : Out → Prop
  | .inl (d, tk) => ∀ (p dx ts ss : Addr) (H2 : Hp), Same H1 H2 → H1 p = none → H2 p = some (.ins C dx (flds s ts ss d)) → SqT K H2 ts xs → SqT K H2 ss (tk.map V.str) → Q (.ref p) H2
  | .inr i => ∀ (H' : Hp) (e : Addr), H1 e = none → Same H1 H' → H' e = some (.xd [("position", .int (i : Nat))]) → E (.ref CB) (some e) H'
theorem same_mk {H1 : Hp} {x dx C : Addr} (h1 : H1 x = none) (h2 : H1 dx = none) : Same H1 (upd (upd H1 dx (.own x)) x (.ins C dx [])) := fun b o e => by
  rw [upd_ne (ne_of_none e h1), upd_ne (ne_of_none e h2)]
  exact e
theorem mk_read {K : Fg} {C CB CL : Addr} {s : Str} {st : Addr} {xs : List V} {H1 : Hp} {Q : VK} {E : XK} {o : Out} (hs : s ∈ K0) (hst : SqL K H1 st xs ∨ SqT K H1 st xs) (hl : xs.length ≤ 6) (r : Rest K C H1 0 [s] 0 xs o)
    (k : MkEnd K C CB s xs H1 Q E o) (x dx : Addr) (h1 : H1 x = none) (h2 : H1 dx = none) (hne : dx ≠ x) :
    spInit K C CB CL [.ref x, .str s, .ref st] (upd (upd H1 dx (.own x)) x (.ins C dx [])) (fun v H2 => v = .non ∧ Q (.ref x) H2) E := by
  have sm := same_mk (C := C) h1 h2
  have fr : ∀ {e : Addr}, upd (upd H1 dx (.own x)) x (.ins C dx []) e = none → H1 e = none := fun {e} z => sm.free z
  refine ⟨x, dx, s, st, xs, rfl, upd_same, hs, sq_same sm hst, .inl ⟨hl, o, r.same sm, ?_⟩⟩
  cases o with
  | inl a =>
    obtain ⟨d, tk⟩ := a
    refine fun H' ts ss b e t1 t2 => ⟨rfl, k x dx ts ss H' (fun c u z => ?_) h1 e t1 t2⟩
    exact b c u (ne_of_none z h1) (sm _ _ z)
  | inr i => exact fun H' e he s1 e1 => k H' e (fr he) (sm.trans s1) e1
theorem mk_long {K : Fg} {C CB CL : Addr} {s : Str} {st : Addr} {xs : List V} {H1 : Hp} {Q : VK} {E : XK} (hs : s ∈ K0) (hst : SqL K H1 st xs ∨ SqT K H1 st xs) (hl : 6 < xs.length)
    (k : ∀ (H' : Hp) (e : Addr), H1 e = none → Same H1 H' → H' e = some (.xd [("value", .ref st)]) → E (.ref CL) (some e) H') (x dx : Addr) (h1 : H1 x = none) (h2 : H1 dx = none) (hne : dx ≠ x) :
    spInit K C CB CL [.ref x, .str s, .ref st] (upd (upd H1 dx (.own x)) x (.ins C dx [])) (fun v H2 => v = .non ∧ Q (.ref x) H2) E := by
  have sm := same_mk (C := C) h1 h2
  exact ⟨x, dx, s, st, xs, rfl, upd_same, hs, sq_same sm hst, .inr ⟨hl, fun H' e he s1 e1 => k H' e (sm.free he) (sm.trans s1) e1⟩⟩
/-- a program that is well made -/
theorem mk_good {K : Fg} {C CB CL : Addr} {s : Str} {l : Sgs} {st : Addr} {xs : List V} {H1 : Hp} {Q : VK} {E : XK} (ok : (Pg.mk s l).ok) (hst : SqL K H1 st xs ∨ SqT K H1 st xs) (hx : StAll K C H1 xs l)
    (k : ∀ (p : Addr) (H2 : Hp), Same H1 H2 → H1 p = none → PgAt K C H2 (.ref p) (.mk s l) → Q (.ref p) H2) (x dx : Addr) (h1 : H1 x = none) (h2 : H1 dx = none) (hne : dx ≠ x) :
    spInit K C CB CL [.ref x, .str s, .ref st] (upd (upd H1 dx (.own x)) x (.ins C dx [])) (fun v H2 => v = .non ∧ Q (.ref x) H2) E := by
  have ok : s ∈ K0 ∧ l.len ≤ 6 ∧ l.ok 0 [s] := ok
  refine mk_read ok.1 hst (by rw [StAll.len hx]; exact ok.2.1) (rest_good 0 hx ok.2.2) ?_ x dx h1 h2 hne
  exact fun p dx ts ss H2 s1 hp e t1 t2 => k p H2 s1 hp (.mk e t1 (StAll.kp (Kp.of s1) hx) t2)
end K81
set_option Elab.async false
set_option linter.all false
set_option maxRecDepth 100000
set_option maxHeartbeats 4000000
/-! == and != of tuples, whatever they answer -/
namespace VK
open PySem PySem.SeqAt
open AutoSeq1 (wpAny_loadPart')
section
variable {prog : Program} {w : World} {A : Around} {R : Result → Shared → Prop}
abbrev FinR (prog : Program) (w : World) (A : Around) (R : Result → Shared → Prop) : Fin → Shared → Prop := GQ.FinOf prog w A R
/-- what one turn of the comparison gives -/
def TurnB (Go : Shared → Prop) (Out : Shared → Prop) (r : Bool) (s' : Shared) : Prop := (r = true ∧ Go s') ∨ (r = false ∧ Out s')
theorem tup_eqB {l b : Addr} {xs ys : Array Value} {n n2 : Nat} {dd dd2 : Option Addr} {sl sl2 : Array (Option Value)} {res : Bool} (J : Nat → Shared → Prop) (Out : Shared → Prop)
    (turn : ∀ i (h1 : i < xs.size) (h2 : i < ys.size) s, J i s → wpAny (model prog w) A.in1 (eqBool xs[i] ys[i]) (TurnB (J (i + 1)) fun s' => res = false ∧ Out s') (fun e s' => R (.error e) s') s)
    (fin : ∀ i s, i = min xs.size ys.size → J i s → res = (xs.size == ys.size) ∧ Out s) (out : ∀ s, Out s → R (.ok (.ret (.bool res))) s) {s : Shared}
    (hl : s.heap.get? l = some { cls := .type "tuple", dict := dd, data := .seq xs n, slots := sl }) (hb : s.heap.get? b = some { cls := .type "tuple", dict := dd2, data := .seq ys n2, slots := sl2 }) (h : J 0 s) :
    wpAny (model prog w) A.in1 (Builtin.«tuple.__eq__» ⟨[.ref l, .ref b], []⟩) (FinR prog w A R) (fun e s' => R (.error e) s') s := by
  have g := AutoSeq1.sub_tuple_tuple
  have zl : (xs.toList.zip ys.toList).length = min xs.size ys.size := by rw [List.length_zip, Array.length_toList, Array.length_toList]
  have start := h
  obtain ⟨hp, gs, dr, tk, os⟩ := s
  wp_walk using wpAny_loadPart' hl, wpAny_loadPart' hb, wpAny_forIn_list _ (fun rest acc s' => acc.1 = none ∧ ∃ i, rest = (xs.toList.zip ys.toList).drop i ∧ i ≤ min xs.size ys.size ∧ J i s') _
  case turn =>
    rintro ⟨y, x⟩ rest acc s' ⟨ha, i, hz, hi, hJ⟩
    have lt : i < (xs.toList.zip ys.toList).length := Nat.lt_of_not_le fun le => by
      rw [List.drop_of_length_le le] at hz
      cases hz
    have h1 : i < xs.size := by omega
    have h2 : i < ys.size := by omega
    rw [List.drop_eq_getElem_cons lt] at hz
    injection hz with e1 e2
    have ey : y = xs[i] := by simpa using congrArg Prod.fst e1
    have ex : x = ys[i] := by simpa using congrArg Prod.snd e1
    subst ey ex
    refine wpAny_bind (wpAny_mono (turn i h1 h2 s' hJ) (fun r s2 q => ?_) fun _ _ z => z)
    rcases q with ⟨rfl, q⟩ | ⟨rfl, er, q⟩
    · wp_walk
      exact ⟨rfl, i + 1, e2, by omega, q⟩
    · have q2 := out _ q
      rw [er] at q2
      wp_walk
      exact q2
  case fin =>
    rintro ⟨a1, a2⟩ s' ⟨ha, i, hz, hi, hJ⟩
    simp only at ha
    subst ha
    have ge : min xs.size ys.size ≤ i := Nat.le_of_not_lt fun lt => by
      rw [List.drop_eq_getElem_cons (by omega)] at hz
      cases hz
    obtain ⟨er, o⟩ := fin i s' (by omega) hJ
    have q2 := out _ o
    rw [er] at q2
    wp_walk
    exact q2
  case h => exact ⟨rfl, 0, rfl, Nat.zero_le _, start⟩
theorem tup_neB {l b : Addr} {xs ys : Array Value} {n n2 : Nat} {dd dd2 : Option Addr} {sl sl2 : Array (Option Value)} {res : Bool} (J : Nat → Shared → Prop) (Out : Shared → Prop)
    (turn : ∀ i (h1 : i < xs.size) (h2 : i < ys.size) s, J i s → wpAny (model prog w) A.in1 (eqBool xs[i] ys[i]) (TurnB (J (i + 1)) fun s' => res = false ∧ Out s') (fun e s' => R (.error e) s') s)
    (fin : ∀ i s, i = min xs.size ys.size → J i s → res = (xs.size == ys.size) ∧ Out s) (out : ∀ s, Out s → R (.ok (.ret (.bool (!res)))) s) {s : Shared}
    (hl : s.heap.get? l = some { cls := .type "tuple", dict := dd, data := .seq xs n, slots := sl }) (hb : s.heap.get? b = some { cls := .type "tuple", dict := dd2, data := .seq ys n2, slots := sl2 }) (h : J 0 s) :
    wpAny (model prog w) A.in1 (Builtin.«tuple.__ne__» ⟨[.ref l, .ref b], []⟩) (FinR prog w A R) (fun e s' => R (.error e) s') s := by
  have g := AutoSeq1.sub_tuple_tuple
  have zl : (xs.toList.zip ys.toList).length = min xs.size ys.size := by rw [List.length_zip, Array.length_toList, Array.length_toList]
  have start := h
  obtain ⟨hp, gs, dr, tk, os⟩ := s
  wp_walk using wpAny_loadPart' hl, wpAny_loadPart' hb, wpAny_forIn_list _ (fun rest acc s' => acc.1 = none ∧ ∃ i, rest = (xs.toList.zip ys.toList).drop i ∧ i ≤ min xs.size ys.size ∧ J i s') _
  case turn =>
    rintro ⟨y, x⟩ rest acc s' ⟨ha, i, hz, hi, hJ⟩
    have lt : i < (xs.toList.zip ys.toList).length := Nat.lt_of_not_le fun le => by
      rw [List.drop_of_length_le le] at hz
      cases hz
    have h1 : i < xs.size := by omega
    have h2 : i < ys.size := by omega
    rw [List.drop_eq_getElem_cons lt] at hz
    injection hz with e1 e2
    have ey : y = xs[i] := by simpa using congrArg Prod.fst e1
    have ex : x = ys[i] := by simpa using congrArg Prod.snd e1
    subst ey ex
    refine wpAny_bind (wpAny_mono (turn i h1 h2 s' hJ) (fun r s2 q => ?_) fun _ _ z => z)
    rcases q with ⟨rfl, q⟩ | ⟨rfl, er, q⟩
    · wp_walk
      exact ⟨rfl, i + 1, e2, by omega, q⟩
    · have q2 := out _ q
      rw [er] at q2
      wp_walk
      exact q2
  case fin =>
    rintro ⟨a1, a2⟩ s' ⟨ha, i, hz, hi, hJ⟩
    simp only at ha
    subst ha
    have ge : min xs.size ys.size ≤ i := Nat.le_of_not_lt fun lt => by
      rw [List.drop_eq_getElem_cons (by omega)] at hz
      cases hz
    obtain ⟨er, o⟩ := fin i s' (by omega) hJ
    have q2 := out _ o
    rw [er] at q2
    wp_walk
    exact q2
  case h => exact ⟨rfl, 0, rfl, Nat.zero_le _, start⟩
end
end VK
set_option Elab.async false
set_option linter.all false
set_option maxRecDepth 100000
set_option maxHeartbeats 4000000
namespace VK
open PySem PySem.Spec PyProof.Rows L2
abbrev Eqb := V → V → Bool → Hp → Prop
def MonB (D : Eqb) : Prop := ∀ x y b H H', Ext H H' → D x y b H → D x y b H'
def After (X : Cx) (pins : List (Addr × Obj)) (σ : L2.St) (H : Hp) (s' : Shared) : Prop := ∃ H', Inv X pins σ H' s' ∧ Ext H H'
/-- == within a built-in gives what D says, and only makes objects -/
def EqB (X : Cx) (n : Nat) (D : Eqb) : Prop :=
  ∀ (B : Around) (pins : List (Addr × Obj)) (s : Shared) (σ : L2.St) (H : Hp) (x y : V) (u v : Value) (b : Bool), Sub X n B → Inv X pins σ H s → RelV x u → RelV y v → D x y b H →
    wpAny (model X.prog X.w) B (eqBool u v) (fun r s' => r = b ∧ After X pins σ H s') X.xe s
/-- a rich comparison -/
def RcB (X : Cx) (n : Nat) (op : CmpOp) (f : Bool → Bool) (D : Eqb) : Prop :=
  ∀ (B : Around) (pins : List (Addr × Obj)) (s : Shared) (σ : L2.St) (H : Hp) (x y : V) (u v : Value) (b : Bool), Sub X n B → Inv X pins σ H s → RelV x u → RelV y v → D x y b H →
    wpAny (model X.prog X.w) B (richCompare op u v) (fun r s' => r = .bool (f b) ∧ After X pins σ H s') X.xe s
section
variable {X : Cx} {n m : Nat} {D D' : Eqb} {op : CmpOp} {f : Bool → Bool}
theorem EqB.mono (h : EqB X n D) (hn : n ≤ m) : EqB X m D := fun B pins s σ H x y u v b sb => h B pins s σ H x y u v b (sb.mono hn)
theorem EqB.or (h : EqB X n D) (h' : EqB X n D') : EqB X n (fun x y b H => D x y b H ∨ D' x y b H) := fun B pins s σ H x y u v b sb I rx ry d =>
  d.elim (h B pins s σ H x y u v b sb I rx ry) (h' B pins s σ H x y u v b sb I rx ry)
theorem MonB.or (h : MonB D) (h' : MonB D') : MonB (fun x y b H => D x y b H ∨ D' x y b H) := fun x y b H H' e d => d.elim (fun d => .inl (h x y b H H' e d)) fun d => .inr (h' x y b H H' e d)
def DFlatB : Eqb := fun x y b _ => flatV x = true ∧ flatV y = true ∧ eqV x y = b
theorem mon_flatB : MonB DFlatB := fun _ _ _ _ _ _ d => d
theorem eqB_flat : EqB X 0 DFlatB := by
  intro B pins s σ H x y u v b sb I rx ry d
  obtain ⟨fx, fy, e⟩ := d
  have q := eqAt_V (A := B) (s := s) rx ry fx fy
  rw [e] at q
  exact q X.prog X.w X.xe _ ⟨rfl, H, I, Ext.rfl'⟩
/-- item by item, up to the first that differs -/
inductive PrB (D : Eqb) (H : Hp) : List V → List V → Bool → Prop where
  | nil : PrB D H [] [] true
  | left {y : V} {ys : List V} : PrB D H [] (y :: ys) false
  | right {x : V} {xs : List V} : PrB D H (x :: xs) [] false
  | no {x y : V} {xs ys : List V} (h : D x y false H) : PrB D H (x :: xs) (y :: ys) false
  | yes {x y : V} {xs ys : List V} {b : Bool} (h : D x y true H) (t : PrB D H xs ys b) : PrB D H (x :: xs) (y :: ys) b
theorem PrB.mon (hD : MonB D) {H H' : Hp} (e : Ext H H') {xs ys : List V} {b : Bool} (p : PrB D H xs ys b) : PrB D H' xs ys b := by
  induction p with
  | nil => exact .nil
  | left => exact .left
  | right => exact .right
  | no h => exact .no (hD _ _ _ _ _ e h)
  | yes h _ ih => exact .yes (hD _ _ _ _ _ e h) ih
def DTupB (K : PySem.W.Frag) (D : Eqb) : Eqb := fun x y b H => ∃ a c xs ys, x = .ref a ∧ y = .ref c ∧ SqT K H a xs ∧ SqT K H c ys ∧ PrB D H xs ys b
theorem mon_tupB {K : PySem.W.Frag} (hD : MonB D) : MonB (DTupB K D) := fun x y b H H' e d => by
  obtain ⟨a, c, xs, ys, hx, hy, h1, h2, p⟩ := d
  exact ⟨a, c, xs, ys, hx, hy, h1.ext e, h2.ext e, p.mon hD e⟩
/-- the turns of a comparison of tuples -/
def TupJ (X : Cx) (pins : List (Addr × Obj)) (σ : L2.St) (H : Hp) (D : Eqb) (xs ys : List V) (b : Bool) (i : Nat) (s' : Shared) : Prop := After X pins σ H s' ∧ PrB D H (xs.drop i) (ys.drop i) b
theorem tup_turn (hD : MonB D) (h : EqB X n D) {B : Around} (sb : Sub X (n + 1) B) {pins : List (Addr × Obj)} {σ : L2.St} {H : Hp} {xs ys : List V} {us vs : List Value} {b : Bool} (r : Vals xs us) (r2 : Vals ys vs)
    (i : Nat) (h1 : i < us.toArray.size) (h2 : i < vs.toArray.size) (s' : Shared) (J : TupJ X pins σ H D xs ys b i s') :
    wpAny (model X.prog X.w) B.in1 (eqBool us.toArray[i] vs.toArray[i]) (TurnB (TupJ X pins σ H D xs ys b (i + 1)) fun s2 => b = false ∧ After X pins σ H s2) X.xe s' := by
  obtain ⟨⟨H1, I1, e1⟩, p⟩ := J
  have k1 : i < xs.length := by rw [r.length]; simpa using h1
  have k2 : i < ys.length := by rw [r2.length]; simpa using h2
  have d1 := List.drop_eq_getElem_cons k1
  have d2 := List.drop_eq_getElem_cons k2
  obtain ⟨u, hu, ru⟩ := r.get (List.getElem?_eq_getElem k1)
  obtain ⟨v, hv, rv⟩ := r2.get (List.getElem?_eq_getElem k2)
  have eu : us.toArray[i] = u := by
    have g : us.toArray[i]? = some us.toArray[i] := Array.getElem?_eq_getElem h1
    rw [List.getElem?_toArray, hu] at g
    exact (Option.some.inj g).symm
  have ev : vs.toArray[i] = v := by
    have g : vs.toArray[i]? = some vs.toArray[i] := Array.getElem?_eq_getElem h2
    rw [List.getElem?_toArray, hv] at g
    exact (Option.some.inj g).symm
  rw [eu, ev]
  rw [d1, d2] at p
  cases p with
  | no hd =>
    refine wpAny_mono (h B.in1 pins s' σ H1 _ _ u v false sb.in1 I1 ru rv (hD _ _ _ _ _ e1 hd)) (fun t s2 q => ?_) fun _ _ z => z
    obtain ⟨rfl, H2, I2, e2⟩ := q
    exact .inr ⟨rfl, rfl, H2, I2, e1.trans e2⟩
  | yes hd t =>
    refine wpAny_mono (h B.in1 pins s' σ H1 _ _ u v true sb.in1 I1 ru rv (hD _ _ _ _ _ e1 hd)) (fun w s2 q => ?_) fun _ _ z => z
    obtain ⟨rfl, H2, I2, e2⟩ := q
    exact .inl ⟨rfl, ⟨H2, I2, e1.trans e2⟩, t⟩
theorem tup_fin {pins : List (Addr × Obj)} {σ : L2.St} {H : Hp} {xs ys : List V} {us vs : List Value} {b : Bool} (r : Vals xs us) (r2 : Vals ys vs) (i : Nat) (s' : Shared) (e : i = min us.toArray.size vs.toArray.size)
    (J : TupJ X pins σ H D xs ys b i s') : b = (us.toArray.size == vs.toArray.size) ∧ After X pins σ H s' := by
  obtain ⟨a, p⟩ := J
  have l1 : us.toArray.size = xs.length := by rw [List.size_toArray, r.length]
  have l2 : vs.toArray.size = ys.length := by rw [List.size_toArray, r2.length]
  rw [l1, l2] at e ⊢
  refine ⟨?_, a⟩
  have n1 := List.length_drop (i := i) (l := xs)
  have n2 := List.length_drop (i := i) (l := ys)
  generalize xs.drop i = xs' at n1 p
  generalize ys.drop i = ys' at n2 p
  cases p with
  | nil =>
    have z1 : 0 = xs.length - i := n1
    have z2 : 0 = ys.length - i := n2
    rw [show xs.length = ys.length from by omega]
    exact (beq_self_eq_true _).symm
  | @left y q =>
    have z1 : 0 = xs.length - i := n1
    have z2 : q.length + 1 = ys.length - i := n2
    exact (beq_false_of_ne (by omega)).symm
  | @right x q =>
    have z1 : q.length + 1 = xs.length - i := n1
    have z2 : 0 = ys.length - i := n2
    exact (beq_false_of_ne (by omega)).symm
  | @no x y q1 q2 _ =>
    have z1 : q1.length + 1 = xs.length - i := n1
    have z2 : q2.length + 1 = ys.length - i := n2
    omega
  | @yes x y q1 q2 b _ _ =>
    have z1 : q1.length + 1 = xs.length - i := n1
    have z2 : q2.length + 1 = ys.length - i := n2
    omega
theorem rcB_tup (hD : MonB D) (h : EqB X n D) : RcB X (n + 1) .Eq id (DTupB X.K D) := by
  intro B pins s σ H x y u v b sb I rx ry d
  obtain ⟨a, c, xs, ys, rfl, rfl, ha, hc, p⟩ := d
  cases rx
  cases ry
  obtain ⟨us, r, ⟨⟨cl, dd, dt, sl⟩, ho, ec, k1, ed⟩, z⟩ := I.tuple ha
  obtain ⟨vs, r2, ⟨⟨cl2, dd2, dt2, sl2⟩, ho2, ec2, k2, ed2⟩, z2⟩ := I.tuple hc
  cases (show cl = .type "tuple" from ec)
  cases (show dt = .seq us.toArray k1 from ed)
  cases (show cl2 = .type "tuple" from ec2)
  cases (show dt2 = .seq vs.toArray k2 from ed2)
  refine wpAny_richCompare_same_room (op := .Eq) ⟨_, ho, rfl⟩ ⟨_, ho2, rfl⟩ F.slot_tuple_eq (GQ.call_here F.slot_tuple_eq ⟨_, ho, rfl⟩ F.entry_tuple_eq (F.args_tuple_eq_2 _ _) ?_) sb.room.units0
  exact tup_eqB (R := wants (fun t s' => t ≠ .notImplemented ∧ (t = .bool (id b) ∧ After X pins σ H s')) X.xe) (TupJ X pins σ H D xs ys b) (After X pins σ H) (tup_turn hD h sb r r2) (tup_fin r r2)
    (fun s' q => ⟨(fun e => nomatch e), rfl, q⟩) ho ho2 ⟨⟨H, I, Ext.rfl'⟩, p⟩
theorem rnB_tup (hD : MonB D) (h : EqB X n D) : RcB X (n + 1) .NotEq not (DTupB X.K D) := by
  intro B pins s σ H x y u v b sb I rx ry d
  obtain ⟨a, c, xs, ys, rfl, rfl, ha, hc, p⟩ := d
  cases rx
  cases ry
  obtain ⟨us, r, ⟨⟨cl, dd, dt, sl⟩, ho, ec, k1, ed⟩, z⟩ := I.tuple ha
  obtain ⟨vs, r2, ⟨⟨cl2, dd2, dt2, sl2⟩, ho2, ec2, k2, ed2⟩, z2⟩ := I.tuple hc
  cases (show cl = .type "tuple" from ec)
  cases (show dt = .seq us.toArray k1 from ed)
  cases (show cl2 = .type "tuple" from ec2)
  cases (show dt2 = .seq vs.toArray k2 from ed2)
  refine wpAny_richCompare_same_room (op := .NotEq) ⟨_, ho, rfl⟩ ⟨_, ho2, rfl⟩ F.slot_tuple_ne (GQ.call_here F.slot_tuple_ne ⟨_, ho, rfl⟩ F.entry_tuple_ne (F.args_tuple_ne_2 _ _) ?_) sb.room.units0
  exact tup_neB (R := wants (fun t s' => t ≠ .notImplemented ∧ (t = .bool (!b) ∧ After X pins σ H s')) X.xe) (TupJ X pins σ H D xs ys b) (After X pins σ H) (tup_turn hD h sb r r2) (tup_fin r r2)
    (fun s' q => ⟨(fun e => nomatch e), rfl, q⟩) ho ho2 ⟨⟨H, I, Ext.rfl'⟩, p⟩
/-- a thing is equal to itself -/
def SelfB (X : Cx) (D : Eqb) : Prop := ∀ (pins : List (Addr × Obj)) (σ : L2.St) (H : Hp) (s : Shared) (x : V) (b : Bool), Inv X pins σ H s → D x x b H → b = true
theorem self_flat : SelfB X DFlatB := by
  rintro pins σ H s x b I ⟨f, _, e⟩
  rw [← e]
  cases x with
  | non => rfl
  | bl c => exact beq_self_eq_true c
  | int i => exact beq_self_eq_true i
  | str z => exact beq_self_eq_true z
  | byt _ => cases f
  | flt _ => cases f
  | ref _ => cases f
  | ty _ => cases f
theorem SelfB.or (h : SelfB X D) (h' : SelfB X D') : SelfB X (fun x y b H => D x y b H ∨ D' x y b H) := fun pins σ H s x b I d => d.elim (h pins σ H s x b I) (h' pins σ H s x b I)
theorem PrB.self {pins : List (Addr × Obj)} {σ : L2.St} {H : Hp} {s : Shared} (I : Inv X pins σ H s) (hs : SelfB X D) : ∀ {xs : List V} {b : Bool}, PrB D H xs xs b → b = true
  | [], _, .nil => rfl
  | _ :: _, _, .no h => hs pins σ H s _ _ I h
  | _ :: _, _, .yes _ t => PrB.self I hs t
theorem self_tup (hs : SelfB X D) : SelfB X (DTupB X.K D) := by
  rintro pins σ H s x b I ⟨a, c, xs, ys, rfl, e, h1, h2, p⟩
  cases e
  rw [I.tuple_inj h2 h1] at p
  exact p.self I hs
theorem RcB.imp (h : RcB X n op f D) (hd : ∀ x y b H, D' x y b H → D x y b H) : RcB X n op f D' := fun B pins s σ H x y u v b sb I rx ry d => h B pins s σ H x y u v b sb I rx ry (hd _ _ _ _ d)
/-- from a comparison of references to == within a built-in: a thing is itself -/
theorem RcB.eqB (h : RcB X n .Eq id D) (hr : ∀ x y b H, D x y b H → ∃ a c, x = .ref a ∧ y = .ref c) (hs : SelfB X D) : EqB X n D := by
  intro B pins s σ H x y u v b sb I rx ry d
  obtain ⟨a, c, rfl, rfl⟩ := hr _ _ _ _ d
  cases rx
  cases ry
  by_cases e : a = c
  · subst e
    have eb := hs pins σ H s _ _ I d
    subst eb
    exact SeqAt.EqAt.same (A := B) (s := s) (.ref a) X.prog X.w X.xe _ ⟨rfl, H, I, Ext.rfl'⟩
  · refine GQ.eqBool_refG e (wpAny_mono (h B pins s σ H (.ref a) (.ref c) _ _ b sb I rfl rfl d) (fun r s' q => ?_) fun _ _ z => z)
    obtain ⟨e1, q⟩ := q
    exact ⟨b, e1, rfl, q⟩
/-- as an expression -/
def rB (f : Bool → Bool) (D : Eqb) : R2 := fun x y H Q => ∃ b, D x y b H ∧ ∀ H', Ext H H' → Q (.bl (f b)) H'
theorem op_B (h : RcB X n op f D) (hr : Room n X.A) : OpR X (richCompare op) (rB f D) := by
  intro pins s σ H x y v u Q I rx ry hq
  obtain ⟨b, d, q⟩ := hq
  refine wpAny_mono (h X.A pins s σ H x y v u b ⟨hr, rfl⟩ I rx ry d) (fun r s' z => ?_) fun _ _ e => e
  obtain ⟨rfl, H', I', e⟩ := z
  exact ⟨.bl (f b), H', I', rfl, q H' e⟩
end
end VK
set_option Elab.async false
set_option linter.all false
set_option maxRecDepth 100000
set_option maxHeartbeats 4000000
/-! == and != by a class's own __eq__ -/
namespace VK
open PySem PySem.Spec PyProof.Rows L2
/-- what an own == promises -/
def spEqB (R : Addr → V → Bool → Hp → Prop) : Sp := fun vs H Q _ => ∃ (a : Addr) (y : V) (b : Bool), vs = [.ref a, y] ∧ R a y b H ∧ ∀ H', Ext H H' → Q (.bl b) H'
def DOwnB (K : PySem.W.Frag) (C : Addr) (R : Addr → V → Bool → Hp → Prop) : Eqb := fun x y b H => ∃ (a dx : Addr) (fs : List (Str × V)) (t : Value), x = .ref a ∧ H a = some (.ins C dx fs) ∧
  TyX K H y t ∧ PySem.W.notFirst K C t = true ∧ R a y b H
/-- two of the class -/
def DTwoB (C : Addr) (R : Addr → V → Bool → Hp → Prop) : Eqb := fun x y b H => ∃ (a c dx dy : Addr) (fs gs : List (Str × V)), x = .ref a ∧ y = .ref c ∧ H a = some (.ins C dx fs) ∧ H c = some (.ins C dy gs) ∧ R a (.ref c) b H
section
variable {X : Cx} {CX : CXT} {n : Nat} {C f : Addr} {fd : FuncData} {ps : List Str} {R : Addr → V → Bool → Hp → Prop} {E : XK}
/-- the call of __eq__ -/
theorem eq_call (F : FnOk X.prog X.w X.K X.mg X.base CX n f fd ps (spEqB R)) (hb : Binds X.K fd ps []) (hx : Passes CX X E) {B : Around} {pins : List (Addr × Obj)} {s : Shared} {σ : L2.St} {H : Hp} {a : Addr} {y : V} {v : Value} {b : Bool}
    {Q : Value → Shared → Prop} (sb : Sub X n B) (I : Inv X pins σ H s) (ry : RelV y v) (d : R a y b H) (k : ∀ s', After X pins σ H s' → Q (.bool b) s') : wpAny (model X.prog X.w) B (call (.ref f) [.ref a, v]) Q X.xe s := by
  have e0 : Env0 X.prog X.w X.K X.mg X.base B X.stack s H := by
    have e := I.env0
    exact ⟨by rw [sb.fr]; exact e.frames, e.mod, e.bs, e.bsz, e.funs, e.frf, e.hok, e.bare⟩
  have sp : spEqB R [.ref a, y] H (fun v H' => v = .bl b ∧ Ext H H') E := ⟨a, y, b, rfl, d, fun H' e => ⟨rfl, e⟩⟩
  have hl := F.len _ _ _ _ sp
  have rv : Vals [V.ref a, y] [Value.ref a, v] := .cons rfl (.cons ry .nil)
  have bnd := hb s [.ref a, v] I.kIn (by simpa using hl)
  refine wpAny_call (codeAny_mono (F.run B X.stack s H ⟨[.ref a, v], []⟩ [.ref a, v] [.ref a, y] _ E sb.room e0 (by simpa using bnd) rv sp) fun r s' hq => ?_)
  cases r with
  | error e => exact hx pins σ H s e s' I hq
  | ok fl =>
    cases fl with
    | ret u =>
      obtain ⟨z, H', I', rz, rfl, ex⟩ := I.after hq
      cases rz
      exact k s' ⟨H', I', ex⟩
    | next => exact False.elim hq
    | brk => exact False.elim hq
    | cont => exact False.elim hq
theorem rcB_own (F : FnOk X.prog X.w X.K X.mg X.base CX n f fd ps (spEqB R)) (hs : PySem.W.findIn X.K (.ref C) "__eq__" = some (some (.ref f))) (hf : PySem.W.isFn X.K (.ref f) = true) (hb : Binds X.K fd ps [])
    (hx : Passes CX X E) : RcB X n .Eq id (DOwnB X.K C R) := by
  intro B pins s σ H x y u v b sb I rx ry d
  obtain ⟨a, dx, fs, t, rfl, ha, ty, nf, hr⟩ := d
  cases rx
  obtain ⟨mA, J, _⟩ := ins_get I.hok ha
  obtain ⟨od, J, _⟩ := J.look
  obtain ⟨P, kx, hp, _⟩ := kit_of I ry ty
  obtain ⟨m, hF⟩ := I.fr
  refine PySem.W.cmp_K (op := .Eq) (tb := t) sb.room.units0 hF I.ok.mod.kin J (kx.ty _ _ I.kIn hp) nf hs hf ?_
  exact eq_call F hb hx sb I ry hr fun s' q => ⟨rfl, q⟩
theorem rnB_own (F : FnOk X.prog X.w X.K X.mg X.base CX n f fd ps (spEqB R)) (hne : ∀ (h : Heap) (x : Addr) (o : Obj), X.K.In h → h.get? x = some o → o.cls = .ref C → h.OwnEqNoNe x C f "object" [.type "object"])
    (hb : Binds X.K fd ps []) (hx : Passes CX X E) : RcB X (n + 1) .NotEq not (DTwoB C R) := by
  intro B pins s σ H x y u v b sb I rx ry d
  obtain ⟨a, c, dx, dy, fs, gs, rfl, rfl, ha, hc, hr⟩ := d
  cases rx
  cases ry
  obtain ⟨mA, J, _⟩ := ins_get I.hok ha
  obtain ⟨mB, J', _⟩ := ins_get I.hok hc
  obtain ⟨od, J, _⟩ := J.look
  obtain ⟨od', J', _⟩ := J'.look
  have ow := hne s.heap a _ I.kIn J.at_ J.cls
  have un : B.units + 1 < cLine := by
    have := sb.room.un
    omega
  obtain ⟨hp, g, dr, tk, os⟩ := s
  refine richCompare_ne_ownEq _root_.PySem.F.cmp_object ow J'.at_ J'.cls un ?_
  exact eq_call F hb hx sb.in1 I (show RelV (.ref c) (.ref c) from rfl) hr fun s' q => ⟨b, rfl, rfl, q⟩
theorem op_Beq {D : Eqb} (h : RcB X n .Eq id D) (hr : Room n X.A) : OpR X (compareOp .Eq) (rB id D) := op_B h hr
theorem op_Bne {D : Eqb} (h : RcB X n .NotEq not D) (hr : Room n X.A) : OpR X (compareOp .NotEq) (rB not D) := op_B h hr
end
end VK
set_option Elab.async false
set_option linter.all false
set_option maxRecDepth 100000
set_option maxHeartbeats 4000000
namespace K81
open PySem L2 VK
abbrev sEq : Stmt := inClass (top 24) 8
theorem scEq : FnScope ["self", "other"] ["self", "other"] (defScope sEq) := ⟨rfl, rfl, rfl, by decide +kernel, rfl, by decide +kernel, by decide +kernel⟩
theorem flds_inj {s s' : Str} {ts ts' ss ss' : Addr} {d d' : Int} (e : flds s ts ss d = flds s' ts' ss' d') : s = s' ∧ ts = ts' := by
  have a := get_source s ts ss d
  have b := get_stages s ts ss d
  rw [e] at a b
  rw [get_source] at a
  rw [get_stages] at b
  exact ⟨(V.str.inj (Option.some.inj a)).symm, (V.ref.inj (Option.some.inj b)).symm⟩
/-! ### one address, one program -/
section
variable {X : Cx} {pins : List (Addr × Obj)} {σ : L2.St} {H : Hp} {s : Shared} {C : Addr}
mutual
theorem PgAt.inj (I : Inv X pins σ H s) : ∀ {v : V} {p q : Pg}, PgAt X.K C H v p → PgAt X.K C H v q → p = q
  | _, _, _, .mk (s := s1) (l := l1) h hs hl hr, .mk (s := s2) (l := l2) h' hs' hl' hr' => by
    rw [h] at h'
    have e := Option.some.inj h'
    injection e with e1 e2 e3
    obtain ⟨es, et⟩ := flds_inj e3
    subst es et
    rw [StAll.inj I hl (by rw [I.tuple_inj hs hs']; exact hl')]
theorem StV.inj (I : Inv X pins σ H s) : ∀ {v : V} {x y : Sg}, StV X.K C H v x → StV X.K C H v y → x = y
  | _, _, _, .nm h, .nm h' => by
    have e := I.tuple_inj h h'
    injection e with e1 e2
    injection e2 with e2 _
    rw [V.str.inj e1, V.str.inj e2]
  | _, _, _, .nm h, .num h' => by
    have e := I.tuple_inj h h'
    injection e with e1 e2
    injection e2 with e2 _
    cases e2
  | _, _, _, .nm h, .flat h' => by
    have e := I.tuple_inj h h'
    injection e with e1 e2
    cases e2
  | _, _, _, .nm h, .zip h' hp' => by
    have e := I.tuple_inj h h'
    injection e with e1 e2
    injection e2 with e2 _
    rw [← e2] at hp'
    cases hp'
  | _, _, _, .num h, .nm h' => by
    have e := I.tuple_inj h h'
    injection e with e1 e2
    injection e2 with e2 _
    cases e2
  | _, _, _, .num h, .num h' => by
    have e := I.tuple_inj h h'
    injection e with e1 e2
    injection e2 with e2 _
    rw [V.str.inj e1, V.int.inj e2]
  | _, _, _, .num h, .flat h' => by
    have e := I.tuple_inj h h'
    injection e with e1 e2
    cases e2
  | _, _, _, .num h, .zip h' hp' => by
    have e := I.tuple_inj h h'
    injection e with e1 e2
    injection e2 with e2 _
    rw [← e2] at hp'
    cases hp'
  | _, _, _, .flat h, .nm h' => by
    have e := I.tuple_inj h h'
    injection e with e1 e2
    cases e2
  | _, _, _, .flat h, .num h' => by
    have e := I.tuple_inj h h'
    injection e with e1 e2
    cases e2
  | _, _, _, .flat h, .flat h' => rfl
  | _, _, _, .flat h, .zip h' hp' => by
    have e := I.tuple_inj h h'
    injection e with e1 e2
    cases e2
  | _, _, _, .zip h hp, .nm h' => by
    have e := I.tuple_inj h h'
    injection e with e1 e2
    injection e2 with e2 _
    rw [e2] at hp
    cases hp
  | _, _, _, .zip h hp, .num h' => by
    have e := I.tuple_inj h h'
    injection e with e1 e2
    injection e2 with e2 _
    rw [e2] at hp
    cases hp
  | _, _, _, .zip h hp, .flat h' => by
    have e := I.tuple_inj h h'
    injection e with e1 e2
    cases e2
  | _, _, _, .zip h hp, .zip h' hp' => by
    have e := I.tuple_inj h h'
    injection e with e1 e2
    injection e2 with e2 _
    rw [PgAt.inj I hp (by rw [e2]; exact hp')]
theorem StAll.inj (I : Inv X pins σ H s) : ∀ {vs : List V} {l m : Sgs}, StAll X.K C H vs l → StAll X.K C H vs m → l = m
  | _, _, _, .nil, .nil => rfl
  | _, _, _, .cons h t, .cons h' t' => by rw [StV.inj I h h', StAll.inj I t t']
end
end
end K81
set_option Elab.async false
set_option linter.all false
set_option maxRecDepth 100000
set_option maxHeartbeats 4000000
namespace K81
open PySem L2 VK
/-- what the class says of == -/
structure Le (K : Fg) (C fq : Addr) (dq : FuncData) : Prop where
  F : Fun K "__eq__" "Program.__eq__" sEq fq dq
  hs : PySem.W.findIn K (.ref C) "__eq__" = some (some (.ref fq))
  hf : PySem.W.isFn K (.ref fq) = true
  b : Binds K dq ["self", "other"] []
  ne : ∀ (h : Heap) (x : Addr) (o : Obj), K.In h → h.get? x = some o → o.cls = .ref C → h.OwnEqNoNe x C fq "object" [.type "object"]
/-- what the body of == asks of the two -/
def EqAsk (K : Fg) (C : Addr) (D : Eqb) (a : Addr) (y : V) (b : Bool) (H : Hp) : Prop :=
  (∃ (c dx dy ts ss ts' ss' : Addr) (s s' : Str) (d d' : Int), y = .ref c ∧ H a = some (.ins C dx (flds s ts ss d)) ∧ H c = some (.ins C dy (flds s' ts' ss' d')) ∧ (s ≠ s' → b = false) ∧ (s = s' → D (.ref ts) (.ref ts') b H)) ∨
  (∃ t, TyX K H y t ∧ PySem.W.kitOne K t (.ref C) = some false ∧ b = false)
theorem eqV_str (a b : Str) : eqV (.str a) (.str b) = decide (a = b) := by
  show (a == b) = _
  by_cases h : a = b
  · rw [h, decide_eq_true rfl]; exact beq_self_eq_true b
  · rw [decide_eq_false h]; exact beq_false_of_ne h
section
variable {P : Program} {w : World} {K : Fg} {mg : Str → Option Value} {base : Heap} {A I : Nat → Addr} {D J : Nat → FuncData} {aS a1 a2 C fq : Addr} {dq : FuncData}
theorem ok_eq_of {n : Nat} {Q0 : Eqb} {R : Addr → V → Bool → Hp → Prop} (Z : Le K C fq dq) (L : Lb K mg A I D J aS a1 a2 C) (hop : ∀ X : Cx, X.prog = P → X.w = w → X.K = K → X.mg = mg → X.base = base → RcB X n .Eq id Q0)
    (hR : ∀ a y b H, R a y b H → EqAsk K C Q0 a y b H) : FnOk P w K mg base CX0 (n + 1) fq dq ["self", "other"] (spEqB R) := by
  refine Z.F.ok scEq (fun vs H Q E h => ?_) (fun cdv B outer s H vs Q E hr h => ?_)
  · obtain ⟨a, y, b, rfl, _⟩ := h
    rfl
  · obtain ⟨a, y, b, rfl, r, k⟩ := h
    refine ⟨_, pss_one (ps_ret (pe_and (pe_callB call_isi (by rfl) L.N.isi PyProof.Rows.boot_isinstance (pa_cons (pv 1) (pa_cons (pe_glob (v := .ref C) rfl L.c.g rfl) pa_nil)))
      (pe_and (pe_cmpR op_eq (pe_fld (pv 0) rfl) (pe_fld (pv 1) rfl) (nomark _)) (pe_one (pe_cmpR (op_Beq (hop _ rfl rfl rfl rfl rfl) hr) (pe_fld (pv 0) rfl) (pe_fld (pv 1) rfl) (nomark _)))))), ?_⟩
    rcases hR a y b H r with ⟨c, dx, dy, ts, ss, ts', ss', s1, s2, d, d', rfl, ha, hc, n1, n2⟩ | ⟨t, ty, kt, rfl⟩
    · refine ⟨_, rfl, .ref c, .ref C, .ref C, .ref C, true, rfl, .own C, L.c.ty hc, L.c.kc, _, rfl, ?_⟩
      refine iteT (B := True) ?_
      refine ⟨_, rfl, a, C, dx, _, .str s1, rfl, ha, L.c.cl, L.c.n1, get_source _ _ _ _, _, rfl, c, C, dy, _, .str s2, rfl, hc, L.c.cl, L.c.n1, get_source _ _ _ _, rfl, _, rfl, ?_⟩
      refine dif (fun e => ?_) (fun e => ?_)
      · have e' : s1 = s2 := V.str.inj e
        refine ⟨_, rfl, a, C, dx, _, .ref ts, rfl, ha, L.c.cl, L.c.n2, get_stages _ _ _ _, _, rfl, c, C, dy, _, .ref ts', rfl, hc, L.c.cl, L.c.n2, get_stages _ _ _ _, b, n2 e', fun H' ex => k H' ex⟩
      · have e' : s1 ≠ s2 := fun z => e (congrArg V.str z)
        rw [n1 e'] at k
        exact k H Ext.rfl'
    · exact ⟨_, rfl, y, .ref C, t, .ref C, false, rfl, .own C, ty, kt, _, rfl, iteF (A := True) (k H Ext.rfl')⟩
end
/-! ### two programs, by what they are -/
/-- all stages are of a known kind -/
def Two (K : Fg) (C : Addr) (m : Nat) (a : Addr) (y : V) (b : Bool) (H : Hp) : Prop := ∃ p q : Pg, PgAt K C H (.ref a) p ∧ PgAt K C H y q ∧ p.ok ∧ q.ok ∧ p.nest < m ∧ (b = true ↔ p = q)
def Rq (K : Fg) (C : Addr) (m : Nat) (a : Addr) (y : V) (b : Bool) (H : Hp) : Prop := Two K C m a y b H ∨ ∃ t, TyX K H y t ∧ PySem.W.kitOne K t (.ref C) = some false ∧ b = false
def DItem (K : Fg) (C : Addr) (m : Nat) : Eqb := fun x y b H => DFlatB x y b H ∨ DTwoB C (Two K C m) x y b H
abbrev DStage (K : Fg) (C : Addr) (m : Nat) : Eqb := DTupB K (DItem K C m)
abbrev DStages (K : Fg) (C : Addr) (m : Nat) : Eqb := DTupB K (DStage K C m)
theorem mon_two {K : Fg} {C : Addr} {m : Nat} : MonB (DTwoB C (Two K C m)) := by
  rintro x y b H H' e ⟨a, c, dx, dy, fs, gs, hx, hy, h1, h2, p, q, hp, hq, o1, o2, hn, hb⟩
  have k : Kp H H' := Kp.of e
  exact ⟨a, c, dx, dy, fs, gs, hx, hy, e _ _ h1, e _ _ h2, p, q, PgAt.kp k hp, PgAt.kp k hq, o1, o2, hn, hb⟩
theorem mon_item {K : Fg} {C : Addr} {m : Nat} : MonB (DItem K C m) := mon_flatB.or mon_two
theorem self_item {X : Cx} {C : Addr} {m : Nat} : SelfB X (DItem X.K C m) := by
  refine self_flat.or ?_
  rintro pins σ H s x b I ⟨a, c, dx, dy, fs, gs, rfl, e, h1, h2, p, q, hp, hq, o1, o2, hn, hb⟩
  cases e
  exact hb.mpr (PgAt.inj I hp hq)
def Sg.ty : Sg → Nat
  | .nm _ _ => 0
  | .num _ _ => 1
  | .flat => 2
  | .zip _ => 3
theorem kd_ty {x y : Sg} (hx : x.wf) (hy : y.wf) (e : x.kd = y.kd) : x.ty = y.ty := by
  have a1 : ∀ z ∈ K1, z ∉ K2 := by decide +kernel
  have a2 : ∀ z ∈ K1, z ≠ "flat" := by decide +kernel
  have a3 : ∀ z ∈ K1, z ≠ "zip" := by decide +kernel
  have a4 : ∀ z ∈ K2, z ≠ "flat" := by decide +kernel
  have a5 : ∀ z ∈ K2, z ≠ "zip" := by decide +kernel
  have a6 : ("flat" : Str) ≠ "zip" := by decide +kernel
  cases x with
  | nm k n =>
    cases y with
    | nm k' n' => rfl
    | num k' n' => exact absurd hy (by rw [← show k = k' from e]; exact a1 k hx)
    | flat => exact absurd e (a2 k hx)
    | zip p => exact absurd e (a3 k hx)
  | num k n =>
    cases y with
    | nm k' n' => exact absurd hx (by rw [show k = k' from e]; exact a1 k' hy)
    | num k' n' => rfl
    | flat => exact absurd e (a4 k hx)
    | zip p => exact absurd e (a5 k hx)
  | flat =>
    cases y with
    | nm k' n' => exact absurd e.symm (a2 k' hy)
    | num k' n' => exact absurd e.symm (a4 k' hy)
    | flat => rfl
    | zip p => exact absurd e a6
  | zip p =>
    cases y with
    | nm k' n' => exact absurd e.symm (a3 k' hy)
    | num k' n' => exact absurd e.symm (a5 k' hy)
    | flat => exact absurd e.symm a6
    | zip p => rfl
theorem flat_yes {K : Fg} {C : Addr} {m : Nat} {H : Hp} (z : Str) : DItem K C m (.str z) (.str z) true H := .inl ⟨rfl, rfl, beq_self_eq_true z⟩
theorem st_eq {K : Fg} {C : Addr} {m : Nat} {H : Hp} {v v' : V} {x y : Sg} {d d' : Int} {tk tk' : List Str} (hx : StV K C H v x) (hy : StV K C H v' y) (ox : x.ok d tk) (oy : y.ok d' tk') (hm : x.nest ≤ m) :
    ∃ b : Bool, DStage K C m v v' b H ∧ (b = true ↔ x = y) := by
  by_cases e : x.kd = y.kd
  · have ty := kd_ty ox.vd.wf oy.vd.wf e
    cases hx with
    | @nm a k n h =>
      cases hy with
      | @nm a' k' n' h' =>
        cases (show k = k' from e)
        refine ⟨decide (n = n'), ⟨_, _, _, _, rfl, rfl, h, h', .yes (flat_yes k) ?_⟩, ?_⟩
        · by_cases c : n = n'
          · rw [decide_eq_true c]
            exact .yes (.inl ⟨rfl, rfl, by rw [c]; exact beq_self_eq_true n'⟩) .nil
          · rw [decide_eq_false c]
            exact .no (.inl ⟨rfl, rfl, beq_false_of_ne c⟩)
        · rw [decide_eq_true_eq]
          exact ⟨fun z => by rw [z], fun z => by injection z⟩
      | num h' => exact absurd ty (by simp [Sg.ty])
      | flat h' => exact absurd ty (by simp [Sg.ty])
      | zip h' hp => exact absurd ty (by simp [Sg.ty])
    | @num a k n h =>
      cases hy with
      | nm h' => exact absurd ty (by simp [Sg.ty])
      | @num a' k' n' h' =>
        cases (show k = k' from e)
        refine ⟨decide (n = n'), ⟨_, _, _, _, rfl, rfl, h, h', .yes (flat_yes k) ?_⟩, ?_⟩
        · by_cases c : n = n'
          · rw [decide_eq_true c]
            exact .yes (.inl ⟨rfl, rfl, by rw [c]; exact beq_self_eq_true n'⟩) .nil
          · rw [decide_eq_false c]
            exact .no (.inl ⟨rfl, rfl, beq_false_of_ne c⟩)
        · rw [decide_eq_true_eq]
          exact ⟨fun z => by rw [z], fun z => by injection z⟩
      | flat h' => exact absurd ty (by simp [Sg.ty])
      | zip h' hp => exact absurd ty (by simp [Sg.ty])
    | @flat a h =>
      cases hy with
      | nm h' => exact absurd ty (by simp [Sg.ty])
      | num h' => exact absurd ty (by simp [Sg.ty])
      | flat h' => exact ⟨true, ⟨_, _, _, _, rfl, rfl, h, h', .yes (flat_yes _) .nil⟩, fun _ => rfl, fun _ => rfl⟩
      | zip h' hp => exact absurd ty (by simp [Sg.ty])
    | @zip a v p h hp =>
      cases hy with
      | nm h' => exact absurd ty (by simp [Sg.ty])
      | num h' => exact absurd ty (by simp [Sg.ty])
      | flat h' => exact absurd ty (by simp [Sg.ty])
      | @zip a' v' q h' hq =>
        have op : p.ok ∧ ∀ s ∈ p.srcs, s ∉ tk := ox
        have oq : q.ok ∧ ∀ s ∈ q.srcs, s ∉ tk' := oy
        have lt : p.nest < m := hm
        have hp0 := hp
        have hq0 := hq
        cases hp with
        | @mk c dx ts ss s l xs e1 e2 e3 e4 =>
        cases hq with
        | @mk c' dx' ts' ss' s' l' xs' f1 f2 f3 f4 =>
          have two : ∀ b : Bool, (b = true ↔ Pg.mk s l = Pg.mk s' l') → DItem K C m (.ref c) (.ref c') b H := fun b hb => .inr ⟨c, c', _, _, _, _, rfl, rfl, e1, f1, _, _, hp0, hq0, op.1, oq.1, lt, hb⟩
          by_cases q : Pg.mk s l = Pg.mk s' l'
          · exact ⟨true, ⟨_, _, _, _, rfl, rfl, h, h', .yes (flat_yes _) (.yes (two true ⟨fun _ => q, fun _ => rfl⟩) .nil)⟩, fun _ => by rw [q], fun _ => rfl⟩
          · exact ⟨false, ⟨_, _, _, _, rfl, rfl, h, h', .yes (flat_yes _) (.no (two false ⟨fun z => absurd z Bool.false_ne_true, fun z => absurd z q⟩))⟩, fun z => absurd z Bool.false_ne_true, fun z => by injection z with z; exact absurd z q⟩
  · obtain ⟨a, r, rfl, h⟩ := hx.at0
    obtain ⟨a', r', rfl, h'⟩ := hy.at0
    refine ⟨false, ⟨_, _, _, _, rfl, rfl, h, h', .no (.inl ⟨rfl, rfl, beq_false_of_ne e⟩)⟩, fun z => absurd z Bool.false_ne_true, fun z => absurd (by rw [z]) e⟩
theorem sts_eq {K : Fg} {C : Addr} {m : Nat} {H : Hp} : ∀ {xs ys : List V} {l l' : Sgs} {d d' : Int} {tk tk' : List Str}, StAll K C H xs l → StAll K C H ys l' → l.ok d tk → l'.ok d' tk' → l.nest ≤ m →
    ∃ b : Bool, PrB (DStage K C m) H xs ys b ∧ (b = true ↔ l = l')
  | _, _, _, _, _, _, _, _, .nil, .nil, _, _, _ => ⟨true, .nil, fun _ => rfl, fun _ => rfl⟩
  | _, _, _, _, _, _, _, _, .nil, .cons _ _, _, _, _ => ⟨false, .left, fun z => absurd z Bool.false_ne_true, fun z => by cases z⟩
  | _, _, _, _, _, _, _, _, .cons _ _, .nil, _, _, _ => ⟨false, .right, fun z => absurd z Bool.false_ne_true, fun z => by cases z⟩
  | _, _, _, _, _, _, _, _, .cons (x := x) (r := r) h t, .cons (x := y) (r := q) h' t', o, o', hm => by
    have o : x.ok _ _ ∧ r.ok _ _ := o
    have o' : y.ok _ _ ∧ q.ok _ _ := o'
    have hm : max x.nest r.nest ≤ m := hm
    obtain ⟨b, e, hb⟩ := st_eq h h' o.1 o'.1 (Nat.le_trans (Nat.le_max_left _ _) hm)
    obtain ⟨b2, e2, hb2⟩ := sts_eq t t' o.2 o'.2 (Nat.le_trans (Nat.le_max_right _ _) hm)
    cases b with
    | true =>
      have xy := hb.mp rfl
      refine ⟨b2, .yes e e2, fun z => by rw [xy, hb2.mp z], fun z => ?_⟩
      injection z with _ z
      exact hb2.mpr z
    | false =>
      refine ⟨false, .no e, fun z => absurd z Bool.false_ne_true, fun z => ?_⟩
      injection z with z _
      exact hb.mpr z
end K81
set_option Elab.async false
set_option linter.all false
set_option maxRecDepth 100000
set_option maxHeartbeats 4000000
namespace K81
open PySem L2 VK
theorem bool_iff {a b : Bool} {p : Prop} (h1 : a = true ↔ p) (h2 : b = true ↔ p) : a = b := by
  cases a <;> cases b
  · rfl
  · exact (h1.mpr (h2.mp rfl))
  · exact (h2.mpr (h1.mp rfl)).symm
  · rfl
theorem ask_of {K : Fg} {C : Addr} {m : Nat} {a : Addr} {y : V} {b : Bool} {H : Hp} (h : Rq K C (m + 1) a y b H) : EqAsk K C (DStages K C m) a y b H := by
  rcases h with ⟨p, q, hp, hq, o1, o2, hn, hb⟩ | h
  · cases hp with
    | @mk a dx ts ss s l xs e1 e2 e3 e4 =>
    cases hq with
    | @mk c dx' ts' ss' s' l' xs' f1 f2 f3 f4 =>
      have o1 : s ∈ K0 ∧ l.len ≤ 6 ∧ l.ok 0 [s] := o1
      have o2 : s' ∈ K0 ∧ l'.len ≤ 6 ∧ l'.ok 0 [s'] := o2
      have hn : l.nest ≤ m := Nat.le_of_lt_succ hn
      refine .inl ⟨c, dx, dx', ts, ss, ts', ss', s, s', _, _, rfl, e1, f1, fun ne => ?_, fun e => ?_⟩
      · cases b with
        | false => rfl
        | true =>
          have z := hb.mp rfl
          injection z with z _
          exact absurd z ne
      · subst e
        obtain ⟨b', pr, hb'⟩ := sts_eq e3 f3 o1.2.2 o2.2.2 hn
        have : b' = b := bool_iff (hb'.trans ⟨fun z => by rw [z], fun z => by injection z⟩) hb
        subst this
        exact ⟨ts, ts', xs, xs', rfl, rfl, e2, f2, pr⟩
  · exact .inr h
section
variable {P : Program} {w : World} {K : Fg} {mg : Str → Option Value} {base : Heap} {A I : Nat → Addr} {D J : Nat → FuncData} {aS a1 a2 C fq : Addr} {dq : FuncData}
theorem nf_self {K : Fg} {C : Addr} : PySem.W.notFirst K C (.ref C) = true := by simp [PySem.W.notFirst]
theorem two_own {m : Nat} (L : Lb K mg A I D J aS a1 a2 C) (x y : V) (b : Bool) (H : Hp) (h : DTwoB C (Two K C m) x y b H) : DOwnB K C (Rq K C m) x y b H := by
  obtain ⟨a, c, dx, dy, fs, gs, rfl, rfl, h1, h2, r⟩ := h
  exact ⟨a, dx, fs, .ref C, rfl, h1, L.c.ty h2, nf_self, .inl r⟩
theorem eqB_item {X : Cx} {m : Nat} (L : Lb X.K X.mg A I D J aS a1 a2 C) (Z : Le X.K C fq dq) (F : FnOk X.prog X.w X.K X.mg X.base CX0 (3 * m + 2) fq dq ["self", "other"] (spEqB (Rq X.K C m))) : EqB X (3 * m + 2) (DItem X.K C m) := by
  refine (eqB_flat.mono (Nat.zero_le _)).or (((rcB_own F Z.hs Z.hf Z.b pass0).imp (two_own L)).eqB ?_ ?_)
  · rintro x y b H ⟨a, c, _, _, _, _, rfl, rfl, _⟩
    exact ⟨a, c, rfl, rfl⟩
  · intro pins σ H s x b I d
    exact self_item pins σ H s x b I (.inr d)
theorem rcB_stage {X : Cx} {m : Nat} (L : Lb X.K X.mg A I D J aS a1 a2 C) (Z : Le X.K C fq dq) (F : FnOk X.prog X.w X.K X.mg X.base CX0 (3 * m + 2) fq dq ["self", "other"] (spEqB (Rq X.K C m))) : EqB X (3 * m + 3) (DStage X.K C m) := by
  refine (rcB_tup mon_item (eqB_item L Z F)).eqB ?_ (self_tup self_item)
  rintro x y b H ⟨a, c, _, _, rfl, rfl, _⟩
  exact ⟨a, c, rfl, rfl⟩
theorem rcB_stages {X : Cx} {m : Nat} (L : Lb X.K X.mg A I D J aS a1 a2 C) (Z : Le X.K C fq dq) (F : FnOk X.prog X.w X.K X.mg X.base CX0 (3 * m + 2) fq dq ["self", "other"] (spEqB (Rq X.K C m))) : RcB X (3 * m + 4) .Eq id (DStages X.K C m) :=
  rcB_tup (mon_tupB mon_item) (rcB_stage L Z F)
theorem rnB_stages {X : Cx} {m : Nat} (L : Lb X.K X.mg A I D J aS a1 a2 C) (Z : Le X.K C fq dq) (F : FnOk X.prog X.w X.K X.mg X.base CX0 (3 * m + 2) fq dq ["self", "other"] (spEqB (Rq X.K C m))) : RcB X (3 * m + 4) .NotEq not (DStages X.K C m) :=
  rnB_tup (mon_tupB mon_item) (rcB_stage L Z F)
theorem ok_eq (L : Lb K mg A I D J aS a1 a2 C) (Z : Le K C fq dq) : ∀ m : Nat, FnOk P w K mg base CX0 (3 * m + 2) fq dq ["self", "other"] (spEqB (Rq K C m))
  | 0 => by
    refine ok_eq_of (n := 1) (Q0 := DTupB K DFlatB) Z L (fun X h1 h2 h3 h4 h5 => ?_) (fun a y b H r => ?_)
    · subst h3
      exact rcB_tup mon_flatB eqB_flat
    · rcases r with ⟨p, q, hp, hq, o1, o2, hn, hb⟩ | r
      · exact absurd hn (Nat.not_lt_zero _)
      · exact .inr r
  | m + 1 => by
    have F := ok_eq L Z m
    refine ok_eq_of (n := 3 * m + 4) (Q0 := DStages K C m) Z L (fun X h1 h2 h3 h4 h5 => ?_) (fun a y b H r => ask_of r)
    subst h1 h2 h3 h4 h5
    exact rcB_stages L Z F
end
end K81
set_option Elab.async false
set_option linter.all false
set_option maxRecDepth 100000
set_option maxHeartbeats 4000000
set_option exponentiation.threshold 300
namespace K81
open PySem L2 VK
abbrev sSource : Stmt := top 36
abbrev sDraw : Stmt := top 37
abbrev sPick : Stmt := top 38
/-! ### the stream of draws: a list of two ints at p -/
def Strm (H : Hp) (p : Addr) : Prop := ∃ r m : Int, H p = some (.lst [.int r, .int m]) ∧ 0 ≤ m ∧ m ≤ 2147483647
def But (p : Addr) (H H' : Hp) : Prop := ∀ b, b ≠ p → H' b = H b
theorem But.upd {p : Addr} {H : Hp} {o : HO} : But p H (upd H p o) := fun b hb => upd_ne hb
theorem But.seq {K : Fg} {p : Addr} {H H' : Hp} (k : But p H H') {a : Addr} {xs : List V} (hne : a ≠ p) (h : SqL K H a xs) : SqL K H' a xs := by
  rcases h with (h | ⟨o, h⟩) | h
  · exact .inl (.inl ((k a hne).trans h))
  · exact .inl (.inr ⟨o, (k a hne).trans h⟩)
  · exact .inr h
def spDraw : Sp := fun vs H Q _ => ∃ (p : Addr) (n : Int), vs = [.ref p, .int n] ∧ Strm H p ∧ 0 < n ∧ n < 1000000 ∧
  ∀ (d : Int) (H' : Hp), 0 ≤ d → d < n → Strm H' p → But p H H' → Q (.int d) H'
theorem scDraw : FnScope ["stream", "span", "found"] ["stream", "span"] (defScope sDraw) := ⟨rfl, rfl, rfl, by decide +kernel, rfl, by decide +kernel, by decide +kernel⟩
section
variable {P : Program} {w : World} {K : Fg} {mg : Str → Option Value} {base : Heap}
theorem ok_draw {f : Addr} {fd : FuncData} (F : Fun K "_law_draw" "_law_draw" sDraw f fd) (N : Nm mg) : FnOk P w K mg base CX0 1 f fd ["stream", "span"] spDraw := by
  refine F.ok scDraw (fun vs H Q E h => ?_) (fun cdv A outer s H vs Q E hr h => ?_)
  · obtain ⟨p, n, rfl, _⟩ := h
    rfl
  · obtain ⟨p, n, rfl, ⟨r, m, hp, m0, m1⟩, n0, n1, k⟩ := h
    refine ⟨_, pss_cons (ps_if (pt_cmpR op_ge (pe_ix ix_list (pv 0) pe_int (fun _ _ => rfl)) (pv 1) (nomark _))
        (pss_cons (ps_set (i := 2) scDraw.nd rfl (Or.inl rfl) (pe_op op_mod (pe_callTy call_int1 (by rfl) N.int PyProof.Rows.boot_int (pa_cons (pe_ix ix_list (pv 0) pe_int (fun _ _ => rfl)) pa_nil)) (pv 1)))
        (pss_cons (ps_asg (pe_op op_fdiv (pe_ix ix_list (pv 0) pe_int (fun _ _ => rfl)) (pv 1)) (pg_sub (pv 0) pe_int set_list))
        (pss_one (ps_ret (pv 2))))) pss_nil)
      (pss_cons (ps_asg (pe_op op_mod (pe_callTy call_int1 (by rfl) N.int PyProof.Rows.boot_int
          (pa_cons (pe_op op_add (pe_op op_mul (pe_ix ix_list (pv 0) pe_int (fun _ _ => rfl)) pe_int) pe_int) pa_nil)) pe_int) (pg_sub (pv 0) pe_int set_list))
      (pss_one (ps_ret (pe_op op_mod (pe_callTy call_int1 (by rfl) N.int PyProof.Rows.boot_int
        (pa_cons (pe_op op_fdiv (pe_op op_mod (pe_callTy call_int1 (by rfl) N.int PyProof.Rows.boot_int
          (pa_cons (pe_op op_pow (pe_callTy call_int1 (by rfl) N.int PyProof.Rows.boot_int (pa_cons (pe_ix ix_list (pv 0) pe_int (fun _ _ => rfl)) pa_nil)) pe_int) pa_nil)) pe_int) pe_int) pa_nil)) (pv 1))))), ?_⟩
    refine ⟨_, rfl, p, _, 0, _, rfl, rfl, SqL.of hp, rfl, _, rfl, _, _, rfl, rfl, _, rfl, ?_⟩
    refine ite2 (fun _ => ?_) (fun _ => ?_)
    · refine ⟨_, rfl, p, _, 0, _, rfl, rfl, SqL.of hp, rfl, .inl ⟨_, rfl, _, rfl, _, _, rfl, rfl, n0, ?_⟩⟩
      refine ⟨_, rfl, p, _, 0, _, rfl, rfl, SqL.of hp, rfl, _, rfl, _, _, rfl, rfl, ⟨n0, by omega⟩, ?_⟩
      refine ⟨_, rfl, p, _, 0, 0, rfl, rfl, hp, rfl, _, rfl, ?_⟩
      exact k _ _ (Int.emod_nonneg _ (by omega)) (Int.emod_lt_of_pos _ n0) ⟨_, m, upd_same, m0, m1⟩ But.upd
    · refine ⟨_, rfl, p, _, 1, _, rfl, rfl, SqL.of hp, rfl, _, _, rfl, rfl, .inl ⟨by omega, by omega⟩, _, _, rfl, rfl, .inl ⟨_, rfl, _, _, rfl, rfl, by show (0 : Int) < 2147483647; decide, ?_⟩⟩
      refine ⟨_, rfl, p, _, 1, 1, rfl, rfl, hp, rfl, ?_⟩
      have b0 : 0 ≤ (m * 69621 + 3571) % 2147483647 := Int.emod_nonneg _ (by decide)
      have b1 : (m * 69621 + 3571) % 2147483647 < 2147483647 := Int.emod_lt_of_pos _ (by decide)
      refine ⟨_, rfl, p, _, 1, _, rfl, rfl, SqL.of upd_same, rfl, .inl ⟨_, rfl, _, _, rfl, rfl, ⟨by decide, by decide, by omega⟩, .inl ⟨_, rfl, _, _, rfl, rfl, (by show (0 : Int) < 1000000007; decide), _, _, rfl, rfl, ⟨by decide, by decide⟩, .inl ⟨_, rfl, _, rfl, _, _, rfl, rfl, n0, ?_⟩⟩⟩⟩
      exact k _ _ (Int.emod_nonneg _ (by omega)) (Int.emod_lt_of_pos _ n0) ⟨r, _, upd_same, b0, by show (m * 69621 + 3571) % 2147483647 ≤ 2147483647; omega⟩ But.upd
end
def spPick (K : Fg) : Sp := fun vs H Q _ => ∃ (p q : Addr) (xs : List V), vs = [.ref p, .ref q] ∧ Strm H p ∧ SqL K H q xs ∧ q ≠ p ∧ xs ≠ [] ∧ xs.length < 1000 ∧
  ∀ (x : V) (H' : Hp), x ∈ xs → Strm H' p → But p H H' → Q x H'
theorem scPick : FnScope ["stream", "things"] ["stream", "things"] (defScope sPick) := ⟨rfl, rfl, rfl, by decide +kernel, rfl, by decide +kernel, by decide +kernel⟩
theorem scSource : FnScope ["script", "start", "mixed", "cell", "rest"] ["script", "start"] (defScope sSource) := ⟨rfl, rfl, rfl, by decide +kernel, rfl, by decide +kernel, by decide +kernel⟩
/-- a place that is drawn lies in the list -/
theorem at_drawn {xs : List V} {d : Int} (h0 : 0 ≤ d) (h1 : d < xs.length) : ∃ v, atI xs d = some v ∧ v ∈ xs := by
  have hl : d.toNat < xs.length := by omega
  refine ⟨xs[d.toNat], ?_, List.getElem_mem hl⟩
  have e : d = (d.toNat : Int) := by omega
  exact at_of e (List.getElem?_eq_getElem hl)
/-- the script's ints: at most so many bits each -/
def Bits (ns : List Int) : Prop := ∀ z ∈ ns, Builtin.Int.intBits z ≤ 1048576
def spSource (K : Fg) : Sp := fun vs H Q _ => ∃ (a : Addr) (ns : List Int) (st : Int), vs = [.ref a, .int st] ∧ SqL K H a (ns.map V.int) ∧ ns.length ≤ 63 ∧ Bits ns ∧ 0 ≤ st ∧ st ≤ 100 ∧
  ∀ (p : Addr) (H' : Hp), H p = none → Strm H' p → But p H H' → Q (.ref p) H'
theorem log2_le {x : Int} {n : Nat} (h : x.natAbs < 2 ^ n) (h0 : 0 < n) : Builtin.Int.intBits x ≤ n := by
  have h1 := PySem.Flt.log2_lt_of h0 h
  unfold Builtin.Int.intBits
  split <;> omega
theorem abs_lt {x : Int} {n : Nat} (h : Builtin.Int.intBits x ≤ n) : x.natAbs < 2 ^ n := by
  unfold Builtin.Int.intBits at h
  split at h
  · rename_i e
    have e' : x = 0 := by simpa using e
    rw [e']
    exact Nat.two_pow_pos n
  · rename_i e
    have e' : x ≠ 0 := by simpa using e
    have h2 : x.natAbs ≠ 0 := by omega
    exact (Nat.log2_lt h2).mp (by omega)
theorem pow_le {n : Nat} (h : 50 ≤ n) : (1125899906842624 : Nat) ≤ 2 ^ n := by
  have e : (1125899906842624 : Nat) = 2 ^ 50 := by decide
  rw [e]
  exact Nat.pow_le_pow_right (by decide) h
/-- what is cubed has few enough bits -/
theorem cubed_ok {m z : Int} (h0 : 0 ≤ m) (h1 : m ≤ 2147483647) (hz : Builtin.Int.intBits z ≤ 1048576) : PowOk (m * 40009 + z) 3 := by
  refine ⟨by decide, ?_⟩
  have a := abs_lt hz
  have b := pow_le (n := 1048576) (by decide)
  have c : (m * 40009 + z).natAbs < 2 ^ 1048576 + 2 ^ 1048576 := by
    generalize (2 : Nat) ^ 1048576 = W at a b ⊢
    omega
  have e : (2 : Nat) ^ 1048577 = 2 ^ 1048576 + 2 ^ 1048576 := by rw [Nat.pow_succ]; exact Nat.mul_two _
  have d : Builtin.Int.intBits (m * 40009 + z) ≤ 1048577 := log2_le (by rw [e]; exact c) (by decide)
  omega
section
variable {P : Program} {w : World} {K : Fg} {mg : Str → Option Value} {base : Heap}
theorem ok_pick {f fD : Addr} {fd fdD : FuncData} (F : Fun K "_law_pick" "_law_pick" sPick f fd) (N : Nm mg) (gD : mg "_law_draw" = some (.ref fD))
    (FD : Fun K "_law_draw" "_law_draw" sDraw fD fdD) (bD : Binds K fdD ["stream", "span"] []) : FnOk P w K mg base CX0 2 f fd ["stream", "things"] (spPick K) := by
  have GD : FnOk P w K mg base CX0 1 fD fdD ["stream", "span"] spDraw := ok_draw FD N
  refine F.ok scPick (fun vs H Q E h => ?_) (fun cdv A outer s H vs Q E hr h => ?_)
  · obtain ⟨p, q, xs, rfl, _⟩ := h
    rfl
  · obtain ⟨p, q, xs, rfl, hp, hq, hne, hx, hl, k⟩ := h
    refine ⟨_, pss_one (ps_ret (pe_ix ix_list (pv 1) (pe_call GD hr rfl gD FD.kp bD .nil pass0 (pa_cons (pv 0) (pa_cons (pe_callB call_len_seq (by rfl) N.len PySem.boot_len (pa_cons (pv 1) pa_nil)) pa_nil))) (fun _ _ => rfl))), ?_⟩
    refine ⟨_, rfl, _, rfl, _, rfl, q, xs, rfl, .inl hq, p, _, rfl, hp, ?_, ?_, fun d H' d0 d1 hs hb => ?_⟩
    · have := List.length_pos_iff.mpr hx
      omega
    · omega
    · obtain ⟨v, e1, e2⟩ := at_drawn (xs := xs) d0 d1
      exact ⟨q, xs, d, v, rfl, rfl, hb.seq hne hq, e1, k v H' e2 hs hb⟩
theorem ok_source {f : Addr} {fd : FuncData} (F : Fun K "_law_source" "_law_source" sSource f fd) (N : Nm mg) : FnOk P w K mg base CX0 1 f fd ["script", "start"] (spSource K) := by
  refine F.ok scSource (fun vs H Q E h => ?_) (fun cdv A outer s H vs Q E hr h => ?_)
  · obtain ⟨a, ns, st, rfl, _⟩ := h
    rfl
  · obtain ⟨a, ns, st, rfl, hS, hl, hB, s0, s1, k⟩ := h
    refine ⟨_, pss_cons (ps_set (i := 2) scSource.nd rfl (Or.inl rfl) (pe_op op_add pe_int (pv 1)))
      (pss_cons (ps_for PassesOwn.never rfl (pi_list (pv 0)) (pg_name (i := 3) scSource.nd rfl (Or.inl rfl))
        (pss_one (ps_set (i := 2) scSource.nd rfl (Or.inl rfl) (pe_op op_add (pe_op op_mod (pe_callTy call_int1 (by rfl) N.int PyProof.Rows.boot_int
          (pa_cons (pe_op op_powB (pe_callTy call_int1 (by rfl) N.int PyProof.Rows.boot_int
            (pa_cons (pe_op op_add (pe_op op_mul (pv 2) pe_int) (pe_callTy call_int1 (by rfl) N.int PyProof.Rows.boot_int (pa_cons (pv 3) pa_nil))) pa_nil)) pe_int) pa_nil)) pe_int) pe_int))))
      (pss_cons (ps_set (i := 4) scSource.nd rfl (Or.inl rfl) pe_int)
      (pss_cons (ps_if (PW.pt (pw_and (pt_cmpR op_lt (pv 1) (pe_callB call_len_seq (by rfl) N.len PySem.boot_len (pa_cons (pv 0) pa_nil)) (nomark _))
          (pw_and1 (pt_cmpR op_ge (pe_ix ix_list (pv 0) (pv 1) (fun _ _ => rfl)) (pe_op op_pow pe_int pe_int) (nomark _)))))
        (pss_one (ps_set (i := 4) scSource.nd rfl (Or.inl rfl) (pe_op op_sub (pe_ix ix_list (pv 0) (pv 1) (fun _ _ => rfl)) (pe_op op_pow pe_int pe_int)))) pss_nil)
      (pss_one (ps_ret (pe_lst (pa_cons (pv 4) (pa_cons (pv 2) pa_nil)))))))), ?_⟩
    have ret : ∀ (m r : Int), 0 ≤ m → m ≤ 2147483647 → ∀ x : Addr, H x = none → Q (.ref x) (upd H x (.lst [.int r, .int m])) :=
      fun m r m0 m1 x hx => k x _ hx ⟨r, m, upd_same, m0, m1⟩ But.upd
    refine ⟨_, rfl, _, _, rfl, rfl, _, rfl, a, rfl, ⟨_, hS⟩, for_list (K := K) (a := a) (xs := ns.map V.int)
      (fun i σ H' => H' = H ∧ ∃ (v : Option V) (m : Int), σ = [some (.ref a), some (.int st), some (.int m), v, none] ∧ 0 ≤ m ∧ m ≤ 2147483647)
      ⟨rfl, none, _, rfl, by show 0 ≤ 59 + st; omega, by show 59 + st ≤ 2147483647; omega⟩ (fun i σ H' _ q => by rw [q.1]; exact hS) ?_ ?_⟩
    · rintro i y σ H' hi ⟨rfl, v, m, rfl, m0, m1⟩
      obtain ⟨z, hz, rfl⟩ : ∃ z, z ∈ ns ∧ y = V.int z := by
        rw [List.getElem?_map] at hi
        cases e : ns[i]? with
        | none =>
          rw [e] at hi
          cases hi
        | some z =>
          rw [e] at hi
          exact ⟨z, List.mem_of_getElem? e, (Option.some.inj hi).symm⟩
      refine ⟨_, rfl, _, _, rfl, rfl, .inl ⟨by omega, by omega⟩, _, rfl, .inl ⟨_, rfl, _, _, rfl, rfl, .inl ⟨_, rfl, _, _, rfl, rfl, cubed_ok m0 m1 (hB z hz), .inl ⟨_, rfl, _, _, rfl, rfl, (by show (0 : Int) < 2147483563; decide), _, _, rfl, rfl, ?_⟩⟩⟩⟩
      have b0 := Int.emod_nonneg ((m * 40009 + z) ^ (3 : Int).toNat) (show (2147483563 : Int) ≠ 0 by decide)
      have b1 := Int.emod_lt_of_pos ((m * 40009 + z) ^ (3 : Int).toNat) (show (0 : Int) < 2147483563 by decide)
      generalize hw : (m * 40009 + z) ^ (3 : Int).toNat % 2147483563 = u at b0 b1
      refine ⟨rfl, some (.int z), u + 1, rfl, by omega, by omega⟩
    · rintro σ H' ⟨rfl, v, m, rfl, m0, m1⟩
      refine ⟨_, rfl, _, rfl, a, _, rfl, .inl hS, _, _, rfl, rfl, _, rfl, ?_⟩
      refine ite2 (fun c => ?_) (fun c => ?_)
      · have c1 : st < (ns.map V.int).length := of_decide_eq_true c
        rw [List.length_map] at c1
        obtain ⟨z, hz⟩ : ∃ z, ns[st.toNat]? = some z := ⟨_, List.getElem?_eq_getElem (by omega)⟩
        have hat : atI (ns.map V.int) st = some (.int z) := at_of (j := st.toNat) (by omega) (by rw [List.getElem?_map, hz]; rfl)
        refine ⟨_, rfl, _, rfl, a, _, _, _, rfl, rfl, hS, hat, _, _, rfl, rfl, ⟨by decide, by decide, by decide⟩, _, _, rfl, rfl, _, rfl, ?_⟩
        refine ite2 (fun _ => ?_) (fun _ => ?_)
        · refine ⟨_, rfl, _, rfl, a, _, _, _, rfl, rfl, hS, hat, _, _, rfl, rfl, ⟨by decide, by decide, by decide⟩, _, _, rfl, rfl, ?_⟩
          exact ⟨_, rfl, _, rfl, by show 2 ≤ sizeLine; decide, fun x hx => ret _ _ m0 m1 x hx⟩
        · exact ⟨_, rfl, _, rfl, by show 2 ≤ sizeLine; decide, fun x hx => ret _ _ m0 m1 x hx⟩
      · exact ⟨_, rfl, _, rfl, by show 2 ≤ sizeLine; decide, fun x hx => ret _ _ m0 m1 x hx⟩
end
end K81
set_option Elab.async false
set_option linter.all false
set_option maxRecDepth 100000
set_option maxHeartbeats 4000000
namespace K81
open PySem L2 VK
abbrev sMixed : Stmt := top 39
theorem scMixed : FnScope ["stream", "things", "lot", "found"] ["stream", "things"] (defScope sMixed) := ⟨rfl, rfl, rfl, by decide +kernel, rfl, by decide +kernel, by decide +kernel⟩
/-! ### lists of ints and texts -/
inductive Pln : V → PyData → Prop where
  | int (i : Int) : Pln (.int i) (.int i)
  | str {z : Str} (h : PyData.strOk z = true) : Pln (.str z) (.str z)
def Plns (xs : List V) : Prop := ∀ x ∈ xs, ∃ d, Pln x d
theorem pln_dp {K : Fg} {H : Hp} : ∀ {xs : List V}, Plns xs → ∃ ds, DpAll K H xs ds ∧ ds.length = xs.length ∧ PyData.canLayAll0 ds = true ∧ PyData.depthAll ds = 0
  | [], _ => ⟨[], .nil, rfl, rfl, rfl⟩
  | x :: r, h => by
    obtain ⟨ds, a, b, c, e⟩ := pln_dp (K := K) (H := H) (xs := r) fun y hy => h y (List.mem_cons_of_mem _ hy)
    obtain ⟨d, hd⟩ := h x List.mem_cons_self
    cases hd with
    | int i => exact ⟨.int i :: ds, .cons (.int i) a, by rw [List.length_cons, List.length_cons, b], by simp [PyData.canLayAll0, PyData.canLay0, c], by simp [PyData.depthAll, PyData.depth, e]⟩
    | @str z hz => exact ⟨.str z :: ds, .cons (.str z) a, by rw [List.length_cons, List.length_cons, b], by simp [PyData.canLayAll0, PyData.canLay0, c, hz], by simp [PyData.depthAll, PyData.depth, e]⟩
theorem shaped_l {ds : List PyData} (c : PyData.canLayAll0 ds = true) (e : PyData.depthAll ds = 0) : SeqAt.shaped (.list ds) = true := by
  unfold SeqAt.shaped
  simp [PyData.canLay0, PyData.depth, c, e]
/-- xs != [] -/
theorem ne_nil {K : Fg} {H : Hp} {a b : Addr} {xs : List V} {Q : VK} (h : SqL K H a xs) (p : Plns xs) (hb : SqL K H b []) (k : Q (.bl (!xs.isEmpty)) H) : rNeD K (.ref a) (.ref b) H Q := by
  obtain ⟨ds, d1, d2, d3, d4⟩ := pln_dp (K := K) (H := H) p
  refine ⟨.list ds, .list [], .lst h d1, .lst hb .nil, shaped_l d3 d4, by decide, ?_⟩
  have e : (!PyData.eqv (.list ds) (.list [])) = !xs.isEmpty := by
    cases xs with
    | nil =>
      cases d1
      rfl
    | cons x r =>
      cases d1 with
      | cons _ _ => rfl
  rw [e]
  exact k
def spMixed (K : Fg) : Sp := fun vs H Q _ => ∃ (p q : Addr) (xs : List V), vs = [.ref p, .ref q] ∧ Strm H p ∧ SqL K H q xs ∧ q ≠ p ∧ xs.length ≤ 60 ∧ Plns xs ∧
  ∀ (r : Addr) (ys : List V) (H' : Hp), ys.Perm xs → H r = none → H' r = some (.lst ys) → Strm H' p → Bx p H H' → Q (.ref r) H'
theorem idx_nat {n k : Nat} (h : k < n) : seqIndex? (k : Int) n = some k := by
  unfold seqIndex?
  simp
  omega
theorem perm_erase {α : Type} : ∀ (l : List α) (i : Nat) (h : i < l.length), ([l[i]] ++ l.eraseIdx i).Perm l
  | [], i, h => absurd h (Nat.not_lt_zero _)
  | a :: r, 0, h => List.Perm.refl _
  | a :: r, i + 1, h => by
    have h' := Nat.lt_of_succ_lt_succ h
    have ih := perm_erase r i h'
    show (r[i] :: a :: r.eraseIdx i).Perm (a :: r)
    exact (List.Perm.swap a _ _).trans (List.Perm.cons a ih)
section
variable {P : Program} {w : World} {K : Fg} {mg : Str → Option Value} {base : Heap}
theorem strm_ne {H : Hp} {p a : Addr} (h : Strm H p) (n : H a = none) : a ≠ p := by
  obtain ⟨r, m, e, _⟩ := h
  exact fun z => by rw [z, e] at n; cases n
theorem Strm.bx {H H' : Hp} {p : Addr} (h : Strm H p) (e : H' p = H p) : Strm H' p := by
  obtain ⟨r, m, h, hm⟩ := h
  exact ⟨r, m, e.trans h, hm⟩
theorem Strm.same {H H' : Hp} {p : Addr} (h : Strm H p) (e : Same H H') : Strm H' p := by
  obtain ⟨r, m, h, hm⟩ := h
  exact ⟨r, m, e _ _ h, hm⟩
theorem But.bx {p : Addr} {H H' : Hp} (b : But p H H') : Bx p H H' := fun c o n e => (b c n).trans e
theorem ok_mixed {f fD : Addr} {fd fdD : FuncData} (F : Fun K "_law_mixed" "_law_mixed" sMixed f fd) (N : Nm mg) (gD : mg "_law_draw" = some (.ref fD))
    (FD : Fun K "_law_draw" "_law_draw" sDraw fD fdD) (bD : Binds K fdD ["stream", "span"] []) : FnOk P w K mg base CX0 2 f fd ["stream", "things"] (spMixed K) := by
  have GD : FnOk P w K mg base CX0 1 fD fdD ["stream", "span"] spDraw := ok_draw FD N
  refine F.ok scMixed (fun vs H Q E h => ?_) (fun cdv B outer s H vs Q E hr h => ?_)
  · obtain ⟨p, q, xs, rfl, _⟩ := h
    rfl
  · obtain ⟨p, q, xs, rfl, hp, hq, hqp, hl, pl, k⟩ := h
    refine ⟨_, pss_cons (ps_par (by rfl) scMixed.nd rfl rfl (show 2 ≠ 3 by decide) rfl rfl (pa_cons (pe_callTy call_list_of (by rfl) N.lst PyProof.Rows.boot_list (pa_cons (pv 1) pa_nil)) (pa_cons (pe_lst pa_nil) pa_nil)) (by rfl))
      (pss_cons (ps_while PassesOwn.never (pt_cmpR (op_neD hr.units) (pv 2) (pe_lst pa_nil) (nomark _))
        (pss_one (ps_expr (pe_bm PySem.F.plainAttrs_list PySem.F.slot_list_append PySem.F.type_list_append mt_append (pv 3) (pa_cons
          (pe_bm PySem.F.plainAttrs_list PySem.F.slot_list_pop PySem.F.type_list_pop mt_popAt (pv 2) (pa_cons (pe_call GD hr rfl gD FD.kp bD .nil pass0 (pa_cons (pv 0) (pa_cons (pe_callB call_len_seq (by rfl) N.len PySem.boot_len (pa_cons (pv 2) pa_nil)) pa_nil))) pa_nil)) pa_nil)))))
      (pss_one (ps_ret (pv 3)))), ?_⟩
    refine ⟨_, rfl, q, xs, rfl, .inl hq, fun a ha => ?_⟩
    have s1 : Same H (upd H a (.lst xs)) := same_new ha
    have e1 : upd H a (.lst xs) a = some (.lst xs) := upd_same
    generalize upd H a (.lst xs) = H1 at s1 e1
    refine ⟨by show 0 ≤ sizeLine; decide, fun b hb => ?_⟩
    have s2 : Same H1 (upd H1 b (.lst [])) := same_new hb
    have e2 : upd H1 b (.lst []) b = some (.lst []) := upd_same
    generalize upd H1 b (.lst []) = H2 at s2 e2
    have hb0 := s1.free hb
    have nab : a ≠ b := ne_of_none e1 hb
    have nap := strm_ne hp ha
    have nbp := strm_ne hp hb0
    refine ⟨_, _, rfl, ?_⟩
    refine while_by (fun σ H' => ∃ r1 r2 : List V, σ = [some (.ref p), some (.ref q), some (.ref a), some (.ref b)] ∧ Strm H' p ∧ H' a = some (.lst r1) ∧ H' b = some (.lst r2) ∧ (r2 ++ r1).Perm xs ∧ Bx p H H')
      (fun σ H' => match H' a with | some (.lst r) => r.length | _ => 0) ⟨xs, [], rfl, hp.same (s1.trans s2), s2 _ _ e1, e2, List.Perm.refl _, Bx.of (s1.trans s2)⟩ ?_ ?_
    · rintro σ H' ⟨r1, r2, rfl, hs, ea, eb, pm, bx⟩
      have len : r2.length + r1.length = xs.length := by rw [← pm.length_eq, List.length_append]
      have pl1 : Plns r1 := fun x hx => pl x (pm.mem_iff.mp (List.mem_append_right _ hx))
      refine ⟨_, rfl, by show 0 ≤ sizeLine; decide, fun c hc => ?_⟩
      have s3 : Same H' (upd H' c (.lst [])) := same_new hc
      have e3 : upd H' c (.lst []) c = some (.lst []) := upd_same
      generalize upd H' c (.lst []) = H3 at s3 e3
      refine ne_nil (SqL.of (s3 _ _ ea)) pl1 (SqL.of e3) ⟨_, rfl, ?_⟩
      cases r1 with
      | nil =>
        refine iteF (A := True) ⟨_, rfl, ?_⟩
        rw [List.append_nil] at pm
        exact k b r2 H3 pm hb0 (s3 _ _ eb) (hs.same s3) (bx.trans (Bx.of s3))
      | cons x0 r1 =>
        refine iteT (B := True) ?_
        refine ⟨_, rfl, .inl ⟨rfl, _, SqL.of (s3 _ _ eb)⟩, _, rfl, .inl ⟨rfl, _, SqL.of (s3 _ _ ea)⟩, _, rfl, _, rfl, a, _, rfl, .inl (SqL.of (s3 _ _ ea)), ?_⟩
        rw [List.length_cons] at len
        refine ⟨p, _, rfl, hs.same s3, by rw [List.length_cons]; omega, by rw [List.length_cons]; omega, fun d H4 d0 d1 hs4 bt => ?_⟩
        have ea4 : H4 a = some (.lst (x0 :: r1)) := (bt a nap).trans (s3 _ _ ea)
        have eb4 : H4 b = some (.lst r2) := (bt b nbp).trans (s3 _ _ eb)
        rw [List.length_cons] at d1
        have lt : d.toNat < (x0 :: r1).length := by rw [List.length_cons]; omega
        have ed : d = (d.toNat : Int) := by omega
        refine ⟨a, _, d, d.toNat, (x0 :: r1)[d.toNat], rfl, rfl, ea4, by omega, by omega, by rw [ed]; exact idx_nat lt, List.getElem?_eq_getElem lt, ?_⟩
        have eb5 : upd H4 a (.lst ((x0 :: r1).eraseIdx d.toNat)) b = some (.lst r2) := by rw [upd_ne (Ne.symm nab)]; exact eb4
        refine ⟨b, r2, _, rfl, rfl, eb5, small1000 (by omega), ?_⟩
        have ea6 : upd (upd H4 a (.lst ((x0 :: r1).eraseIdx d.toNat))) b (.lst (r2 ++ [(x0 :: r1)[d.toNat]])) a = some (.lst ((x0 :: r1).eraseIdx d.toNat)) := by rw [upd_ne nab, upd_same]
        refine ⟨⟨_, _, rfl, ?_, ea6, upd_same, ?_, ?_⟩, ?_⟩
        · refine hs4.bx ?_
          rw [upd_ne (Ne.symm nbp), upd_ne (Ne.symm nap)]
        · rw [List.append_assoc]
          refine (List.Perm.append_left r2 ?_).trans pm
          exact perm_erase _ _ lt
        · intro c' o n e
          rw [upd_ne (ne_of_none e hb0), upd_ne (ne_of_none e ha), bt c' n]
          exact s3 _ _ (bx _ _ n e)
        · show (match (upd (upd H4 a (.lst ((x0 :: r1).eraseIdx d.toNat))) b (.lst (r2 ++ [(x0 :: r1)[d.toNat]]))) a with | some (.lst r) => r.length | _ => 0) < (match H' a with | some (.lst r) => r.length | _ => 0)
          rw [ea6, ea]
          show ((x0 :: r1).eraseIdx d.toNat).length < (x0 :: r1).length
          rw [List.length_eraseIdx_of_lt lt]
          omega
    · rintro σ H' Q1 Q2 h ⟨v, ev, hl, q⟩
      refine ⟨v, ev, hl, fun c hc => ?_⟩
      obtain ⟨d, e, h1, h2, h3, h4, c', ec, q2⟩ := q c hc
      exact ⟨d, e, h1, h2, h3, h4, c', ec, h _ _ q2⟩
end
end K81
set_option Elab.async false
set_option linter.all false
set_option maxRecDepth 100000
set_option maxHeartbeats 4000000
namespace K81
open PySem L2 VK
abbrev sHeight : Stmt := top 40
abbrev sDepth : Stmt := top 41
theorem scHeight : FnScope ["height", "stage"] ["height", "stage"] (defScope sHeight) := ⟨rfl, rfl, rfl, by decide +kernel, rfl, by decide +kernel, by decide +kernel⟩
theorem scDepth : FnScope ["plan", "height", "stage"] ["plan"] (defScope sDepth) := ⟨rfl, rfl, rfl, by decide +kernel, rfl, by decide +kernel, by decide +kernel⟩
/-- a stage that is sound by itself -/
def Sg.sd : Sg → Prop
  | .nm k n => k ∈ K1 ∧ isNm n = true
  | .num k n => k ∈ K2 ∧ 1 ≤ n ∧ n ≤ 4
  | .flat => True
  | .zip p => p.ok
theorem Sg.ok.sd {x : Sg} {d : Int} {tk : List Str} (h : x.ok d tk) : x.sd := by
  cases x with
  | nm k n => exact h
  | num k n => exact h
  | flat => trivial
  | zip p =>
    have h : p.ok ∧ ∀ s ∈ p.srcs, s ∉ tk := h
    exact h.1
theorem Sg.sd.wf {x : Sg} (h : x.sd) : x.wf := by
  cases x with
  | nm k n => exact h.1
  | num k n => exact h.1
  | flat => trivial
  | zip p => trivial
def Sgs.sd : Sgs → Prop
  | .nil => True
  | .cons x r => x.sd ∧ r.sd
theorem Sgs.ok.sd : ∀ {l : Sgs} {d : Int} {tk : List Str}, l.ok d tk → l.sd
  | .nil, _, _, _ => trivial
  | .cons x r, _, _, h => by
    have h : x.ok _ _ ∧ r.ok _ _ := h
    exact ⟨h.1.sd, Sgs.ok.sd h.2⟩
theorem PsV.at0 {K : Fg} {H : Hp} {v : V} {x : Sg} (h : PsV K H v x) : ∃ a r, v = .ref a ∧ SqT K H a (.str x.kd :: r) := by
  cases h with
  | nm h => exact ⟨_, _, rfl, h⟩
  | num h => exact ⟨_, _, rfl, h⟩
  | flat h => exact ⟨_, _, rfl, h⟩
  | zip h _ => exact ⟨_, _, rfl, h⟩
def spHeight (K : Fg) (m : Nat) : Sp := fun vs H Q _ => ∃ (v : V) (x : Sg) (d : Int), vs = [.int d, v] ∧ PsV K H v x ∧ x.sd ∧ x.nest < m ∧ ∀ H', Same H H' → Q (.int (x.dep d)) H'
def spDepth (K : Fg) (m : Nat) : Sp := fun vs H Q _ => ∃ (v : V) (p : Pg), vs = [v] ∧ PlAt K H v p ∧ p.ok ∧ p.nest < m ∧ ∀ H', Same H H' → Q (.int p.dep) H'
def rowK : List (L2.Key × V) := [(.inr "lots", .int 1), (.inr "flat", .int (0 - 1))]
theorem getRow : mergeK [] rowK = rowK := by decide +kernel
theorem row_val {k : Str} : valV rowK (Sum.inr k) = if k = "lots" then some (.int 1) else if k = "flat" then some (.int (0 - 1)) else none := by
  unfold valV rowK
  by_cases a : k = "lots"
  · subst a
    rw [if_pos rfl]
    simp
  · by_cases b : k = "flat"
    · subst b
      rw [if_neg (by decide +kernel), if_pos rfl]
      have : ¬ (("lots" : Str) = "flat") := by decide +kernel
      simp [this]
    · rw [if_neg a, if_neg b]
      have a' : ¬ (("lots" : Str) = k) := fun z => a z.symm
      have b' : ¬ (("flat" : Str) = k) := fun z => b z.symm
      simp [a', b']
section
variable {P : Program} {w : World} {K : Fg} {mg : Str → Option Value} {base : Heap} {fH fD : Addr} {dH dD : FuncData}
theorem ok_height {m : Nat} (N : Nm mg) (FH : Fun K "_law_height" "_law_height" sHeight fH dH) (gD : mg "_law_depth" = some (.ref fD)) (FD : Fun K "_law_depth" "_law_depth" sDepth fD dD) (bD : Binds K dD ["plan"] [])
    (G : FnOk P w K mg base CX0 (2 * m + 2) fD dD ["plan"] (spDepth K m)) : FnOk P w K mg base CX0 (2 * m + 3) fH dH ["height", "stage"] (spHeight K (m + 1)) := by
  refine FH.ok scHeight (fun vs H Q E h => ?_) (fun cdv B outer s H vs Q E hr h => ?_)
  · obtain ⟨v, x, d, rfl, _⟩ := h
    rfl
  · obtain ⟨v, x, d, rfl, hv, hs, hn, k⟩ := h
    have hu : (B.deeper (PyProof.Rows.envOfC "_law_height" (defScope sHeight) s.heap.objs.size fH cdv)).units + 1 < cLine := by
      have := hr.units
      omega
    refine ⟨_, pss_cons (ps_if (pt_cmpR op_eq (pe_ix ix_tup (pv 1) pe_int (fun _ _ => rfl)) pe_str (nomark _)) (pss_one (ps_ret pe_int)) pss_nil)
      (pss_cons (ps_if (pt_cmpR op_eq (pe_ix ix_tup (pv 1) pe_int (fun _ _ => rfl)) pe_str (nomark _)) (pss_one (ps_ret (pe_op op_add pe_int (pe_callB (call_min2 rfl) (by rfl) N.min boot_min' (pa_cons (pv 0) (pa_cons
          (pe_call G hr rfl gD FD.kp bD .nil pass0 (pa_cons (pe_ix ix_tup (pv 1) pe_int (fun _ _ => rfl)) pa_nil)) pa_nil)))))) pss_nil)
      (pss_one (ps_ret (pe_op op_add (pv 0) (pe_dget2 hu (pe_disp (pps_cons pe_str pe_int (pps_cons pe_str (pe_op op_sub pe_int pe_int) pps_nil)) rfl rfl (fun z => by cases z) (by decide))
        (pe_ix ix_tup (pv 1) pe_int (fun _ _ => rfl)) pe_int ⟨rfl, rfl, rfl, rfl⟩))))), ?_⟩
    have sk : ∀ {a b : Str}, V.str a = V.str b → a = b := fun h => V.str.inj h
    have wf := hs.wf
    obtain ⟨a, r, rfl, ha⟩ := hv.at0
    refine ⟨_, rfl, a, _, _, .str x.kd, rfl, rfl, ha, at_of (j := 0) rfl rfl, rfl, _, rfl, ?_⟩
    refine dif (fun e0 => ?_) (fun e0 => ?_)
    · cases x with
      | nm z n =>
        have : (Sg.nm z n).dep d = 0 := if_pos (sk e0)
        rw [this] at k
        exact k _ (Same.refl H)
      | num z n => exact absurd (sk e0) ((by decide +kernel : ∀ z ∈ K2, ¬ (z = "map")) _ wf)
      | flat => exact absurd (sk e0) (by decide +kernel : ¬ (("flat" : Str) = "map"))
      | zip p => exact absurd (sk e0) (by decide +kernel : ¬ (("zip" : Str) = "map"))
    refine ⟨_, rfl, a, _, _, .str x.kd, rfl, rfl, ha, at_of (j := 0) rfl rfl, rfl, _, rfl, ?_⟩
    refine dif (fun e3 => ?_) (fun e3 => ?_)
    · cases hv with
      | nm h => exact absurd (sk e3) ((by decide +kernel : ∀ z ∈ K1, ¬ (z = "zip")) _ wf)
      | num h => exact absurd (sk e3) ((by decide +kernel : ∀ z ∈ K2, ¬ (z = "zip")) _ wf)
      | flat h => exact absurd (sk e3) (by decide +kernel : ¬ (("flat" : Str) = "zip"))
      | @zip _ v p h hp =>
        refine ⟨_, rfl, _, rfl, _, _, _, _, rfl, rfl, h, rfl, v, p, rfl, hp, hs, Nat.lt_of_succ_lt_succ hn, fun H' s1 => ?_⟩
        refine ⟨_, _, rfl, _, _, rfl, rfl, ?_⟩
        have k1 := k H' s1
        rw [show (Sg.zip p).dep d = (if p.dep < d then p.dep else d) + 1 from rfl, Int.add_comm] at k1
        exact k1
    · refine ⟨_, rfl, fun q hq => ⟨_, _, rfl, rfl, upd_same, rowK, rfl, by decide, ?_⟩⟩
      have s1 : Same H (upd (upd H q (.dK [])) q (.dK (mergeK [] rowK))) := fun b o e => by
        have n := ne_of_none e hq
        rw [upd_ne n, upd_ne n]
        exact e
      have eq : upd (upd H q (.dK [])) q (.dK (mergeK [] rowK)) q = some (.dK rowK) := by
        rw [upd_same, getRow]
      generalize upd (upd H q (.dK [])) q (.dK (mergeK [] rowK)) = H1 at s1 eq
      refine ⟨q, rfl, .inl ⟨_, .inl eq⟩, _, rfl, a, _, _, .str x.kd, rfl, rfl, (Kp.of s1).tup ha, at_of (j := 0) rfl rfl, _, DGet.k (k := Sum.inr x.kd) eq, ?_⟩
      have k1 := k H1 s1
      rw [row_val]
      cases x with
      | nm z n =>
        have : (Sg.nm z n).dep d = d := if_neg (fun e => e0 (congrArg V.str e))
        rw [this] at k1
        rw [show (Sg.nm z n).kd = z from rfl, if_neg (fun e : z = "lots" => (by decide +kernel : ∀ z ∈ K1, ¬ (z = "lots")) _ wf e), if_neg (fun e : z = "flat" => (by decide +kernel : ∀ z ∈ K1, ¬ (z = "flat")) _ wf e)]
        exact ⟨d, 0, rfl, rfl, (by rw [Int.add_zero]; exact k1 : Q (.int (d + 0)) H1)⟩
      | num z n =>
        by_cases c : z = "lots"
        · have : (Sg.num z n).dep d = d + 1 := if_pos c
          rw [this] at k1
          rw [show (Sg.num z n).kd = "lots" from c, if_pos rfl]
          exact ⟨d, 1, rfl, rfl, k1⟩
        · have : (Sg.num z n).dep d = d := if_neg c
          rw [this] at k1
          rw [show (Sg.num z n).kd = z from rfl, if_neg (fun e : z = "lots" => c e), if_neg (fun e : z = "flat" => (by decide +kernel : ∀ z ∈ K2, ¬ (z = "flat")) _ wf e)]
          exact ⟨d, 0, rfl, rfl, (by rw [Int.add_zero]; exact k1 : Q (.int (d + 0)) H1)⟩
      | flat =>
        rw [show Sg.flat.kd = "flat" from rfl, if_neg (by decide +kernel : ¬ (("flat" : Str) = "lots")), if_pos rfl]
        exact ⟨d, _, rfl, rfl, k1⟩
      | zip p => exact absurd rfl e3
theorem ok_depth {m : Nat} (FD : Fun K "_law_depth" "_law_depth" sDepth fD dD) (gH : mg "_law_height" = some (.ref fH)) (FH : Fun K "_law_height" "_law_height" sHeight fH dH) (bH : Binds K dH ["height", "stage"] [])
    (G : FnOk P w K mg base CX0 (2 * m + 1) fH dH ["height", "stage"] (spHeight K m)) : FnOk P w K mg base CX0 (2 * m + 2) fD dD ["plan"] (spDepth K m) := by
  refine FD.ok scDepth (fun vs H Q E h => ?_) (fun cdv B outer s H vs Q E hr h => ?_)
  · obtain ⟨v, p, rfl, _⟩ := h
    rfl
  · obtain ⟨v, p, rfl, hv, ho, hn, k⟩ := h
    refine ⟨_, pss_cons (ps_set (i := 1) scDepth.nd rfl (Or.inl rfl) pe_int)
      (pss_cons (ps_for PassesOwn.never rfl (pi_tup (pe_ix ix_tup (pv 0) pe_int (fun _ _ => rfl))) (pg_name (i := 2) scDepth.nd rfl (Or.inl rfl))
        (pss_one (ps_set (i := 1) scDepth.nd rfl (Or.inl rfl) (pe_call G hr rfl gH FH.kp bH .nil pass0 (pa_cons (pv 1) (pa_cons (pv 2) pa_nil))))))
      (pss_one (ps_ret (pv 1)))), ?_⟩
    cases hv with
    | @mk a b s l xs h hs hl =>
      have ho : s ∈ K0 ∧ l.len ≤ 6 ∧ l.ok 0 [s] := ho
      have hn : l.nest < m := hn
      refine ⟨_, rfl, a, _, _, _, rfl, rfl, h, rfl, b, rfl, ⟨_, hs⟩, ?_⟩
      refine for_it (walk_tup (xs := xs)) (fun i σ H' => ∃ (d : Int) (v2 : Option V) (r : Sgs), σ = [some (.ref a), some (.int d), v2] ∧ Same H H' ∧ PsAll K H (xs.drop i) r ∧ r.sd ∧ r.nest < m ∧ r.dep d = l.dep 0)
        ⟨0, none, l, rfl, Same.refl H, hl, ho.2.2.sd, hn, rfl⟩ (fun i σ H' _ q => ?_) ?_ ?_
      · obtain ⟨d, v2, r, _, z, _⟩ := q
        exact (Kp.of z).tup hs
      · rintro i y σ H1 H2 hi ⟨d, v2, r, rfl, s1, hr2, sd, nn, ed⟩ ⟨rfl, hy⟩
        have hd : xs.drop i = y :: xs.drop (i + 1) := by
          rw [List.drop_eq_getElem_cons hi]
          rw [List.getElem?_eq_getElem hi] at hy
          rw [Option.some.inj hy]
        rw [hd] at hr2
        cases hr2 with
        | @cons _ _ x r h1 h2 =>
          have sd : x.sd ∧ r.sd := sd
          have nn : max x.nest r.nest < m := nn
          refine ⟨_, rfl, _, rfl, y, x, d, rfl, PsV.kp (Kp.of s1) h1, sd.1, Nat.lt_of_le_of_lt (Nat.le_max_left _ _) nn, fun H3 s3 => ?_⟩
          exact ⟨x.dep d, _, r, rfl, s1.trans s3, h2, sd.2, Nat.lt_of_le_of_lt (Nat.le_max_right _ _) nn, ed⟩
      · rintro σ H1 ⟨d, v2, r, rfl, s1, hr2, sd, nn, ed⟩
        rw [List.drop_length] at hr2
        cases hr2
        have ed : d = l.dep 0 := ed
        subst ed
        exact ⟨_, rfl, k H1 s1⟩
theorem ok_hd (N : Nm mg) (gH : mg "_law_height" = some (.ref fH)) (FH : Fun K "_law_height" "_law_height" sHeight fH dH) (bH : Binds K dH ["height", "stage"] []) (gD : mg "_law_depth" = some (.ref fD)) (FD : Fun K "_law_depth" "_law_depth" sDepth fD dD)
    (bD : Binds K dD ["plan"] []) : ∀ m : Nat, FnOk P w K mg base CX0 (2 * m + 1) fH dH ["height", "stage"] (spHeight K m) ∧ FnOk P w K mg base CX0 (2 * m + 2) fD dD ["plan"] (spDepth K m)
  | 0 => by
    have h : FnOk P w K mg base CX0 1 fH dH ["height", "stage"] (spHeight K 0) := by
      refine FH.ok scHeight (fun vs H Q E h => ?_) (fun cdv B outer s H vs Q E hr h => ?_)
      · obtain ⟨v, x, d, rfl, _⟩ := h
        rfl
      · obtain ⟨v, x, d, rfl, hv, hs, hn, k⟩ := h
        exact absurd hn (Nat.not_lt_zero _)
    exact ⟨h, ok_depth FD gH FH bH h⟩
  | m + 1 => by
    have h := ok_height N FH gD FD bD (ok_hd N gH FH bH gD FD bD m).2
    exact ⟨h, ok_depth (m := m + 1) FD gH FH bH h⟩
end
end K81
set_option Elab.async false
set_option linter.all false
set_option maxRecDepth 100000
set_option maxHeartbeats 4000000
namespace K81
open PySem L2 VK
abbrev sName : Stmt := top 42
theorem scName0 : FnScope ["stream", "word", "turn"] ["stream"] (defScope sName) := ⟨rfl, rfl, rfl, by decide +kernel, rfl, by decide +kernel, by decide +kernel⟩
def spPickT : Sp := fun vs H Q _ => ∃ (p : Addr) (z : Str), vs = [.ref p, .str z] ∧ Strm H p ∧ 0 < z.length ∧ z.length < 1000 ∧ ∀ (c : Nat) (H' : Hp), c ∈ z.cps.toList → Strm H' p → But p H H' → Q (.str ⟨#[c]⟩) H'
def spName : Sp := fun vs H Q _ => ∃ p : Addr, vs = [.ref p] ∧ Strm H p ∧ ∀ (z : Str) (H' : Hp), isNm z = true → Strm H' p → Bx p H H' → Q (.str z) H'
theorem ixN_of {n i : Nat} (h : i < n) : ixN n (i : Nat) = some i := by
  unfold ixN
  rw [if_pos (by omega), if_pos (by omega)]
  rfl
/-- the letters alone -/
def letters (z : Str) : Bool := z.cps.toList.all okSign
section
variable {P : Program} {w : World} {K : Fg} {mg : Str → Option Value} {base : Heap}
theorem ok_pickT {f fD : Addr} {fd fdD : FuncData} (F : Fun K "_law_pick" "_law_pick" sPick f fd) (N : Nm mg) (gD : mg "_law_draw" = some (.ref fD))
    (FD : Fun K "_law_draw" "_law_draw" sDraw fD fdD) (bD : Binds K fdD ["stream", "span"] []) : FnOk P w K mg base CX0 2 f fd ["stream", "things"] spPickT := by
  have GD : FnOk P w K mg base CX0 1 fD fdD ["stream", "span"] spDraw := ok_draw FD N
  refine F.ok scPick (fun vs H Q E h => ?_) (fun cdv B outer s H vs Q E hr h => ?_)
  · obtain ⟨p, z, rfl, _⟩ := h
    rfl
  · obtain ⟨p, z, rfl, hp, h0, h1, k⟩ := h
    refine ⟨_, pss_one (ps_ret (pe_ix ix_str (pv 1) (pe_call GD hr rfl gD FD.kp bD .nil pass0 (pa_cons (pv 0) (pa_cons (pe_callB call_len_str (by rfl) N.len PySem.boot_len (pa_cons (pv 1) pa_nil)) pa_nil))) (fun _ _ => rfl))), ?_⟩
    have zl : z.length ≤ sizeLine := Nat.le_of_lt (small1000 (Nat.le_of_lt h1))
    refine ⟨_, rfl, _, rfl, _, rfl, z, rfl, zl, p, _, rfl, hp, by omega, by omega, fun d H' d0 d1 hs hb => ?_⟩
    obtain ⟨n, rfl⟩ := Int.eq_ofNat_of_zero_le d0
    have lt : n < z.cps.toList.length := by
      rw [Array.length_toList]
      show n < z.length
      omega
    refine ⟨z, (n : Int), z.cps.toList[n], rfl, rfl, zl, ?_, k _ H' (List.getElem_mem lt) hs hb⟩
    unfold atI
    rw [ixN_of lt]
    exact List.getElem?_eq_getElem lt
theorem ok_name {f fP fD : Addr} {fd dP dD : FuncData} (F : Fun K "_law_name" "_law_name" sName f fd) (N : Nm mg) (gP : mg "_law_pick" = some (.ref fP)) (FP : Fun K "_law_pick" "_law_pick" sPick fP dP) (bP : Binds K dP ["stream", "things"] [])
    (gD : mg "_law_draw" = some (.ref fD)) (FD : Fun K "_law_draw" "_law_draw" sDraw fD dD) (bD : Binds K dD ["stream", "span"] []) : FnOk P w K mg base CX0 3 f fd ["stream"] spName := by
  have GD : FnOk P w K mg base CX0 1 fD dD ["stream", "span"] spDraw := ok_draw FD N
  have GP : FnOk P w K mg base CX0 2 fP dP ["stream", "things"] (spPick K) := ok_pick FP N gD FD bD
  have GT : FnOk P w K mg base CX0 2 fP dP ["stream", "things"] spPickT := ok_pickT FP N gD FD bD
  refine F.ok scName0 (fun vs H Q E h => ?_) (fun cdv B outer s H vs Q E hr h => ?_)
  · obtain ⟨p, rfl, _⟩ := h
    rfl
  · obtain ⟨p, rfl, hp, k⟩ := h
    have hr1 := hr.mono (show 1 ≤ 2 by decide)
    refine ⟨_, pss_cons (ps_set (i := 1) scName0.nd rfl (Or.inl rfl) (pe_call GP hr rfl gP FP.kp bP .nil pass0 (pa_cons (pv 0) (pa_cons (pe_lst (pa_cons pe_str (pa_cons pe_str (pa_cons pe_str pa_nil)))) pa_nil))))
      (pss_cons (ps_for PassesOwn.never rfl (pi_range1 (by rfl) N.range (pa_cons (pe_op op_add pe_int (pe_call GD hr1 rfl gD FD.kp bD .nil pass0 (pa_cons (pv 0) (pa_cons pe_int pa_nil)))) pa_nil)) (pg_name (i := 2) scName0.nd rfl (Or.inl rfl))
        (pss_one (ps_set (i := 1) scName0.nd rfl (Or.inl rfl) (pe_op op_add_str (pv 1) (pe_call GT hr rfl gP FP.kp bP .nil pass0 (pa_cons (pv 0) (pa_cons pe_str pa_nil)))))))
      (pss_one (ps_ret (pe_call GP hr rfl gP FP.kp bP .nil pass0 (pa_cons (pv 0) (pa_cons (pe_lst (pa_cons (pv 1) (pa_cons (pv 1) (pa_cons pe_str (pa_cons pe_str (pa_cons pe_str (pa_cons pe_str (pa_cons pe_str (pa_cons pe_str (pa_cons pe_str (pa_cons pe_str (pa_cons pe_str pa_nil)))))))))))) pa_nil)))))), ?_⟩
    refine ⟨_, rfl, by show 3 ≤ sizeLine; decide, fun q hq => ?_⟩
    have nq := strm_ne hp hq
    have e0 : upd H q (.lst [.str "", .str "un", .str "to"]) q = some (.lst [.str "", .str "un", .str "to"]) := upd_same
    have s0 : Same H (upd H q (.lst [.str "", .str "un", .str "to"])) := same_new hq
    generalize upd H q (.lst [.str "", .str "un", .str "to"]) = H0 at e0 s0
    refine ⟨p, q, _, rfl, hp.same s0, SqL.of e0, nq, (fun z => by cases z), by show 3 < 1000; decide, fun w0 H1 hw hs1 b1 => ?_⟩
    have word : ∃ z : Str, w0 = .str z ∧ z.length ≤ 2 ∧ letters z = true := by
      rcases List.mem_cons.mp hw with rfl | hw
      · exact ⟨_, rfl, by decide, by decide +kernel⟩
      rcases List.mem_cons.mp hw with rfl | hw
      · exact ⟨_, rfl, by decide, by decide +kernel⟩
      rcases List.mem_cons.mp hw with rfl | hw
      · exact ⟨_, rfl, by decide, by decide +kernel⟩
      · cases hw
    obtain ⟨z0, rfl, l0, t0⟩ := word
    have bx1 : Bx p H H1 := (Bx.of s0).trans b1.bx
    refine ⟨_, rfl, p, 4, rfl, hs1, by decide, by decide, fun d H2 d0 d1 hs2 b2 => ?_⟩
    refine ⟨_, _, rfl, rfl, 1 + d, rfl, by omega, by omega, ?_⟩
    have alpha : ∀ c ∈ ("abcdefghijklmnopqrstuvwxyz" : Str).cps.toList, okSign c = true := by decide +kernel
    refine for_range (lo := 0) (n := (1 + d).toNat) (fun i σ H' => ∃ (z : Str) (v2 : Option V), σ = [some (.ref p), some (.str z), v2] ∧ Strm H' p ∧ Bx p H H' ∧ z.length ≤ 2 + i ∧ i ≤ z.length ∧ letters z = true)
      ⟨z0, none, rfl, hs2, bx1.trans b2.bx, l0, Nat.zero_le _, t0⟩ ?_ ?_
    · rintro i σ H3 hi ⟨z, v2, rfl, hs3, bx3, l1, l2, t3⟩
      refine ⟨_, rfl, _, rfl, p, _, rfl, hs3, by decide +kernel, by decide +kernel, fun c H4 hc hs4 b4 => ?_⟩
      have one : (⟨#[c]⟩ : Str).length = 1 := rfl
      have add : (z ++ (⟨#[c]⟩ : Str)).length = z.length + 1 := by rw [strLen_append, one]
      refine ⟨z, _, rfl, rfl, ?_, z ++ ⟨#[c]⟩, _, rfl, hs4, bx3.trans b4.bx, by omega, by omega, ?_⟩
      · rw [one, sizeLine_eq]
        omega
      · show (z.cps ++ #[c]).toList.all okSign = true
        rw [Array.toList_append, List.all_append, show z.cps.toList.all okSign = true from t3]
        show ([c].all okSign) = true
        rw [List.all_cons, alpha c hc]
        rfl
    · rintro σ H3 ⟨z, v2, rfl, hs3, bx3, l1, l2, t3⟩
      have nz : isNm z = true := by
        unfold isNm
        rw [decide_eq_true (show 1 ≤ z.length by omega), decide_eq_true (show z.length ≤ 8 by omega)]
        exact t3
      refine ⟨_, rfl, _, rfl, _, rfl, by show 11 ≤ sizeLine; decide, fun r hr3 => ?_⟩
      refine ⟨p, r, _, rfl, hs3.same (same_new hr3), SqL.of upd_same, strm_ne hs3 hr3, (fun z => by cases z), by show 11 < 1000; decide, fun x H4 hx hs4 b4 => ?_⟩
      have bx4 : Bx p H H4 := (bx3.trans (Bx.of (same_new hr3))).trans b4.bx
      have fin : ∃ t : Str, x = .str t ∧ isNm t = true := by
        rcases List.mem_cons.mp hx with rfl | hx
        · exact ⟨_, rfl, nz⟩
        rcases List.mem_cons.mp hx with rfl | hx
        · exact ⟨_, rfl, nz⟩
        have all : ∀ x ∈ [V.str "zip", .str "unzip", .str "flat", .str "from", .str "take", .str "map", .str "end", .str "a", .str "b"], ∃ t : Str, x = .str t ∧ isNm t = true := by
          intro x hx
          rw [show [V.str "zip", .str "unzip", .str "flat", .str "from", .str "take", .str "map", .str "end", .str "a", .str "b"] = (["zip", "unzip", "flat", "from", "take", "map", "end", "a", "b"] : List Str).map V.str from rfl] at hx
          obtain ⟨t, ht, rfl⟩ := List.mem_map.mp hx
          exact ⟨t, rfl, (by decide +kernel : ∀ t ∈ (["zip", "unzip", "flat", "from", "take", "map", "end", "a", "b"] : List Str), isNm t = true) t ht⟩
        exact all x hx
      obtain ⟨t, rfl, ht⟩ := fin
      exact k t H4 ht hs4 bx4
end
end K81
set_option Elab.async false
set_option linter.all false
set_option maxRecDepth 100000
set_option maxHeartbeats 4000000
namespace K81
open PySem L2 VK
abbrev sStg : Stmt := top 43
abbrev sPlan : Stmt := top 44
theorem scStg : FnScope ["stream", "height", "pool", "most", "some", "word", "name"] ["stream", "height", "pool", "most"] (defScope sStg) := ⟨rfl, rfl, rfl, by decide +kernel, rfl, by decide +kernel, by decide +kernel⟩
theorem scPlan : FnScope ["stream", "pool", "most", "first", "stages", "height", "turn", "stage"] ["stream", "pool", "most"] (defScope sPlan) := ⟨rfl, rfl, rfl, by decide +kernel, rfl, by decide +kernel, by decide +kernel⟩
/-- all but the stream and the pool stays -/
def Bxx (p q : Addr) (H H' : Hp) : Prop := ∀ b o, b ≠ p → b ≠ q → H b = some o → H' b = some o
theorem Bxx.trans {p q : Addr} {H H1 H2 : Hp} (a : Bxx p q H H1) (b : Bxx p q H1 H2) : Bxx p q H H2 := fun c o n m e => b c o n m (a c o n m e)
theorem Bx.xx {p q : Addr} {H H' : Hp} (b : Bx p H H') : Bxx p q H H' := fun c o n _ e => b c o n e
theorem Same.xx {p q : Addr} {H H' : Hp} (s : Same H H') : Bxx p q H H' := fun c o _ _ e => s c o e
/-- the pool -/
structure Pool (H : Hp) (q : Addr) (pl : List Str) : Prop where
  at_ : H q = some (.lst (pl.map V.str))
  nd : pl.Nodup
  sub : ∀ s ∈ pl, s ∈ K0
mutual
/-- every zip's program has at most two stages -/
def Sg.zl : Sg → Prop
  | .nm _ _ => True
  | .num _ _ => True
  | .flat => True
  | .zip p => p.z2
def Pg.z2 : Pg → Prop
  | .mk _ l => l.len ≤ 2 ∧ l.zl
def Sgs.zl : Sgs → Prop
  | .nil => True
  | .cons x r => x.zl ∧ r.zl
end
def Pg.zm (m : Int) : Pg → Prop
  | .mk _ l => (l.len : Int) ≤ m ∧ l.zl
theorem Pg.zm2 {g : Pg} (h : g.zm 2) : g.z2 := by
  obtain ⟨s, l⟩ := g
  have h : (l.len : Int) ≤ 2 ∧ l.zl := h
  exact ⟨by omega, h.2⟩
def spStg (K : Fg) (n : Nat) : Sp := fun vs H Q _ => ∃ (p q : Addr) (h : Int) (pl : List Str), vs = [.ref p, .int h, .ref q, .int 3] ∧ Strm H p ∧ q ≠ p ∧ Pool H q pl ∧ pl.length ≤ n ∧
  ∀ (v : V) (x : Sg) (pl' : List Str) (H' : Hp), PsV K H' v x → x.sd → (x = .flat → 0 < h) → x.srcs ++ pl' = pl → H' q = some (.lst (pl'.map V.str)) → Strm H' p → Bxx p q H H' → x.zl → Q v H'
def spPlan (K : Fg) (n : Nat) : Sp := fun vs H Q _ => ∃ (p q : Addr) (m : Int) (pl : List Str), vs = [.ref p, .ref q, .int m] ∧ 0 ≤ m ∧ m ≤ 6 ∧ Strm H p ∧ q ≠ p ∧ Pool H q pl ∧ pl ≠ [] ∧ pl.length ≤ n ∧
  ∀ (v : V) (g : Pg) (pl' : List Str) (H' : Hp), PlAt K H' v g → g.ok → g.srcs ++ pl' = pl → H' q = some (.lst (pl'.map V.str)) → Strm H' p → Bxx p q H H' → g.zm m → Q v H'
theorem pl_plns {pl : List Str} (h : ∀ s ∈ pl, s ∈ K0) : Plns (pl.map V.str) := by
  intro x hx
  obtain ⟨s, hs, rfl⟩ := List.mem_map.mp hx
  exact ⟨_, .str ((by decide +kernel : ∀ s ∈ K0, PyData.strOk s = true) s (h s hs))⟩
/-- the words that are drawn -/
def KW : List Str := ["map", "keep", "while", "after", "take", "skip", "lots", "gather", "flat", "keep", "zip"]
def KN : List Str := ["p", "p", "q", "f", "p", "g", "f"]
/-- the name, and what is returned -/
theorem stg_tail {K : Fg} {p : Addr} {v1 v2 v3 v4 v6 : Option V} {k : Str} {Hc : Hp} {D : Ends} (hs : Strm Hc p)
    (kk : ∀ (v : V) (k' n : Str) (H' : Hp), k' ∈ K1 → isNm n = true → PsV K H' v (.nm k' n) → Strm H' p → Bx p Hc H' → D.rt v H') :
    tSeq (tAsg (tCall (spPick K) [] E0 (tCons (tVar 0) (tCons (tLst (tCons (tC (.str "p")) (tCons (tC (.str "p")) (tCons (tC (.str "q")) (tCons (tC (.str "f")) (tCons (tC (.str "p")) (tCons (tC (.str "g")) (tCons (tC (.str "f")) (tCons (tCall spName [] E0 (tCons (tVar 0) tNil)) tNil))))))))) tNil))) (gName 6)) (tRet (tTup (tCons (tIf (tTest (tOp (rIn K false) (tVar 5) (tTup (tCons (tC (.str "map")) (tCons (tC (.str "while")) (tCons (tC (.str "after")) tNil)))))) (tVar 5) (tC (.str "keep"))) (tCons (tVar 6) tNil)))) D [some (.ref p), v1, v2, v3, v4, some (.str k), v6] Hc := by
  refine ⟨_, rfl, _, rfl, p, rfl, hs, fun nm H1 hn hs1 b1 => ?_⟩
  refine ⟨by show 8 ≤ sizeLine; decide, fun c hc => ?_⟩
  refine ⟨p, c, (KN ++ [nm]).map V.str, rfl, hs1.same (same_new hc), SqL.of upd_same, strm_ne hs1 hc, (fun z => by cases z), by show 8 < 1000; decide, fun w0 H2 hw hs2 b2 => ?_⟩
  obtain ⟨n, hn2, rfl⟩ := List.mem_map.mp hw
  have okn : isNm n = true := by
    rcases List.mem_append.mp hn2 with h | h
    · exact (by decide +kernel : ∀ n ∈ KN, isNm n = true) n h
    · rw [List.mem_singleton.mp h]; exact hn
  have bx : Bx p Hc H2 := (b1.trans (Bx.of (same_new hc))).trans b2.bx
  refine ⟨_, rfl, by show 3 ≤ sizeLine; decide, fun t ht => ?_⟩
  have st : Same H2 (upd H2 t (.tup [.str "map", .str "while", .str "after"])) := same_new ht
  have et : upd H2 t (.tup [.str "map", .str "while", .str "after"]) t = some (.tup [.str "map", .str "while", .str "after"]) := upd_same
  generalize upd H2 t (.tup [.str "map", .str "while", .str "after"]) = H3 at st et
  refine ⟨t, _, rfl, .inr (.inl (.inl et)), rfl, rfl, _, rfl, ?_⟩
  rw [show inV (.str k) [.str "map", .str "while", .str "after"] = decide (k ∈ (["map", "while", "after"] : List Str)) from in_dec k ["map", "while", "after"]]
  refine dif (fun c1 => ?_) (fun c1 => ?_)
  · refine ⟨_, rfl, _, rfl, by show 2 ≤ sizeLine; decide, fun u hu => ?_⟩
    exact kk _ k n _ ((by decide +kernel : ∀ z ∈ (["map", "while", "after"] : List Str), z ∈ K1) k c1) okn (.nm (.inl (.inl upd_same))) ((hs2.same st).same (same_new hu)) (bx.trans (Bx.of (st.trans (same_new hu))))
  · refine ⟨_, rfl, by show 2 ≤ sizeLine; decide, fun u hu => ?_⟩
    exact kk _ "keep" n _ (by decide +kernel) okn (.nm (.inl (.inl upd_same))) ((hs2.same st).same (same_new hu)) (bx.trans (Bx.of (st.trans (same_new hu))))
section
variable {P : Program} {w : World} {K : Fg} {mg : Str → Option Value} {base : Heap} {fS fL fN fP fD : Addr} {dS dL dN dP dD : FuncData}
theorem ok_stg {n : Nat} (F : Fun K "_law_stage" "_law_stage" sStg fS dS) (N : Nm mg) (gL : mg "_law_plan" = some (.ref fL)) (FL : Fun K "_law_plan" "_law_plan" sPlan fL dL) (bL : Binds K dL ["stream", "pool", "most"] [])
    (gN : mg "_law_name" = some (.ref fN)) (FN : Fun K "_law_name" "_law_name" sName fN dN) (bN : Binds K dN ["stream"] []) (gP : mg "_law_pick" = some (.ref fP)) (FP : Fun K "_law_pick" "_law_pick" sPick fP dP) (bP : Binds K dP ["stream", "things"] [])
    (gD : mg "_law_draw" = some (.ref fD)) (FD : Fun K "_law_draw" "_law_draw" sDraw fD dD) (bD : Binds K dD ["stream", "span"] [])
    (GL : FnOk P w K mg base CX0 (2 * n + 12) fL dL ["stream", "pool", "most"] (spPlan K n)) : FnOk P w K mg base CX0 (2 * n + 13) fS dS ["stream", "height", "pool", "most"] (spStg K n) := by
  have GD : FnOk P w K mg base CX0 1 fD dD ["stream", "span"] spDraw := ok_draw FD N
  have GP : FnOk P w K mg base CX0 2 fP dP ["stream", "things"] (spPick K) := ok_pick FP N gD FD bD
  have GN : FnOk P w K mg base CX0 3 fN dN ["stream"] spName := ok_name FN N gP FP bP gD FD bD
  refine F.ok scStg (fun vs H Q E h => ?_) (fun cdv B outer s H vs Q E hr h => ?_)
  · obtain ⟨p, q, h, pl, rfl, _⟩ := h
    rfl
  · obtain ⟨p, q, h, pl, rfl, hp, hqp, hq, hn, k⟩ := h
    have hr1 := hr.mono (show 1 ≤ 2 * n + 12 by omega)
    have hr2 := hr.mono (show 2 ≤ 2 * n + 12 by omega)
    have hr3 := hr.mono (show 3 ≤ 2 * n + 12 by omega)
    refine ⟨_, pss_cons (ps_set (i := 4) scStg.nd rfl (Or.inl rfl) (pe_lst (pa_cons pe_str (pa_cons pe_str (pa_cons pe_str (pa_cons pe_str (pa_cons pe_str (pa_cons pe_str (pa_cons pe_str (pa_cons pe_str (pa_cons pe_str (pa_cons pe_str (pa_cons pe_str pa_nil)))))))))))))
      (pss_cons (ps_set (i := 5) scStg.nd rfl (Or.inl rfl) (pe_call GP hr2 rfl gP FP.kp bP .nil pass0 (pa_cons (pv 0) (pa_cons (pv 4) pa_nil))))
      (pss_cons (ps_if (PW.pt (pw_and (pt_cmpR op_eq (pv 5) pe_str (nomark _)) (pw_and1 (pt_cmpR (op_neD hr.units) (pv 2) (pe_lst pa_nil) (nomark _)))))
        (pss_one (ps_ret (pe_tup (pa_cons pe_str (pa_cons (pe_call GL hr rfl gL FL.kp bL .nil pass0 (pa_cons (pv 0) (pa_cons (pv 2) (pa_cons pe_int pa_nil)))) pa_nil))))) pss_nil)
      (pss_cons (ps_if (PW.pt (pw_and (pt_cmpR op_eq (pv 5) pe_str (nomark _)) (pw_and1 (pt_cmpR op_gt (pv 1) pe_int (nomark _)))))
        (pss_one (ps_ret (pe_tup (pa_cons pe_str pa_nil)))) pss_nil)
      (pss_cons (ps_if (pt_cmpR op_in_seq (pv 5) (pe_tup (pa_cons pe_str (pa_cons pe_str (pa_cons pe_str (pa_cons pe_str pa_nil))))) rfl)
        (pss_one (ps_ret (pe_tup (pa_cons (pv 5) (pa_cons (pe_op op_add pe_int (pe_call GD hr1 rfl gD FD.kp bD .nil pass0 (pa_cons (pv 0) (pa_cons (pv 3) pa_nil)))) pa_nil))))) pss_nil)
      (pss_cons (ps_set (i := 6) scStg.nd rfl (Or.inl rfl) (pe_call GP hr2 rfl gP FP.kp bP .nil pass0 (pa_cons (pv 0) (pa_cons (pe_lst (pa_cons pe_str (pa_cons pe_str (pa_cons pe_str (pa_cons pe_str (pa_cons pe_str (pa_cons pe_str (pa_cons pe_str (pa_cons (pe_call GN hr3 rfl gN FN.kp bN .nil pass0 (pa_cons (pv 0) pa_nil)) pa_nil))))))))) pa_nil))))
      (pss_one (ps_ret (pe_tup (pa_cons (pe_ifExp (pt_cmpR op_in_seq (pv 5) (pe_tup (pa_cons pe_str (pa_cons pe_str (pa_cons pe_str pa_nil)))) rfl) (pv 5) pe_str) (pa_cons (pv 6) pa_nil)))))))))), ?_⟩
    refine ⟨by show 11 ≤ sizeLine; decide, fun c hc => ?_⟩
    have nc := strm_ne hp hc
    refine ⟨_, rfl, _, rfl, p, c, KW.map V.str, rfl, hp.same (same_new hc), SqL.of upd_same, nc, (fun z => by cases z), by show 11 < 1000; decide, fun w0 H1 hw hs1 b1 => ?_⟩
    obtain ⟨wd, hwd, rfl⟩ := List.mem_map.mp hw
    have bx1 : Bx p H H1 := (Bx.of (same_new hc)).trans b1.bx
    have q1 := bx1 _ _ hqp hq.at_
    -- a stage with a name
    have named : ∀ (Hc : Hp), Bx p H Hc → ∀ (v : V) (k' n : Str) (H' : Hp), k' ∈ K1 → isNm n = true → PsV K H' v (.nm k' n) → Strm H' p → Bx p Hc H' → Q v H' := fun Hc bc v k' n H' h1 h2 h3 h4 h5 =>
      k v (.nm k' n) pl H' h3 ⟨h1, h2⟩ (fun z => by cases z) rfl ((bc.trans h5) _ _ hqp hq.at_) h4 (bc.trans h5).xx trivial
    refine ⟨_, rfl, rfl, _, rfl, ?_⟩
    refine dif (fun ez => ?_) (fun ez => ?_)
    · have ew : wd = "zip" := V.str.inj ez
      subst ew
      refine ⟨_, rfl, by show 0 ≤ sizeLine; decide, fun t ht => ?_⟩
      have st : Same H1 (upd H1 t (.lst [])) := same_new ht
      have et : upd H1 t (.lst []) t = some (.lst []) := upd_same
      generalize upd H1 t (.lst []) = H2 at st et
      refine ne_nil (SqL.of (st _ _ q1)) (pl_plns hq.sub) (SqL.of et) ⟨_, rfl, ?_⟩
      have bx2 : Bx p H H2 := bx1.trans (Bx.of st)
      cases pl with
      | cons s0 pl0 =>
        refine iteT (B := True) ?_
        refine ⟨_, rfl, _, rfl, p, q, 2, s0 :: pl0, rfl, by decide, by decide, hs1.same st, hqp, ⟨st _ _ q1, hq.nd, hq.sub⟩, (fun z => by cases z), hn, fun v g pl' H' hv hg hsr hq' hs' bx' hzm => ?_⟩
        refine ⟨by show 2 ≤ sizeLine; decide, fun u hu => ?_⟩
        have su : Same H' (upd H' u (.tup [.str "zip", v])) := same_new hu
        exact k _ (.zip g) pl' _ (.zip (.inl (.inl upd_same)) (PlAt.kp (Kp.of su) hv)) hg (fun z => by cases z) hsr (su _ _ hq') (hs'.same su) ((bx2.xx.trans bx').trans (Same.xx su)) (Pg.zm2 hzm)
      | nil =>
        refine iteF (A := True) ?_
        refine ⟨_, rfl, rfl, _, rfl, ?_⟩
        refine iteF (A := True) ?_
        refine ⟨_, rfl, by show 4 ≤ sizeLine; decide, fun r hr4 => ⟨r, _, rfl, .inr (.inl (.inl upd_same)), rfl, rfl, _, rfl, ?_⟩⟩
        refine iteF (A := True) ?_
        exact stg_tail ((hs1.same st).same (same_new hr4)) (named _ (bx2.trans (Bx.of (same_new hr4))))
    · refine ⟨_, rfl, rfl, _, rfl, ?_⟩
      refine dif (fun ef => ?_) (fun ef => ?_)
      · have ew : wd = "flat" := V.str.inj ef
        subst ew
        refine ⟨_, rfl, _, _, rfl, rfl, _, rfl, ?_⟩
        refine dif (fun hh => ?_) (fun hh => ?_)
        · refine ⟨by show 1 ≤ sizeLine; decide, fun u hu => ?_⟩
          exact k _ .flat pl _ (.flat (.inl (.inl upd_same))) trivial (fun _ => hh) rfl (same_new hu _ _ q1) (hs1.same (same_new hu)) (bx1.trans (Bx.of (same_new hu))).xx trivial
        · refine ⟨_, rfl, by show 4 ≤ sizeLine; decide, fun r hr4 => ⟨r, _, rfl, .inr (.inl (.inl upd_same)), rfl, rfl, _, rfl, ?_⟩⟩
          refine iteF (A := True) ?_
          exact stg_tail (hs1.same (same_new hr4)) (named _ (bx1.trans (Bx.of (same_new hr4))))
      · refine ⟨_, rfl, by show 4 ≤ sizeLine; decide, fun r hr4 => ⟨r, _, rfl, .inr (.inl (.inl upd_same)), rfl, rfl, _, rfl, ?_⟩⟩
        have s4 : Same H1 (upd H1 r (.tup [.str "take", .str "skip", .str "lots", .str "gather"])) := same_new hr4
        generalize upd H1 r (.tup [.str "take", .str "skip", .str "lots", .str "gather"]) = H4 at s4
        rw [show inV (.str wd) [.str "take", .str "skip", .str "lots", .str "gather"] = decide (wd ∈ K2) from in_dec wd K2]
        have bx4 := bx1.trans (Bx.of s4)
        refine dif (fun c2 => ?_) (fun c2 => ?_)
        · refine ⟨_, rfl, _, rfl, _, rfl, p, 3, rfl, hs1.same s4, by decide, by decide, fun d H5 d0 d1 hs5 b5 => ⟨_, _, rfl, rfl, by show 2 ≤ sizeLine; decide, fun u hu => ?_⟩⟩
          have bx6 := (bx4.trans b5.bx).trans (Bx.of (same_new (o := .tup [.str wd, .int (1 + d)]) hu))
          exact k _ (.num wd (1 + d)) pl _ (.num (.inl (.inl upd_same))) ⟨c2, by omega, by omega⟩ (fun z => by cases z) rfl (bx6 _ _ hqp hq.at_) (hs5.same (same_new hu)) bx6.xx trivial
        · exact stg_tail (hs1.same s4) (named _ bx4)
end
end K81
set_option Elab.async false
set_option linter.all false
set_option maxRecDepth 100000
set_option maxHeartbeats 4000000
namespace K81
open PySem L2 VK
/-! ### one stage more -/
def Sgs.snoc : Sgs → Sg → Sgs
  | .nil, x => .cons x .nil
  | .cons y r, x => .cons y (r.snoc x)
theorem dep_snoc : ∀ (l : Sgs) (x : Sg) (d : Int), (l.snoc x).dep d = x.dep (l.dep d)
  | .nil, _, _ => rfl
  | .cons y r, x, d => dep_snoc r x (y.dep d)
theorem srcs_snoc : ∀ (l : Sgs) (x : Sg), (l.snoc x).srcs = l.srcs ++ x.srcs
  | .nil, x => by
    show x.srcs ++ [] = [] ++ x.srcs
    rw [List.append_nil]
    rfl
  | .cons y r, x => by
    show y.srcs ++ (r.snoc x).srcs = (y.srcs ++ r.srcs) ++ x.srcs
    rw [srcs_snoc r x, List.append_assoc]
theorem len_snoc : ∀ (l : Sgs) (x : Sg), (l.snoc x).len = l.len + 1
  | .nil, _ => rfl
  | .cons y r, x => by
    show (r.snoc x).len + 1 = r.len + 1 + 1
    rw [len_snoc r x]
theorem zl_snoc : ∀ {l : Sgs} {x : Sg}, l.zl → x.zl → (l.snoc x).zl
  | .nil, _, _, h => ⟨h, trivial⟩
  | .cons _ _, _, a, h => ⟨a.1, zl_snoc a.2 h⟩
theorem ok_snoc : ∀ {l : Sgs} {x : Sg} {d : Int} {tk : List Str}, l.ok d tk → x.ok (l.dep d) (tk ++ l.srcs) → (l.snoc x).ok d tk
  | .nil, x, d, tk, _, h => by
    have h : x.ok d (tk ++ []) := h
    rw [List.append_nil] at h
    exact ⟨h, trivial⟩
  | .cons y r, x, d, tk, o, h => by
    have o : y.ok d tk ∧ r.ok (y.dep d) (tk ++ y.srcs) := o
    have h : x.ok (r.dep (y.dep d)) (tk ++ (y.srcs ++ r.srcs)) := h
    rw [← List.append_assoc] at h
    exact ⟨o.1, ok_snoc o.2 h⟩
theorem PsAll.snoc {K : Fg} {H : Hp} {v : V} {x : Sg} (hv : PsV K H v x) : ∀ {vs : List V} {l : Sgs}, PsAll K H vs l → PsAll K H (vs ++ [v]) (l.snoc x)
  | _, _, .nil => .cons hv .nil
  | _, _, .cons h t => .cons h (PsAll.snoc hv t)
mutual
theorem Sg.nest_le : ∀ x : Sg, x.nest ≤ x.srcs.length
  | .nm _ _ => Nat.le_refl 0
  | .num _ _ => Nat.le_refl 0
  | .flat => Nat.le_refl 0
  | .zip p => Pg.nest_lt p
theorem Pg.nest_lt : ∀ p : Pg, p.nest < p.srcs.length
  | .mk s l => by
    show l.nest < (s :: l.srcs).length
    rw [List.length_cons]
    exact Nat.lt_succ_of_le (Sgs.nest_le l)
theorem Sgs.nest_le : ∀ l : Sgs, l.nest ≤ l.srcs.length
  | .nil => Nat.le_refl 0
  | .cons x r => by
    show max x.nest r.nest ≤ (x.srcs ++ r.srcs).length
    rw [List.length_append]
    have a := Sg.nest_le x
    have b := Sgs.nest_le r
    omega
end
theorem Pg.nest4 {p : Pg} (h : p.ok) : p.nest < 4 := Nat.lt_of_lt_of_le (Pg.nest_lt p) (Pg.few h)
theorem Sg.nest5 {x : Sg} (h : x.sd) : x.nest < 5 := by
  cases x with
  | nm k n => exact Nat.succ_pos 4
  | num k n => exact Nat.succ_pos 4
  | flat => exact Nat.succ_pos 4
  | zip p => exact Nat.succ_lt_succ (Pg.nest4 h)
theorem Sg.sd.ok {x : Sg} {d : Int} {tk : List Str} (h : x.sd) (hf : x = .flat → 0 < d) (ht : ∀ s ∈ x.srcs, s ∉ tk) : x.ok d tk := by
  cases x with
  | nm k n => exact h
  | num k n => exact h
  | flat => exact hf rfl
  | zip p => exact ⟨h, ht⟩
theorem Bxx.kp {p q : Addr} {H H' : Hp} {xs ys : List V} (b : Bxx p q H H') (hp : H p = some (.lst xs)) (hq : H q = some (.lst ys)) : Kp H H' := fun c o e f => by
  refine b c o (fun z => ?_) (fun z => ?_) e
  · rw [z, hp] at e
    cases e
    cases f
  · rw [z, hq] at e
    cases e
    cases f
theorem kp_upd {H : Hp} {a : Addr} {xs : List V} {o : HO} (ha : H a = some (.lst xs)) : Kp H (upd H a o) := fun c u e f => by
  rw [upd_ne (fun z => ?_)]
  · exact e
  · rw [z, ha] at e
    cases e
    cases f
section
variable {P : Program} {w : World} {K : Fg} {mg : Str → Option Value} {base : Heap} {fS fL fH fD : Addr} {dS dL dH dD : FuncData}
theorem ok_plan {n : Nat} (F : Fun K "_law_plan" "_law_plan" sPlan fL dL) (N : Nm mg) (gS : mg "_law_stage" = some (.ref fS)) (FS : Fun K "_law_stage" "_law_stage" sStg fS dS) (bS : Binds K dS ["stream", "height", "pool", "most"] [])
    (gH : mg "_law_height" = some (.ref fH)) (FH : Fun K "_law_height" "_law_height" sHeight fH dH) (bH : Binds K dH ["height", "stage"] []) (gD : mg "_law_draw" = some (.ref fD)) (FD : Fun K "_law_draw" "_law_draw" sDraw fD dD) (bD : Binds K dD ["stream", "span"] [])
    (GH : FnOk P w K mg base CX0 11 fH dH ["height", "stage"] (spHeight K 5)) (GS : FnOk P w K mg base CX0 (2 * n + 13) fS dS ["stream", "height", "pool", "most"] (spStg K n)) :
    FnOk P w K mg base CX0 (2 * n + 14) fL dL ["stream", "pool", "most"] (spPlan K (n + 1)) := by
  have GD : FnOk P w K mg base CX0 1 fD dD ["stream", "span"] spDraw := ok_draw FD N
  refine F.ok scPlan (fun vs H Q E h => ?_) (fun cdv B outer s H vs Q E hr h => ?_)
  · obtain ⟨p, q, m, pl, rfl, _⟩ := h
    rfl
  · obtain ⟨p, q, m, pl, rfl, m0, m6, hp, hqp, hq, ne, hn, k⟩ := h
    have hr1 := hr.mono (show 1 ≤ 2 * n + 13 by omega)
    have hr11 := hr.mono (show 11 ≤ 2 * n + 13 by omega)
    refine ⟨_, pss_cons (ps_par3 rfl scPlan.nd rfl rfl rfl (show 3 ≠ 4 by decide) (show 3 ≠ 5 by decide) (show 4 ≠ 5 by decide) rfl rfl rfl
        (pa_cons (pe_bm PySem.F.plainAttrs_list PySem.F.slot_list_pop PySem.F.type_list_pop mt_popAt (pv 1) (pa_cons pe_int pa_nil)) (pa_cons (pe_lst pa_nil) (pa_cons pe_int pa_nil))) (by rfl))
      (pss_cons (ps_for PassesOwn.never rfl (pi_range1 (by rfl) N.range (pa_cons (pe_call GD hr1 rfl gD FD.kp bD .nil pass0 (pa_cons (pv 0) (pa_cons (pe_op op_add (pv 2) pe_int) pa_nil))) pa_nil)) (pg_name (i := 6) scPlan.nd rfl (Or.inl rfl))
        (pss_cons (ps_set (i := 7) scPlan.nd rfl (Or.inl rfl) (pe_call GS hr rfl gS FS.kp bS .nil pass0 (pa_cons (pv 0) (pa_cons (pv 5) (pa_cons (pv 1) (pa_cons pe_int pa_nil))))))
        (pss_cons (ps_expr (pe_bm PySem.F.plainAttrs_list PySem.F.slot_list_append PySem.F.type_list_append mt_append (pv 4) (pa_cons (pv 7) pa_nil)))
        (pss_one (ps_set (i := 5) scPlan.nd rfl (Or.inl rfl) (pe_call GH hr11 rfl gH FH.kp bH .nil pass0 (pa_cons (pv 5) (pa_cons (pv 7) pa_nil))))))))
      (pss_one (ps_ret (pe_tup (pa_cons (pv 3) (pa_cons (pe_tupleOf (by rfl) N.tup (pv 4)) pa_nil)))))), ?_⟩
    cases pl with
    | nil => exact absurd rfl ne
    | cons s0 pl0 =>
      refine ⟨_, rfl, .inl ⟨rfl, _, SqL.of hq.at_⟩, q, _, 0, 0, .str s0, rfl, rfl, hq.at_, by decide, by decide, idx_nat (by rw [List.length_map]; exact Nat.succ_pos _), rfl, ?_⟩
      have h1q : upd H q (.lst (((s0 :: pl0).map V.str).eraseIdx 0)) q = some (.lst (pl0.map V.str)) := upd_same
      have h1p : Strm (upd H q (.lst (((s0 :: pl0).map V.str).eraseIdx 0))) p := hp.bx (upd_ne (Ne.symm hqp))
      have h1x : Bxx p q H (upd H q (.lst (((s0 :: pl0).map V.str).eraseIdx 0))) := fun b o _ n e => by rw [upd_ne n]; exact e
      generalize upd H q (.lst (((s0 :: pl0).map V.str).eraseIdx 0)) = H1 at h1q h1p h1x
      refine ⟨by show 0 ≤ sizeLine; decide, fun a ha => ?_⟩
      have naq : a ≠ q := fun z => by rw [z, h1q] at ha; cases ha
      have nap := strm_ne h1p ha
      have haH : H a = none := by
        cases e : H a with
        | none => rfl
        | some o =>
          have := h1x a o nap naq e
          rw [ha] at this
          cases this
      have s2 : Same H1 (upd H1 a (.lst [])) := same_new ha
      have e2 : upd H1 a (.lst []) a = some (.lst []) := upd_same
      generalize upd H1 a (.lst []) = H2 at s2 e2
      refine ⟨_, _, _, rfl, ?_⟩
      refine ⟨_, rfl, _, rfl, _, _, rfl, rfl, p, m + 1, rfl, h1p.same s2, by omega, by omega, fun d H3 d0 d1 hs3 b3 => ?_⟩
      refine ⟨d, rfl, by omega, by omega, ?_⟩
      have lenp : pl0.length ≤ n := by
        rw [List.length_cons] at hn
        omega
      refine for_range (lo := 0) (n := d.toNat) (fun i σ H' => ∃ (l : Sgs) (vs : List V) (pl' : List Str) (v6 v7 : Option V), σ = [some (.ref p), some (.ref q), some (.int m), some (.str s0), some (.ref a), some (.int (l.dep 0)), v6, v7] ∧
          Strm H' p ∧ H' q = some (.lst (pl'.map V.str)) ∧ (s0 :: l.srcs) ++ pl' = s0 :: pl0 ∧ H' a = some (.lst vs) ∧ PsAll K H' vs l ∧ l.ok 0 [s0] ∧ l.len ≤ i ∧ vs.length ≤ i ∧ Bxx p q H H' ∧ l.zl)
        ⟨.nil, [], pl0, none, none, rfl, hs3, (b3 q hqp).trans (s2 _ _ h1q), rfl, (b3 a nap).trans e2, .nil, trivial, Nat.zero_le _, Nat.zero_le _, (h1x.trans (Same.xx s2)).trans b3.bx.xx, trivial⟩ ?_ ?_
      · rintro i σ H4 hi ⟨l, vs, pl', v6, v7, rfl, hs4, hq4, epl, ea4, ps4, ok4, len4, vlen, bx4, zl4⟩
        have nd := hq.nd
        rw [← epl] at nd
        have nd2 := List.nodup_append.mp nd
        have plen : pl'.length ≤ n := by
          have := congrArg List.length epl
          rw [List.length_append, List.length_cons, List.length_cons] at this
          omega
        have sub' : ∀ s ∈ pl', s ∈ K0 := fun s h => hq.sub s (by rw [← epl]; exact List.mem_append_right _ h)
        refine ⟨_, rfl, _, rfl, _, rfl, p, q, _, pl', rfl, hs4, hqp, ⟨hq4, nd2.2.1, sub'⟩, plen, fun v x pl2 H5 hv sd hf hsr hq5 hs5 bx5 zx => ?_⟩
        have ea5 : H5 a = some (.lst vs) := bx5 _ _ nap naq ea4
        obtain ⟨sr, sm, spq, _⟩ := id hs4
        have kp5 : Kp H4 H5 := bx5.kp spq hq4
        refine ⟨_, rfl, .inl ⟨rfl, _, SqL.of ea5⟩, _, rfl, a, vs, v, rfl, rfl, ea5, small1000 (by omega), ?_⟩
        have kp6 : Kp H5 (upd H5 a (.lst (vs ++ [v]))) := kp_upd ea5
        have ea6 : upd H5 a (.lst (vs ++ [v])) a = some (.lst (vs ++ [v])) := upd_same
        have hq6 : upd H5 a (.lst (vs ++ [v])) q = some (.lst (pl2.map V.str)) := by rw [upd_ne (Ne.symm naq)]; exact hq5
        have hs6 : Strm (upd H5 a (.lst (vs ++ [v]))) p := hs5.bx (upd_ne (Ne.symm nap))
        have bx6 : Bxx p q H (upd H5 a (.lst (vs ++ [v]))) := fun b o n1 n2 e => by
          rw [upd_ne (ne_of_none e haH)]
          exact bx5 _ _ n1 n2 (bx4 _ _ n1 n2 e)
        generalize upd H5 a (.lst (vs ++ [v])) = H6 at kp6 ea6 hq6 hs6 bx6
        refine ⟨_, rfl, _, rfl, v, x, l.dep 0, rfl, PsV.kp kp6 hv, sd, Sg.nest5 sd, fun H7 s7 => ?_⟩
        have dis : ∀ s ∈ x.srcs, s ∉ [s0] ++ l.srcs := fun s h hm => nd2.2.2 s hm s (by rw [← hsr]; exact List.mem_append_left _ h) rfl
        refine ⟨l.snoc x, vs ++ [v], pl2, some (.int (0 + (i : Nat))), some v, ?_, hs6.same s7, s7 _ _ hq6, ?_, s7 _ _ ea6, PsAll.snoc (PsV.kp (kp6.trans (Kp.of s7)) hv) (PsAll.kp ((kp5.trans kp6).trans (Kp.of s7)) ps4), ok_snoc ok4 (sd.ok hf dis), ?_, ?_, bx6.trans (Same.xx s7), zl_snoc zl4 zx⟩
        · rw [dep_snoc]
          rfl
        · rw [srcs_snoc, ← List.cons_append, List.append_assoc, hsr]
          exact epl
        · rw [len_snoc]
          omega
        · rw [List.length_append]
          show vs.length + 1 ≤ i + 1
          omega
      · rintro σ H4 ⟨l, vs, pl', v6, v7, rfl, hs4, hq4, epl, ea4, ps4, ok4, len4, vlen, bx4, zl4⟩
        refine ⟨_, rfl, _, rfl, tup_either (.inl (SqL.of ea4)) fun t H5 s5 ht => ?_⟩
        refine ⟨by show 2 ≤ sizeLine; decide, fun u hu => ?_⟩
        have s6 : Same H4 (upd H5 u (.tup [.str s0, .ref t])) := s5.trans (same_new hu)
        have okp : (Pg.mk s0 l).ok := ⟨hq.sub s0 List.mem_cons_self, by omega, ok4⟩
        exact k _ (.mk s0 l) pl' _ (.mk (.inl (.inl upd_same)) ((Kp.of (same_new hu)).tup ht) (PsAll.kp (Kp.of s6) ps4)) okp epl (s6 _ _ hq4) (hs4.same s6) (bx4.trans (Same.xx s6)) ⟨by omega, zl4⟩
end
end K81
set_option Elab.async false
set_option linter.all false
set_option maxRecDepth 100000
set_option maxHeartbeats 4000000
namespace K81
open PySem L2 VK
abbrev sProg : Stmt := top 45
theorem scProg : FnScope ["plan", "found", "stage"] ["plan"] (defScope sProg) := ⟨rfl, rfl, rfl, by decide +kernel, rfl, by decide +kernel, by decide +kernel⟩
/-- the class, as it is called -/
structure Lp (K : Fg) (mg : Str → Option Value) (A I : Nat → Addr) (D J : Nat → FuncData) (aS a1 a2 C e0 : Addr) : Prop where
  L : Lb K mg A I D J aS a1 a2 C
  m : Mk K C (A 22)
  F : FunD K "__init__" "Program.__init__" sInit (A 22) (D 22)
  b : Binds K (D 22) ["self", "source", "stages"] []
  b0 : Binds K (D 22) ["self", "source", "stages"] [.ref e0]
  h0 : ∀ H : Hp, SqT K H e0 []
/-- a program's object -/
def ObjP (K : Fg) (C : Addr) (H : Hp) (a : Addr) (s : Str) (ts : Addr) (xs : List V) : Prop := ∃ (dx ss : Addr) (d : Int), H a = some (.ins C dx (flds s ts ss d)) ∧ s ∈ K0 ∧ SqT K H ts xs ∧ xs.length ≤ 6
theorem ObjP.same {K : Fg} {C : Addr} {H H' : Hp} {a ts : Addr} {s : Str} {xs : List V} (h : ObjP K C H a s ts xs) (z : Same H H') : ObjP K C H' a s ts xs := by
  obtain ⟨dx, ss, d, e, hs, ht, hl⟩ := h
  exact ⟨dx, ss, d, z _ _ e, hs, (Kp.of z).tup ht, hl⟩
theorem MkEnd.up {K : Fg} {C CB : Addr} {s : Str} {xs : List V} {H H1 : Hp} {Q : VK} {E : XK} {o : Out} (z : Same H H1) (h : MkEnd K C CB s xs H Q E o) : MkEnd K C CB s xs H1 Q E o := by
  cases o with
  | inl a =>
    obtain ⟨d, tk⟩ := a
    exact fun p dx ts ss H2 s1 hp e t1 t2 => h p dx ts ss H2 (z.trans s1) (z.free hp) e t1 t2
  | inr i => exact fun H' e he s1 e1 => h H' e (z.free he) (z.trans s1) e1
section
variable {P : Program} {w : World} {K : Fg} {mg : Str → Option Value} {base : Heap} {A I : Nat → Addr} {D J : Nat → FuncData} {aS a1 a2 C e0 : Addr}
theorem Lp.o22 (Z : Lp K mg A I D J aS a1 a2 C e0) : FnOk P w K mg base (L2.CX P w) 5 (A 22) (D 22) ["self", "source", "stages"] (spInit K C (A 4) (A 3)) := ok_init Z.F Z.L
end
def Sgs.app : Sgs → Sgs → Sgs
  | .nil, m => m
  | .cons x r, m => .cons x (r.app m)
theorem app_nil : ∀ l : Sgs, l.app .nil = l
  | .nil => rfl
  | .cons x r => by
    show Sgs.cons x (r.app .nil) = _
    rw [app_nil r]
theorem snoc_app : ∀ (l : Sgs) (x : Sg) (m : Sgs), (l.snoc x).app m = l.app (.cons x m)
  | .nil, _, _ => rfl
  | .cons y r, x, m => by
    show Sgs.cons y ((r.snoc x).app m) = Sgs.cons y (r.app (.cons x m))
    rw [snoc_app r x m]
theorem StAll.snoc {K : Fg} {C : Addr} {H : Hp} {v : V} {x : Sg} (hv : StV K C H v x) : ∀ {vs : List V} {l : Sgs}, StAll K C H vs l → StAll K C H (vs ++ [v]) (l.snoc x)
  | _, _, .nil => .cons hv .nil
  | _, _, .cons h t => .cons h (StAll.snoc hv t)
def spProg (K : Fg) (C : Addr) (m : Nat) : Sp := fun vs H Q _ => ∃ (v : V) (g : Pg), vs = [v] ∧ PlAt K H v g ∧ g.ok ∧ g.nest < m ∧ ∀ (a : Addr) (H' : Hp), H a = none → Same H H' → PgAt K C H' (.ref a) g → Q (.ref a) H'
section
variable {P : Program} {w : World} {K : Fg} {mg : Str → Option Value} {base : Heap} {A I : Nat → Addr} {D J : Nat → FuncData} {aS a1 a2 C e0 f : Addr} {fd : FuncData}
theorem ok_prog (F : Fun K "_law_program" "_law_program" sProg f fd) (b : Binds K fd ["plan"] []) (g0 : mg "_law_program" = some (.ref f)) (Z : Lp K mg A I D J aS a1 a2 C e0) :
    ∀ m : Nat, FnOk P w K mg base CX0 (m + 7) f fd ["plan"] (spProg K C m)
  | 0 => by
    refine F.ok scProg (fun vs H Q E h => ?_) (fun cdv B outer s H vs Q E hr h => ?_)
    · obtain ⟨v, g, rfl, _⟩ := h
      rfl
    · obtain ⟨v, g, rfl, hv, ho, hn, k⟩ := h
      exact absurd hn (Nat.not_lt_zero _)
  | m + 1 => by
    have G : FnOk P w K mg base CX0 (m + 7) f fd ["plan"] (spProg K C m) := ok_prog F b g0 Z m
    refine F.ok scProg (fun vs H Q E h => ?_) (fun cdv B outer s H vs Q E hr h => ?_)
    · obtain ⟨v, g, rfl, _⟩ := h
      rfl
    · obtain ⟨v, g, rfl, hv, ho, hn, k⟩ := h
      have hr6 := hr.mono (show 6 ≤ m + 7 by omega)
      refine ⟨_, pss_cons (ps_set (i := 1) scProg.nd rfl (Or.inl rfl) (pe_lst pa_nil))
        (pss_cons (ps_for PassesOwn.never rfl (pi_tup (pe_ix ix_tup (pv 0) pe_int (fun _ _ => rfl))) (pg_name (i := 2) scProg.nd rfl (Or.inl rfl))
          (pss_one (ps_expr (pe_bm PySem.F.plainAttrs_list PySem.F.slot_list_append PySem.F.type_list_append mt_append (pv 1) (pa_cons
            (pe_ifExp (pt_cmpR op_eq (pe_ix ix_tup (pv 2) pe_int (fun _ _ => rfl)) pe_str (nomark _)) (pe_tup (pa_cons pe_str (pa_cons (pe_call G hr rfl g0 F.kp b .nil pass0 (pa_cons (pe_ix ix_tup (pv 2) pe_int (fun _ _ => rfl)) pa_nil)) pa_nil))) (pv 2)) pa_nil)))))
        (pss_one (ps_ret (pe_make Z.m Z.o22 hr6 rfl Z.L.c.g Z.b .nil (E := E0) passL (pa_cons (pe_ix ix_tup (pv 0) pe_int (fun _ _ => rfl)) (pa_cons (pv 1) pa_nil)))))), ?_⟩
      cases hv with
      | @mk a t s0 l xs h hs hl =>
        have ok : s0 ∈ K0 ∧ l.len ≤ 6 ∧ l.ok 0 [s0] := ho
        have hn : l.nest < m + 1 := hn
        refine ⟨by show 0 ≤ sizeLine; decide, fun q hq => ?_⟩
        have s1 : Same H (upd H q (.lst [])) := same_new hq
        have e1 : upd H q (.lst []) q = some (.lst []) := upd_same
        generalize upd H q (.lst []) = H1 at s1 e1
        refine ⟨_, rfl, a, _, _, _, rfl, rfl, (Kp.of s1).tup h, rfl, t, rfl, ⟨_, (Kp.of s1).tup hs⟩, ?_⟩
        have xl : xs.length ≤ 6 := by rw [PsAll.len hl]; exact ok.2.1
        refine for_it (walk_tup (xs := xs)) (fun i σ H' => ∃ (l1 r : Sgs) (vs : List V) (v2 : Option V), σ = [some (.ref a), some (.ref q), v2] ∧ Same H H' ∧ H' q = some (.lst vs) ∧ StAll K C H' vs l1 ∧ vs.length ≤ i ∧ PsAll K H (xs.drop i) r ∧ r.sd ∧ r.nest < m + 1 ∧ l1.app r = l)
          ⟨.nil, l, [], none, rfl, s1, e1, .nil, Nat.zero_le _, hl, ok.2.2.sd, hn, rfl⟩ (fun i σ H' _ z => ?_) ?_ ?_
        · obtain ⟨_, _, _, _, _, z, _⟩ := z
          exact (Kp.of z).tup hs
        · rintro i y σ H2 H3 hi ⟨l1, r, vs, v2, rfl, s2, e2, st, vl, pr, sd, rn, el⟩ ⟨rfl, hy⟩
          have hd : xs.drop i = y :: xs.drop (i + 1) := by
            rw [List.drop_eq_getElem_cons hi]
            rw [List.getElem?_eq_getElem hi] at hy
            rw [Option.some.inj hy]
          rw [hd] at pr
          cases pr with
          | @cons _ _ x r h1 h2 =>
            have sd : x.sd ∧ r.sd := sd
            have rn : max x.nest r.nest < m + 1 := rn
            have hy2 := PsV.kp (Kp.of s2) h1
            refine ⟨_, rfl, .inl ⟨rfl, _, SqL.of e2⟩, ?_⟩
            obtain ⟨b0, rr, rfl, hb0⟩ := hy2.at0
            refine ⟨_, rfl, b0, _, _, .str x.kd, rfl, rfl, hb0, at_of (j := 0) rfl rfl, rfl, _, rfl, ?_⟩
            have fin : ∀ (v : V) (H4 : Hp), Same H3 H4 → StV K C H4 v x → ∃ (l0 : Addr) (ys : List V) (y0 : V), V.ref q = V.ref l0 ∧ [v] = [y0] ∧ H4 l0 = some (.lst ys) ∧ ys.length < sizeLine ∧
                ∃ (l1' r' : Sgs) (vs' : List V) (v2' : Option V), [some (V.ref a), some (V.ref q), some (V.ref b0)] = [some (.ref a), some (.ref q), v2'] ∧ Same H (upd H4 l0 (.lst (ys ++ [y0]))) ∧ upd H4 l0 (.lst (ys ++ [y0])) q = some (.lst vs') ∧
                  StAll K C (upd H4 l0 (.lst (ys ++ [y0]))) vs' l1' ∧ vs'.length ≤ i + 1 ∧ PsAll K H (xs.drop (i + 1)) r' ∧ r'.sd ∧ r'.nest < m + 1 ∧ l1'.app r' = l := by
              intro v H4 s4 hv
              have e4 := s4 _ _ e2
              have kp := kp_upd (o := .lst (vs ++ [v])) e4
              refine ⟨q, vs, v, rfl, rfl, e4, small1000 (by omega), l1.snoc x, r, vs ++ [v], some (.ref b0), rfl, ?_, upd_same, StAll.snoc (StV.kp kp hv) (StAll.kp ((Kp.of s4).trans kp) st), ?_, h2, sd.2, Nat.lt_of_le_of_lt (Nat.le_max_right _ _) rn, ?_⟩
              · intro b o e
                rw [upd_ne (ne_of_none e hq)]
                exact s4 _ _ (s2 _ _ e)
              · rw [List.length_append]
                show vs.length + 1 ≤ i + 1
                omega
              · rw [snoc_app]
                exact el
            refine dif (fun ez => ?_) (fun ez => ?_)
            · cases hy2 with
              | nm h => exact absurd (V.str.inj ez) ((by decide +kernel : ∀ z ∈ K1, ¬ (z = "zip")) _ sd.1.wf)
              | num h => exact absurd (V.str.inj ez) ((by decide +kernel : ∀ z ∈ K2, ¬ (z = "zip")) _ sd.1.wf)
              | flat h => exact absurd (V.str.inj ez) (by decide +kernel : ¬ (("flat" : Str) = "zip"))
              | @zip _ v p h hp =>
                have pn : p.nest < m := Nat.lt_of_succ_lt_succ (Nat.lt_of_le_of_lt (Nat.le_max_left _ _) rn)
                refine ⟨_, rfl, _, _, _, _, rfl, rfl, h, rfl, v, p, rfl, hp, sd.1, pn, fun a' H4 hn4 s4 pg => ?_⟩
                refine ⟨by show 2 ≤ sizeLine; decide, fun u hu => ?_⟩
                exact fin _ _ (s4.trans (same_new hu)) (.zip (.inl (.inl upd_same)) (PgAt.kp (Kp.of (same_new hu)) pg))
            · refine ⟨_, rfl, fin _ H3 (Same.refl H3) ?_⟩
              cases hy2 with
              | nm h => exact .nm h
              | num h => exact .num h
              | flat h => exact .flat h
              | zip h hp => exact absurd rfl ez
        · rintro σ H2 ⟨l1, r, vs, v2, rfl, s2, e2, st, vl, pr, sd, rn, el⟩
          rw [List.drop_length] at pr
          cases pr
          rw [app_nil] at el
          subst el
          refine ⟨_, rfl, a, _, _, _, rfl, rfl, (Kp.of s2).tup h, rfl, _, rfl, ?_⟩
          exact mk_good ho (.inl (SqL.of e2)) st fun p H3 s3 hp pg => k p H3 (s2.free hp) (s2.trans s3) pg
end
end K81
set_option Elab.async false
set_option linter.all false
set_option maxRecDepth 100000
set_option maxHeartbeats 4000000
namespace K81
open PySem L2 VK
abbrev sThen : Stmt := inClass (top 24) 5
abbrev sWithout : Stmt := inClass (top 24) 6
abbrev sExch : Stmt := inClass (top 24) 7
theorem scThen : FnScope ["self", "stage"] ["self", "stage"] (defScope sThen) := ⟨rfl, rfl, rfl, by decide +kernel, rfl, by decide +kernel, by decide +kernel⟩
theorem scWithout : FnScope ["self", "positions", "left", "position", "stage"] ["self", "positions"] (defScope sWithout) := ⟨rfl, rfl, rfl, by decide +kernel, rfl, by decide +kernel, by decide +kernel⟩
theorem scExch : FnScope ["self", "position", "stages"] ["self", "position"] (defScope sExch) := ⟨rfl, rfl, rfl, by decide +kernel, rfl, by decide +kernel, by decide +kernel⟩
def ErrP (CP : Addr) (f : Str) (H : Hp) (v : V) (E : XK) : Prop := ∀ (H' : Hp) (e : Addr), H e = none → Same H H' → H' e = some (.xd [(f, v)]) → E (.ref CP) (some e) H'
def spThen (K : Fg) (C CB CL : Addr) : Sp := fun vs H Q E => ∃ (a ts : Addr) (s : Str) (xs : List V) (v : V), vs = [.ref a, v] ∧ ObjP K C H a s ts xs ∧
  ((xs.length < 6 ∧ ∃ o, Rest K C H 0 [s] 0 (xs ++ [v]) o ∧ MkEnd K C CB s (xs ++ [v]) H Q E o) ∨
   (xs.length = 6 ∧ ∀ (H' : Hp) (e st : Addr), H e = none → Same H H' → H' e = some (.xd [("value", .ref st)]) → H' st = some (.lst (xs ++ [v])) → E (.ref CL) (some e) H'))
section
variable {P : Program} {w : World} {K : Fg} {mg : Str → Option Value} {base : Heap} {A I : Nat → Addr} {D J : Nat → FuncData} {aS a1 a2 C e0 : Addr}
theorem ok_then {f : Addr} {fd : FuncData} (F : Fun K "then" "Program.then" sThen f fd) (Z : Lp K mg A I D J aS a1 a2 C e0) : FnOk P w K mg base (L2.CX P w) 7 f fd ["self", "stage"] (spThen K C (A 4) (A 3)) := by
  refine F.okX scThen (fun vs H Q E h => ?_) (fun cdv B outer s H vs Q E hr h => ?_)
  · obtain ⟨a, ts, s, xs, v, rfl, _⟩ := h
    rfl
  · obtain ⟨a, ts, s, xs, v, rfl, hO, k⟩ := h
    obtain ⟨dx, ss, d, ha, hs, ht, hl⟩ := hO
    refine ⟨_, pss_one (ps_ret (pe_make Z.m Z.o22 hr rfl Z.L.c.g Z.b .nil (E := E) (passes_call (takes_of rfl rfl rfl rfl) fun _ _ _ _ z => z)
      (pa_cons (pe_fld (pv 0) rfl) (pa_cons (pe_op op_cat (pe_callTy call_list_of (by rfl) Z.L.N.lst PyProof.Rows.boot_list (pa_cons (pe_fld (pv 0) rfl) pa_nil)) (pe_lst (pa_cons (pv 1) pa_nil))) pa_nil)))), ?_⟩
    refine ⟨_, rfl, a, C, dx, _, .str s, rfl, ha, Z.L.c.cl, Z.L.c.n1, get_source _ _ _ _, ?_⟩
    refine ⟨_, rfl, a, C, dx, _, .ref ts, rfl, ha, Z.L.c.cl, Z.L.c.n2, get_stages _ _ _ _, ?_⟩
    refine ⟨ts, xs, rfl, .inr ht, fun p hp => ?_⟩
    have s1 : Same H (upd H p (.lst xs)) := same_new hp
    have e1 : upd H p (.lst xs) p = some (.lst xs) := upd_same
    generalize upd H p (.lst xs) = H1 at s1 e1
    refine ⟨_, rfl, by show 1 ≤ sizeLine; decide, fun q hq => ?_⟩
    have s2 : Same H1 (upd H1 q (.lst [v])) := same_new hq
    have e2 : upd H1 q (.lst [v]) q = some (.lst [v]) := upd_same
    generalize upd H1 q (.lst [v]) = H2 at s2 e2
    refine ⟨p, q, xs, [v], rfl, rfl, s2 _ _ e1, e2, ?_, fun r hr3 => ?_⟩
    · rw [sizeLine_eq]
      show xs.length + 1 ≤ _
      omega
    have s3 : Same H2 (upd H2 r (.lst (xs ++ [v]))) := same_new hr3
    have e3 : upd H2 r (.lst (xs ++ [v])) r = some (.lst (xs ++ [v])) := upd_same
    generalize upd H2 r (.lst (xs ++ [v])) = H3 at s3 e3
    have s03 := s1.trans (s2.trans s3)
    have len : (xs ++ [v]).length = xs.length + 1 := by rw [List.length_append]; rfl
    rcases k with ⟨h6, o, rest, k⟩ | ⟨h6, k⟩
    · exact mk_read hs (.inl (SqL.of e3)) (by omega) (rest.same s03) (k.up s03)
    · exact mk_long hs (.inl (SqL.of e3)) (by omega) fun H' e he z e9 => k H' e r (s03.free he) (s03.trans z) e9 (z _ _ e3)
end
end K81
set_option Elab.async false
set_option linter.all false
set_option maxRecDepth 100000
set_option maxHeartbeats 4000000
/-! a def that is run at the caller's own place alone: there no repr runs (the guards are known) -/
namespace VK
open PySem PySem.Spec PyProof.Rows L2
/-- a def's run at one place -/
def RunAt (P : Program) (w : World) (K : PySem.W.Frag) (mg : Str → Option Value) (base : Heap) (A : Around) (f : Addr) (fd : FuncData) (ps : List Str) (sp : Sp) : Prop :=
  ∀ (outer : List Env) (s : Shared) (H : Hp) (args : Args) (us : List Value) (vs : List V) (Q : VK) (E : XK), Env0 P w K mg base A outer s H → BindsTo s fd args (ps.zip us) → Vals vs us → sp vs H Q E →
    codeAny (model P w) A (.call (.ref f) args) (CR CX0 outer P w H s Q E) s
section
variable {P : Program} {w : World} {K : PySem.W.Frag} {mg : Str → Option Value} {base : Heap}
theorem runAt_of {x qual : Str} {st : Stmt} {f : Addr} {fd : FuncData} {N ps : List Str} {k : Nat} {sp : Sp} {A : Around}
    (F : Fun K x qual st f fd) (S : FnScope N ps (defScope st)) (len : ∀ vs H Q E, sp vs H Q E → vs.length = ps.length) (hr : Room (k + 1) A)
    (hbody : ∀ (cdv : Value) (outer : List Env) (s : Shared) (H : Hp) (vs : List V) (Q : VK) (E : XK), Room k (A.deeper (envOfC qual (defScope st) s.heap.objs.size f cdv)) → sp vs H Q E →
      ∃ t, PSs (cxOf CX0 P w K mg base N qual (defScope st) f cdv A outer s H E).nox (defBody st) t ∧ t { nx := fun _ H' => Q .non H', rt := Q } (start N vs) H) :
    RunAt P w K mg base A f fd ps sp := by
  obtain ⟨oc, od, kV, doc, pm, an, cdv, ct, osl, rfl, lk, hcd⟩ := F.ex
  intro outer s H args us vs Q E e0 hb r hsp
  have hl := len _ _ _ _ hsp
  have stay : ∀ b o, base.get? b = some o → s.heap.get? b = some o := fun b o e => (e0.bs b o e).1
  have KX : K.In s.heap := e0.mod.kin.keeps stay
  have lim : s.heap.NoLimit := e0.mod.nolimit.keeps stay
  have places : ∀ y ∈ ps.zip us, (defScope st).names.lookup y.1 = some .local ∨
      ((defScope st).names.lookup y.1 = some .cell ∧ ((cellsFrom (s.heap.objs.size + 1) (defScope st).names []).lookup y.1).isSome = true) := by
    rintro ⟨n, v⟩ hy
    rcases S.par n (List.of_mem_zip hy).1 with q | q
    · exact .inl q
    · exact .inr ⟨q, PySem.W.cellsFrom_some _ _ _ (.inl q)⟩
  refine codeAny_call_function hr.depth (KX _ _ lk) rfl S.co S.gen rfl (PySem.W.codeRec_of KX hcd) (hb _ _ _ _ ?_)
  refine wpAny_newFunctionEnv_cells S.kind places fun env he s1 x => ?_
  subst he
  refine ⟨lim.keeps x.toInCall.keep, codeAny_func ?_⟩
  obtain ⟨t, ht, hq⟩ := hbody cdv outer s H vs Q E (hr.deeper _) hsp
  have I : Inv (cxOf CX0 P w K mg base N qual (defScope st) f cdv A outer s H E) [] (start N vs) H s1 := inv_start S hr.hd e0 hl r x
  refine wpAny_mono (ht.nox.run [] s1 (start N vs) H _ I hq) (fun fl s' hs => ?_) fun e s' hs => hs
  cases fl with
  | ret u =>
    obtain ⟨v, σ', H', J, rv, q⟩ := hs
    exact ⟨v, H', J.os, J.bare, J.base, J.hok, rv, q⟩
  | next =>
    obtain ⟨σ', H', J, q⟩ := hs
    exact ⟨.non, H', J.os, J.bare, J.base, J.hok, rfl, q⟩
  | brk =>
    obtain ⟨_, _, _, q⟩ := hs
    exact q.elim
  | cont =>
    obtain ⟨_, _, _, q⟩ := hs
    exact q.elim
/-- the law's call -/
theorem law_at {mb : Str → Option Value} {fa a : Addr} {fd : FuncData} {x : Str} {sp : Sp} {s₁ : Shared} {vs : List Value} {ns : List Int}
    (KX : K.In s₁.heap) (hns : s₁.heap.Ns mainGlobals mg) (hb : s₁.heap.Ns builtinsNs mb) (hbb : ∀ x : Str, x ≠ "__name__" → mb x = bootBuiltins x) (hlim : s₁.heap.NoLimit) (hg : s₁.gens = #[])
    (ha : s₁.heap.get? a = some { cls := .type "list", data := .seq vs.toArray }) (hi : IntsAre vs ns) (hl : ns.length ≤ sizeLine)
    (F : ∀ base : Heap, K.In base → base.Ns mainGlobals mg → RunAt P w K mg base callerA fa fd [x] sp) (hbind : ∀ (s : Shared) (u : Value), BindsTo s fd ⟨[u], []⟩ [(x, u)])
    (hsp : ∀ H : Hp, Only H → SqL K H a (ns.map V.int) → sp [.ref a] H (fun v _ => v = .bl true) fun _ _ _ => False) :
    codeAny (model P w) callerA (.call (.ref fa) ⟨[.ref a], []⟩) (fun r s' => r = .ok (.ret (.bool true)) ∧ OldK s₁.heap s'.heap ∧ s'.os = s₁.os ∧ AllBare s'.gens) s₁ := by
  have rv := vals_ints hi
  have same := hi.length
  have core : ∀ H : Hp, Only H → SqL K H a (ns.map V.int) → HOk P w H s₁.heap → (∀ b, H b ≠ none → b = a) → (H a ≠ none → K.lookup a = none) →
      codeAny (model P w) callerA (.call (.ref fa) ⟨[.ref a], []⟩) (fun r s' => r = .ok (.ret (.bool true)) ∧ OldK s₁.heap s'.heap ∧ s'.os = s₁.os ∧ AllBare s'.gens) s₁ := by
    intro H only seq hok alone own
    have isDict : ∀ {b : Addr} {o : Obj} {es : Array DictEntry} {ep : Nat}, s₁.heap.get? b = some o → o.data = .dict es ep → H b = none := by
      intro b o es ep e d
      cases q : H b with
      | none => rfl
      | some u =>
        have e2 : b = a := alone b (by rw [q]; exact fun z => nomatch z)
        subst e2
        rw [ha] at e
        cases e
        cases (show Data.seq vs.toArray _ = Data.dict es ep from d)
    have nsK : ∀ {b : Addr} {m : Str → Option Value}, s₁.heap.Ns b m → (hidT s₁.heap H).Ns b m := by
      rintro b m ⟨o, es, ep, e, d, r⟩
      exact ⟨o, es, ep, hidT_get e (isDict e d), d, r⟩
    have kin : K.In (hidT s₁.heap H) := by
      intro b o e
      refine hidT_get (KX b o e) ?_
      cases q : H b with
      | none => rfl
      | some u =>
        have some2 : H b ≠ none := by rw [q]; exact fun z => nomatch z
        have e2 : b = a := alone b some2
        subst e2
        rw [own some2] at e
        cases e
    obtain ⟨mc, l1, l2⟩ := hlim
    have hM : Mod K mg (hidT s₁.heap H) := ⟨kin, nsK hns, ⟨mb, nsK hb, hbb⟩, mc, nsK l1, l2⟩
    have noEnv : frs ([] : List Env) = [] := rfl
    have e0 : Env0 P w K mg (hidT s₁.heap H) callerA [] s₁ H :=
      ⟨rfl, hM, fun b o e => of_hidT e, Nat.le_of_eq (hidT_size _ _), trivial, fun b hb => (by rw [noEnv] at hb; cases hb), hok, .of_eq hg⟩
    refine codeAny_mono (F _ kin (nsK hns) [] s₁ H ⟨[.ref a], []⟩ [.ref a] [.ref a] _ _ e0 (hbind s₁ (.ref a)) (.cons rfl .nil) (hsp H only seq)) fun r s' h => ?_
    cases r with
    | error e => exact False.elim h
    | ok fl =>
      cases fl with
      | next => exact False.elim h
      | brk => exact False.elim h
      | cont => exact False.elim h
      | ret u =>
        obtain ⟨v, H', os, bare, un, hok2, r2, q⟩ := h
        have q2 : v = .bl true := q
        subst q2
        obtain rfl : u = Value.bool true := r2
        refine ⟨rfl, OldK.of_keep fun b o e => ?_, os, bare⟩
        cases q : H b with
        | none => exact un.keep b o e q (by rw [noEnv]; exact fun z => nomatch z) (fun z => nomatch z)
        | some u =>
          rcases only b with z | ⟨ob, xs, z⟩
          · rw [q] at z
            cases z
          · obtain ⟨e1, _⟩ := hok b _ z
            obtain ⟨e2, _⟩ := hok2 b _ (un.frzs b ob _ z)
            rw [e] at e1
            cases e1
            exact e2
  cases hk : K.lookup a with
  | some o =>
    have e := KX a o hk
    rw [ha] at e
    cases e
    refine core (fun _ => none) (fun _ => .inl rfl) (.inr ⟨_, vs.toArray, _, hk, rfl, rfl, rfl, ?_, ?_⟩) (fun b u z => ?_) (fun b z => absurd rfl z) fun z => absurd rfl z
    · rw [List.size_toArray, same]
      exact hl
    · simpa using rv
    · cases (show (none : Option HO) = some u from z)
  | none =>
    refine core (fun b => if b = a then some (.frz { cls := .type "list", data := .seq vs.toArray } (.lst (ns.map V.int))) else none) (fun b => ?_) (.inl (.inr ⟨_, if_pos rfl⟩)) (fun b u z => ?_) (fun b z => ?_) fun _ => hk
    · by_cases hb : b = a
      · exact .inr ⟨_, _, if_pos hb⟩
      · exact .inl (if_neg hb)
    · by_cases hb : b = a
      · cases ((if_pos hb).symm.trans z)
        subst hb
        exact ⟨ha, by rw [List.length_map]; exact hl, vs, _, rv, ha⟩
      · cases ((if_neg hb).symm.trans z)
    · by_cases hb : b = a
      · exact hb
      · exact absurd (if_neg hb) z
end
/-- the goal that the head leaves, with the script's bits -/
theorem walk_at {l : PySem.W.OpenLaw} {n : Nat} {q : Program} {loose : List Str} {XP : (Str → Option Value) → Heap → Prop} {YP : World → Heap → Prop} {d : DefRec} {K : Params → PySem.W.Frag} {sp : World → Sp} {x : Str}
    (hn : l.most = some n) (hn2 : n ≤ sizeLine) (hdf : d.params.defaults = [])
    (hY : ∀ (w : World) (h : Heap), YP w h → (K w.params).In h)
    (F : ∀ (w : World) (mg : Str → Option Value) (fa : Addr) (h : Heap), (K w.params).In h → h.Ns mainGlobals mg → mg d.name = some (.ref fa) →
      ∃ fd : FuncData, (∀ (s : Shared) (u : Value), BindsTo s fd ⟨[u], []⟩ [(x, u)]) ∧
        ∀ base : Heap, (K w.params).In base → base.Ns mainGlobals mg → RunAt l.prog w (K w.params) mg base callerA fa fd [x] (sp w))
    (hsp : ∀ (w : World) (H : Hp) (a : Addr) (ns : List Int), ns.length ≤ n → (∀ z ∈ ns, Builtin.Int.intBits z ≤ 1048576) → Only H → SqL (K w.params) H a (ns.map V.int) → sp w [.ref a] H (fun v _ => v = .bl true) fun _ _ _ => False) :
    PySem.W.WalkO q loose XP YP l.row.toRowW d [] (fun f vs => PySem.call f vs) := by
  refine Att.attach_callB hn hdf fun w s₀ s₁ mg mb fa o pm cd doc a vs ns G Y ho hd hcd hmg hobj hints hlen hbits hg => ?_
  have KX := hY w _ Y
  obtain ⟨fd, hb, hF⟩ := F w mg fa _ KX G.T.g hmg
  exact law_at KX G.T.g G.T.b G.T.builtins G.T.nolimit hg hobj hints (Nat.le_trans hlen hn2) hF hb fun H hO hS => hsp w H a ns hlen hbits hO hS
end VK
set_option Elab.async false
set_option linter.all false
set_option maxRecDepth 100000
set_option maxHeartbeats 4000000
/-! a def called where the guards are known -/
namespace VK
open PySem PySem.Spec PyProof.Rows L2
/-- a def's promise wherever no repr runs -/
def RunG (P : Program) (w : World) (K : PySem.W.Frag) (mg : Str → Option Value) (base : Heap) (k : Nat) (f : Addr) (fd : FuncData) (ps : List Str) (sp : Sp) : Prop :=
  (∀ vs H Q E, sp vs H Q E → vs.length = ps.length) ∧ ∀ A : Around, A.guards = some [] → Room k A → RunAt P w K mg base A f fd ps sp
section
variable {X : Cx} {k : Nat} {f : Addr} {fd : FuncData} {ps : List Str} {sp : Sp} {x : Str} {p pos : Pos} {e : Expr} {es : List Expr} {t : TA}
def tCallG (sp : Sp) (t : TA) : TE := fun σ H Q => t σ H fun vs H1 => sp vs H1 Q E0
theorem pe_callG (F : RunG X.prog X.w X.K X.mg X.base k f fd ps sp) (hg : X.A.guards = some []) (hr : Room k X.A) (gl : Gl X x) (hm : X.mg x = some (.ref f)) (hk : PySem.W.keepIn X.K (.ref f) = true) (hb : Binds X.K fd ps []) (ha : PA X (e :: es) t)
    (hdb : (x == ("__debug__" : Str)) = false := by decide) (h1 : starEach (e :: es) X.env = (false, eval e X.env) :: starEach es X.env := by rfl) (h2 : (backTo pos (starEach es X.env)).any (·.1) = false := by rfl) :
    PE X (.Call (.Name x p) (e :: es) [] pos) (tCallG sp t) := by
  refine ⟨fun pins s σ H Q I h => wpAny_Call_Name_kw (ld_glob I gl hm (PySem.W.callWith_K (h₀ := X.base) I.ok.mod.kin hk (thn (ha.run pos pins s σ H _ I h) fun us s1 hh => ?_) h1 h2) hdb)⟩
  obtain ⟨vs, H1, I1, r, q⟩ := hh
  refine ⟨I1.kIn, ?_⟩
  have hl : us.length = ps.length := by rw [← r.length]; exact F.1 _ _ _ _ q
  have b := hb s1 us I1.kIn (by rw [List.append_nil]; exact hl)
  rw [List.append_nil] at b
  refine wpAny_call (codeAny_mono (F.2 X.A hg hr X.stack s1 H1 ⟨us, []⟩ us vs Q E0 I1.env0 b r q) fun res s' hq => ?_)
  cases res with
  | error er => exact False.elim hq
  | ok fl =>
    cases fl with
    | ret u => exact I1.after hq
    | next => exact False.elim hq
    | brk => exact False.elim hq
    | cont => exact False.elim hq
end
section
variable {P : Program} {w : World} {K : PySem.W.Frag} {mg : Str → Option Value} {base : Heap}
theorem runG_of {x qual : Str} {st : Stmt} {f : Addr} {fd : FuncData} {N ps : List Str} {k : Nat} {sp : Sp} (F : Fun K x qual st f fd) (S : FnScope N ps (defScope st)) (len : ∀ vs H Q E, sp vs H Q E → vs.length = ps.length)
    (hbody : ∀ (A : Around) (cdv : Value) (outer : List Env) (s : Shared) (H : Hp) (vs : List V) (Q : VK) (E : XK), A.guards = some [] → Room k (A.deeper (envOfC qual (defScope st) s.heap.objs.size f cdv)) → sp vs H Q E →
      ∃ t, PSs (cxOf CX0 P w K mg base N qual (defScope st) f cdv A outer s H E).nox (defBody st) t ∧ t { nx := fun _ H' => Q .non H', rt := Q } (start N vs) H) : RunG P w K mg base (k + 1) f fd ps sp :=
  ⟨len, fun A hg hr => runAt_of F S len hr fun cdv outer s H vs Q E hr2 h => hbody A cdv outer s H vs Q E hg hr2 h⟩
end
end VK
set_option Elab.async false
set_option linter.all false
set_option maxRecDepth 100000
set_option maxHeartbeats 4000000
/-! repr of any plain value, where the guards are known -/
namespace VK
open PySem PySem.Spec PyProof.Rows L2
def rShowV (K : PySem.W.Frag) : List V → Hp → VK → Prop := fun vs H Q => ∃ (v : V) (d : PyData), vs = [v] ∧ ShwV K H v d ∧ d.showable = true ∧ d.shown.length ≤ sizeLine ∧ d.depth ≤ 40 ∧ Q (.str d.shown) H
theorem call_showV {X : Cx} (hg : X.A.guards = some []) (hu : X.A.units + 64 < cLine) : CallR X (.builtin "repr") (rShowV X.K) := by
  intro pins s σ H vs us Q I r h
  obtain ⟨v, d, rfl, hp, sh, hz, hd, q⟩ := h
  obtain ⟨u, rfl, ru⟩ := vals1 r
  obtain ⟨as, rd, sys⟩ := hp.reads I ru
  have ref : ∀ a : Addr, u = .ref a → wpAny (model X.prog X.w) X.A (call (.builtin "repr") [u]) (EP X pins σ Q) X.xe s := by
    rintro a rfl
    exact repr_of_reads' rd sh sys hg (by omega) (fun _ _ e => e) (fun h' t tk k => ⟨.str _, H, I.kept k, ⟨t, rfl⟩, q⟩) hz
  cases hp with
  | dct e _ =>
    cases ru
    exact ref _ rfl
  | data h n =>
    cases h with
    | non =>
      cases ru
      exact PySem.P.repr_of_none ⟨.str _, H, I.tok _, ⟨_, rfl⟩, q⟩
    | bl b =>
      cases ru
      exact PySem.P.repr_of_bool ⟨.str _, H, I.tok _, ⟨_, rfl⟩, q⟩
    | int i =>
      obtain ⟨t, rfl⟩ := ru
      exact PySem.P.repr_of_int (of_decide_eq_true sh) ⟨.str _, H, I.tok _, ⟨_, rfl⟩, q⟩
    | str z =>
      obtain ⟨t, rfl⟩ := ru
      exact PySem.P.repr_of_str ⟨.str _, H, I.tok _, ⟨_, rfl⟩, q⟩ hz
    | lst _ _ =>
      cases ru
      exact ref _ rfl
    | tup _ _ =>
      cases ru
      exact ref _ rfl
end VK
set_option Elab.async false
set_option linter.all false
set_option maxRecDepth 100000
set_option maxHeartbeats 4000000
/-! d.get(k) of a written dict with text keys -/
namespace VK
open PySem PySem.Spec PyProof.Rows L2
def tKGet (K : PySem.W.Frag) (w : World) (td ty : TE) : TE := fun σ H Q => td σ H fun x H1 => ∃ a, x = .ref a ∧ (∃ es n, KDict K w a es n) ∧ ty σ H1 fun y H2 => ∃ (z : Str) (r : Option Value) (v : V), y = .str z ∧ PySem.W.nsIn K a z = some r ∧ RelV v (r.getD .none) ∧ Q v H2
section
variable {X : Cx} {o e : Expr} {apos cpos : Pos} {td ty : TE}
theorem pe_kget (ho : PE X o td) (he : PE X e ty) (m : M1 X o "get" apos e cpos) : PE X (.Call (.Attribute o "get" apos) [e] [] cpos) (tKGet X.K X.w td ty) := by
  refine ⟨fun pins s σ H Q I h => ?_⟩
  refine wpAny_Call_method m.base m.few m.line PySem.F.plainAttrs_dict PySem.F.slot_dict_get PySem.F.type_dict_get (thn (ho.run pins s σ H _ I h) fun u s1 hh => ?_)
  obtain ⟨x, H1, I1, rx, a, ex, ⟨es, n, D⟩, q1⟩ := hh
  subst ex
  obtain rfl : u = Value.ref a := rx
  have mp := PySem.W.mapOf_K (prog := X.prog) (w := X.w) I1.kIn D.at_ D.lit
  refine ⟨mp.typeIs, fun b q => (by cases q; exact ⟨_, I1.kIn _ _ D.at_, rfl⟩), ?_⟩
  rw [m.trees]
  refine Calls.callWith_builtin rfl (Calls.evalArgs_plain (Calls.spliced_cons (thn (he.run pins s1 σ H1 _ I1 q1) fun iv s2 hh => Calls.spliced_nil ?_)))
  obtain ⟨y, H2, I2, ry, z, r, v, ey, er, rv, q2⟩ := hh
  subst ey
  obtain ⟨t, rfl⟩ := ry
  have mp2 := PySem.W.mapOf_K (prog := X.prog) (w := X.w) I2.kIn D.at_ D.lit
  refine call_meetsIn PySem.F.slot_dict_get mp2.typeIs PySem.F.entry_dict_get (PySem.F.args_dict_get_2 _ _) (meets_dict_get (strKind X.prog X.w) a (PySem.strKind_is X.prog X.w z t) D.low) ⟨_, mp2, ?_⟩
  rw [PySem.W.find_K D.at_ er]
  exact ⟨v, H2, I2.tok _, rv, q2⟩
end
end VK
set_option Elab.async false
set_option linter.all false
set_option maxRecDepth 100000
set_option maxHeartbeats 4000000
namespace K81
open PySem L2 VK
open TL (tl)
/-! ### lines of texts -/
def numS (n : Int) : Str := Str.ofString (toString n)
def Sg.words : Sg → List Str
  | .nm k n => [k, n]
  | .num k n => [k, numS n]
  | .flat => ["flat"]
  | .zip _ => ["zip"]
mutual
def Sg.lines : Sg → List Str
  | .nm k n => [Txt.join " " [k, n]]
  | .num k n => [Txt.join " " [k, numS n]]
  | .flat => [Txt.join " " ["flat"]]
  | .zip p => "zip" :: p.lines.map fun l => ("  " : Str) ++ l
def Pg.lines : Pg → List Str
  | .mk s l => (("from " : Str) ++ s) :: l.lines
def Sgs.lines : Sgs → List Str
  | .nil => []
  | .cons x r => x.lines ++ r.lines
end
/-- indented so often -/
def ind : Nat → Str → Str
  | 0, x => x
  | d + 1, x => ind d (("  " : Str) ++ x)
theorem ind_map (d : Nat) (ls : List Str) : (ls.map fun l => ("  " : Str) ++ l).map (ind d) = ls.map (ind (d + 1)) := by
  rw [List.map_map]
  rfl
theorem tl_two : tl ("  " : Str) = [32, 32] := by decide +kernel
theorem tl_one : tl (" " : Str) = [32] := by decide +kernel
theorem tl_nl : tl ("\n" : Str) = [10] := by decide +kernel
theorem rep_mid : ∀ n : Nat, List.replicate n 32 ++ [32, 32] = List.replicate (n + 2) (32 : Nat)
  | 0 => rfl
  | n + 1 => by
    show 32 :: (List.replicate n 32 ++ [32, 32]) = 32 :: List.replicate (n + 2) 32
    rw [rep_mid n]
theorem tl_ind : ∀ (d : Nat) (x : Str), tl (ind d x) = List.replicate (2 * d) 32 ++ tl x
  | 0, x => rfl
  | d + 1, x => by
    show tl (ind d (("  " : Str) ++ x)) = _
    rw [tl_ind d, TL.tl_append, tl_two, ← List.append_assoc, rep_mid]
    rfl
theorem len_ind (d : Nat) (x : Str) : (ind d x).length = 2 * d + x.length := by
  rw [TL.len_tl, tl_ind, List.length_append, List.length_replicate, ← TL.len_tl]
/-- words in a line -/
structure Wd (ws : List Str) : Prop where
  ne : ws ≠ []
  free : ∀ w ∈ ws, 32 ∉ tl w
  first : ∃ w r, ws = w :: r ∧ tl w ≠ []
theorem Wd.head {ws : List Str} (h : Wd ws) : ∃ c r, tl (Txt.join " " ws) = c :: r ∧ c ≠ 32 := by
  obtain ⟨w, r, rfl, ne⟩ := h.first
  have fr := h.free w List.mem_cons_self
  cases e : tl w with
  | nil => exact absurd e ne
  | cons c q =>
    rw [e] at fr
    have nc : c ≠ 32 := fun z => fr (by rw [z]; exact List.mem_cons_self)
    rw [TL.join_eq, TL.tl_join]
    cases r with
    | nil => exact ⟨c, q, e, nc⟩
    | cons z r => exact ⟨c, _, by show tl w ++ _ = _; rw [e]; rfl, nc⟩
theorem take_rep : ∀ (n : Nat) {p : Nat → Bool} {l : List Nat}, p 32 = true → (∀ c r, l = c :: r → p c = false) → ((List.replicate n 32 ++ l).takeWhile p).length = n
  | 0, p, l, _, h => by
    show (l.takeWhile p).length = 0
    cases l with
    | nil => rfl
    | cons c r => rw [List.takeWhile_cons, h c r rfl]; rfl
  | n + 1, p, l, h1, h2 => by
    show ((32 :: (List.replicate n 32 ++ l)).takeWhile p).length = n + 1
    rw [List.takeWhile_cons, h1]
    show (List.takeWhile p (List.replicate n 32 ++ l)).length + 1 = n + 1
    rw [take_rep n h1 h2]
theorem lstrip_ind {ws : List Str} (h : Wd ws) (d : Nat) : Txt.lstripChars (ind d (Txt.join " " ws)) " " = Txt.join " " ws := by
  obtain ⟨c, r, e, nc⟩ := h.head
  unfold Txt.lstripChars
  rw [PyProof.Rows.stripBy_eq]
  have p1 : (Array.contains (" " : Str).cps) 32 = true := by decide +kernel
  have p2 : ∀ c, c ≠ 32 → (Array.contains (" " : Str).cps) c = false := fun c h => by
    have q : (" " : Str).cps = #[32] := by decide +kernel
    rw [q]
    simp [h]
  have lo : PySem.stripLo (Array.contains (" " : Str).cps) true (ind d (Txt.join " " ws)) = 2 * d := by
    unfold PySem.stripLo
    rw [if_pos rfl]
    show ((tl (ind d (Txt.join " " ws))).takeWhile _).length = _
    rw [tl_ind, take_rep (2 * d) p1 fun c' r' e' => by rw [e] at e'; injection e' with e1 _; rw [← e1]; exact p2 c nc]
  rw [lo]
  have hi : PySem.stripHi (Array.contains (" " : Str).cps) false (ind d (Txt.join " " ws)) (2 * d) = (ind d (Txt.join " " ws)).length := rfl
  rw [hi]
  refine TL.ext_tl ?_
  rw [TL.tl_strSub_end, tl_ind, List.drop_left' (by rw [List.length_replicate])]
theorem split_words {ws : List Str} (h : Wd ws) : Txt.split (Txt.join " " ws) " " = ws := TL.split_join tl_one (by decide +kernel) h.ne h.free
theorem split_lines {ls : List Str} (ne : ls ≠ []) (h : ∀ l ∈ ls, 10 ∉ tl l) : Txt.split (Txt.join "\n" ls) "\n" = ls := TL.split_join tl_nl (by decide +kernel) ne h
/-! ### names and numbers -/
theorem num_cases {n : Int} (h1 : 1 ≤ n) (h2 : n ≤ 4) : n = 1 ∨ n = 2 ∨ n = 3 ∨ n = 4 := by omega
theorem numS_cases {n : Int} (h1 : 1 ≤ n) (h2 : n ≤ 4) : (n = 1 ∧ numS n = "1") ∨ (n = 2 ∧ numS n = "2") ∨ (n = 3 ∧ numS n = "3") ∨ (n = 4 ∧ numS n = "4") := by
  rcases num_cases h1 h2 with rfl | rfl | rfl | rfl
  · exact .inl ⟨rfl, by decide +kernel⟩
  · exact .inr (.inl ⟨rfl, by decide +kernel⟩)
  · exact .inr (.inr (.inl ⟨rfl, by decide +kernel⟩))
  · exact .inr (.inr (.inr ⟨rfl, by decide +kernel⟩))
theorem nm_parts {n : Str} (h : isNm n = true) : 1 ≤ n.length ∧ n.length ≤ 8 ∧ ∀ c ∈ tl n, 97 ≤ c ∧ c ≤ 122 := by
  unfold isNm at h
  rw [Bool.and_eq_true, Bool.and_eq_true, decide_eq_true_eq, decide_eq_true_eq, List.all_eq_true] at h
  refine ⟨h.1, h.2.1, fun c hc => ?_⟩
  have := h.2.2 c hc
  unfold okSign at this
  rw [Bool.and_eq_true, decide_eq_true_eq, decide_eq_true_eq] at this
  exact this
/-- a word without blanks and line feeds, of one to eight signs -/
def Fr (w : Str) : Prop := 1 ≤ w.length ∧ w.length ≤ 8 ∧ 32 ∉ tl w ∧ 10 ∉ tl w
theorem fr_nm {n : Str} (h : isNm n = true) : Fr n := by
  obtain ⟨a, b, c⟩ := nm_parts h
  exact ⟨a, b, fun z => by have := c _ z; omega, fun z => by have := c _ z; omega⟩
instance (w : Str) : Decidable (Fr w) := by unfold Fr; exact inferInstance
theorem fr_k1 : ∀ k ∈ K1, Fr k := by decide +kernel
theorem fr_k2 : ∀ k ∈ K2, Fr k := by decide +kernel
theorem fr_k0 : ∀ k ∈ K0, Fr k := by decide +kernel
theorem fr_num {n : Int} (h1 : 1 ≤ n) (h2 : n ≤ 4) : Fr (numS n) := by
  rcases numS_cases h1 h2 with ⟨_, e⟩ | ⟨_, e⟩ | ⟨_, e⟩ | ⟨_, e⟩ <;> rw [e] <;> decide +kernel
theorem wd_two {a b : Str} (ha : Fr a) (hb : Fr b) : Wd [a, b] := by
  refine ⟨by simp, fun w hw => ?_, a, [b], rfl, fun e => ?_⟩
  · rcases List.mem_cons.mp hw with rfl | hw
    · exact ha.2.2.1
    · rw [List.mem_singleton.mp hw]; exact hb.2.2.1
  · have := ha.1
    rw [TL.len_tl, e] at this
    exact absurd this (by decide)
theorem wd_one {a : Str} (ha : Fr a) : Wd [a] := by
  refine ⟨by simp, fun w hw => ?_, a, [], rfl, fun e => ?_⟩
  · rw [List.mem_singleton.mp hw]; exact ha.2.2.1
  · have := ha.1
    rw [TL.len_tl, e] at this
    exact absurd this (by decide)
theorem join_one (a : Str) : Txt.join " " [a] = a := by
  rw [TL.join_eq]
  rfl
theorem tl_join2 (a b : Str) : tl (Txt.join " " [a, b]) = tl a ++ (32 :: tl b) := by
  rw [TL.join_eq, TL.tl_join, tl_one]
  rfl
theorem join_two (a b : Str) : Txt.join " " [a, b] = a ++ " " ++ b := by
  refine TL.ext_tl ?_
  rw [tl_join2, TL.tl_append, TL.tl_append, tl_one, List.append_assoc]
  rfl
theorem fr_ten {a b : Str} (ha : Fr a) (hb : Fr b) : 10 ∉ tl (Txt.join " " [a, b]) := by
  rw [tl_join2]
  intro z
  rcases List.mem_append.mp z with z | z
  · exact ha.2.2.2 z
  · rcases List.mem_cons.mp z with z | z
    · exact absurd z (by decide)
    · exact hb.2.2.2 z
theorem fr_len {a b : Str} (ha : Fr a) (hb : Fr b) : (Txt.join " " [a, b]).length ≤ 17 := by
  rw [TL.len_tl, tl_join2, List.length_append, List.length_cons, ← TL.len_tl, ← TL.len_tl]
  have := ha.2.1
  have := hb.2.1
  omega
theorem fr_from : Fr "from" := by decide +kernel
theorem fr_flat : Fr "flat" := by decide +kernel
theorem fr_zip : Fr "zip" := by decide +kernel
theorem from_eq (s : Str) : ("from " : Str) ++ s = Txt.join " " ["from", s] := by
  rw [join_two]
  have : ("from" : Str) ++ " " = "from " := by decide +kernel
  rw [this]
end K81
set_option Elab.async false
set_option linter.all false
set_option maxRecDepth 100000
set_option maxHeartbeats 4000000
namespace K81
open PySem L2 VK
open TL (tl)
abbrev sText : Stmt := top 28
abbrev sPL : Stmt := top 29
abbrev sSL : Stmt := top 30
theorem scText : FnScope ["program"] ["program"] (defScope sText) := ⟨rfl, rfl, rfl, by decide +kernel, rfl, by decide +kernel, by decide +kernel⟩
theorem scPL : FnScope ["program", "lines", "stage"] ["program"] (defScope sPL) := ⟨rfl, rfl, rfl, by decide +kernel, rfl, by decide +kernel, by decide +kernel⟩
theorem scSL : FnScope ["stage", "line", "part"] ["stage"] (defScope sSL) := ⟨rfl, rfl, rfl, by decide +kernel, rfl, by decide +kernel, by decide +kernel⟩
/-! ### how long the lines are, and how many -/
mutual
theorem Sg.line_ok : ∀ (x : Sg) (d : Int) (tk : List Str), x.ok d tk → ∀ l ∈ x.lines, l.length ≤ 17 + 2 * x.nest ∧ 10 ∉ tl l
  | .nm k n, _, _, h => fun l hl => by
    have h : k ∈ K1 ∧ isNm n = true := h
    rw [List.mem_singleton.mp hl]
    exact ⟨Nat.le_trans (fr_len (fr_k1 _ h.1) (fr_nm h.2)) (by omega), fr_ten (fr_k1 _ h.1) (fr_nm h.2)⟩
  | .num k n, _, _, h => fun l hl => by
    have h : k ∈ K2 ∧ 1 ≤ n ∧ n ≤ 4 := h
    rw [List.mem_singleton.mp hl]
    exact ⟨Nat.le_trans (fr_len (fr_k2 _ h.1) (fr_num h.2.1 h.2.2)) (by omega), fr_ten (fr_k2 _ h.1) (fr_num h.2.1 h.2.2)⟩
  | .flat, _, _, h => fun l hl => by
    rw [List.mem_singleton.mp hl, join_one]
    exact ⟨Nat.le_trans (by decide +kernel : ("flat" : Str).length ≤ 17) (by omega), by decide +kernel⟩
  | .zip p, d, tk, h => fun l hl => by
    have h : p.ok ∧ ∀ s ∈ p.srcs, s ∉ tk := h
    show l.length ≤ 17 + 2 * (p.nest + 1) ∧ _
    rcases List.mem_cons.mp hl with e | hl
    · rw [e]
      exact ⟨Nat.le_trans (by decide +kernel : ("zip" : Str).length ≤ 17) (by omega), by decide +kernel⟩
    · obtain ⟨m, hm, rfl⟩ := List.mem_map.mp hl
      obtain ⟨a, b⟩ := Pg.line_ok p h.1 m hm
      refine ⟨?_, ?_⟩
      · have e : ("  " : Str).length = 2 := by decide +kernel
        rw [TL.len_tl, TL.tl_append, List.length_append, ← TL.len_tl, ← TL.len_tl, e]
        omega
      · rw [TL.tl_append, tl_two]
        intro z
        rcases List.mem_append.mp z with z | z
        · exact absurd z (by decide)
        · exact b z
theorem Pg.line_ok : ∀ g : Pg, g.ok → ∀ l ∈ g.lines, l.length ≤ 17 + 2 * g.nest ∧ 10 ∉ tl l
  | .mk s r, h => fun l hl => by
    have h : s ∈ K0 ∧ r.len ≤ 6 ∧ r.ok 0 [s] := h
    show l.length ≤ 17 + 2 * r.nest ∧ _
    rcases List.mem_cons.mp hl with e | hl
    · rw [e, from_eq]
      exact ⟨Nat.le_trans (fr_len fr_from (fr_k0 _ h.1)) (by omega), fr_ten fr_from (fr_k0 _ h.1)⟩
    · exact Sgs.line_ok r 0 [s] h.2.2 l hl
theorem Sgs.line_ok : ∀ (r : Sgs) (d : Int) (tk : List Str), r.ok d tk → ∀ l ∈ r.lines, l.length ≤ 17 + 2 * r.nest ∧ 10 ∉ tl l
  | .nil, _, _, _ => fun _ h => by cases h
  | .cons x r, d, tk, h => fun l hl => by
    have h : x.ok d tk ∧ r.ok (x.dep d) (tk ++ x.srcs) := h
    show l.length ≤ 17 + 2 * max x.nest r.nest ∧ _
    have m1 := Nat.le_max_left x.nest r.nest
    have m2 := Nat.le_max_right x.nest r.nest
    rcases List.mem_append.mp hl with hl | hl
    · obtain ⟨a, b⟩ := Sg.line_ok x d tk h.1 l hl
      exact ⟨by omega, b⟩
    · obtain ⟨a, b⟩ := Sgs.line_ok r _ _ h.2 l hl
      exact ⟨by omega, b⟩
end
mutual
theorem Sg.many : ∀ (x : Sg) (d : Int) (tk : List Str), x.ok d tk → x.lines.length ≤ 1 + 7 * x.srcs.length
  | .nm k n, _, _, _ => by show 1 ≤ 1 + 7 * 0; omega
  | .num k n, _, _, _ => by show 1 ≤ 1 + 7 * 0; omega
  | .flat, _, _, _ => by show 1 ≤ 1 + 7 * 0; omega
  | .zip p, _, tk, h => by
    have h : p.ok ∧ ∀ s ∈ p.srcs, s ∉ tk := h
    have := Pg.many p h.1
    show (p.lines.map _).length + 1 ≤ 1 + 7 * p.srcs.length
    rw [List.length_map]
    omega
theorem Pg.many : ∀ g : Pg, g.ok → g.lines.length ≤ 7 * g.srcs.length
  | .mk s r, h => by
    have h : s ∈ K0 ∧ r.len ≤ 6 ∧ r.ok 0 [s] := h
    have := Sgs.many r 0 [s] h.2.2
    show r.lines.length + 1 ≤ 7 * (r.srcs.length + 1)
    omega
theorem Sgs.many : ∀ (r : Sgs) (d : Int) (tk : List Str), r.ok d tk → r.lines.length ≤ r.len + 7 * r.srcs.length
  | .nil, _, _, _ => Nat.zero_le _
  | .cons x r, d, tk, h => by
    have h : x.ok d tk ∧ r.ok (x.dep d) (tk ++ x.srcs) := h
    have a := Sg.many x d tk h.1
    have b := Sgs.many r _ _ h.2
    show (x.lines ++ r.lines).length ≤ (r.len + 1) + 7 * (x.srcs ++ r.srcs).length
    rw [List.length_append, List.length_append]
    omega
end
theorem Pg.many28 {g : Pg} (h : g.ok) : g.lines.length ≤ 28 := by
  have a := Pg.many g h
  have b := Pg.few h
  omega
theorem nest_srcs {g : Pg} (h : g.ok) : g.nest ≤ 3 := Nat.le_of_lt_succ (Pg.nest4 h)
def spPL (K : Fg) (C : Addr) (m : Nat) : Sp := fun vs H Q _ => ∃ (v : V) (g : Pg), vs = [v] ∧ PgAt K C H v g ∧ g.ok ∧ g.nest < m ∧ ∀ (q : Addr) (H' : Hp), H q = none → Same H H' → H' q = some (.lst (g.lines.map V.str)) → Q (.ref q) H'
def spSL (K : Fg) (C : Addr) (m : Nat) : Sp := fun vs H Q _ => ∃ (v : V) (x : Sg) (d : Int) (tk : List Str), vs = [v] ∧ StV K C H v x ∧ x.ok d tk ∧ x.nest < m ∧ ∀ (q : Addr) (H' : Hp), H q = none → Same H H' → H' q = some (.lst (x.lines.map V.str)) → Q (.ref q) H'
end K81
set_option Elab.async false
set_option linter.all false
set_option maxRecDepth 100000
set_option maxHeartbeats 4000000
namespace K81
open PySem L2 VK
open TL (tl)
/-- a def of the module -/
structure Df (K : Fg) (mg : Str → Option Value) (name : Str) (st : Stmt) (ps : List Str) (f : Addr) (fd : FuncData) : Prop where
  g : mg name = some (.ref f)
  F : Fun K name name st f fd
  b : Binds K fd ps []
theorem sl_len {l : Str} (h : l.length ≤ 1000) : (("  " : Str) ++ l).length ≤ sizeLine := by
  have e : ("  " : Str).length = 2 := by decide +kernel
  rw [TL.len_tl, TL.tl_append, List.length_append, ← TL.len_tl, ← TL.len_tl, e, sizeLine_eq]
  omega
theorem map_get {α β : Type} {f : α → β} {l : List α} {i : Nat} {y : β} (h : (l.map f)[i]? = some y) : ∃ x, l[i]? = some x ∧ y = f x := by
  rw [List.getElem?_map] at h
  obtain ⟨x, hx, e⟩ := Option.map_eq_some_iff.mp h
  exact ⟨x, hx, e.symm⟩
section
variable {P : Program} {w : World} {K : Fg} {mg : Str → Option Value} {base : Heap} {C fP fS : Addr} {dP dS : FuncData}
theorem ok_sl {n m : Nat} (c : Cl K mg C) (ti : ∃ t, mg "INDENT" = some (.str "  " t)) (DS : Df K mg "stage_lines" sSL ["stage"] fS dS) (DP : Df K mg "program_lines" sPL ["program"] fP dP)
    (G : FnOk P w K mg base CX0 n fP dP ["program"] (spPL K C m)) : FnOk P w K mg base CX0 (n + 1) fS dS ["stage"] (spSL K C (m + 1)) := by
  refine DS.F.ok scSL (fun vs H Q E h => ?_) (fun cdv B outer s H vs Q E hr h => ?_)
  · obtain ⟨v, x, d, tk, rfl, _⟩ := h
    rfl
  · obtain ⟨v, x, d, tk, rfl, hv, ok, hn, k⟩ := h
    obtain ⟨tI, gI⟩ := ti
    refine ⟨_, pss_cons (ps_if (pt_cmpR op_eq (pe_ix ix_tup (pv 0) pe_int (fun _ _ => rfl)) pe_str (nomark _))
        (pss_one (ps_ret (pe_op op_cat (pe_lst (pa_cons pe_str pa_nil)) (pe_lc (own := [("line", 1)]) (g := gName 1) (tt := tYes) rfl scSL.nd
          (pi_list (pe_call G hr rfl DP.g DP.F.kp DP.b .nil pass0 (pa_cons (pe_ix ix_tup (pv 0) pe_int (fun _ _ => rfl)) pa_nil)))
          (blkOk_by (N := ["stage", "line", "part"]) (sc := defScope sSL) (by decide +kernel)) (fun _ _ _ _ _ => pg_name (i := 1) scSL.nd rfl (Or.inl rfl)) (fun _ _ _ _ _ => pts_nil)
          (fun _ _ _ _ _ => by exact pe_op op_add_str (pe_glob (v := .str "  ") rfl gI ⟨_, rfl⟩) (pv 1)))))) pss_nil)
      (pss_one (ps_ret (pe_lst (pa_cons (pe_join pe_str (pe_lc (own := [("part", 2)]) (g := gName 2) (tt := tYes) rfl scSL.nd (pi_tup (pv 0))
          (blkOk_by (N := ["stage", "line", "part"]) (sc := defScope sSL) (by decide +kernel)) (fun _ _ _ _ _ => pg_name (i := 2) scSL.nd rfl (Or.inl rfl)) (fun _ _ _ _ _ => pts_nil)
          (fun _ _ _ _ _ => by exact pe_fs1 (pe_fmt (pv 2))))) pa_nil)))), ?_⟩
    obtain ⟨a, r, rfl, ha⟩ := hv.at0
    refine ⟨_, rfl, a, _, _, .str x.kd, rfl, rfl, ha, at_of (j := 0) rfl rfl, rfl, _, rfl, ?_⟩
    refine dif (fun ez => ?_) (fun ez => ?_)
    · cases hv with
      | @nm _ k1 n1 h => exact absurd (V.str.inj ez) ((by decide +kernel : ∀ z ∈ K1, ¬ (z = "zip")) _ (show k1 ∈ K1 ∧ _ from ok).1)
      | @num _ k1 n1 h => exact absurd (V.str.inj ez) ((by decide +kernel : ∀ z ∈ K2, ¬ (z = "zip")) _ (show k1 ∈ K2 ∧ _ from ok).1)
      | flat h => exact absurd (V.str.inj ez) (by decide +kernel : ¬ (("flat" : Str) = "zip"))
      | @zip _ v p h hp =>
        have ok : p.ok ∧ ∀ s ∈ p.srcs, s ∉ tk := ok
        have hn : p.nest + 1 < m + 1 := hn
        refine ⟨by show 1 ≤ sizeLine; decide, fun l hl => ?_⟩
        have s1 : Same H (upd H l (.lst [.str "zip"])) := same_new hl
        have e1 : upd H l (.lst [.str "zip"]) l = some (.lst [.str "zip"]) := upd_same
        generalize upd H l (.lst [.str "zip"]) = H1 at s1 e1
        refine ⟨_, rfl, _, _, _, _, rfl, rfl, (Kp.of s1).tup h, rfl, v, p, rfl, PgAt.kp (Kp.of s1) hp, ok.1, Nat.lt_of_succ_lt_succ hn, fun q H2 nq s2 e2 => ?_⟩
        refine ⟨q, rfl, ⟨_, SqL.of e2⟩, fun D hD => ?_⟩
        have many := Pg.many28 ok.1
        refine lc_it (walk_list (xs := p.lines.map V.str)) (lcI H2 D ((p.lines.map fun l => ("  " : Str) ++ l).map V.str)) (lcI0 hD) (fun i H' _ z => z.1.seq (SqL.of e2)) ?_ ?_
        · rintro i y H3 H4 hi z ⟨rfl, hy⟩
          obtain ⟨s, hs, rfl⟩ := map_get hy
          have sm := List.mem_of_getElem? hs
          have len := (Pg.line_ok p ok.1 s sm).1
          have n3 := nest_srcs ok.1
          refine ⟨rfl, iteT (B := True) ⟨_, rfl, _, _, rfl, rfl, ?_, ?_⟩⟩
          · have e : ("  " : Str).length = 2 := by decide +kernel
            rw [e, sizeLine_eq]
            omega
          · refine lc_step hD z.1 z.2 ?_ (by rw [List.length_map, List.length_map]; exact small1000 (by omega))
            rw [List.getElem?_map, List.getElem?_map, hs]
            rfl
        · intro H3 z
          obtain ⟨z1, z2⟩ := z.done (by rw [List.length_map, List.length_map, List.length_map])
          refine ⟨l, D, _, _, rfl, rfl, z1 _ _ (s2 _ _ e1), z2, ?_, fun r hr3 => ?_⟩
          · rw [List.length_map, List.length_map, sizeLine_eq]
            show 1 + _ ≤ _
            omega
          · have s03 := (s1.trans s2).trans z1
            exact k r _ (s03.free hr3) (s03.trans (same_new hr3)) upd_same
    · have data : ∃ (ys : List V) (ws : List Str), SqT K H a ys ∧ ws.length ≤ 2 ∧ (∀ w ∈ ws, w.length ≤ 8) ∧ ys.length = ws.length ∧
          (∀ (i : Nat) (y : V), ys[i]? = some y → ∃ w : Str, ws[i]? = some w ∧ w.length ≤ 8 ∧ (y = .str w ∨ ∃ n : Int, y = .int n ∧ n.natAbs.log2 < 1920 ∧ numS n = w)) ∧ x.lines = [Txt.join " " ws] := by
        cases hv with
        | @nm _ k1 n1 h =>
          have ok : k1 ∈ K1 ∧ isNm n1 = true := ok
          have f1 := (fr_k1 _ ok.1).2.1
          have f2 := (fr_nm ok.2).2.1
          refine ⟨_, [k1, n1], h, Nat.le_refl 2, fun w hw => ?_, rfl, fun i y hy => ?_, rfl⟩
          · rcases List.mem_cons.mp hw with rfl | hw
            · exact f1
            · rw [List.mem_singleton.mp hw]; exact f2
          · match i with
            | 0 => cases hy; exact ⟨_, rfl, f1, .inl rfl⟩
            | 1 => cases hy; exact ⟨_, rfl, f2, .inl rfl⟩
            | i + 2 => cases hy
        | @num _ k1 n1 h =>
          have ok : k1 ∈ K2 ∧ 1 ≤ n1 ∧ n1 ≤ 4 := ok
          have f1 := (fr_k2 _ ok.1).2.1
          have f2 := (fr_num ok.2.1 ok.2.2).2.1
          have f3 : n1.natAbs.log2 < 1920 := by
            rcases num_cases ok.2.1 ok.2.2 with rfl | rfl | rfl | rfl <;> decide +kernel
          refine ⟨_, [k1, numS n1], h, Nat.le_refl 2, fun w hw => ?_, rfl, fun i y hy => ?_, rfl⟩
          · rcases List.mem_cons.mp hw with rfl | hw
            · exact f1
            · rw [List.mem_singleton.mp hw]; exact f2
          · match i with
            | 0 => cases hy; exact ⟨_, rfl, f1, .inl rfl⟩
            | 1 => cases hy; exact ⟨_, rfl, f2, .inr ⟨_, rfl, f3, rfl⟩⟩
            | i + 2 => cases hy
        | flat h =>
          refine ⟨_, ["flat"], h, by decide, fun w hw => ?_, rfl, fun i y hy => ?_, rfl⟩
          · rw [List.mem_singleton.mp hw]; decide +kernel
          · match i with
            | 0 => cases hy; exact ⟨_, rfl, by decide +kernel, .inl rfl⟩
            | i + 1 => cases hy
        | zip h hp => exact absurd rfl ez
      obtain ⟨ys, ws, hy, l2, w8, ly, each, el⟩ := data
      refine ⟨⟨_, rfl⟩, _, rfl, a, rfl, ⟨_, hy⟩, fun D hD => ?_⟩
      refine lc_it (walk_tup (xs := ys)) (lcI H D (ws.map V.str)) (lcI0 hD) (fun i H' _ z => (Kp.of z.1).tup hy) ?_ ?_
      · rintro i y H3 H4 hi z ⟨rfl, hyi⟩
        obtain ⟨w, hw, len, kind⟩ := each i y hyi
        have stp : ∃ acc, H4 D = some (.lst acc) ∧ acc.length < sizeLine ∧ lcI H D (ws.map V.str) (i + 1) (upd H4 D (.lst (acc ++ [.str w]))) :=
          lc_step hD z.1 z.2 (by rw [List.getElem?_map, hw]; rfl) (by rw [List.length_map]; exact small1000 (by omega))
        rcases kind with rfl | ⟨n, rfl, lg, rfl⟩
        · exact ⟨rfl, iteT (B := True) ⟨_, rfl, .inl ⟨_, rfl, Nat.le_of_lt (small1000 (by omega)), stp⟩⟩⟩
        · exact ⟨rfl, iteT (B := True) ⟨_, rfl, .inr ⟨_, rfl, lg, stp⟩⟩⟩
      · intro H3 z
        obtain ⟨z1, z2⟩ := z.done (by rw [List.length_map, ly])
        have sum : (ws.map (·.length)).sum + ws.length * (" " : Str).length ≤ 16777216 := by
          have e : (" " : Str).length = 1 := by decide +kernel
          rw [e]
          match ws, l2, w8 with
          | [], _, _ => decide
          | [u], _, w8 =>
            have := w8 u List.mem_cons_self
            show u.length + 0 + 1 * 1 ≤ _
            omega
          | [u, u2], _, w8 =>
            have := w8 u List.mem_cons_self
            have := w8 u2 (List.mem_cons_of_mem _ List.mem_cons_self)
            show u.length + (u2.length + 0) + 2 * 1 ≤ _
            omega
          | _ :: _ :: _ :: _, l2, _ => exact absurd l2 (by simp)
        refine ⟨" ", D, ws, rfl, rfl, .inl (SqL.of z2), sum, by show 1 ≤ sizeLine; decide, fun q hq => ?_⟩
        rw [el] at k
        exact k q _ (z1.free hq) (z1.trans (same_new hq)) upd_same
end
end K81
set_option Elab.async false
set_option linter.all false
set_option maxRecDepth 100000
set_option maxHeartbeats 4000000
namespace K81
open PySem L2 VK
open TL (tl)
/-! ### program_lines, program_text -/
theorem StAll.drop_cons {K : Fg} {C : Addr} {H : Hp} {y : V} {r : List V} {l : Sgs} (h : StAll K C H (y :: r) l) : ∃ (x : Sg) (l' : Sgs), l = .cons x l' ∧ StV K C H y x ∧ StAll K C H r l' := by
  cases h with
  | cons h t => exact ⟨_, _, rfl, h, t⟩
section
variable {P : Program} {w : World} {K : Fg} {mg : Str → Option Value} {base : Heap} {C fP fS fT : Addr} {dP dS dT : FuncData}
theorem ok_pl1 {n m : Nat} (hn1 : 2 ≤ n) (c : Cl K mg C) (p1 : Prp P w K mg base C "source" "_source") (p2 : Prp P w K mg base C "stages" "_stages") (DP : Df K mg "program_lines" sPL ["program"] fP dP) (DS : Df K mg "stage_lines" sSL ["stage"] fS dS)
    (G : FnOk P w K mg base CX0 n fS dS ["stage"] (spSL K C m)) : FnOk P w K mg base CX0 (n + 1) fP dP ["program"] (spPL K C m) := by
  obtain ⟨p1, ga1, gd1, po1, G1, gb1⟩ := p1
  obtain ⟨p2, ga2, gd2, po2, G2, gb2⟩ := p2
  refine DP.F.ok scPL (fun vs H Q E h => ?_) (fun cdv B outer s H vs Q E hr h => ?_)
  · obtain ⟨v, g, rfl, _⟩ := h
    rfl
  · obtain ⟨v, g, rfl, hv, ok, hn, k⟩ := h
    have hr1 := hr.mono hn1
    refine ⟨_, pss_cons (ps_set (i := 1) scPL.nd rfl (Or.inl rfl) (pe_lst (pa_cons (pe_op op_add_str pe_str (pe_prop (pv 0) c.cl po1 G1 hr1 gb1 .nil pass0 rfl)) pa_nil)))
      (pss_cons (ps_for PassesOwn.never rfl (pi_tup (pe_prop (pv 0) c.cl po2 G2 hr1 gb2 .nil pass0 rfl)) (pg_name (i := 2) scPL.nd rfl (Or.inl rfl))
        (pss_one (ps_expr (pe_bm PySem.F.plainAttrs_list PySem.F.slot_list_extend PySem.F.type_list_extend mt_extend (pv 1) (pa_cons (pe_call G hr rfl DS.g DS.F.kp DS.b .nil pass0 (pa_cons (pv 2) pa_nil)) pa_nil)))))
      (pss_one (ps_ret (pv 1)))), ?_⟩
    have many := Pg.many28 ok
    cases hv with
    | @mk a dx ts ss s l xs h hs hl hss =>
      have okp : s ∈ K0 ∧ l.len ≤ 6 ∧ l.ok 0 [s] := ok
      have hn : l.nest < m := hn
      refine ⟨_, rfl, _, _, _, rfl, h, _, _, _, _, rfl, h, get_source _ _ _ _, _, _, rfl, rfl, ?_, by show 1 ≤ sizeLine; decide, fun q hq => ?_⟩
      · have e : ("from " : Str).length = 5 := by decide +kernel
        have := (fr_k0 _ okp.1).2.1
        rw [e, sizeLine_eq]
        omega
      have s1 : Same H (upd H q (.lst [.str (("from " : Str) ++ s)])) := same_new hq
      have e1 : upd H q (.lst [.str (("from " : Str) ++ s)]) q = some (.lst [.str (("from " : Str) ++ s)]) := upd_same
      generalize upd H q (.lst [.str (("from " : Str) ++ s)]) = H1 at s1 e1
      refine ⟨_, rfl, _, _, _, rfl, s1 _ _ h, _, _, _, _, rfl, s1 _ _ h, get_stages _ _ _ _, ts, rfl, ⟨_, (Kp.of s1).tup hs⟩, ?_⟩
      refine for_it (walk_tup (xs := xs)) (fun i σ H' => ∃ (ls : List Str) (r : Sgs) (d : Int) (tk : List Str) (v2 : Option V), σ = [some (.ref a), some (.ref q), v2] ∧ Same H H' ∧ H' q = some (.lst (ls.map V.str)) ∧
          StAll K C H (xs.drop i) r ∧ r.ok d tk ∧ r.nest < m ∧ ls ++ r.lines = (Pg.mk s l).lines)
        ⟨[("from " : Str) ++ s], l, 0, [s], none, rfl, s1, e1, hl, okp.2.2, hn, rfl⟩ (fun i σ H' _ z => ?_) ?_ ?_
      · obtain ⟨_, _, _, _, _, _, z, _⟩ := z
        exact (Kp.of z).tup hs
      · rintro i y σ H2 H3 hi ⟨ls, r, d, tk, v2, rfl, s2, e2, st, okr, rn, el⟩ ⟨rfl, hy⟩
        have hd : xs.drop i = y :: xs.drop (i + 1) := by
          rw [List.drop_eq_getElem_cons hi]
          rw [List.getElem?_eq_getElem hi] at hy
          rw [Option.some.inj hy]
        rw [hd] at st
        obtain ⟨x, r', rfl, sx, sr⟩ := st.drop_cons
        have okr : x.ok d tk ∧ r'.ok (x.dep d) (tk ++ x.srcs) := okr
        have rn : max x.nest r'.nest < m := rn
        have m1 := Nat.le_max_left x.nest r'.nest
        have m2 := Nat.le_max_right x.nest r'.nest
        refine ⟨_, rfl, .inl ⟨rfl, _, SqL.of e2⟩, _, rfl, y, x, d, tk, rfl, StV.kp (Kp.of s2) sx, okr.1, by omega, fun b H4 nb s4 e4 => ?_⟩
        have total : (ls ++ (x.lines ++ r'.lines)).length ≤ 28 := by
          rw [show ls ++ (x.lines ++ r'.lines) = (Pg.mk s l).lines from el]
          exact many
        rw [List.length_append, List.length_append] at total
        refine ⟨q, b, _, _, rfl, rfl, s4 _ _ e2, e4, ?_, ?_⟩
        · rw [List.length_map, List.length_map, sizeLine_eq]
          omega
        · refine ⟨ls ++ x.lines, r', _, _, some y, rfl, fun p o e => ?_, ?_, sr, okr.2, by omega, ?_⟩
          · rw [upd_ne (ne_of_none e hq)]
            exact s4 _ _ (s2 _ _ e)
          · rw [upd_same, List.map_append]
          · rw [List.append_assoc]
            exact el
      · rintro σ H2 ⟨ls, r, d, tk, v2, rfl, s2, e2, st, okr, rn, el⟩
        rw [List.drop_length] at st
        cases st
        have el : ls ++ [] = (Pg.mk s l).lines := el
        rw [List.append_nil] at el
        rw [el] at e2
        exact ⟨_, rfl, k q _ hq s2 e2⟩
theorem ok_pl (c : Cl K mg C) (p1 : Prp P w K mg base C "source" "_source") (p2 : Prp P w K mg base C "stages" "_stages") (ti : ∃ t, mg "INDENT" = some (.str "  " t)) (DP : Df K mg "program_lines" sPL ["program"] fP dP) (DS : Df K mg "stage_lines" sSL ["stage"] fS dS) :
    ∀ m : Nat, FnOk P w K mg base CX0 (2 * m + 2) fP dP ["program"] (spPL K C m)
  | 0 => by
    refine DP.F.ok scPL (fun vs H Q E h => ?_) (fun cdv B outer s H vs Q E hr h => ?_)
    · obtain ⟨v, g, rfl, _⟩ := h
      rfl
    · obtain ⟨v, g, rfl, hv, ho, hn, k⟩ := h
      exact absurd hn (Nat.not_lt_zero _)
  | m + 1 => ok_pl1 (by omega) c p1 p2 DP DS (ok_sl c ti DS DP (ok_pl c p1 p2 ti DP DS m))
/-- program_text -/
def Pg.text (g : Pg) : Str := Txt.join "\n" g.lines
def spText (K : Fg) (C : Addr) : Sp := fun vs H Q _ => ∃ (v : V) (g : Pg), vs = [v] ∧ PgAt K C H v g ∧ g.ok ∧ ∀ H', Same H H' → Q (.str g.text) H'
theorem sum_le {n : Nat} : ∀ (ls : List Str), (∀ l ∈ ls, l.length ≤ n) → (ls.map (·.length)).sum ≤ ls.length * n
  | [], _ => Nat.zero_le _
  | l :: r, h => by
    have a := h l List.mem_cons_self
    have b := sum_le r fun x hx => h x (List.mem_cons_of_mem _ hx)
    rw [List.map_cons, List.sum_cons, List.length_cons, Nat.add_mul]
    omega
theorem text_sum {g : Pg} (h : g.ok) : (g.lines.map (·.length)).sum + g.lines.length * ("\n" : Str).length ≤ 16777216 := by
  have n3 := nest_srcs h
  have a := sum_le g.lines (n := 23) fun l hl => by
    have := (Pg.line_ok g h l hl).1
    omega
  have b := Pg.many28 h
  have e : ("\n" : Str).length = 1 := by decide +kernel
  rw [e]
  omega
theorem ok_text (c : Cl K mg C) (p1 : Prp P w K mg base C "source" "_source") (p2 : Prp P w K mg base C "stages" "_stages") (ti : ∃ t, mg "INDENT" = some (.str "  " t)) (DP : Df K mg "program_lines" sPL ["program"] fP dP) (DS : Df K mg "stage_lines" sSL ["stage"] fS dS)
    (DT : Df K mg "program_text" sText ["program"] fT dT) : FnOk P w K mg base CX0 11 fT dT ["program"] (spText K C) := by
  have G : FnOk P w K mg base CX0 10 fP dP ["program"] (spPL K C 4) := ok_pl c p1 p2 ti DP DS 4
  refine DT.F.ok scText (fun vs H Q E h => ?_) (fun cdv B outer s H vs Q E hr h => ?_)
  · obtain ⟨v, g, rfl, _⟩ := h
    rfl
  · obtain ⟨v, g, rfl, hv, ok, k⟩ := h
    refine ⟨_, pss_one (ps_ret (pe_join pe_str (pe_call G hr rfl DP.g DP.F.kp DP.b .nil pass0 (pa_cons (pv 0) pa_nil)))), ?_⟩
    refine ⟨⟨_, rfl⟩, _, rfl, v, g, rfl, hv, ok, Pg.nest4 ok, fun q H' nq s1 e1 => ⟨"\n", q, g.lines, rfl, rfl, .inl (SqL.of e1), text_sum ok, k H' s1⟩⟩
end
end K81
set_option Elab.async false
set_option linter.all false
set_option maxRecDepth 100000
set_option maxHeartbeats 4000000
/-! a walk whatever is done in its turns (comprehensions of two clauses) -/
namespace VK
open PySem PySem.Spec PyProof.Rows L2
theorem it_gen {J : It} {n : Nat} {G : Hp → Prop} {Y : Nat → Hp → V → Hp → Prop} (w : Walk J n G Y) {H0 : Hp} {B : (Hp → Prop) → V → Hp → Prop} {Qd : Hp → Prop} (Pv : Nat → Hp → Prop) (h0 : Pv 0 H0) (hG : ∀ i H, i ≤ n → Pv i H → G H)
    (hs : ∀ i x H H', i < n → Pv i H → Y i H x H' → B (Pv (i + 1)) x H') (hd : ∀ H, Pv n H → Qd H) :
    ∃ W : Nat → Nat → Hp → Prop, (∃ m, W 0 m H0) ∧ ∀ i m H, W i m H →
      (J.stop i H ∧ Qd H) ∨ (J.go i H ∧ ∃ Nx : Hp → Prop, (∀ H', Nx H' → ∃ m', m' < m ∧ W (i + 1) m' H') ∧ ∀ x H', J.yld i H x H' → B Nx x H') := by
  refine ⟨fun i m H => m = n - i ∧ i ≤ n ∧ Pv i H, ⟨n, by simp, Nat.zero_le _, h0⟩, ?_⟩
  rintro i m H ⟨rfl, hi, p⟩
  have q := hG i H hi p
  by_cases hlt : i < n
  · exact .inr ⟨w.goes i H hlt q, Pv (i + 1), fun H' p' => ⟨n - (i + 1), by omega, rfl, hlt, p'⟩, fun x H' y => hs i x H H' hlt p (w.yields i H x H' hlt q y)⟩
  · have e : i = n := by omega
    subst e
    exact .inl ⟨w.stops H q, hd H p⟩
end VK
set_option Elab.async false
set_option linter.all false
set_option maxRecDepth 100000
set_option maxHeartbeats 4000000
namespace K81
open PySem L2 VK
open TL (tl)
/-! ### the reader -/
abbrev sRInit : Stmt := inClass (top 32) 0
abbrev sFree : Stmt := inClass (top 32) 1
abbrev sRLine : Stmt := inClass (top 32) 2
abbrev sRSrc : Stmt := inClass (top 32) 3
abbrev sRStg : Stmt := inClass (top 32) 4
abbrev sRZip : Stmt := inClass (top 32) 5
abbrev sClose : Stmt := inClass (top 32) 6
abbrev sAll : Stmt := inClass (top 32) 7
abbrev sWords : Stmt := top 31
abbrev sFollow : Stmt := top 33
abbrev sRead : Stmt := top 34
theorem scRInit : FnScope ["self"] ["self"] (defScope sRInit) := ⟨rfl, rfl, rfl, by decide +kernel, rfl, by decide +kernel, by decide +kernel⟩
theorem scFree : FnScope ["self", "taken", "program", "source"] ["self"] (defScope sFree) := ⟨rfl, rfl, rfl, by decide +kernel, rfl, by decide +kernel, by decide +kernel⟩
theorem scRLine : FnScope ["self", "line", "words", "blanks", "depth"] ["self", "line"] (defScope sRLine) := ⟨rfl, rfl, rfl, by decide +kernel, rfl, by decide +kernel, by decide +kernel⟩
theorem scRSrc : FnScope ["self", "words"] ["self", "words"] (defScope sRSrc) := ⟨rfl, rfl, rfl, by decide +kernel, rfl, by decide +kernel, by decide +kernel⟩
theorem scRStg : FnScope ["self", "words", "stage"] ["self", "words"] (defScope sRStg) := ⟨rfl, rfl, rfl, by decide +kernel, rfl, by decide +kernel, by decide +kernel⟩
theorem scRZip : FnScope ["self", "free"] ["self"] (defScope sRZip) := ⟨rfl, rfl, rfl, by decide +kernel, rfl, by decide +kernel, by decide +kernel⟩
theorem scClose : FnScope ["self", "inner"] ["self"] (defScope sClose) := ⟨rfl, rfl, rfl, by decide +kernel, rfl, by decide +kernel, by decide +kernel⟩
theorem scAll : FnScope ["self"] ["self"] (defScope sAll) := ⟨rfl, rfl, rfl, by decide +kernel, rfl, by decide +kernel, by decide +kernel⟩
theorem scWords : FnScope ["words"] ["words"] (defScope sWords) := ⟨rfl, rfl, rfl, by decide +kernel, rfl, by decide +kernel, by decide +kernel⟩
theorem scFollow : FnScope ["program", "stage"] ["program", "stage"] (defScope sFollow) := ⟨rfl, rfl, rfl, by decide +kernel, rfl, by decide +kernel, by decide +kernel⟩
theorem scRead : FnScope ["text", "reader", "lines", "at", "line"] ["text"] (defScope sRead) := ⟨rfl, rfl, rfl, by decide +kernel, rfl, by decide +kernel, by decide +kernel⟩
/-- a method -/
structure Mt (K : Fg) (CR : Addr) (name qual : Str) (st : Stmt) (ps : List Str) (f : Addr) (fd : FuncData) : Prop where
  m : Meth K CR name f
  F : Fun K name qual st f fd
  b : Binds K fd ps []
/-- the class -/
structure Rc (K : Fg) (mg : Str → Option Value) (CR : Addr) (R : Nat → Addr) (S : Nat → FuncData) : Prop where
  g : mg "Reader" = some (.ref CR)
  ky : Mk K CR (R 0)
  F0 : Fun K "__init__" "Reader.__init__" sRInit (R 0) (S 0)
  b0 : Binds K (S 0) ["self"] []
  cl : Cls K CR
  n1 : NoAttr K CR "programs"
  n2 : NoAttr K CR "opens"
  m1 : Mt K CR "free_sources" "Reader.free_sources" sFree ["self"] (R 1) (S 1)
  m2 : Mt K CR "read_line" "Reader.read_line" sRLine ["self", "line"] (R 2) (S 2)
  m3 : Mt K CR "read_source" "Reader.read_source" sRSrc ["self", "words"] (R 3) (S 3)
  m4 : Mt K CR "read_stage" "Reader.read_stage" sRStg ["self", "words"] (R 4) (S 4)
  m5 : Mt K CR "read_zip" "Reader.read_zip" sRZip ["self"] (R 5) (S 5)
  m6 : Mt K CR "close" "Reader.close" sClose ["self"] (R 6) (S 6)
  m7 : Mt K CR "all_read" "Reader.all_read" sAll ["self"] (R 7) (S 7)
/-- its fields -/
def rf (l : Addr) (b : Bool) : List (Str × V) := putF "opens" (.bl b) (putF "programs" (.ref l) [])
theorem r1 : ¬ (("opens" : Str) = "programs") := by decide +kernel
theorem r2 : ¬ (("programs" : Str) = "opens") := by decide +kernel
theorem rf_eq (l : Addr) (b : Bool) : rf l b = [(("programs" : Str), V.ref l), (("opens" : Str), V.bl b)] := by
  unfold rf putF
  show putF _ _ [(("programs" : Str), V.ref l)] = _
  unfold putF
  rw [if_neg r2]
  rfl
theorem get_p (l : Addr) (b : Bool) : (rf l b).lookup ("programs" : Str) = some (.ref l) := by
  unfold rf
  rw [lookup_putF, if_neg r2, lookup_putF, if_pos rfl]
theorem get_o (l : Addr) (b : Bool) : (rf l b).lookup ("opens" : Str) = some (.bl b) := by
  unfold rf
  rw [lookup_putF, if_pos rfl]
theorem put_o (l : Addr) (b c : Bool) : putF "opens" (.bl c) (rf l b) = rf l c := by
  rw [rf_eq, rf_eq]
  unfold putF
  rw [if_neg r2]
  unfold putF
  rw [if_pos rfl]
theorem rf_len (l : Addr) (b : Bool) : (rf l b).length < 1000 := by
  rw [rf_eq]
  show 2 < 1000
  decide
theorem rf_no {l : Addr} {b : Bool} {m : Str} (h1 : m ≠ "programs") (h2 : m ≠ "opens") : (rf l b).lookup m = none := by
  unfold rf
  rw [lookup_putF, if_neg h2, lookup_putF, if_neg h1]
  rfl
inductive PgAll (K : Fg) (C : Addr) (H : Hp) : List V → List Pg → Prop where
  | nil : PgAll K C H [] []
  | cons {v : V} {vs : List V} {p : Pg} {ps : List Pg} (h : PgAt K C H v p) (t : PgAll K C H vs ps) : PgAll K C H (v :: vs) (p :: ps)
theorem PgAll.kp {K : Fg} {C : Addr} {H H' : Hp} {vs : List V} {ps : List Pg} (h : PgAll K C H vs ps) (k : Kp H H') : PgAll K C H' vs ps := by
  induction h with
  | nil => exact .nil
  | cons h _ ih => exact .cons (PgAt.kp k h) ih
theorem PgAll.len {K : Fg} {C : Addr} {H : Hp} {vs : List V} {ps : List Pg} (h : PgAll K C H vs ps) : vs.length = ps.length := by
  induction h with
  | nil => rfl
  | cons h _ ih => rw [List.length_cons, List.length_cons, ih]
theorem PgAll.app {K : Fg} {C : Addr} {H : Hp} {vs vs' : List V} {ps ps' : List Pg} (h : PgAll K C H vs ps) (h' : PgAll K C H vs' ps') : PgAll K C H (vs ++ vs') (ps ++ ps') := by
  induction h with
  | nil => exact h'
  | cons h _ ih => exact .cons h ih
theorem PgAll.rev {K : Fg} {C : Addr} {H : Hp} {vs : List V} {ps : List Pg} (h : PgAll K C H vs ps) : PgAll K C H vs.reverse ps.reverse := by
  induction h with
  | nil => exact .nil
  | cons h _ ih =>
    rw [List.reverse_cons, List.reverse_cons]
    exact ih.app (.cons h .nil)
theorem PgAll.get {K : Fg} {C : Addr} {H : Hp} {vs : List V} {ps : List Pg} (h : PgAll K C H vs ps) : ∀ {i : Nat} {v : V}, vs[i]? = some v → ∃ p, ps[i]? = some p ∧ PgAt K C H v p := by
  induction h with
  | nil =>
    intro i v e
    simp at e
  | @cons v0 vs p ps h _ ih =>
    intro i v e
    cases i with
    | zero =>
      rw [List.getElem?_cons_zero] at e
      cases e
      exact ⟨p, rfl, h⟩
    | succ i =>
      rw [List.getElem?_cons_succ] at e
      obtain ⟨q, hq, hv⟩ := ih e
      exact ⟨q, by rw [List.getElem?_cons_succ]; exact hq, hv⟩
/-- a reader: innermost program first -/
structure Rd8 (K : Fg) (C CR : Addr) (H : Hp) (a l : Addr) (vs : List V) (ps : List Pg) (b : Bool) : Prop where
  at_ : ∃ dx, H a = some (.ins CR dx (rf l b))
  ls : H l = some (.lst vs.reverse)
  pg : PgAll K C H vs ps
  few : ps.length ≤ 4
  ok : ∀ p ∈ ps, p.ok
theorem Rd8.same {K : Fg} {C CR : Addr} {H H' : Hp} {a l : Addr} {vs : List V} {ps : List Pg} {b : Bool} (h : Rd8 K C CR H a l vs ps b) (s : Same H H') : Rd8 K C CR H' a l vs ps b := by
  obtain ⟨⟨dx, e⟩, l1, pg, few, ok⟩ := h
  exact ⟨⟨dx, s _ _ e⟩, s _ _ l1, pg.kp (Kp.of s), few, ok⟩
theorem Rd8.ne {K : Fg} {C CR : Addr} {H : Hp} {a l : Addr} {vs : List V} {ps : List Pg} {b : Bool} (h : Rd8 K C CR H a l vs ps b) : a ≠ l := fun z => by
  obtain ⟨dx, e⟩ := h.at_
  rw [z, h.ls] at e
  cases e
/-- the sources that are free -/
def free (ps : List Pg) : List Str := K0.filter fun s => decide (∀ p ∈ ps, s ∉ p.srcs)
theorem mem_free {ps : List Pg} {s : Str} : s ∈ free ps ↔ s ∈ K0 ∧ ∀ p ∈ ps, s ∉ p.srcs := by
  unfold free
  rw [List.mem_filter, decide_eq_true_eq]
theorem free_len (ps : List Pg) : (free ps).length ≤ 4 := List.length_filter_le _ _
def spFree (K : Fg) (C CR : Addr) : Sp := fun vs H Q _ => ∃ (a l : Addr) (ws : List V) (ps : List Pg) (b : Bool), vs = [.ref a] ∧ Rd8 K C CR H a l ws ps b ∧
  ∀ (q : Addr) (H' : Hp), H q = none → Same H H' → H' q = some (.lst ((free ps).map V.str)) → Q (.ref q) H'
end K81
set_option Elab.async false
set_option linter.all false
set_option maxRecDepth 100000
set_option maxHeartbeats 4000000
namespace K81
open PySem L2 VK
open TL (tl)
def spRInit (CR : Addr) : Sp := fun vs H Q _ => ∃ (a dx : Addr), vs = [.ref a] ∧ H a = some (.ins CR dx []) ∧
  ∀ (l : Addr) (H' : Hp), H l = none → Bx a H H' → H' a = some (.ins CR dx (rf l true)) → H' l = some (.lst []) → Q .non H'
/-- sources met so far -/
def srcsTo (qs : List Pg) (i : Nat) : List Str := ((qs.take i).map Pg.srcs).flatten
theorem srcsTo_succ {qs : List Pg} {i : Nat} {p : Pg} (h : qs[i]? = some p) : srcsTo qs (i + 1) = srcsTo qs i ++ p.srcs := by
  unfold srcsTo
  rw [List.take_add_one, h]
  simp
theorem srcsTo_len {qs : List Pg} (ok : ∀ p ∈ qs, p.ok) (i : Nat) : (srcsTo qs i).length ≤ 4 * qs.length := by
  unfold srcsTo
  have h : ∀ ps : List Pg, (∀ p ∈ ps, p.ok) → ((ps.map Pg.srcs).flatten).length ≤ 4 * ps.length := by
    intro ps
    induction ps with
    | nil => intro _; exact Nat.zero_le _
    | cons p ps ih =>
      intro h
      have a := Pg.few (h p List.mem_cons_self)
      have b := ih fun q hq => h q (List.mem_cons_of_mem _ hq)
      rw [List.map_cons, List.flatten_cons, List.length_append, List.length_cons]
      omega
  refine Nat.le_trans (h _ fun p hp => ok p (List.mem_of_mem_take hp)) ?_
  rw [List.length_take]
  omega
theorem mem_srcsAll {ps : List Pg} {s : Str} : s ∈ srcsTo ps.reverse ps.length ↔ ∃ p ∈ ps, s ∈ p.srcs := by
  unfold srcsTo
  rw [List.take_of_length_le (by rw [List.length_reverse]; exact Nat.le_refl _), List.mem_flatten]
  constructor
  · rintro ⟨l, hl, hs⟩
    obtain ⟨p, hp, rfl⟩ := List.mem_map.mp hl
    exact ⟨p, List.mem_reverse.mp hp, hs⟩
  · rintro ⟨p, hp, hs⟩
    exact ⟨_, List.mem_map.mpr ⟨p, List.mem_reverse.mpr hp, rfl⟩, hs⟩
theorem free_eq (ps : List Pg) : free ps = K0.filter fun s => !decide (s ∈ srcsTo ps.reverse ps.length) := by
  unfold free
  refine List.filter_congr fun s _ => ?_
  have : (∀ p ∈ ps, s ∉ p.srcs) ↔ ¬ s ∈ srcsTo ps.reverse ps.length := by
    rw [mem_srcsAll]
    constructor
    · rintro h ⟨p, hp, hs⟩
      exact h p hp hs
    · exact fun h p hp hs => h ⟨p, hp, hs⟩
  by_cases h : s ∈ srcsTo ps.reverse ps.length
  · rw [decide_eq_false (fun z => this.mp z h), decide_eq_true h]
    rfl
  · rw [decide_eq_true (this.mpr h), decide_eq_false h]
    rfl
section
variable {P : Program} {w : World} {K : Fg} {mg : Str → Option Value} {base : Heap} {C CR : Addr} {R : Nat → Addr} {S : Nat → FuncData}
theorem ok_rinit (Y : Rc K mg CR R S) : FnOk P w K mg base CX0 1 (R 0) (S 0) ["self"] (spRInit CR) := by
  refine Y.F0.ok scRInit (fun vs H Q E h => ?_) (fun cdv B outer s H vs Q E hr h => ?_)
  · obtain ⟨a, dx, rfl, _⟩ := h
    rfl
  · obtain ⟨a, dx, rfl, ha, k⟩ := h
    refine ⟨_, pss_cons (ps_fld (pv 0) (pe_lst pa_nil) rfl) (pss_one (ps_fld (pv 0) pe_bl rfl)), ?_⟩
    refine ⟨by show 0 ≤ sizeLine; decide, fun l hl => ?_⟩
    have s1 : Same H (upd H l (.lst [])) := same_new hl
    have e1 : upd H l (.lst []) l = some (.lst []) := upd_same
    generalize upd H l (.lst []) = H1 at s1 e1
    have la : l ≠ a := fun z => by rw [z, ha] at hl; cases hl
    refine ⟨_, rfl, a, CR, dx, _, rfl, s1 _ _ ha, Y.cl, Y.n1, by decide, ?_⟩
    have b2 : Bx a H1 (upd H1 a (.ins CR dx (putF "programs" (.ref l) []))) := Bx.upd
    have e2 : upd H1 a (.ins CR dx (putF "programs" (.ref l) [])) a = some (.ins CR dx (putF "programs" (.ref l) [])) := upd_same
    generalize upd H1 a (.ins CR dx (putF "programs" (.ref l) [])) = H2 at b2 e2
    refine ⟨_, rfl, a, CR, dx, _, rfl, e2, Y.cl, Y.n2, Nat.lt_of_le_of_lt (len_put (n := 0) (Nat.le_refl 0)) (by decide), ?_⟩
    exact k l _ hl (((Bx.of s1).trans b2).trans Bx.upd) upd_same (by rw [upd_ne la]; exact b2 _ _ la e1)
theorem ok_free {aS a1 a2 : Addr} (Y : Rc K mg CR R S) (c : Cl K mg C) (Z : Cst K mg aS a1 a2) (p3 : Prp P w K mg base C "sources" "_sources") : FnOk P w K mg base CX0 3 (R 1) (S 1) ["self"] (spFree K C CR) := by
  obtain ⟨p3, ga3, gd3, po3, G3, gb3⟩ := p3
  refine Y.m1.F.ok scFree (fun vs H Q E h => ?_) (fun cdv B outer s H vs Q E hr h => ?_)
  · obtain ⟨a, l, ws, ps, b, rfl, _⟩ := h
    rfl
  · obtain ⟨a, l, ws, ps, b, rfl, hR, k⟩ := h
    have hr2 := hr
    refine ⟨_, pss_cons (ps_set (i := 1) scFree.nd rfl (Or.inr rfl) (pe_lc2 (own := [("program", 2), ("source", 3)]) (vs1 := [3]) (g := gName 2) (tt := tYes) (g1 := gName 3) (tt1 := tYes) (wi1 := iTup K (tProp C (getSp C "_sources") [] E0 (tVar 2))) (te := tVar 3) rfl scFree.nd
        (pi_list (pe_fld (pv 0) rfl)) (blkOk_by (N := ["self", "taken", "program", "source"]) (sc := defScope sFree) (by decide +kernel)) (by decide)
        (fun _ _ _ _ _ => pg_name (i := 2) scFree.nd rfl (Or.inl rfl)) (fun _ _ _ _ _ => pts_nil)
        (fun _ _ _ _ _ => by exact pi_tup (pe_prop (pv 2) c.cl po3 G3 hr2 gb3 .nil pass0 rfl)) (fun _ _ _ _ _ => pg_name (i := 3) scFree.nd rfl (Or.inl rfl)) (fun _ _ _ _ _ => pts_nil) (fun _ _ _ _ _ => by exact pv 3)))
      (pss_one (ps_ret (pe_lc (own := [("source", 3)]) (g := gName 3) (tt := tTest (tOp (rIn K true) (tVar 3) (tVar 1))) (te := tVar 3) rfl scFree.nd (pi_tup (pe_glob (v := .ref aS) rfl Z.gS rfl)) (blkOk_by (N := ["self", "taken", "program", "source"]) (sc := defScope sFree) (by decide +kernel))
        (fun _ _ _ _ _ => pg_name (i := 3) scFree.nd rfl (Or.inl rfl)) (fun _ _ _ _ _ => by exact pts_one (pt_cmpR op_notIn_seq (pv 3) (pv 1) rfl)) (fun _ _ _ _ _ => by exact pv 3)))), ?_⟩
    obtain ⟨⟨dx, ha⟩, hl, pg, few, okp⟩ := hR
    refine ⟨_, rfl, a, CR, dx, _, _, rfl, ha, Y.cl, Y.n1, get_p _ _, l, rfl, ⟨_, SqL.of hl⟩, fun D hD => ?_⟩
    have pgr := pg.rev
    have lenr : ps.reverse.length ≤ 4 := by rw [List.length_reverse]; exact few
    have okr : ∀ p ∈ ps.reverse, p.ok := fun p hp => okp p (List.mem_reverse.mp hp)
    have lw := pg.len
    refine it_gen (walk_list (xs := ws.reverse)) (fun i H' => Same H H' ∧ H' D = some (.lst ((srcsTo ps.reverse i).map V.str))) ⟨same_new hD, upd_same⟩ (fun i H' _ z => z.1.seq (SqL.of hl)) ?_ ?_
    · rintro i y H2 H3 hi ⟨s2, e2⟩ ⟨rfl, hy⟩
      obtain ⟨p, hp, hv⟩ := pgr.get hy
      have pk := PgAt.kp (Kp.of s2) hv
      have hpm : p ∈ ps.reverse := List.mem_of_getElem? hp
      refine ⟨rfl, iteT (B := True) ?_⟩
      cases hv with
      | @mk pa dx ts ss s0 sl xs h1 h2 h3 h4 =>
        refine ⟨_, rfl, _, _, _, rfl, s2 _ _ h1, _, _, _, _, rfl, s2 _ _ h1, get_sources _ _ _ _, ss, rfl, ⟨_, (Kp.of s2).tup h4⟩, ?_⟩
        refine it_gen (walk_tup (xs := (s0 :: sl.srcs).map V.str)) (fun j H' => Same H H' ∧ H' D = some (.lst ((srcsTo ps.reverse i ++ (s0 :: sl.srcs).take j).map V.str))) ⟨s2, by rw [List.take_zero, List.append_nil]; exact e2⟩ (fun j H' _ z => (Kp.of z.1).tup h4) ?_ ?_
        · rintro j x H4 H5 hj ⟨s4, e4⟩ ⟨rfl, hx⟩
          obtain ⟨z, hz, rfl⟩ := map_get hx
          refine ⟨rfl, iteT (B := True) ⟨_, rfl, _, e4, ?_, ?_, ?_⟩⟩
          · have a1 := srcsTo_len okr i
            have a2 := Pg.few (okr _ hpm)
            have a2 : (s0 :: sl.srcs).length ≤ 4 := a2
            rw [List.length_map, List.length_append, List.length_take]
            exact small1000 (by omega)
          · intro b o e
            rw [upd_ne (ne_of_none e hD)]
            exact s4 _ _ e
          · rw [upd_same, List.take_add_one, hz]
            simp
        · rintro H4 ⟨s4, e4⟩
          refine ⟨s4, ?_⟩
          rw [srcsTo_succ hp, e4, List.length_map, List.take_length]
          rfl
    rintro H2 ⟨s2, e2⟩
    rw [List.length_reverse, lw] at e2
    generalize hT : srcsTo ps.reverse ps.length = T at e2
    refine ⟨_, rfl, ⟨_, Z.hS _⟩, fun D2 hD2 => ?_⟩
    refine lc_it (walk_tup (xs := K0.map V.str)) (fun i H' => Same H2 H' ∧ H' D2 = some (.lst (((K0.take i).filter fun s => !decide (s ∈ T)).map V.str))) ⟨same_new hD2, upd_same⟩ (fun i H' _ z => Z.hS _) ?_ ?_
    · rintro i y H3 H4 hi ⟨s3, e3⟩ ⟨rfl, hy⟩
      obtain ⟨z, hz, rfl⟩ := map_get hy
      have stp : (K0.take (i + 1)).filter (fun s => !decide (s ∈ T)) = (K0.take i).filter (fun s => !decide (s ∈ T)) ++ (if (!decide (z ∈ T)) = true then [z] else []) := by
        rw [List.take_add_one, hz, List.filter_append]
        congr 1
        show List.filter _ [z] = _
        rw [List.filter_cons, List.filter_nil]
      refine ⟨rfl, _, rfl, _, rfl, D, _, rfl, .inl (SqL.of (s3 _ _ e2)), rfl, all_flat _, _, rfl, ?_⟩
      rw [show inV (.str z) (T.map V.str) = decide (z ∈ T) from in_dec z T]
      by_cases hm : z ∈ T
      · rw [decide_eq_true hm] at stp ⊢
        refine iteF (A := True) ⟨s3, ?_⟩
        rw [e3, stp]
        show _ = some (HO.lst ((_ ++ []).map V.str))
        rw [List.append_nil]
      · rw [decide_eq_false hm] at stp ⊢
        refine iteT (B := True) ⟨_, rfl, _, e3, ?_, ?_, ?_⟩
        · rw [List.length_map]
          refine small1000 (Nat.le_trans (List.length_filter_le _ _) ?_)
          rw [List.length_take]
          have : K0.length = 4 := rfl
          omega
        · intro b o e
          rw [upd_ne (ne_of_none e hD2)]
          exact s3 _ _ e
        · rw [upd_same, stp, List.map_append]
          rfl
    · rintro H3 ⟨s3, e3⟩
      have e3 : H3 D2 = some (.lst ((K0.filter fun s => !decide (s ∈ T)).map V.str)) := e3
      refine k D2 H3 (s2.free hD2) (s2.trans s3) ?_
      rw [free_eq, hT]
      exact e3
end
end K81
set_option Elab.async false
set_option linter.all false
set_option maxRecDepth 100000
set_option maxHeartbeats 4000000
/-! several clauses, each with a name for the error -/
namespace VK
open PySem PySem.Spec PyProof.Rows L2
abbrev Cls1 := Value × (Addr → Value → Option Addr → TS)
def wEach (K : PySem.W.Frag) (Wo : WX) (i : Nat) (D : Ends) : List Cls1 → WX
  | [] => Wo
  | h :: r => wAs K h.1 i h.2 (wEach K Wo i D r) D
inductive Clauses (X : Cx) (n : Str) : List ExceptHandler → List Cls1 → Prop
  | nil : Clauses X n [] []
  | cons {x : Str} {c : Value} {ts : Addr → Value → Option Addr → TS} {b0 : Stmt} {bs : List Stmt} {p1 p2 : Pos} {hs : List ExceptHandler} {l : List Cls1} (hc : Names X x c)
      (hb : ∀ (a : Addr) (oe : Obj) (cls : Value) (d : Option Addr) (pn : List (Addr × Obj)), Zc cls d oe → (∃ vs, oe.data = .fields vs) → PSs (X.suite a ((a, oe) :: pn)) (b0 :: bs) (ts a cls d)) (r : Clauses X n hs l) :
      Clauses X n (.ExceptHandler (some (.Name x p1)) (some n) (b0 :: bs) p2 :: hs) ((c, ts) :: l)
section
variable {X : Cx} {n : Str} {i : Nat} {body : List Stmt} {e1 : ExceptHandler} {es : List ExceptHandler} {l : List Cls1} {pos : Pos} {tb : WX → TS} {Wo : WX}
/-- an error that has been met: what is known of its object -/
structure Met (X : Cx) (a : Addr) (cls : Value) (d : Option Addr) (s : Shared) (B : Heap) (σ : L2.St) (H : Hp) (pins : List (Addr × Obj)) (sI : Shared) : Prop where
  inv : Inv X pins σ H sI
  nb : ∀ b o, sI.heap.get? b = some o → b ∉ frs X.stack → B.get? b = some o
  os : s.os = sI.os
  ag : AllBare s.gens
  na : H a = none
  nL : a ≠ X.env.locals
  nF : a ∉ X.fs
theorem each_step (hs : X.stack = X.env :: X.outer) (hf : X.env.frame = some X.env.locals) (hN : X.N.Nodup) (hi : X.N[i]? = some n) (hl : X.env.kindOf n = some .local) (tk : Takes X Wo) {D : Ends} {a : Addr} {cls : Value} {d : Option Addr} {s : Shared} {B : Heap} {σ : L2.St} {H : Hp}
    {pins : List (Addr × Obj)} {sI : Shared} (M : Met X a cls d s B σ H pins sI) (up : sI.heap.UpToSlots s.heap) (fl : HandSPX.FlyingZ B (X.env :: X.outer) a (Zc cls d) s.heap) :
    ∀ {es : List ExceptHandler} {l : List Cls1}, Clauses X n es l → wEach X.K Wo i D l cls d σ H → wpAny (model X.prog X.w) X.A (handleBy (.ref a) X.env es) (SP X pins D) X.xe s := by
  intro es l hk
  have J := M.inv.landed M.nb fl.1 up M.os M.ag
  obtain ⟨oe, vs, he, hz, hd⟩ := fl.there
  have S := J.suite he hd M.na M.nL M.nF
  induction hk with
  | nil =>
    intro w
    obtain ⟨k1, k2, k3, o2, v2, T, oT, t2, he2, hz2, hd2, h1, hr⟩ := id fl
    have out : wpAny (model X.prog X.w) X.A (setFlight (.ref a) X.env.frame) (fun _ s4 => wpAny (model X.prog X.w) X.A (throw (.ref a) : Sem Flow) (SP X pins D) X.xe s4) X.xe s := by
      rw [hf]
      refine HandSPX.setFlight_upZ fl fun h4 hh4 up4 => ?_
      refine wpAny_throw (tk _ _ ?_)
      exact ⟨a, B, sI, pins, σ, H, cls, d, rfl, M.inv, M.nb, up.trans up4, .inr (.inr (by rw [hs]; exact hh4)), M.na, M.os, M.ag, w⟩
    refine wpAny_handleBy_nil (wpAny_bind (wpAny_field he2 hd2 h1 ?_))
    rw [if_neg (by simp : ¬ ((Value.ref T == Value.none) = true))]
    first
      | exact wpAny_bind (wpAny_pure (wpAny_bind out))
      | exact wpAny_bind out
  | @cons x c ts b0 bs p1 p2 hs2 l2 hc hb r ih =>
    rintro ⟨b, hm, yes, no⟩
    have ty : PySem.W.Looks (model X.prog X.w) s.heap (typeOf (.ref a)) cls := fun A Q E s k q => wpAny_typeOf_ref (k _ _ he) (by rw [hz.1]; exact q)
    have lm := PySem.W.exm_one (M := model X.prog X.w) J.kIn ty hm
    have named : ∀ {Q : Value → Shared → Prop} {E : Value → Shared → Prop}, Q c s → wpAny (model X.prog X.w) (X.A.mark (some (.ref a))) (eval (.Name x p1) X.env) Q E s := fun {Q E} q => by
      obtain ⟨hg, db, g | ⟨g, hv, nn⟩⟩ := hc
      · exact ld_glob (X := X.suite a ((a, oe) :: (X.pn ++ pins))) S hg g q db
      · exact ld_blt (X := X.suite a ((a, oe) :: (X.pn ++ pins))) S hg g hv q nn db
    refine wpAny_handleBy_cons (codeAny_handlers_test (named (lm.here ?_))) (by intro q; cases q)
    cases b with
    | false => exact ih (no rfl)
    | true =>
      refine codeAny_handlers_suite_as (HandSPX.lands_againZ fl fun h4 fl4 up4 => ?_)
      have J4 : Inv X pins σ H { s with heap := h4 } := M.inv.landed M.nb fl4.1 (up.trans up4) M.os M.ag
      obtain ⟨o4, v4, he4, hz4, hd4⟩ := fl4.there
      have S4 := J4.suite he4 hd4 M.na M.nL M.nF
      refine store_ok (X := X.suite a ((a, o4) :: (X.pn ++ pins))) (v := .ref a) S4 hN hi (.inl hl) rfl (fun s5 S5 => ?_) (.inr hl)
      refine wpAny_mono ((hb a o4 cls d (X.pn ++ pins) hz4 ⟨_, hd4⟩).run [] s5 _ H _ S5 (yes rfl a M.na)) (fun f s6 sp => ?_) (fun _ _ z => False.elim z)
      have gone : ∀ {σ6 : L2.St} {H6 : Hp} {Q : Shared → Prop}, Inv (X.suite a ((a, o4) :: (X.pn ++ pins))) [] σ6 H6 s6 → (∀ s7, Inv X pins (σ6.set i none) H6 s7 → Q s7) →
          wpAny (model X.prog X.w) X.A (do bindName X.env n .none; unbindBehindTheSuite X.env n p2) (fun _ s7 => Q s7) X.xe s6 := fun {σ6 H6 Q} S6 hq => gone_ok (S6.unsuite M.inv.ok) hN hi hl hq
      cases f with
      | ret u =>
        obtain ⟨v6, σ6, H6, S6, r6, q6⟩ := sp
        exact gone S6 fun s7 J7 => ⟨_, _, _, J7, r6, q6⟩
      | next =>
        obtain ⟨σ6, H6, S6, q6⟩ := sp
        exact gone S6 fun s7 J7 => ⟨_, _, J7, q6⟩
      | brk =>
        obtain ⟨σ6, H6, S6, q6⟩ := sp
        exact gone S6 fun s7 J7 => ⟨_, _, J7, q6⟩
      | cont =>
        obtain ⟨σ6, H6, S6, q6⟩ := sp
        exact gone S6 fun s7 J7 => ⟨_, _, J7, q6⟩
theorem ps_try_each (hs : X.stack = X.env :: X.outer) (hf : X.env.frame = some X.env.locals) (hN : X.N.Nodup) (hi : X.N[i]? = some n) (hl : X.env.kindOf n = some .local) (tk : Takes X Wo)
    (hb : ∀ (W : WX) (pn : List (Addr × Obj)) (xe : Value → Shared → Prop), Takes (X.tr pn xe) W → PassesOwn (model X.prog X.w) X.A X.env xe → PSs (X.tr pn xe) body (tb W))
    (hc : Clauses X n (e1 :: es) l) : PS X (.Try body (e1 :: es) [] [] pos) (fun D σ H => tb (wEach X.K Wo i D l) D σ H) := by
  refine ⟨fun pins s σ H D I h => wpAny_Try_except ?_⟩
  have ok := I.ok
  have fr : X.A.frames = some (X.env :: X.outer) := ok.frames.trans (by rw [hs])
  refine wpAny_mono ((hb (wEach X.K Wo i D l) (X.pn ++ pins) (fun e s₁ => wpAny (model X.prog X.w) X.A (noteFrame e X.env) (fun _ s₂ => wpAny (model X.prog X.w) X.A (setFlight e none) (fun _ s₃ =>
    wpAny (model X.prog X.w) X.A (handleBy e X.env (e1 :: es)) (SP X pins D) X.xe s₃) X.xe s₂) X.xe s₁) (fun u s' xx => ?_) PassesOwn.looking).run [] s σ H D (I.toTry _) h) (fun f s1 sp => ?_) (fun e s1 he => he)
  · obtain ⟨a, B, sI, pins', σ', H', cls, d, rfl, J', nb, up, sky, na, os, ag, w⟩ := xx
    have J : Inv X pins σ' H' sI := J'.ofTry ok
    have sk : Sky B (X.env :: X.outer) a (Zc cls d) X.env.locals s'.heap := by rw [← hs]; exact sky
    show wpAny (model X.prog X.w) X.A (noteFrame (.ref a) X.env) _ _ _
    refine Sky.land Zc.steady fr hf sk fun h3 fl up3 => ?_
    obtain ⟨oe, vs, he, hz, hd⟩ := fl.there
    have nfr : a ∉ frs (X.env :: X.outer) := fun hm => by
      obtain ⟨_, o', e', nf⟩ := fl.2.2.1.mem hm
      rw [he] at e'
      cases e'
      exact nf _ hd
    have nL : a ≠ X.env.locals := fun z => nfr (List.mem_filterMap.mpr ⟨X.env, List.mem_cons_self, by rw [hf, z]⟩)
    have nF : a ∉ X.fs := fun hm => by
      obtain ⟨e, he', q⟩ := List.mem_filterMap.mp hm
      exact nfr (List.mem_filterMap.mpr ⟨e, List.mem_cons_of_mem _ he', q⟩)
    exact each_step (s := { s' with heap := h3 }) hs hf hN hi hl tk ⟨J, nb, os, ag, na, nL, nF⟩ (up.trans up3) fl hc w
  · cases f with
    | ret u =>
      obtain ⟨v, σ', H', J', r, q⟩ := sp
      exact ⟨v, σ', H', J'.ofTry ok, r, q⟩
    | next =>
      obtain ⟨σ', H', J', q⟩ := sp
      exact wpAny_execs_nil ⟨σ', H', J'.ofTry ok, q⟩
    | brk =>
      obtain ⟨σ', H', J', q⟩ := sp
      exact ⟨σ', H', J'.ofTry ok, q⟩
    | cont =>
      obtain ⟨σ', H', J', q⟩ := sp
      exact ⟨σ', H', J'.ofTry ok, q⟩
end
end VK
set_option Elab.async false
set_option linter.all false
set_option maxRecDepth 100000
set_option maxHeartbeats 4000000
/-! a method that may raise, called in a try -/
namespace VK
open PySem PySem.Spec PyProof.Rows L2
section
variable {X : Cx} {CX : CXT} {k : Nat} {f C : Addr} {fd : FuncData} {ps : List Str} {sp : Sp} {E : L2.St → XK} {m : Str} {pos apos : Pos} {e o : Expr} {es : List Expr} {ta : TE} {t : TA}
def tMethX (C : Addr) (m : Str) (sp : Sp) (E : L2.St → XK) (ta : TE) (t : TA) : TE := fun σ H Q => ta σ H fun x H1 => ∃ (a dx : Addr) (fs : List (Str × V)), x = .ref a ∧ H1 a = some (.ins C dx fs) ∧ fs.lookup m = none ∧
  t σ H1 fun vs H2 => sp (.ref a :: vs) H2 Q (E σ)
theorem pe_methX {pl : Sem Bool} (he : PE X o ta) (c : Cls X.K C) (hm : Meth X.K C m f) (F : FnOk X.prog X.w X.K X.mg X.base CX k f fd ps sp) (hr : Room k X.A) (hb : Binds X.K fd ps []) (hx : ∀ σ, PassesAt CX X σ (E σ)) (ha : PA X (e :: es) t)
    (h1 : starEach (e :: es) X.env = (false, eval e X.env) :: starEach es X.env := by rfl) (h2 : (backTo pos (starEach es X.env)).any (·.1) = false := by rfl)
    (h3 : eval (.Call (.Attribute o m apos) (e :: es) [] pos) X.env = (do
      let ov ← eval o X.env; standAt apos.atName; let (f, first) ← holding [ov] (getMethod ov m pl); callWith pos f first (backTo pos (starEach (e :: es) X.env)) (backToKw pos (keywordEach [] X.env))) := by rfl) :
    PE X (.Call (.Attribute o m apos) (e :: es) [] pos) (tMethX C m sp E ta t) := by
  refine ⟨fun pins s σ H Q I h => PySem.W.methodCall_KW (pl := pl) (thn (he.run pins s σ H _ I h) fun u s1 hh => ?_) h3⟩
  obtain ⟨x, H1, I1, rx, a, dx, fs, rfl, ea, l, q⟩ := hh
  obtain rfl : u = Value.ref a := rx
  refine getmeth_ok I1 ea c hm l (PySem.W.callWith_K (first := [.ref a]) (h₀ := X.base) I.ok.mod.kin hm.kp (thn (ha.run pos pins s1 σ H1 _ I1 q) fun us s2 hh => ?_) h1 h2)
  obtain ⟨vs, H2, I2, r, q2⟩ := hh
  exact ⟨I2.kIn, run_fnS (us := .ref a :: us) (vs := .ref a :: vs) F hr hb (hx σ) I2 (.cons rfl r) q2⟩
end
end VK
set_option Elab.async false
set_option linter.all false
set_option maxRecDepth 100000
set_option maxHeartbeats 4000000
namespace K81
open PySem L2 VK
open TL (tl)
/-- a stage behind a program that may stand there -/
theorem then_good {K : Fg} {C CB CL : Addr} {v : V} {a : Addr} {s : Str} {l : Sgs} {x : Sg} {H : Hp} {Q : VK} {E : XK} (hv : PgAt K C H (.ref a) (.mk s l)) (hx : StV K C H v x) (ok : (Pg.mk s (l.snoc x)).ok)
    (k : ∀ (p : Addr) (H2 : Hp), Same H H2 → H p = none → PgAt K C H2 (.ref p) (.mk s (l.snoc x)) → Q (.ref p) H2) : spThen K C CB CL [.ref a, v] H Q E := by
  have okp : s ∈ K0 ∧ (l.snoc x).len ≤ 6 ∧ (l.snoc x).ok 0 [s] := ok
  have len := okp.2.1
  rw [len_snoc] at len
  cases hv with
  | @mk _ dx ts ss _ _ xs h hs hl hss =>
    have lx := StAll.len hl
    refine ⟨a, ts, s, xs, v, rfl, ⟨dx, ss, _, h, okp.1, hs, by omega⟩, .inl ⟨by omega, _, rest_good 0 (StAll.snoc hx hl) okp.2.2, ?_⟩⟩
    exact fun p dx ts ss H2 s1 hp e t1 t2 => k p H2 s1 hp (.mk e t1 (StAll.kp (Kp.of s1) (StAll.snoc hx hl)) t2)
theorem no_then {s : Str} {ts ss : Addr} {d : Int} : (flds s ts ss d).lookup ("then" : Str) = none := by
  have n : ("then" : Str) ≠ "_depth" ∧ ("then" : Str) ≠ "_sources" ∧ ("then" : Str) ≠ "_stages" ∧ ("then" : Str) ≠ "_source" := by decide +kernel
  obtain ⟨n1, n2, n3, n4⟩ := n
  unfold flds
  rw [lookup_putF, if_neg n1, lookup_putF, if_neg n2, lookup_putF, if_neg n3, lookup_putF, if_neg n4]
  rfl
theorem PgAt.ins {K : Fg} {C : Addr} {H : Hp} {v : V} {g : Pg} (h : PgAt K C H v g) : ∃ (a dx ts ss : Addr) (s : Str) (d : Int), v = .ref a ∧ H a = some (.ins C dx (flds s ts ss d)) := by
  cases h with
  | mk h => exact ⟨_, _, _, _, _, _, rfl, h⟩
def Pg.then : Pg → Sg → Pg
  | .mk s l, x => .mk s (l.snoc x)
theorem rest_snoc {K : Fg} {C : Addr} {H : Hp} {v : V} {o : Out} : ∀ {xs : List V} {l : Sgs} {d : Int} {tk : List Str} (i : Nat), StAll K C H xs l → l.ok d tk → Rest K C H (l.dep d) (tk ++ l.srcs) (i + xs.length) [v] o → Rest K C H d tk i (xs ++ [v]) o
  | _, _, d, tk, i, .nil, _, h => by
    have h : Rest K C H d (tk ++ []) (i + 0) [v] o := h
    rw [List.append_nil] at h
    exact h
  | _, _, d, tk, i, .cons (vs := vs) (x := x) (r := r) hx t, ok, h => by
    have ok : x.ok d tk ∧ r.ok (x.dep d) (tk ++ x.srcs) := ok
    have h : Rest K C H (r.dep (x.dep d)) (tk ++ (x.srcs ++ r.srcs)) (i + (vs.length + 1)) [v] o := h
    rw [← List.append_assoc, show i + (vs.length + 1) = (i + 1) + vs.length by omega] at h
    exact .go hx ok.1.vd (Sg.few ok.1) ok.1.can (rest_snoc (i + 1) t ok.2 h)
def Pg.lenP : Pg → Nat
  | .mk _ l => l.len
def Pg.depP : Pg → Int
  | .mk _ l => l.dep 0
/-- whether a value can stand behind a program -/
inductive Can (K : Fg) (C : Addr) (H : Hp) (y : V) (g : Pg) : Bool → Prop where
  | yes {x : Sg} (h : StV K C H y x) (ok : (g.then x).ok) : Can K C H y g true
  | full (h : g.lenP = 6) : Can K C H y g false
  | bad (h : IsSt K C H y false) : Can K C H y g false
  | cant {x : Sg} (h : StV K C H y x) (w : x.vd) (l : x.srcs.length ≤ 1000) (c : x.can g.depP g.srcs = false) : Can K C H y g false
theorem then_no {K : Fg} {C CB CL : Addr} {y : V} {a : Addr} {s0 : Str} {l : Sgs} {H : Hp} {Q : VK} {E : XK} (hv : PgAt K C H (.ref a) (.mk s0 l)) (okg : (Pg.mk s0 l).ok) (hc : Can K C H y (.mk s0 l) false)
    (k : ∀ (cls : Value) (d : Option Addr) (H' : Hp), (cls = .ref CB ∨ cls = .ref CL) → Same H H' → E cls d H') : spThen K C CB CL [.ref a, y] H Q E := by
  have okp : s0 ∈ K0 ∧ l.len ≤ 6 ∧ l.ok 0 [s0] := okg
  cases hv with
  | @mk _ dx1 ts1 ss1 _ _ xs h1 h2 h3 h4 =>
  have lx := StAll.len h3
  have obj : ObjP K C H a s0 ts1 xs := ⟨dx1, ss1, _, h1, okp.1, h2, by omega⟩
  by_cases l6 : l.len = 6
  · exact ⟨a, ts1, s0, xs, y, rfl, obj, .inr ⟨by omega, fun H' e st he s2 _ _ => k _ _ _ (.inr rfl) s2⟩⟩
  have bad : Rest K C H (l.dep 0) ([s0] ++ l.srcs) (0 + xs.length) [y] (.inr (0 + xs.length)) := by
    cases hc with
    | full h => exact absurd h l6
    | bad h => exact .bad h
    | cant h w l c => exact .cant h w l c
  exact ⟨a, ts1, s0, xs, y, rfl, obj, .inl ⟨by omega, _, rest_snoc 0 h3 okp.2.2 bad, fun H' e he s2 e2 => k _ _ _ (.inl rfl) s2⟩⟩
def spFollow (K : Fg) (C : Addr) : Sp := fun vs H Q _ => ∃ (v y : V) (g : Pg) (b : Bool), vs = [v, y] ∧ PgAt K C H v g ∧ g.ok ∧ Can K C H y g b ∧ ∀ H', Same H H' → Q (.bl b) H'
section
variable {P : Program} {w : World} {K : Fg} {mg : Str → Option Value} {base : Heap} {A I : Nat → Addr} {D J : Nat → FuncData} {aS a1 a2 C e0 CR CE f fT : Addr} {fd dT : FuncData} {R : Nat → Addr} {S : Nat → FuncData}
/-- the errors are of the class that is caught -/
structure Ex (K : Fg) (A : Nat → Addr) (CE : Addr) : Prop where
  e3 : PySem.W.exmOne K (.ref (A 3)) (.ref CE) = some true
  e4 : PySem.W.exmOne K (.ref (A 4)) (.ref CE) = some true
theorem ok_follow (DF : Df K mg "can_follow" sFollow ["program", "stage"] f fd) (Z : Lp K mg A I D J aS a1 a2 C e0) (M : Mt K C "then" "Program.then" sThen ["self", "stage"] fT dT) (gE : mg "StreamError" = some (.ref CE)) (X : Ex K A CE) : FnOk P w K mg base CX0 8 f fd ["program", "stage"] (spFollow K C) := by
  refine DF.F.ok scFollow (fun vs H Q E h => ?_) (fun cdv B outer s H vs Q E hr h => ?_)
  · obtain ⟨v, y, g, b, rfl, _⟩ := h
    rfl
  · obtain ⟨v, y, g, b, rfl, hv, okg, hc, k⟩ := h
    refine ⟨_, pss_cons (ps_try_only (Wout := fun _ _ _ _ => False) (tb := fun W => tDrop (tMethX C "then" (spThen K C (A 4) (A 3)) (WE W) (tVar 0) (tCons (tVar 1) tNil))) rfl rfl ⟨rfl, by decide, .inl gE⟩ takes0
        (fun W pn xe tk _ => by exact pss_one (ps_expr (pe_methX (pv 0) Z.L.c.cl M.m (ok_then M.F Z) hr M.b (fun σ => passAt tk σ) (pa_cons (pv 1) pa_nil)))) (fun a oe cls d pn _ _ => by exact pss_one (ps_ret pe_bl)))
      (pss_one (ps_ret pe_bl)), ?_⟩
    obtain ⟨s0, l⟩ := g
    have hv0 := hv
    obtain ⟨a, dx, ts, ss, s1, d, rfl, ha⟩ := hv.ins
    refine ⟨_, rfl, a, dx, _, rfl, ha, no_then, _, rfl, ?_⟩
    cases b with
    | true =>
      cases hc with
      | yes hy ok => exact then_good hv hy ok fun p H2 s2 _ _ => k H2 s2
    | false =>
      refine then_no hv okg hc fun cls dd H' hcl s2 => ?_
      rcases hcl with rfl | rfl
      · exact ⟨true, X.e4, fun _ a0 na => k H' s2, (fun z => Bool.noConfusion z)⟩
      · exact ⟨true, X.e3, fun _ a0 na => k H' s2, (fun z => Bool.noConfusion z)⟩
end
end K81
set_option Elab.async false
set_option linter.all false
set_option maxRecDepth 100000
set_option maxHeartbeats 4000000
namespace K81
open PySem L2 VK
open TL (tl)
theorem rev_last {v : V} {ws : List V} : (v :: ws).reverse[(v :: ws).reverse.length - 1]? = some v := by
  rw [List.reverse_cons, List.length_append]
  show (ws.reverse ++ [v])[ws.reverse.length + 1 - 1]? = _
  rw [Nat.add_sub_cancel, List.getElem?_append_right (Nat.le_refl _), Nat.sub_self]
  rfl
theorem rev_drop {v : V} {ws : List V} : (v :: ws).reverse.dropLast = ws.reverse := by
  rw [List.reverse_cons, List.dropLast_concat]
/-- the list of programs alone changes -/
theorem Rd8.put {K : Fg} {C CR : Addr} {H H' : Hp} {a l : Addr} {vs vs' : List V} {ps ps' : List Pg} {b : Bool} (h : Rd8 K C CR H a l vs ps b) (s : Bx l H H') (e : H' l = some (.lst vs'.reverse)) (pg : PgAll K C H' vs' ps') (few : ps'.length ≤ 4) (ok : ∀ p ∈ ps', p.ok) :
    Rd8 K C CR H' a l vs' ps' b := by
  have ne := h.ne
  obtain ⟨⟨dx, ha⟩, _, _, _, _⟩ := h
  exact ⟨⟨dx, s _ _ ne ha⟩, e, pg, few, ok⟩
theorem Bx.kpl {l : Addr} {H H' : Hp} {xs : List V} (b : Bx l H H') (h : H l = some (.lst xs)) : Kp H H' := fun c o e f => b c o (fun z => by rw [z, h] at e; cases e; cases f) e
def spClose (K : Fg) (C CR : Addr) : Sp := fun vs H Q _ => ∃ (a l : Addr) (v1 v2 : V) (ws : List V) (p q : Pg) (ps : List Pg) (b : Bool), vs = [.ref a] ∧ Rd8 K C CR H a l (v1 :: v2 :: ws) (p :: q :: ps) b ∧ (q.then (.zip p)).ok ∧
  ∀ (v : V) (H' : Hp), Bx l H H' → Rd8 K C CR H' a l (v :: ws) (q.then (.zip p) :: ps) b → Q .non H'
section
variable {P : Program} {w : World} {K : Fg} {mg : Str → Option Value} {base : Heap} {A I : Nat → Addr} {D J : Nat → FuncData} {aS a1 a2 C e0 CR fT : Addr} {dT : FuncData} {R : Nat → Addr} {S : Nat → FuncData}
theorem ok_close (Y : Rc K mg CR R S) (Z : Lp K mg A I D J aS a1 a2 C e0) (M : Mt K C "then" "Program.then" sThen ["self", "stage"] fT dT) : FnOk P w K mg base CX0 8 (R 6) (S 6) ["self"] (spClose K C CR) := by
  refine Y.m6.F.ok scClose (fun vs H Q E h => ?_) (fun cdv B outer s H vs Q E hr h => ?_)
  · obtain ⟨a, l, v1, v2, ws, p, q, ps, b, rfl, _⟩ := h
    rfl
  · obtain ⟨a, l, v1, v2, ws, p, q, ps, b, rfl, hR, ok, k⟩ := h
    refine ⟨_, pss_cons (ps_set (i := 1) scClose.nd rfl (Or.inl rfl) (pe_bm0 PySem.F.plainAttrs_list PySem.F.slot_list_pop PySem.F.type_list_pop mt_pop (pe_fld (pv 0) rfl)))
      (pss_one (ps_expr (pe_bm PySem.F.plainAttrs_list PySem.F.slot_list_append PySem.F.type_list_append mt_append (pe_fld (pv 0) rfl) (pa_cons
        (pe_meth (pe_bm0 PySem.F.plainAttrs_list PySem.F.slot_list_pop PySem.F.type_list_pop mt_pop (pe_fld (pv 0) rfl)) Z.L.c.cl M.m (ok_then M.F Z) hr M.b .nil (E := E0) passL (pa_cons (pe_tup (pa_cons pe_str (pa_cons (pv 1) pa_nil))) pa_nil)) pa_nil)))), ?_⟩
    have ne := hR.ne
    obtain ⟨⟨dx, ha⟩, hl, pg, few, okp⟩ := id hR
    have few' : ps.length + 2 ≤ 4 := few
    cases pg with
    | cons hp pg =>
    cases pg with
    | cons hq pg =>
    have lw := pg.len
    refine ⟨_, rfl, a, CR, dx, _, _, rfl, ha, Y.cl, Y.n1, get_p _ _, .inl ⟨rfl, _, SqL.of hl⟩, l, _, v1, rfl, rfl, hl, rev_last, ?_⟩
    rw [rev_drop]
    have b1 : Bx l H (upd H l (.lst (v2 :: ws).reverse)) := Bx.upd
    have e1 : upd H l (.lst (v2 :: ws).reverse) l = some (.lst (v2 :: ws).reverse) := upd_same
    generalize upd H l (.lst (v2 :: ws).reverse) = H1 at b1 e1
    have a1 := b1 _ _ ne ha
    refine ⟨_, rfl, a, CR, dx, _, _, rfl, a1, Y.cl, Y.n1, get_p _ _, .inl ⟨rfl, _, SqL.of e1⟩, ?_⟩
    refine ⟨_, rfl, a, CR, dx, _, _, rfl, a1, Y.cl, Y.n1, get_p _ _, .inl ⟨rfl, _, SqL.of e1⟩, l, _, v2, rfl, rfl, e1, rev_last, ?_⟩
    rw [rev_drop]
    have b2 : Bx l H1 (upd H1 l (.lst ws.reverse)) := Bx.upd
    have e2 : upd H1 l (.lst ws.reverse) l = some (.lst ws.reverse) := upd_same
    generalize upd H1 l (.lst ws.reverse) = H2 at b2 e2
    have b02 := b1.trans b2
    have kp02 : Kp H H2 := b02.kpl hl
    obtain ⟨q0, dq, ts, ss, s1, d, rfl, hq0⟩ := hq.ins
    refine ⟨q0, dq, _, rfl, kp02 _ _ hq0 rfl, no_then, _, rfl, by show 2 ≤ sizeLine; decide, fun u hu => ?_⟩
    have s3 : Same H2 (upd H2 u (.tup [.str "zip", v1])) := same_new hu
    have e3 : upd H2 u (.tup [.str "zip", v1]) u = some (.tup [.str "zip", v1]) := upd_same
    generalize upd H2 u (.tup [.str "zip", v1]) = H3 at s3 e3
    have kp03 := kp02.trans (Kp.of s3)
    obtain ⟨sq, lq⟩ := q
    refine then_good (x := .zip p) (PgAt.kp kp03 hq) (.zip (.inl (.inl e3)) (PgAt.kp kp03 hp)) ok fun r H4 s4 nr pr => ?_
    have b04 : Bx l H H4 := b02.trans (Bx.of (s3.trans s4))
    have e4 := s4 _ _ (s3 _ _ e2)
    refine ⟨l, _, .ref r, rfl, rfl, e4, by rw [List.length_reverse]; exact small1000 (by omega), ?_⟩
    have b5 : Bx l H4 (upd H4 l (.lst (ws.reverse ++ [.ref r]))) := Bx.upd
    have kp5 : Kp H4 (upd H4 l (.lst (ws.reverse ++ [.ref r]))) := b5.kpl e4
    have b05 := b04.trans b5
    refine k (.ref r) _ b05 (hR.put b05 ?_ (.cons (PgAt.kp kp5 pr) (pg.kp (b05.kpl hl))) ?_ ?_)
    · rw [upd_same, List.reverse_cons]
    · show ps.length + 1 ≤ 4
      omega
    · intro x hx
      rcases List.mem_cons.mp hx with rfl | hx
      · exact ok
      · exact okp x (List.mem_cons_of_mem _ (List.mem_cons_of_mem _ hx))
end
end K81
set_option Elab.async false
set_option linter.all false
set_option maxRecDepth 100000
set_option maxHeartbeats 4000000
namespace K81
open PySem L2 VK
open TL (tl)
/-- NUMBERS -/
structure Nu (K : Fg) (mg : Str → Option Value) (w : World) (aN : Addr) : Prop where
  g : mg "NUMBERS" = some (.ref aN)
  kd : ∃ es n, KDict K w aN es n
  n1 : ∃ t, PySem.W.nsIn K aN "1" = some (some (.int 1 t))
  n2 : ∃ t, PySem.W.nsIn K aN "2" = some (some (.int 2 t))
  n3 : ∃ t, PySem.W.nsIn K aN "3" = some (some (.int 3 t))
  n4 : ∃ t, PySem.W.nsIn K aN "4" = some (some (.int 4 t))
  no : ∀ z : Str, z ∉ (["1", "2", "3", "4"] : List Str) → PySem.W.nsIn K aN z = some none
theorem Nu.at_ {K : Fg} {mg : Str → Option Value} {w : World} {aN : Addr} (h : Nu K mg w aN) {n : Int} (h1 : 1 ≤ n) (h2 : n ≤ 4) : ∃ t, PySem.W.nsIn K aN (numS n) = some (some (.int n t)) := by
  rcases numS_cases h1 h2 with ⟨rfl, e⟩ | ⟨rfl, e⟩ | ⟨rfl, e⟩ | ⟨rfl, e⟩ <;> rw [e]
  · exact h.n1
  · exact h.n2
  · exact h.n3
  · exact h.n4
def Sg.plain : Sg → Prop
  | .zip _ => False
  | _ => True
def numOf (n : Str) : Option Int := if n = "1" then some 1 else if n = "2" then some 2 else if n = "3" then some 3 else if n = "4" then some 4 else none
/-- the stage that words tell -/
def stW : List Str → Option Sg
  | [w] => if w = "flat" then some .flat else none
  | [k, n] => if k ∈ K1 then (if isNm n = true then some (.nm k n) else none) else if k ∈ K2 then (numOf n).map (Sg.num k) else none
  | _ => none
theorem numOf_some {n : Str} {i : Int} (h : numOf n = some i) : 1 ≤ i ∧ i ≤ 4 ∧ n = numS i := by
  unfold numOf at h
  split at h
  · rename_i e; cases h; exact ⟨by decide, by decide, e.trans (by decide +kernel)⟩
  split at h
  · rename_i e; cases h; exact ⟨by decide, by decide, e.trans (by decide +kernel)⟩
  split at h
  · rename_i e; cases h; exact ⟨by decide, by decide, e.trans (by decide +kernel)⟩
  split at h
  · rename_i e; cases h; exact ⟨by decide, by decide, e.trans (by decide +kernel)⟩
  · cases h
theorem numOf_none {n : Str} (h : numOf n = none) : n ∉ (["1", "2", "3", "4"] : List Str) := by
  unfold numOf at h
  intro hm
  rcases List.mem_cons.mp hm with rfl | hm
  · rw [if_pos rfl] at h; cases h
  rcases List.mem_cons.mp hm with rfl | hm
  · rw [if_neg (by decide +kernel), if_pos rfl] at h; cases h
  rcases List.mem_cons.mp hm with rfl | hm
  · rw [if_neg (by decide +kernel), if_neg (by decide +kernel), if_pos rfl] at h; cases h
  rcases List.mem_cons.mp hm with rfl | hm
  · rw [if_neg (by decide +kernel), if_neg (by decide +kernel), if_neg (by decide +kernel), if_pos rfl] at h; cases h
  · cases hm
/-- a value that words tell: a stage, or none -/
inductive WSt (K : Fg) (C : Addr) (H : Hp) (v : V) (us : List Str) : Prop where
  | st {x : Sg} (e : stW us = some x) (h : StV K C H v x) : WSt K C H v us
  | no (e : stW us = none) (h : IsSt K C H v false) : WSt K C H v us
def spWords (K : Fg) (C : Addr) : Sp := fun vs H Q _ => ∃ (wl : Addr) (us : List Str), vs = [.ref wl] ∧ H wl = some (.lst (us.map V.str)) ∧ us ≠ [] ∧ (∀ z ∈ us, z.length ≤ 1000) ∧ ∀ (v : V) (H' : Hp), Same H H' → WSt K C H' v us → Q v H'
section
variable {P : Program} {w : World} {K : Fg} {mg : Str → Option Value} {base : Heap} {C f aS a1 a2 aN : Addr} {fd : FuncData}
theorem ok_words (DW : Df K mg "stage_of_words" sWords ["words"] f fd) (N : Nm mg) (Z : Cst K mg aS a1 a2) (U : Nu K mg w aN) (kts : PySem.W.kitOne K (.type "str") (.ref C) = some false) : FnOk P w K mg base CX0 1 f fd ["words"] (spWords K C) := by
  refine DW.F.ok scWords (fun vs H Q E h => ?_) (fun cdv B outer s H vs Q E hr h => ?_)
  · obtain ⟨wl, us, rfl, _⟩ := h
    rfl
  · obtain ⟨wl, us, rfl, hw, ne, small, k⟩ := h
    refine ⟨_, pss_cons (ps_if (PW.pt (pw_and (pt_cmpR op_eq (pe_callB call_len_seq (by rfl) N.len PySem.boot_len (pa_cons (pv 0) pa_nil)) pe_int (nomark _)) (pw_and1 (pt_cmpR op_in_seq (pe_ix ix_list (pv 0) pe_int (fun _ _ => rfl)) (pe_glob (v := .ref a2) rfl Z.g2 rfl) rfl))))
        (pss_one (ps_ret (pe_tup (pa_cons (pe_ix ix_list (pv 0) pe_int (fun _ _ => rfl)) (pa_cons (pe_kget (pe_glob (v := .ref aN) rfl U.g rfl) (pe_ix ix_list (pv 0) pe_int (fun _ _ => rfl)) ⟨rfl, rfl, rfl, rfl⟩) pa_nil))))) pss_nil)
      (pss_one (ps_ret (pe_tupleOf (by rfl) N.tup (pv 0)))), ?_⟩
    refine ⟨_, rfl, wl, _, rfl, .inl (SqL.of hw), rfl, _, rfl, ?_⟩
    match us, ne, hw, small, k with
    | [], ne, _, _, _ => exact absurd rfl ne
    | [u], _, hw, small, k =>
      have hw : H wl = some (.lst [.str u]) := hw
      refine iteF (A := True) ⟨_, rfl, tup_either (.inl (SqL.of hw)) fun t H' s1 ht => k _ H' s1 ?_⟩
      by_cases e : u = "flat"
      · rw [e] at ht ⊢
        exact .st (x := .flat) (show (if ("flat" : Str) = "flat" then some Sg.flat else none) = some Sg.flat from if_pos rfl) (.flat ht)
      · have i := IsSt.one (C := C) ht
        rw [decide_eq_false (fun z => e (V.str.inj z))] at i
        exact .no (if_neg e) i
    | [u, n], _, hw, small, k =>
      have hw : H wl = some (.lst [.str u, .str n]) := hw
      refine iteT (B := True) ⟨_, rfl, wl, _, _, .str u, rfl, rfl, SqL.of hw, atI_nat (j := 0) rfl, a2, _, rfl, .inr (Z.h2 _), rfl, rfl, _, rfl, ?_⟩
      rw [show inV (.str u) [.str "take", .str "skip", .str "lots", .str "gather"] = decide (u ∈ K2) from in_dec u K2]
      by_cases h2 : u ∈ K2
      · rw [decide_eq_true h2]
        have n1 : u ∉ K1 := fun z => (by decide +kernel : ∀ z ∈ K1, z ∉ K2) _ z h2
        have ew : stW [u, n] = (numOf n).map (Sg.num u) := by
          show (if u ∈ K1 then _ else if u ∈ K2 then _ else _) = _
          rw [if_neg n1, if_pos h2]
        cases en : numOf n with
        | some i =>
          obtain ⟨i1, i4, rfl⟩ := numOf_some en
          obtain ⟨t, ht⟩ := U.at_ i1 i4
          refine iteT (B := True) ⟨_, rfl, wl, _, _, .str u, rfl, rfl, SqL.of hw, atI_nat (j := 0) rfl, _, rfl, U.kd, _, rfl, wl, _, _, .str (numS i), rfl, rfl, SqL.of hw, atI_nat (j := 1) rfl, numS i, _, .int i, rfl, ht, ⟨_, rfl⟩, by show 2 ≤ sizeLine; decide, fun p hp => ?_⟩
          exact k _ _ (same_new hp) (.st (x := .num u i) (by rw [ew, en]; rfl) (.num (.inl (.inl upd_same))))
        | none =>
          refine iteT (B := True) ⟨_, rfl, wl, _, _, .str u, rfl, rfl, SqL.of hw, atI_nat (j := 0) rfl, _, rfl, U.kd, _, rfl, wl, _, _, .str n, rfl, rfl, SqL.of hw, atI_nat (j := 1) rfl, n, _, .non, rfl, U.no n (numOf_none en), rfl, by show 2 ≤ sizeLine; decide, fun p hp => ?_⟩
          exact k _ _ (same_new hp) (.no (by rw [ew, en]; rfl) (.two (.inl (.inl upd_same)) (.numN h2 (.base .non) (b := false) (c := false) (by decide +kernel) (by decide +kernel) rfl)))
      · rw [decide_eq_false h2]
        refine iteF (A := True) ⟨_, rfl, tup_either (.inl (SqL.of hw)) fun t H' s1 ht => k _ H' s1 ?_⟩
        by_cases h1 : u ∈ K1
        · have ew : stW [u, n] = if isNm n = true then some (.nm u n) else none := if_pos h1
          by_cases e : isNm n = true
          · exact .st (x := .nm u n) (by rw [ew, if_pos e]) (.nm ht)
          · have d := Det.nm (K := K) (C := C) (H := H') h1 (small n (List.mem_cons_of_mem _ List.mem_cons_self))
            rw [Bool.eq_false_iff.mpr e] at d
            exact .no (by rw [ew, if_neg e]) (.two ht d)
        · have ew : stW [u, n] = none := by
            show (if u ∈ K1 then _ else if u ∈ K2 then _ else _) = _
            rw [if_neg h1, if_neg h2]
          by_cases e : u = "zip"
          · rw [e] at ht ew ⊢
            exact .no ew (.two ht (.zip (.base (.str n)) kts))
          · exact .no ew (.two ht (.oth h1 h2 e))
    | u1 :: u2 :: u3 :: r, _, hw, small, k =>
      have hw : H wl = some (.lst (.str u1 :: .str u2 :: .str u3 :: r.map V.str)) := hw
      have l3 : 3 ≤ (V.str u1 :: V.str u2 :: V.str u3 :: r.map V.str).length := by
        rw [List.length_cons, List.length_cons, List.length_cons]
        omega
      refine dif (fun z => ?_) (fun _ => ?_)
      · have z : (((V.str u1 :: V.str u2 :: V.str u3 :: r.map V.str).length : Nat) : Int) = 2 := V.int.inj z
        omega
      · exact ⟨_, rfl, tup_either (.inl (SqL.of hw)) fun t H' s1 ht => k _ H' s1 (.no rfl (.long ht l3))⟩
end
end K81
set_option Elab.async false
set_option linter.all false
set_option maxRecDepth 100000
set_option maxHeartbeats 4000000
namespace K81
open PySem L2 VK
open TL (tl)
theorem atI_rev {v : V} {ws : List V} : atI (v :: ws).reverse (-1) = some v := by
  rw [List.reverse_cons]
  exact atI_last _ _
/-- all that stays but readers -/
def Kq (CR : Addr) (H H' : Hp) : Prop := ∀ b o, H b = some o → fixd o = true → (∀ dx fs, o ≠ .ins CR dx fs) → H' b = some o
theorem Kq.tup {K : Fg} {CR : Addr} {H H' : Hp} (k : Kq CR H H') {a : Addr} {xs : List V} (h : SqT K H a xs) : SqT K H' a xs := by
  rcases h with (h | ⟨o, h⟩) | h
  · exact .inl (.inl (k _ _ h rfl (fun _ _ z => by cases z)))
  · exact .inl (.inr ⟨o, k _ _ h rfl (fun _ _ z => by cases z)⟩)
  · exact .inr h
section
variable {K : Fg} {C CR : Addr} {H H' : Hp}
mutual
theorem PgAt.kq (k : Kq CR H H') (n : CR ≠ C) : ∀ {v : V} {p : Pg}, PgAt K C H v p → PgAt K C H' v p
  | _, _, .mk h hs hl hr => .mk (k _ _ h rfl (fun _ _ z => n (by injection z with z _ _; exact z.symm))) (k.tup hs) (StAll.kq k n hl) (k.tup hr)
theorem StV.kq (k : Kq CR H H') (n : CR ≠ C) : ∀ {v : V} {x : Sg}, StV K C H v x → StV K C H' v x
  | _, _, .nm h => .nm (k.tup h)
  | _, _, .num h => .num (k.tup h)
  | _, _, .flat h => .flat (k.tup h)
  | _, _, .zip h hp => .zip (k.tup h) (PgAt.kq k n hp)
theorem StAll.kq (k : Kq CR H H') (n : CR ≠ C) : ∀ {vs : List V} {l : Sgs}, StAll K C H vs l → StAll K C H' vs l
  | _, _, .nil => .nil
  | _, _, .cons h t => .cons (StV.kq k n h) (StAll.kq k n t)
end
theorem PgAll.kq (k : Kq CR H H') (n : CR ≠ C) {vs : List V} {ps : List Pg} (h : PgAll K C H vs ps) : PgAll K C H' vs ps := by
  induction h with
  | nil => exact .nil
  | cons h _ ih => exact .cons (PgAt.kq k n h) ih
end
theorem Bx.kqa {K : Fg} {C CR a l : Addr} {H H' : Hp} {vs : List V} {ps : List Pg} {b : Bool} (s : Bx a H H') (h : Rd8 K C CR H a l vs ps b) : Kq CR H H' := by
  obtain ⟨⟨dx, ha⟩, _⟩ := h
  exact fun c o e f n => s c o (fun z => by rw [z, ha] at e; exact n _ _ (Option.some.inj e).symm) e
theorem Rd8.flip {K : Fg} {C CR : Addr} {H H' : Hp} {a l : Addr} {vs : List V} {ps : List Pg} {b c : Bool} (h : Rd8 K C CR H a l vs ps b) (n : CR ≠ C) (s : Bx a H H') (e : ∃ dx, H' a = some (.ins CR dx (rf l c))) : Rd8 K C CR H' a l vs ps c :=
  ⟨e, s _ _ (Ne.symm h.ne) h.ls, PgAll.kq (s.kqa h) n h.pg, h.few, h.ok⟩
/-! ### words that are compared -/
theorem ok_small {z : Str} (h : ∀ c ∈ tl z, c < 1000) : PyData.strOk z = true := by
  unfold PyData.strOk
  rw [← Array.all_toList, List.all_eq_true]
  intro c hc
  have := h c hc
  exact decide_eq_true (by omega)
def wordsOk (ws : List Str) : Prop := ∀ z ∈ ws, ∀ c ∈ tl z, c < 1000
theorem nm_small {n : Str} (h : isNm n = true) : ∀ c ∈ tl n, c < 1000 := fun c hc => by
  have := (nm_parts h).2.2 c hc
  omega
theorem k_small : ∀ z ∈ K1 ++ K2 ++ K0 ++ (["flat", "zip", "from", "1", "2", "3", "4"] : List Str), ∀ c ∈ tl z, c < 1000 := by decide +kernel
theorem num_small {n : Int} (h1 : 1 ≤ n) (h2 : n ≤ 4) : ∀ c ∈ tl (numS n), c < 1000 := by
  rcases numS_cases h1 h2 with ⟨_, e⟩ | ⟨_, e⟩ | ⟨_, e⟩ | ⟨_, e⟩ <;> rw [e] <;> exact k_small _ (by decide +kernel)
theorem words_ok {x : Sg} {d : Int} {tk : List Str} (ok : x.ok d tk) : wordsOk x.words := by
  cases x with
  | nm k n =>
    have ok : k ∈ K1 ∧ isNm n = true := ok
    intro z hz
    rcases List.mem_cons.mp hz with rfl | hz
    · exact k_small _ (by simp [ok.1])
    · rw [List.mem_singleton.mp hz]; exact nm_small ok.2
  | num k n =>
    have ok : k ∈ K2 ∧ 1 ≤ n ∧ n ≤ 4 := ok
    intro z hz
    rcases List.mem_cons.mp hz with rfl | hz
    · exact k_small _ (by simp [ok.1])
    · rw [List.mem_singleton.mp hz]; exact num_small ok.2.1 ok.2.2
  | flat =>
    intro z hz
    rw [List.mem_singleton.mp hz]
    exact k_small _ (by decide +kernel)
  | zip p =>
    intro z hz
    rw [List.mem_singleton.mp hz]
    exact k_small _ (by decide +kernel)
theorem strs_dp {K : Fg} {H : Hp} : ∀ {ws : List Str}, DpAll K H (ws.map V.str) (ws.map PyData.str)
  | [] => .nil
  | z :: r => .cons (.str z) strs_dp
theorem strs_shaped {ws : List Str} (h : wordsOk ws) : SeqAt.shaped (.list (ws.map PyData.str)) = true := by
  have a : PyData.canLayAll0 (ws.map PyData.str) = true ∧ PyData.depthAll (ws.map PyData.str) = 0 := by
    induction ws with
    | nil => exact ⟨rfl, rfl⟩
    | cons z r ih =>
      obtain ⟨i1, i2⟩ := ih fun x hx => h x (List.mem_cons_of_mem _ hx)
      have sz := ok_small (h z List.mem_cons_self)
      exact ⟨by simp [PyData.canLayAll0, PyData.canLay0, i1, sz], by simp [PyData.depthAll, PyData.depth, i2]⟩
  exact shaped_l a.1 a.2
theorem eq_words {K : Fg} {H : Hp} {a b : Addr} {ws us : List Str} {Q : VK} (h : SqL K H a (ws.map V.str)) (o : wordsOk ws) (h' : SqL K H b (us.map V.str)) (o' : wordsOk us)
    (k : Q (.bl (PyData.eqv (.list (ws.map PyData.str)) (.list (us.map PyData.str)))) H) : rEqD K (.ref a) (.ref b) H Q :=
  ⟨.list (ws.map PyData.str), .list (us.map PyData.str), .lst h strs_dp, .lst h' strs_dp, strs_shaped o, strs_shaped o', k⟩
theorem eqv_plain {x : Sg} (h : x.plain) : PyData.eqv (.list (x.words.map PyData.str)) (.list ((["zip"] : List Str).map PyData.str)) = false := by
  cases x with
  | nm k n => exact Bool.and_false _
  | num k n => exact Bool.and_false _
  | flat => decide +kernel
  | zip p => exact h.elim
theorem eqv_zip : PyData.eqv (.list ((["zip"] : List Str).map PyData.str)) (.list ((["zip"] : List Str).map PyData.str)) = true := by decide +kernel
theorem zip_ok : wordsOk ["zip"] := fun z hz => by
  rw [List.mem_singleton.mp hz]
  exact k_small _ (by decide +kernel)
theorem mk_goodR {K : Fg} {C CB CL : Addr} {s : Str} {l : Sgs} {st : Addr} {xs : List V} {H1 : Hp} {R : Addr → Hp → Prop} {E : XK} (ok : (Pg.mk s l).ok) (hst : SqL K H1 st xs ∨ SqT K H1 st xs) (hx : StAll K C H1 xs l)
    (k : ∀ (p : Addr) (H2 : Hp), Same H1 H2 → H1 p = none → PgAt K C H2 (.ref p) (.mk s l) → R p H2) (x dx : Addr) (h1 : H1 x = none) (h2 : H1 dx = none) (hne : dx ≠ x) :
    spInit K C CB CL [.ref x, .str s, .ref st] (upd (upd H1 dx (.own x)) x (.ins C dx [])) (fun v H2 => v = .non ∧ R x H2) E := by
  have ok : s ∈ K0 ∧ l.len ≤ 6 ∧ l.ok 0 [s] := ok
  have sm := same_mk (C := C) h1 h2
  refine ⟨x, dx, s, st, xs, rfl, upd_same, ok.1, sq_same sm hst, .inl ⟨by rw [StAll.len hx]; exact ok.2.1, _, (rest_good 0 hx ok.2.2).same sm, ?_⟩⟩
  refine fun H' ts ss b e t1 t2 => ⟨rfl, k x H' (fun c u z => ?_) h1 (.mk e t1 (StAll.kp (fun c u z fx => ?_) hx) t2)⟩
  · exact b c u (ne_of_none z h1) (sm _ _ z)
  · exact b c u (ne_of_none z h1) (sm _ _ z)
theorem eqv_zips : ∀ us : List Str, PyData.eqv (.list (us.map PyData.str)) (.list ((["zip"] : List Str).map PyData.str)) = decide (us = ([("zip" : Str)]))
  | [] => rfl
  | [u] => by
    show (PyData.eqv (.str u) (.str "zip") && true) = _
    rw [Bool.and_true]
    show (u == "zip") = _
    by_cases h : u = "zip"
    · rw [h, decide_eq_true rfl]
      exact beq_self_eq_true _
    · rw [beq_false_of_ne h, decide_eq_false (fun z => h (List.cons.inj z).1)]
  | u :: w :: r => by
    show (PyData.eqv (.str u) (.str "zip") && false) = _
    rw [Bool.and_false, decide_eq_false (fun z => by have := (List.cons.inj z).2; cases this)]
/-! ### what a line does, as a function -/
abbrev Stt := List Pg × Bool
def canAt (g : Pg) (x : Sg) : Bool := decide (g.lenP < 6) && x.can g.depP g.srcs
def rdSrc (us : List Str) (ps : List Pg) : Option Stt :=
  match us with
  | [f, s] => if f = ("from" : Str) ∧ s ∈ free ps then some (.mk s .nil :: ps, false) else none
  | _ => none
def rdStg (us : List Str) (g : Pg) (ps : List Pg) : Option Stt :=
  if us = [("zip" : Str)] then (if free (g :: ps) ≠ [] ∧ g.lenP < 6 then some (g :: ps, true) else none)
  else match stW us with
    | some x => if canAt g x = true then some (g.then x :: ps, false) else none
    | none => none
/-- what a method does to the reader -/
def After (K : Fg) (C CR a l : Addr) (H : Hp) (Q : VK) : Option Stt → Prop
  | some st => ∀ (ws : List V) (H' : Hp), Bxx a l H H' → Rd8 K C CR H' a l ws st.1 st.2 → Q (.bl true) H'
  | none => ∀ H' : Hp, Bxx a l H H' → Q (.bl false) H'
theorem After.up {K : Fg} {C CR a l : Addr} {H H1 : Hp} {Q : VK} {o : Option Stt} (b : Bxx a l H H1) (h : After K C CR a l H Q o) : After K C CR a l H1 Q o := by
  cases o with
  | some st => exact fun ws H' b' r => h ws H' (b.trans b') r
  | none => exact fun H' b' => h H' (b.trans b')
theorem stW_vd {us : List Str} {x : Sg} (h : stW us = some x) : x.vd ∧ x.plain ∧ us = x.words := by
  match us, h with
  | [], h => cases h
  | [u], h =>
    have h : (if u = "flat" then some Sg.flat else none) = some x := h
    split at h
    · rename_i e
      cases h
      exact ⟨trivial, trivial, by rw [e]; rfl⟩
    · cases h
  | [k, n], h =>
    have h : (if k ∈ K1 then (if isNm n = true then some (Sg.nm k n) else none) else if k ∈ K2 then (numOf n).map (Sg.num k) else none) = some x := h
    split at h
    · rename_i h1
      split at h
      · rename_i h2
        cases h
        exact ⟨⟨h1, h2⟩, trivial, rfl⟩
      · cases h
    · split at h
      · rename_i h2
        cases e : numOf n with
        | none => rw [e] at h; cases h
        | some i =>
          rw [e] at h
          cases h
          obtain ⟨i1, i4, rfl⟩ := numOf_some e
          refine ⟨⟨h2, ?_⟩, trivial, rfl⟩
          unfold okNum
          rw [decide_eq_true i1, decide_eq_true i4]
          rfl
      · cases h
  | _ :: _ :: _ :: _, h => cases h
/-- a stage that can stand there makes a program -/
theorem canAt_ok {g : Pg} {x : Sg} (okg : g.ok) (w : x.vd) (pl : x.plain) (h : canAt g x = true) : (g.then x).ok := by
  obtain ⟨s, l⟩ := g
  have okp : s ∈ K0 ∧ l.len ≤ 6 ∧ l.ok 0 [s] := okg
  unfold canAt at h
  rw [Bool.and_eq_true, decide_eq_true_eq] at h
  have h1 : l.len < 6 := h.1
  refine ⟨okp.1, by rw [len_snoc]; omega, ok_snoc okp.2.2 ?_⟩
  cases x with
  | nm k n => exact w
  | num k n =>
    have w : k ∈ K2 ∧ okNum n = true := w
    unfold okNum at w
    rw [Bool.and_eq_true, decide_eq_true_eq, decide_eq_true_eq] at w
    exact ⟨w.1, w.2⟩
  | flat =>
    have h2 : decide (0 < l.dep 0) = true := h.2
    exact (of_decide_eq_true h2 : 0 < l.dep 0)
  | zip p => exact pl.elim
/-- a zip of a program of a free source -/
theorem zip_can {g : Pg} {ps : List Pg} {s : Str} (okg : g.ok) (hs : s ∈ free (g :: ps)) (h : g.lenP < 6) : (g.then (.zip (.mk s .nil))).ok := by
  obtain ⟨s0, l⟩ := g
  have okp : s0 ∈ K0 ∧ l.len ≤ 6 ∧ l.ok 0 [s0] := okg
  have h : l.len < 6 := h
  obtain ⟨k0, nf⟩ := mem_free.mp hs
  refine ⟨okp.1, by rw [len_snoc]; omega, ok_snoc okp.2.2 ⟨⟨k0, Nat.zero_le _, trivial⟩, fun t ht => ?_⟩⟩
  have ht : t ∈ [s] := ht
  rw [List.mem_singleton.mp ht]
  exact nf _ List.mem_cons_self
end K81
set_option Elab.async false
set_option linter.all false
set_option maxRecDepth 100000
set_option maxHeartbeats 4000000
namespace K81
open PySem L2 VK
open TL (tl)
def spRSrc (K : Fg) (C CR : Addr) : Sp := fun vs H Q _ => ∃ (a l wl : Addr) (ws : List V) (us : List Str) (ps : List Pg), vs = [.ref a, .ref wl] ∧ Rd8 K C CR H a l ws ps true ∧ H wl = some (.lst (us.map V.str)) ∧ (free ps ≠ [] → ps.length ≤ 3) ∧
  After K C CR a l H Q (rdSrc us ps)
def spRZip (K : Fg) (C CR : Addr) : Sp := fun vs H Q _ => ∃ (a l : Addr) (v : V) (ws : List V) (g : Pg) (ps : List Pg) (b : Bool), vs = [.ref a] ∧ Rd8 K C CR H a l (v :: ws) (g :: ps) b ∧
  After K C CR a l H Q (if free (g :: ps) ≠ [] ∧ g.lenP < 6 then some (g :: ps, true) else none)
def spRStg (K : Fg) (C CR : Addr) : Sp := fun vs H Q E => ∃ (a l wl : Addr) (v : V) (ws : List V) (us : List Str) (g : Pg) (ps : List Pg), vs = [.ref a, .ref wl] ∧ Rd8 K C CR H a l (v :: ws) (g :: ps) false ∧ H wl = some (.lst (us.map V.str)) ∧ us ≠ [] ∧ (∀ z ∈ us, z.length ≤ 1000) ∧ wordsOk us ∧
  After K C CR a l H Q (rdStg us g ps)
theorem nil_ok {s : Str} (h : s ∈ K0) : (Pg.mk s .nil).ok := ⟨h, Nat.zero_le _, trivial⟩
theorem Bx.l {a l : Addr} {H H' : Hp} (b : Bx l H H') : Bxx a l H H' := fun c o _ m e => b c o m e
section
variable {P : Program} {w : World} {K : Fg} {mg : Str → Option Value} {base : Heap} {A I : Nat → Addr} {D J : Nat → FuncData} {aS a1 a2 C e0 CR CE fT fF fW aN : Addr} {dT dF dW : FuncData} {R : Nat → Addr} {S : Nat → FuncData}
theorem ok_rsrc (Y : Rc K mg CR R S) (Z : Lp K mg A I D J aS a1 a2 C e0) (hne : CR ≠ C) : FnOk P w K mg base CX0 7 (R 3) (S 3) ["self", "words"] (spRSrc K C CR) := by
  have GF : FnOk P w K mg base CX0 3 (R 1) (S 1) ["self"] (spFree K C CR) := ok_free Y Z.L.c Z.L.Z (Z.L.p3 _ _ _)
  refine Y.m3.F.ok scRSrc (fun vs H Q E h => ?_) (fun cdv B outer s H vs Q E hr h => ?_)
  · obtain ⟨a, l, wl, ws, us, ps, rfl, _⟩ := h
    rfl
  · obtain ⟨a, l, wl, ws, us, ps, rfl, hR, hw, few3, k⟩ := h
    have hr3 := hr.mono (show 3 ≤ 6 by decide)
    refine ⟨_, pss_cons (ps_if (PW.pt (pw_or (pt_cmpR op_ne (pe_callB call_len_seq (by rfl) Z.L.N.len PySem.boot_len (pa_cons (pv 1) pa_nil)) pe_int (nomark _)) (pw_or (pt_cmpR op_ne (pe_ix ix_list (pv 1) pe_int (fun _ _ => rfl)) pe_str (nomark _))
          (pw_or1 (pt_cmpR op_notIn_seq (pe_ix ix_list (pv 1) pe_int (fun _ _ => rfl)) (pe_meth0 (pv 0) Y.cl Y.m1.m GF hr3 Y.m1.b .nil pass0) rfl))))) (pss_one (ps_ret pe_bl)) pss_nil)
      (pss_cons (ps_expr (pe_bm PySem.F.plainAttrs_list PySem.F.slot_list_append PySem.F.type_list_append mt_append (pe_fld (pv 0) rfl) (pa_cons
        (pe_make Z.m Z.o22 hr rfl Z.L.c.g Z.b0 (show Vals [V.ref e0] [Value.ref e0] from .cons rfl .nil) (E := E0) passL (pa_cons (pe_ix ix_list (pv 1) pe_int (fun _ _ => rfl)) pa_nil)) pa_nil)))
      (pss_cons (ps_fld (pv 0) pe_bl rfl) (pss_one (ps_ret pe_bl)))), ?_⟩
    have ne := hR.ne
    obtain ⟨dx, ha⟩ := hR.at_
    have hl := hR.ls
    refine ⟨_, rfl, wl, _, rfl, .inl (SqL.of hw), rfl, _, rfl, ?_⟩
    match us, hw, k with
    | [], hw, k => exact iteT (B := True) (k H fun _ _ _ _ e => e)
    | [_], hw, k => exact iteT (B := True) (k H fun _ _ _ _ e => e)
    | u1 :: u2 :: u3 :: r, hw, k =>
      have ne3 : ¬ (V.int (((u1 :: u2 :: u3 :: r).map V.str).length : Nat) = V.int 2) := fun z => by
        have z : ((((u1 :: u2 :: u3 :: r).map V.str).length : Nat) : Int) = 2 := V.int.inj z
        rw [List.length_map, List.length_cons, List.length_cons, List.length_cons] at z
        omega
      rw [decide_eq_false ne3]
      exact iteT (B := True) (k H fun _ _ _ _ e => e)
    | [u, s0], hw, k =>
    have hw : H wl = some (.lst [.str u, .str s0]) := hw
    refine iteF (A := True) ?_
    refine ⟨_, rfl, wl, _, _, .str u, rfl, rfl, SqL.of hw, atI_nat (j := 0) rfl, rfl, _, rfl, ?_⟩
    have er : rdSrc [u, s0] ps = if u = ("from" : Str) ∧ s0 ∈ free ps then some (.mk s0 .nil :: ps, false) else none := rfl
    by_cases eu : u = "from"
    case neg =>
      rw [er, if_neg (fun z => eu z.1)] at k
      rw [decide_eq_false (fun z => eu (V.str.inj z))]
      exact iteT (B := True) (k H fun _ _ _ _ e => e)
    subst eu
    refine iteF (A := True) ?_
    refine ⟨_, rfl, wl, _, _, .str s0, rfl, rfl, SqL.of hw, atI_nat (j := 1) rfl, _, rfl, a, dx, _, rfl, ha, rf_no (by decide +kernel) (by decide +kernel), a, l, ws, ps, true, rfl, hR, fun q H1 nq s1 e1 => ?_⟩
    refine ⟨q, _, rfl, .inl (SqL.of e1), rfl, all_flat _, _, rfl, ?_⟩
    rw [show inV (.str s0) ((free ps).map V.str) = decide (s0 ∈ free ps) from in_dec s0 _]
    by_cases hs : s0 ∈ free ps
    case neg =>
      rw [er, if_neg (fun z => hs z.2)] at k
      rw [decide_eq_false hs]
      exact iteT (B := True) (k H1 (Same.xx s1))
    rw [er, if_pos ⟨rfl, hs⟩] at k
    rw [decide_eq_true hs]
    have few3 : ps.length ≤ 3 := few3 (fun z => by rw [z] at hs; cases hs)
    refine iteF (A := True) ?_
    have hR1 := hR.same s1
    have w1 := s1 _ _ hw
    have a1 := s1 _ _ ha
    have l1 := s1 _ _ hl
    have k0 : s0 ∈ K0 := (mem_free.mp hs).1
    refine ⟨_, rfl, a, CR, dx, _, _, rfl, a1, Y.cl, Y.n1, get_p _ _, .inl ⟨rfl, _, SqL.of l1⟩, ?_⟩
    refine ⟨_, rfl, wl, _, _, .str s0, rfl, rfl, SqL.of w1, atI_nat (j := 1) rfl, ?_⟩
    dsimp only [tNil]
    refine mk_goodR (l := .nil) (nil_ok k0) (.inr (Z.h0 _)) .nil fun p H2 s2 np pp => ?_
    have l2 := s2 _ _ l1
    have b3 : Bx l H2 (upd H2 l (.lst (ws.reverse ++ [.ref p]))) := Bx.upd
    have e3 : upd H2 l (.lst (ws.reverse ++ [.ref p])) l = some (.lst (V.ref p :: ws).reverse) := by rw [upd_same, List.reverse_cons]
    have lw := hR.pg.len
    refine ⟨l, _, .ref p, rfl, rfl, l2, by rw [List.length_reverse]; exact small1000 (by omega), ?_⟩
    generalize upd H2 l (.lst (ws.reverse ++ [.ref p])) = H3 at b3 e3
    have hR2 := hR1.same s2
    have kp3 := b3.kpl l2
    have hR3 : Rd8 K C CR H3 a l (V.ref p :: ws) (.mk s0 .nil :: ps) true := hR2.put b3 e3 (.cons (PgAt.kp kp3 pp) (hR2.pg.kp kp3)) (by show ps.length + 1 ≤ 4; omega) fun x hx => by
      rcases List.mem_cons.mp hx with rfl | hx
      · exact nil_ok k0
      · exact hR.ok x hx
    have a3 := b3 _ _ ne (s2 _ _ a1)
    refine ⟨_, rfl, a, CR, dx, _, rfl, a3, Y.cl, Y.n2, rf_len _ _, ?_⟩
    rw [put_o]
    have b4 : Bx a H3 (upd H3 a (.ins CR dx (rf l false))) := Bx.upd
    exact k (V.ref p :: ws) _ (((Same.xx (s1.trans s2)).trans b3.l).trans b4.xx) (hR3.flip hne b4 ⟨dx, upd_same⟩)
theorem ok_rzip (Y : Rc K mg CR R S) (Z : Lp K mg A I D J aS a1 a2 C e0) (hne : CR ≠ C) (M : Mt K C "then" "Program.then" sThen ["self", "stage"] fT dT) (DF : Df K mg "can_follow" sFollow ["program", "stage"] fF dF) (gE : mg "StreamError" = some (.ref CE)) (Xe : Ex K A CE) :
    FnOk P w K mg base CX0 9 (R 5) (S 5) ["self"] (spRZip K C CR) := by
  have GF : FnOk P w K mg base CX0 3 (R 1) (S 1) ["self"] (spFree K C CR) := ok_free Y Z.L.c Z.L.Z (Z.L.p3 _ _ _)
  have GO : FnOk P w K mg base CX0 8 fF dF ["program", "stage"] (spFollow K C) := ok_follow DF Z M gE Xe
  refine Y.m5.F.ok scRZip (fun vs H Q E h => ?_) (fun cdv B outer s H vs Q E hr h => ?_)
  · obtain ⟨a, l, v, ws, g, ps, b, rfl, _⟩ := h
    rfl
  · obtain ⟨a, l, v, ws, g, ps, b, rfl, hR, k⟩ := h
    have hr3 := hr.mono (show 3 ≤ 8 by decide)
    have hr6 := hr.mono (show 6 ≤ 8 by decide)
    refine ⟨_, pss_cons (ps_set (i := 1) scRZip.nd rfl (Or.inl rfl) (pe_meth0 (pv 0) Y.cl Y.m1.m GF hr3 Y.m1.b .nil pass0))
      (pss_cons (ps_fld (pv 0) (pe_and (pe_cmpR op_gt (pe_callB call_len_seq (by rfl) Z.L.N.len PySem.boot_len (pa_cons (pv 1) pa_nil)) pe_int (nomark _)) (pe_one (pe_call GO hr rfl DF.g DF.F.kp DF.b .nil pass0
          (pa_cons (pe_ix ix_list (pe_fld (pv 0) rfl) (pe_un un_neg pe_int) (fun _ _ => rfl)) (pa_cons (pe_tup (pa_cons pe_str (pa_cons (pe_make Z.m Z.o22 hr6 rfl Z.L.c.g Z.b0 (show Vals [V.ref e0] [Value.ref e0] from .cons rfl .nil) (E := E0) passL (pa_cons (pe_ix ix_list (pv 1) pe_int (fun _ _ => rfl)) pa_nil)) pa_nil))) pa_nil))))) rfl)
      (pss_one (ps_ret (pe_fld (pv 0) rfl)))), ?_⟩
    have ne := hR.ne
    obtain ⟨dx, ha⟩ := hR.at_
    have hl := hR.ls
    refine ⟨_, rfl, a, dx, _, rfl, ha, rf_no (by decide +kernel) (by decide +kernel), a, l, v :: ws, g :: ps, b, rfl, hR, fun q H1 nq s1 e1 => ?_⟩
    have hR1 := hR.same s1
    have a1 := s1 _ _ ha
    have l1 := s1 _ _ hl
    have okg : g.ok := hR.ok g List.mem_cons_self
    cases ef : free (g :: ps) with
    | nil =>
      rw [if_neg (fun z => z.1 ef)] at k
      rw [ef] at e1
      have e1 : H1 q = some (.lst []) := e1
      refine ⟨_, rfl, q, _, rfl, .inl (SqL.of e1), _, _, rfl, rfl, _, rfl, ?_⟩
      refine iteF (A := True) ?_
      refine ⟨_, rfl, a, CR, dx, _, rfl, a1, Y.cl, Y.n2, rf_len _ _, ?_⟩
      rw [put_o]
      have b5 : Bx a H1 (upd H1 a (.ins CR dx (rf l false))) := Bx.upd
      have e5 : upd H1 a (.ins CR dx (rf l false)) a = some (.ins CR dx (rf l false)) := upd_same
      generalize upd H1 a (.ins CR dx (rf l false)) = H5 at b5 e5
      exact ⟨_, rfl, a, CR, dx, _, _, rfl, e5, Y.cl, Y.n2, get_o _ _, k _ ((Same.xx s1).trans b5.xx)⟩
    | cons f0 fr =>
    have f0m : f0 ∈ free (g :: ps) := by rw [ef]; exact List.mem_cons_self
    have k0 : f0 ∈ K0 := (mem_free.mp f0m).1
    rw [ef] at e1
    have e1 : H1 q = some (.lst (.str f0 :: fr.map V.str)) := e1
    refine ⟨_, rfl, q, _, rfl, .inl (SqL.of e1), _, _, rfl, rfl, _, rfl, ?_⟩
    refine dif (fun _ => ?_) (fun z => absurd z ?_)
    · refine ⟨_, rfl, a, CR, dx, _, _, rfl, a1, Y.cl, Y.n1, get_p _ _, _, rfl, l, _, _, v, rfl, rfl, SqL.of l1, atI_rev, ?_⟩
      refine ⟨_, rfl, q, _, _, .str f0, rfl, rfl, SqL.of e1, atI_nat (j := 0) rfl, ?_⟩
      dsimp only [tNil]
      refine mk_goodR (l := .nil) (nil_ok k0) (.inr (Z.h0 _)) .nil fun p H2 s2 np pp => ?_
      refine ⟨by show 2 ≤ sizeLine; decide, fun u hu => ?_⟩
      have s3 : Same H2 (upd H2 u (.tup [.str "zip", .ref p])) := same_new hu
      have e3 : upd H2 u (.tup [.str "zip", .ref p]) u = some (.tup [.str "zip", .ref p]) := upd_same
      generalize upd H2 u (.tup [.str "zip", .ref p]) = H3 at s3 e3
      have s13 := s2.trans s3
      have hv : PgAt K C H3 v g := by
        have z := (hR1.same s13).pg
        cases z with
        | cons h _ => exact h
      have can : Can K C H3 (.ref u) g (decide (g.lenP < 6)) := by
        by_cases l6 : g.lenP < 6
        · rw [decide_eq_true l6]
          exact .yes (x := .zip (.mk f0 .nil)) (.zip (.inl (.inl e3)) (PgAt.kp (Kp.of s3) pp)) (zip_can okg f0m l6)
        · rw [decide_eq_false l6]
          refine .full ?_
          obtain ⟨s0, l0⟩ := g
          have okp : s0 ∈ K0 ∧ l0.len ≤ 6 ∧ l0.ok 0 [s0] := okg
          have l6 : ¬ l0.len < 6 := l6
          show l0.len = 6
          omega
      refine ⟨v, .ref u, g, _, rfl, hv, okg, can, fun H4 s4 => ?_⟩
      have s04 := s1.trans (s13.trans s4)
      have hR4 := hR.same s04
      have a4 := s04 _ _ ha
      refine ⟨_, rfl, a, CR, dx, _, rfl, a4, Y.cl, Y.n2, rf_len _ _, ?_⟩
      rw [put_o]
      generalize hb : decide (g.lenP < 6) = bb
      have b5 : Bx a H4 (upd H4 a (.ins CR dx (rf l bb))) := Bx.upd
      have e5 : upd H4 a (.ins CR dx (rf l bb)) a = some (.ins CR dx (rf l bb)) := upd_same
      generalize upd H4 a (.ins CR dx (rf l bb)) = H5 at b5 e5
      refine ⟨_, rfl, a, CR, dx, _, _, rfl, e5, Y.cl, Y.n2, get_o _ _, ?_⟩
      cases bb with
      | true =>
        rw [if_pos ⟨by rw [ef]; exact List.cons_ne_nil _ _, of_decide_eq_true hb⟩] at k
        exact k _ _ ((Same.xx s04).trans b5.xx) (hR4.flip hne b5 ⟨dx, e5⟩)
      | false =>
        rw [if_neg (fun z => of_decide_eq_false hb z.2)] at k
        exact k _ ((Same.xx s04).trans b5.xx)
    · intro z
      apply z
      show (0 : Int) < ((V.str f0 :: fr.map V.str).length : Int)
      rw [List.length_cons]
      omega
theorem ok_rstg (Y : Rc K mg CR R S) (Z : Lp K mg A I D J aS a1 a2 C e0) (hne : CR ≠ C) (M : Mt K C "then" "Program.then" sThen ["self", "stage"] fT dT) (DF : Df K mg "can_follow" sFollow ["program", "stage"] fF dF) (DW : Df K mg "stage_of_words" sWords ["words"] fW dW) (gE : mg "StreamError" = some (.ref CE)) (U : Nu K mg w aN) (kts : PySem.W.kitOne K (.type "str") (.ref C) = some false) (Xe : Ex K A CE) :
    FnOk P w K mg base CX0 10 (R 4) (S 4) ["self", "words"] (spRStg K C CR) := by
  have GZ : FnOk P w K mg base CX0 9 (R 5) (S 5) ["self"] (spRZip K C CR) := ok_rzip Y Z hne M DF gE Xe
  have GO : FnOk P w K mg base CX0 8 fF dF ["program", "stage"] (spFollow K C) := ok_follow DF Z M gE Xe
  have GW : FnOk P w K mg base CX0 1 fW dW ["words"] (spWords K C) := ok_words DW Z.L.N Z.L.Z U kts
  refine Y.m4.F.ok scRStg (fun vs H Q E h => ?_) (fun cdv B outer s H vs Q E hr h => ?_)
  · obtain ⟨a, l, wl, v, ws, us, g, ps, rfl, _⟩ := h
    rfl
  · obtain ⟨a, l, wl, v, ws, us, g, ps, rfl, hR, hw, une, usm, uok, k⟩ := h
    have hr1 := hr.mono (show 1 ≤ 9 by decide)
    have hr7 := hr.mono (show 7 ≤ 9 by decide)
    have hr8 := hr.mono (show 8 ≤ 9 by decide)
    refine ⟨_, pss_cons (ps_if (pt_cmpR (op_eqD hr.units) (pv 1) (pe_lst (pa_cons pe_str pa_nil)) (nomark _)) (pss_one (ps_ret (pe_meth0 (pv 0) Y.cl Y.m5.m GZ hr Y.m5.b .nil pass0))) pss_nil)
      (pss_cons (ps_set (i := 2) scRStg.nd rfl (Or.inl rfl) (pe_call GW hr1 rfl DW.g DW.F.kp DW.b .nil pass0 (pa_cons (pv 1) pa_nil)))
      (pss_cons (ps_if (pt_not (pt_val (pe_call GO hr8 rfl DF.g DF.F.kp DF.b .nil pass0 (pa_cons (pe_ix ix_list (pe_fld (pv 0) rfl) (pe_un un_neg pe_int) (fun _ _ => rfl)) (pa_cons (pv 2) pa_nil))))) (pss_one (ps_ret pe_bl)) pss_nil)
      (pss_cons (ps_expr (pe_bm PySem.F.plainAttrs_list PySem.F.slot_list_append PySem.F.type_list_append mt_append (pe_fld (pv 0) rfl) (pa_cons
        (pe_meth (pe_bm0 PySem.F.plainAttrs_list PySem.F.slot_list_pop PySem.F.type_list_pop mt_pop (pe_fld (pv 0) rfl)) Z.L.c.cl M.m (ok_then M.F Z) hr7 M.b .nil (E := E0) passL (pa_cons (pv 2) pa_nil)) pa_nil)))
      (pss_one (ps_ret pe_bl))))), ?_⟩
    have ne := hR.ne
    obtain ⟨dx, ha⟩ := hR.at_
    have hl := hR.ls
    refine ⟨_, rfl, by show 1 ≤ sizeLine; decide, fun u hu => ?_⟩
    have s1 : Same H (upd H u (.lst [.str "zip"])) := same_new hu
    have e1 : upd H u (.lst [.str "zip"]) u = some (.lst [.str "zip"]) := upd_same
    generalize upd H u (.lst [.str "zip"]) = H1 at s1 e1
    have hR1 := hR.same s1
    have w1 := s1 _ _ hw
    have a1 := s1 _ _ ha
    have l1 := s1 _ _ hl
    have okg0 : g.ok := hR.ok g List.mem_cons_self
    refine eq_words (us := ["zip"]) (SqL.of w1) uok (SqL.of e1) zip_ok ⟨_, rfl, ?_⟩
    rw [eqv_zips]
    have er : rdStg us g ps = if us = [("zip" : Str)] then (if free (g :: ps) ≠ [] ∧ g.lenP < 6 then some (g :: ps, true) else none) else match stW us with
      | some x => if canAt g x = true then some (g.then x :: ps, false) else none
      | none => none := rfl
    by_cases ez : us = [("zip" : Str)]
    · rw [er, if_pos ez] at k
      rw [decide_eq_true ez]
      refine iteT (B := True) ?_
      refine ⟨_, rfl, a, dx, _, rfl, a1, rf_no (by decide +kernel) (by decide +kernel), ?_⟩
      exact ⟨a, l, v, ws, g, ps, false, rfl, hR1, k.up (Same.xx s1)⟩
    · rw [er, if_neg ez] at k
      rw [decide_eq_false ez]
      refine iteF (A := True) ?_
      refine ⟨_, rfl, wl, us, rfl, w1, une, usm, fun y H2 s2 hy => ?_⟩
      have hR2 := hR1.same s2
      have a2 := s2 _ _ a1
      have l2 := s2 _ _ l1
      have hv : PgAt K C H2 v g := by
        have z := hR2.pg
        cases z with
        | cons h _ => exact h
      have can : (∃ x, stW us = some x ∧ StV K C H2 y x ∧ canAt g x = true) ∨ ((match stW us with | some x => if canAt g x = true then some (g.then x :: ps, false) else none | none => none) = (none : Option Stt) ∧ Can K C H2 y g false) := by
        cases hy with
        | @st x e h =>
          obtain ⟨vd, pl, _⟩ := stW_vd e
          by_cases cc : canAt g x = true
          · exact .inl ⟨x, e, h, cc⟩
          · refine .inr ⟨by rw [e]; exact if_neg cc, ?_⟩
            unfold canAt at cc
            by_cases l6 : g.lenP < 6
            · rw [decide_eq_true l6, Bool.true_and] at cc
              refine .cant h vd ?_ (Bool.eq_false_iff.mpr cc)
              cases x with
              | nm k n => exact Nat.zero_le _
              | num k n => exact Nat.zero_le _
              | flat => exact Nat.zero_le _
              | zip p => exact pl.elim
            · refine .full ?_
              obtain ⟨s0, l0⟩ := g
              have okp : s0 ∈ K0 ∧ l0.len ≤ 6 ∧ l0.ok 0 [s0] := okg0
              have l6 : ¬ l0.len < 6 := l6
              show l0.len = 6
              omega
        | no e h => exact .inr ⟨by rw [e], .bad h⟩
      rcases can with ⟨x, ex, hyx, cc⟩ | ⟨en, can⟩
      case inr =>
        rw [en] at k
        refine ⟨_, rfl, a, CR, dx, _, _, rfl, a2, Y.cl, Y.n1, get_p _ _, _, rfl, l, _, _, v, rfl, rfl, SqL.of l2, atI_rev, _, rfl, v, y, g, false, rfl, hv, okg0, can, fun H3 s3 => ⟨_, rfl, iteT (B := True) ?_⟩⟩
        exact k H3 (Same.xx (s1.trans (s2.trans s3)))
      obtain ⟨vd, pl, _⟩ := stW_vd ex
      have okg := canAt_ok okg0 vd pl cc
      rw [ex] at k
      have k : After K C CR a l H Q (if canAt g x = true then some (g.then x :: ps, false) else none) := k
      rw [if_pos cc] at k
      have hy := hyx
      refine ⟨_, rfl, a, CR, dx, _, _, rfl, a2, Y.cl, Y.n1, get_p _ _, _, rfl, l, _, _, v, rfl, rfl, SqL.of l2, atI_rev, _, rfl, v, y, g, true, rfl, hv, okg0, .yes hy okg, fun H3 s3 => ⟨_, rfl, iteF (A := True) ?_⟩⟩
      have hR3 := hR2.same s3
      have a3 := s3 _ _ a2
      have l3 := s3 _ _ l2
      have hv3 := PgAt.kp (Kp.of s3) hv
      have hy3 := StV.kp (Kp.of s3) hy
      refine ⟨_, rfl, a, CR, dx, _, _, rfl, a3, Y.cl, Y.n1, get_p _ _, .inl ⟨rfl, _, SqL.of l3⟩, ?_⟩
      refine ⟨_, rfl, a, CR, dx, _, _, rfl, a3, Y.cl, Y.n1, get_p _ _, .inl ⟨rfl, _, SqL.of l3⟩, l, _, v, rfl, rfl, l3, rev_last, ?_⟩
      rw [rev_drop]
      have b4 : Bx l H3 (upd H3 l (.lst ws.reverse)) := Bx.upd
      have e4 : upd H3 l (.lst ws.reverse) l = some (.lst ws.reverse) := upd_same
      generalize upd H3 l (.lst ws.reverse) = H4 at b4 e4
      have kp4 : Kp H3 H4 := b4.kpl l3
      obtain ⟨q0, dq, ts, ss, sq, dq2, rfl, hq0⟩ := hv3.ins
      refine ⟨q0, dq, _, rfl, kp4 _ _ hq0 rfl, no_then, _, rfl, ?_⟩
      obtain ⟨sg, lg⟩ := g
      refine then_good (PgAt.kp kp4 hv3) (StV.kp kp4 hy3) okg fun r H5 s5 nr pr => ?_
      have l5 := s5 _ _ e4
      have few := hR.few
      have few : ps.length + 1 ≤ 4 := few
      have pg3 : PgAll K C H3 ws ps := by
        have z := hR3.pg
        cases z with
        | cons _ h => exact h
      have lw := pg3.len
      refine ⟨l, _, .ref r, rfl, rfl, l5, by rw [List.length_reverse]; exact small1000 (by omega), ?_⟩
      have b6 : Bx l H5 (upd H5 l (.lst (ws.reverse ++ [.ref r]))) := Bx.upd
      have e6 : upd H5 l (.lst (ws.reverse ++ [.ref r])) l = some (.lst (V.ref r :: ws).reverse) := by rw [upd_same, List.reverse_cons]
      generalize upd H5 l (.lst (ws.reverse ++ [.ref r])) = H6 at b6 e6
      have kp6 := b6.kpl l5
      have b36 : Bx l H3 H6 := b4.trans ((Bx.of s5).trans b6)
      have hR6 : Rd8 K C CR H6 a l (V.ref r :: ws) ((Pg.mk sg lg).then x :: ps) false := hR3.put b36 e6 (.cons (PgAt.kp kp6 pr) (pg3.kp (b36.kpl l3))) few fun z hz => by
        rcases List.mem_cons.mp hz with rfl | hz
        · exact okg
        · exact hR.ok z (List.mem_cons_of_mem _ hz)
      exact k _ _ ((Same.xx (s1.trans (s2.trans s3))).trans b36.l) hR6
end
end K81
set_option Elab.async false
set_option linter.all false
set_option maxRecDepth 100000
set_option maxHeartbeats 4000000
namespace K81
open PySem L2 VK
open TL (tl)
/-- the programs that are open, closed down -/
def fin : Pg → List Pg → Pg
  | p, [] => p
  | p, q :: r => fin (q.then (.zip p)) r
def okc : Pg → List Pg → Prop
  | p, [] => True
  | p, q :: r => (q.then (.zip p)).ok ∧ okc (q.then (.zip p)) r
/-- blanks ahead, and what is behind them -/
def bl (z : Str) : Nat := ((tl z).takeWhile (fun c => c == 32)).length
def rs (z : Str) : Str := ⟨((tl z).drop (bl z)).toArray⟩
def usOf (z : Str) : List Str := Txt.split (rs z) " "
def closeTo (d : Nat) : Pg → List Pg → Pg × List Pg
  | p, [] => (p, [])
  | p, q :: r => if d < (q :: r).length then closeTo d (q.then (.zip p)) r else (p, q :: r)
/-- a line -/
def rdL (z : Str) : Stt → Option Stt
  | (ps, true) => if bl z % 2 = 0 ∧ bl z / 2 = ps.length then rdSrc (usOf z) ps else none
  | ([], false) => none
  | (p :: r, false) => if bl z % 2 = 0 ∧ bl z / 2 ≤ r.length then rdStg (usOf z) (closeTo (bl z / 2) p r).1 (closeTo (bl z / 2) p r).2 else none
theorem takeW_all {p : Nat → Bool} : ∀ l : List Nat, l = l.takeWhile p ++ l.drop (l.takeWhile p).length
  | [] => rfl
  | c :: r => by
    rw [List.takeWhile_cons]
    cases h : p c with
    | true =>
      show c :: r = c :: (r.takeWhile p ++ r.drop (r.takeWhile p).length)
      rw [← takeW_all r]
    | false => rfl
theorem bl_le (z : Str) : bl z ≤ z.length := by
  rw [TL.len_tl]
  exact (List.takeWhile_sublist _).length_le
theorem len_rs (z : Str) : (rs z).length = z.length - bl z := by
  rw [TL.len_tl]
  show ((tl z).drop (bl z)).length = _
  rw [List.length_drop, ← TL.len_tl]
theorem lstrip_rs (z : Str) : Txt.lstripChars z " " = rs z := by
  unfold Txt.lstripChars
  rw [PyProof.Rows.stripBy_eq]
  have p1 : (Array.contains (" " : Str).cps) = fun c => c == 32 := by
    have q : (" " : Str).cps = #[32] := by decide +kernel
    rw [q]
    funext c
    simp
    rfl
  have lo : PySem.stripLo (Array.contains (" " : Str).cps) true z = bl z := by
    unfold PySem.stripLo
    rw [if_pos rfl, p1]
    rfl
  rw [lo]
  have hi : PySem.stripHi (Array.contains (" " : Str).cps) false z (bl z) = z.length := rfl
  rw [hi]
  exact TL.ext_tl (TL.tl_strSub_end z (bl z))
theorem split_ne (z : Str) : Txt.split z " " ≠ [] := fun h => by
  have e := TL.split_spl z " " (by rw [tl_one]; simp) (TL.kind_ok (by decide +kernel))
  rw [h] at e
  have : ∀ (S : List Nat) (k : Nat) (acc l : List Nat), TL.spl S k acc l ≠ [] := by
    intro S k acc l
    induction l generalizing k acc with
    | nil => rw [TL.spl_nil]; simp
    | cons c r ih =>
      cases k with
      | zero =>
        unfold TL.spl
        split
        · simp
        · exact ih 0 _
      | succ k => exact ih k acc
  exact this _ _ _ _ e.symm
/-- a line that is read -/
structure Ln (z : Str) : Prop where
  len : z.length ≤ 1000
  sm : ∀ c ∈ tl z, c < 1000
theorem rs_sub {z : Str} (h : Ln z) : Ln (rs z) := ⟨by rw [len_rs]; have := h.len; omega, fun c hc => h.sm c (List.mem_of_mem_drop hc)⟩
theorem join_mem {ws : List Str} {u : Str} (h : u ∈ ws) (y : Str) : u.length ≤ (Str.join y ws).length ∧ ∀ c ∈ tl u, c ∈ tl (Str.join y ws) := by
  induction ws with
  | nil => cases h
  | cons a r ih =>
    rw [TL.len_tl (Str.join y (a :: r)), TL.tl_join]
    cases r with
    | nil =>
      rw [List.mem_singleton.mp h]
      exact ⟨by rw [TL.len_tl]; exact Nat.le_refl _, fun c hc => hc⟩
    | cons b r =>
      have e : TL.joinL (tl y) ((a :: b :: r).map tl) = tl a ++ (tl y ++ TL.joinL (tl y) ((b :: r).map tl)) := rfl
      rw [e, List.length_append, List.length_append]
      rcases List.mem_cons.mp h with rfl | h
      · exact ⟨by rw [TL.len_tl]; omega, fun c hc => List.mem_append_left _ hc⟩
      · obtain ⟨i1, i2⟩ := ih h
        rw [TL.len_tl (Str.join y (b :: r)), TL.tl_join] at i1
        rw [TL.tl_join] at i2
        exact ⟨by omega, fun c hc => List.mem_append_right _ (List.mem_append_right _ (i2 c hc))⟩
theorem us_ok {z : Str} (h : Ln z) : (∀ u ∈ usOf z, u.length ≤ 1000) ∧ wordsOk (usOf z) := by
  have hr := rs_sub h
  have j : Str.join " " (usOf z) = rs z := PySem.StrLaws.join_split (rs z) " "
  refine ⟨fun u hu => ?_, fun u hu c hc => ?_⟩
  · have := (join_mem hu " ").1
    rw [j] at this
    exact Nat.le_trans this hr.len
  · have := (join_mem hu " ").2 c hc
    rw [j] at this
    exact hr.sm c this
def spRLine (K : Fg) (C CR : Addr) : Sp := fun vs H Q _ => ∃ (a l : Addr) (ws : List V) (z : Str) (ps : List Pg) (b : Bool), vs = [.ref a, .str z] ∧ Ln z ∧ Rd8 K C CR H a l ws ps b ∧ (b = true → free ps ≠ [] → ps.length ≤ 3) ∧ (b = false → ∃ p r, ps = p :: r ∧ okc p r) ∧
  After K C CR a l H Q (rdL z (ps, b))
theorem two_len : ("  " : Str).length = 2 := by decide +kernel
section
variable {P : Program} {w : World} {K : Fg} {mg : Str → Option Value} {base : Heap} {A I : Nat → Addr} {D J : Nat → FuncData} {aS a1 a2 C e0 CR CE fT fF fW aN : Addr} {dT dF dW : FuncData} {R : Nat → Addr} {S : Nat → FuncData}
theorem ok_rline (Y : Rc K mg CR R S) (Z : Lp K mg A I D J aS a1 a2 C e0) (hne : CR ≠ C) (M : Mt K C "then" "Program.then" sThen ["self", "stage"] fT dT) (DF : Df K mg "can_follow" sFollow ["program", "stage"] fF dF) (DW : Df K mg "stage_of_words" sWords ["words"] fW dW) (gE : mg "StreamError" = some (.ref CE)) (U : Nu K mg w aN) (kts : PySem.W.kitOne K (.type "str") (.ref C) = some false) (Xe : Ex K A CE)
    (ti : ∃ t, mg "INDENT" = some (.str "  " t)) : FnOk P w K mg base CX0 11 (R 2) (S 2) ["self", "line"] (spRLine K C CR) := by
  have G3 : FnOk P w K mg base CX0 7 (R 3) (S 3) ["self", "words"] (spRSrc K C CR) := ok_rsrc Y Z hne
  have G4 : FnOk P w K mg base CX0 10 (R 4) (S 4) ["self", "words"] (spRStg K C CR) := ok_rstg Y Z hne M DF DW gE U kts Xe
  have G6 : FnOk P w K mg base CX0 8 (R 6) (S 6) ["self"] (spClose K C CR) := ok_close Y Z M
  refine Y.m2.F.ok scRLine (fun vs H Q E h => ?_) (fun cdv B outer s H vs Q E hr h => ?_)
  · obtain ⟨a, l, ws, z, ps, b, rfl, _⟩ := h
    rfl
  · obtain ⟨a, l, ws, z, ps, b, rfl, hz, hR, few3, okr, k⟩ := h
    have hr7 := hr.mono (show 7 ≤ 10 by decide)
    have hr8 := hr.mono (show 8 ≤ 10 by decide)
    obtain ⟨tI, gI⟩ := ti
    refine ⟨_, pss_cons (ps_set (i := 2) scRLine.nd rfl (Or.inl rfl) (pe_split (pe_m1 PySem.F.slot_str_lstrip PySem.F.type_str_lstrip mt_lstripChars (pv 1) pe_str) pe_str))
      (pss_cons (ps_set (i := 3) scRLine.nd rfl (Or.inl rfl) (pe_op op_sub (pe_callB call_len_str (by rfl) Z.L.N.len PySem.boot_len (pa_cons (pv 1) pa_nil)) (pe_callB call_len_str (by rfl) Z.L.N.len PySem.boot_len (pa_cons (pe_m1 PySem.F.slot_str_lstrip PySem.F.type_str_lstrip mt_lstripChars (pv 1) pe_str) pa_nil))))
      (pss_cons (ps_set (i := 4) scRLine.nd rfl (Or.inl rfl) (pe_op op_fdiv (pv 3) (pe_callB call_len_str (by rfl) Z.L.N.len PySem.boot_len (pa_cons (pe_glob (v := .str "  ") rfl gI ⟨_, rfl⟩) pa_nil))))
      (pss_cons (ps_if (pt_cmpR op_ne (pe_op op_mul (pv 4) (pe_callB call_len_str (by rfl) Z.L.N.len PySem.boot_len (pa_cons (pe_glob (v := .str "  ") rfl gI ⟨_, rfl⟩) pa_nil))) (pv 3) (nomark _)) (pss_one (ps_ret pe_bl)) pss_nil)
      (pss_cons (ps_if (pt_val (pe_fld (pv 0) rfl)) (pss_one (ps_ret (pe_and (pe_cmpR op_eq (pv 4) (pe_callB call_len_seq (by rfl) Z.L.N.len PySem.boot_len (pa_cons (pe_fld (pv 0) rfl) pa_nil)) (nomark _)) (pe_one (pe_meth (pv 0) Y.cl Y.m3.m G3 hr7 Y.m3.b .nil pass0 (pa_cons (pv 2) pa_nil)))))) pss_nil)
      (pss_cons (ps_if (pt_cmpR op_ge (pv 4) (pe_callB call_len_seq (by rfl) Z.L.N.len PySem.boot_len (pa_cons (pe_fld (pv 0) rfl) pa_nil)) (nomark _)) (pss_one (ps_ret pe_bl)) pss_nil)
      (pss_cons (ps_while PassesOwn.never (pt_cmpR op_lt (pv 4) (pe_op op_sub (pe_callB call_len_seq (by rfl) Z.L.N.len PySem.boot_len (pa_cons (pe_fld (pv 0) rfl) pa_nil)) pe_int) (nomark _)) (pss_one (ps_expr (pe_meth0 (pv 0) Y.cl Y.m6.m G6 hr8 Y.m6.b .nil pass0))))
      (pss_one (ps_ret (pe_meth (pv 0) Y.cl Y.m4.m G4 hr Y.m4.b .nil pass0 (pa_cons (pv 2) pa_nil)))))))))), ?_⟩
    have len1 : z.length ≤ sizeLine := by rw [sizeLine_eq]; have := hz.len; omega
    have lenr : (rs z).length ≤ 1000 := (rs_sub hz).len
    have ble := bl_le z
    obtain ⟨usm, uok⟩ := us_ok hz
    refine ⟨_, rfl, ⟨_, rfl⟩, _, _, rfl, rfl, len1, ⟨_, rfl⟩, _, _, rfl, rfl, by decide +kernel, ?_, ?_⟩
    · rw [lstrip_rs, sizeLine_eq]
      omega
    rw [lstrip_rs]
    intro q hq
    have une : usOf z ≠ [] := split_ne _
    show gName 2 _ _ _ _
    have s1 : Same H (upd H q (.lst ((usOf z).map V.str))) := same_new hq
    have e1 : upd H q (.lst ((usOf z).map V.str)) q = some (.lst ((usOf z).map V.str)) := upd_same
    change gName 2 (.ref q) _ (upd H q (.lst ((usOf z).map V.str))) _
    generalize upd H q (.lst ((usOf z).map V.str)) = H1 at s1 e1
    refine ⟨_, rfl, _, rfl, len1, _, rfl, ⟨_, rfl⟩, _, _, rfl, rfl, len1, _, rfl, ?_, _, _, rfl, rfl, ?_⟩
    · rw [lstrip_rs, sizeLine_eq]
      omega
    rw [lstrip_rs, len_rs]
    dsimp only
    have eb : ((z.length : Nat) : Int) - ((z.length - bl z : Nat) : Int) = ((bl z : Nat) : Int) := by omega
    rw [eb]
    refine ⟨_, rfl, _, rfl, by rw [two_len]; decide, _, _, rfl, rfl, by rw [two_len]; exact ⟨by decide, by decide⟩, ?_⟩
    rw [two_len]
    dsimp only
    have ed : (((bl z : Nat) : Int) / ((2 : Nat) : Int)) = ((bl z / 2 : Nat) : Int) := by omega
    rw [ed]
    have bsm : bl z ≤ 1000 := Nat.le_trans ble hz.len
    refine ⟨_, rfl, _, rfl, by rw [two_len]; decide, _, _, rfl, rfl, .inl ⟨by omega, by omega⟩, ?_⟩
    rw [two_len]
    dsimp only
    refine ⟨_, rfl, rfl, _, rfl, ?_⟩
    have hR1 := hR.same s1
    have k := k.up (Same.xx s1)
    by_cases ev : bl z % 2 = 0
    case neg =>
      have ne : ¬ (V.int (((bl z / 2 : Nat) : Int) * ((2 : Nat) : Int)) = V.int (bl z : Nat)) := fun e => by
        have e := V.int.inj e
        omega
      rw [decide_eq_false ne]
      have er : rdL z (ps, b) = none := by
        cases b with
        | true => exact if_neg (fun e => ev e.1)
        | false =>
          cases ps with
          | nil => rfl
          | cons p r => exact if_neg (fun e => ev e.1)
      rw [er] at k
      exact iteT (B := True) (k H1 fun _ _ _ _ e => e)
    have em : V.int (((bl z / 2 : Nat) : Int) * ((2 : Nat) : Int)) = V.int (bl z : Nat) := by
      congr 1
      omega
    rw [decide_eq_true em]
    refine iteF (A := True) ?_
    generalize hd : bl z / 2 = d at *
    cases b with
    | true =>
      obtain ⟨dx, a1⟩ := hR1.at_
      have l1 := hR1.ls
      have lw := hR1.pg.len
      refine ⟨_, rfl, a, CR, dx, _, _, rfl, a1, Y.cl, Y.n2, get_o _ _, _, rfl, iteT (B := True) ?_⟩
      refine ⟨_, rfl, _, rfl, a, CR, dx, _, _, rfl, a1, Y.cl, Y.n1, get_p _ _, l, _, rfl, .inl (SqL.of l1), rfl, _, rfl, ?_⟩
      have er : rdL z (ps, true) = if bl z % 2 = 0 ∧ bl z / 2 = ps.length then rdSrc (usOf z) ps else none := rfl
      rw [hd] at er
      refine dif (fun e => ?_) (fun e => ?_)
      · have e := V.int.inj e
        rw [List.length_reverse, lw] at e
        rw [er, if_pos ⟨ev, by omega⟩] at k
        refine ⟨_, rfl, a, dx, _, rfl, a1, rf_no (by decide +kernel) (by decide +kernel), _, rfl, ?_⟩
        exact ⟨a, l, q, ws, usOf z, ps, rfl, hR1, e1, few3 rfl, k⟩
      · rw [er, if_neg (fun e2 => e (by rw [List.length_reverse, lw, e2.2]))] at k
        exact k H1 fun _ _ _ _ e => e
    | false =>
      obtain ⟨p, r1, rfl, okr2⟩ := okr rfl
      obtain ⟨dx, a1⟩ := hR1.at_
      have l1 := hR1.ls
      have lw := hR1.pg.len
      rw [List.length_cons] at lw
      have er : rdL z (p :: r1, false) = if bl z % 2 = 0 ∧ bl z / 2 ≤ r1.length then rdStg (usOf z) (closeTo (bl z / 2) p r1).1 (closeTo (bl z / 2) p r1).2 else none := rfl
      rw [hd] at er
      refine ⟨_, rfl, a, CR, dx, _, _, rfl, a1, Y.cl, Y.n2, get_o _ _, _, rfl, iteF (A := True) ?_⟩
      refine ⟨_, rfl, _, rfl, a, CR, dx, _, _, rfl, a1, Y.cl, Y.n1, get_p _ _, l, _, rfl, .inl (SqL.of l1), _, _, rfl, rfl, _, rfl, ?_⟩
      refine dif (fun e => ?_) (fun e => ?_)
      · rw [List.length_reverse, lw] at e
        rw [er, if_neg (fun e2 => by omega)] at k
        exact k H1 fun _ _ _ _ e => e
      rw [List.length_reverse, lw] at e
      have dle : d ≤ r1.length := by omega
      rw [er, if_pos ⟨ev, dle⟩] at k
      have hqa : q ≠ a := fun z => by rw [z, a1] at e1; cases e1
      have hql : q ≠ l := fun z => by
        have hp := hR.ls
        rw [← z, hq] at hp
        cases hp
      refine ⟨fun m σ H' => ∃ (ws : List V) (p' : Pg) (r : List Pg), σ = [some (.ref a), some (.str z), some (.ref q), some (.int (bl z : Nat)), some (.int (d : Nat))] ∧ m = r.length ∧ Bxx a l H1 H' ∧ Rd8 K C CR H' a l ws (p' :: r) false ∧ okc p' r ∧ d ≤ r.length ∧ closeTo d p' r = closeTo d p r1,
        ⟨_, ws, p, r1, rfl, rfl, fun _ _ _ _ e => e, hR1, okr2, dle, rfl⟩, ?_⟩
      rintro m σ H2 ⟨ws2, p', r, rfl, rfl, bx2, hR2, ok2, dl2, ef⟩
      obtain ⟨dx2, a2⟩ := hR2.at_
      have l2 := hR2.ls
      have lw3 := hR2.pg.len
      rw [List.length_cons] at lw3
      refine ⟨_, rfl, _, rfl, a, CR, dx2, _, _, rfl, a2, Y.cl, Y.n1, get_p _ _, l, _, rfl, .inl (SqL.of l2), _, _, rfl, rfl, _, _, rfl, rfl, _, rfl, ?_⟩
      refine dif (fun zz => ?_) (fun zz => ?_)
      · rw [List.length_reverse, lw3] at zz
        cases r with
        | nil =>
          exact absurd zz (by simp <;> omega)
        | cons q1 r =>
          have lt : d < (q1 :: r).length := by omega
          have ok2 : (q1.then (.zip p')).ok ∧ okc (q1.then (.zip p')) r := ok2
          have ec : closeTo d p' (q1 :: r) = closeTo d (q1.then (.zip p')) r := if_pos lt
          refine ⟨fun σ' H' => ∃ m', m' < (q1 :: r).length ∧ ∃ (ws : List V) (p' : Pg) (r : List Pg), σ' = [some (.ref a), some (.str z), some (.ref q), some (.int (bl z : Nat)), some (.int (d : Nat))] ∧ m' = r.length ∧ Bxx a l H1 H' ∧ Rd8 K C CR H' a l ws (p' :: r) false ∧ okc p' r ∧ d ≤ r.length ∧ closeTo d p' r = closeTo d p r1, fun σ' H' h => h, ?_⟩
          cases ws2 with
          | nil => cases lw3
          | cons v1 ws2 =>
          cases ws2 with
          | nil =>
            rw [List.length_cons, List.length_cons] at lw3
            exact absurd lw3 (by simp <;> omega)
          | cons v2 ws2 =>
          refine ⟨_, rfl, a, dx2, _, rfl, a2, rf_no (by decide +kernel) (by decide +kernel), a, l, v1, v2, ws2, p', q1, r, false, rfl, hR2, ok2.1, fun v H' b' hR' => ?_⟩
          exact ⟨r.length, Nat.lt_succ_self _, v :: ws2, q1.then (.zip p'), r, rfl, rfl, bx2.trans b'.l, hR', ok2.2, by rw [List.length_cons] at lt; omega, by rw [← ec]; exact ef⟩
      · rw [List.length_reverse, lw3] at zz
        have ec : closeTo d p' r = (p', r) := by
          cases r with
          | nil => rfl
          | cons q1 r =>
            refine if_neg (fun lt => zz ?_)
            omega
        rw [← ef, ec] at k
        have eq2 := bx2 q _ hqa hql e1
        have k := k.up bx2
        cases ws2 with
        | nil => cases lw3
        | cons v1 ws2 =>
        refine ⟨_, rfl, a, dx2, _, rfl, a2, rf_no (by decide +kernel) (by decide +kernel), _, rfl, ?_⟩
        exact ⟨a, l, q, v1, ws2, usOf _, p', r, rfl, hR2, eq2, une, usm, uok, k⟩
end
end K81
set_option Elab.async false
set_option linter.all false
set_option maxRecDepth 100000
set_option maxHeartbeats 4000000
namespace K81
open PySem L2 VK
open TL (tl)
/-! ### what stands between the lines -/
theorem app_len : ∀ a b : Sgs, (a.app b).len = a.len + b.len
  | .nil, b => by show b.len = 0 + b.len; omega
  | .cons x r, b => by
    show (r.app b).len + 1 = r.len + 1 + b.len
    rw [app_len r b]
    omega
theorem app_ok : ∀ {a b : Sgs} {d : Int} {tk : List Str}, (a.app b).ok d tk → a.ok d tk ∧ b.ok (a.dep d) (tk ++ a.srcs)
  | .nil, b, d, tk, h => ⟨trivial, by show b.ok d (tk ++ []); rw [List.append_nil]; exact h⟩
  | .cons x r, b, d, tk, h => by
    have h : x.ok d tk ∧ (r.app b).ok (x.dep d) (tk ++ x.srcs) := h
    obtain ⟨h1, h2⟩ := app_ok h.2
    refine ⟨⟨h.1, h1⟩, ?_⟩
    show b.ok (r.dep (x.dep d)) (tk ++ (x.srcs ++ r.srcs))
    rw [← List.append_assoc]
    exact h2
theorem snoc_ok {l : Sgs} {x : Sg} {d : Int} {tk : List Str} (h : (l.snoc x).ok d tk) : l.ok d tk ∧ x.ok (l.dep d) (tk ++ l.srcs) := by
  rw [← app_nil (l.snoc x), snoc_app] at h
  obtain ⟨a, b⟩ := app_ok h
  exact ⟨a, (show x.ok _ _ ∧ _ from b).1⟩
theorem then_srcs (g : Pg) (x : Sg) : (g.then x).srcs = g.srcs ++ x.srcs := by
  obtain ⟨s, l⟩ := g
  show s :: (l.snoc x).srcs = s :: l.srcs ++ x.srcs
  rw [srcs_snoc]
  rfl
theorem then_zip {q g g' : Pg} (h : (q.then (.zip g)).ok) (ok' : g'.ok) (hs : ∀ t ∈ g'.srcs, t ∈ g.srcs ∨ t ∉ q.srcs) : (q.then (.zip g')).ok := by
  obtain ⟨s, l⟩ := q
  have h : s ∈ K0 ∧ (l.snoc (.zip g)).len ≤ 6 ∧ (l.snoc (.zip g)).ok 0 [s] := h
  obtain ⟨h0, h1, h2⟩ := h
  obtain ⟨h3, h4⟩ := snoc_ok h2
  have h4 : g.ok ∧ ∀ t ∈ g.srcs, t ∉ [s] ++ l.srcs := h4
  rw [len_snoc] at h1
  refine ⟨h0, by rw [len_snoc]; exact h1, ok_snoc h3 ⟨ok', fun t ht => ?_⟩⟩
  rcases hs t ht with a | a
  · exact h4.2 t a
  · exact a
theorem okc_srcs : ∀ {ps : List Pg} {g g' : Pg}, okc g ps → g'.ok → (∀ t ∈ g'.srcs, t ∈ g.srcs ∨ ∀ q ∈ ps, t ∉ q.srcs) → okc g' ps
  | [], _, _, _, _, _ => trivial
  | q :: ps, g, g', h, ok', hs => by
    have h : (q.then (.zip g)).ok ∧ okc (q.then (.zip g)) ps := h
    have ok2 : (q.then (.zip g')).ok := then_zip h.1 ok' fun t ht => (hs t ht).imp id fun a => a q List.mem_cons_self
    refine ⟨ok2, okc_srcs h.2 ok2 fun t ht => ?_⟩
    rw [then_srcs] at ht ⊢
    rcases List.mem_append.mp ht with a | a
    · exact .inl (List.mem_append_left _ a)
    · rcases hs t a with b | b
      · exact .inl (List.mem_append_right _ b)
      · exact .inr fun p hp => b p (List.mem_cons_of_mem _ hp)
theorem close_ok (d : Nat) : ∀ {r : List Pg} {p : Pg}, p.ok → okc p r → (closeTo d p r).1.ok ∧ okc (closeTo d p r).1 (closeTo d p r).2
  | [], p, h, o => ⟨h, trivial⟩
  | q :: r, p, h, o => by
    have o' : (q.then (.zip p)).ok ∧ okc (q.then (.zip p)) r := o
    by_cases lt : d < (q :: r).length
    · have e : closeTo d p (q :: r) = closeTo d (q.then (.zip p)) r := if_pos lt
      rw [e]
      exact close_ok d o'.1 o'.2
    · have e : closeTo d p (q :: r) = (p, q :: r) := if_neg lt
      rw [e]
      exact ⟨h, o⟩
/-- between two lines -/
def Inv8 : Stt → Prop
  | ([], b) => b = true
  | (p :: r, b) => p.ok ∧ okc p r ∧ (b = true → p.lenP < 6 ∧ free (p :: r) ≠ [])
theorem inv_stg {us : List Str} {g : Pg} {ps : List Pg} {st : Stt} (ok : g.ok) (o : okc g ps) (h : rdStg us g ps = some st) : Inv8 st := by
  unfold rdStg at h
  split at h
  · split at h
    · rename_i c
      cases h
      exact ⟨ok, o, fun _ => ⟨c.2, c.1⟩⟩
    · cases h
  · split at h
    · rename_i x e
      split at h
      · rename_i c
        cases h
        obtain ⟨vd, pl, _⟩ := stW_vd e
        have ok2 := canAt_ok ok vd pl c
        refine ⟨ok2, okc_srcs o ok2 fun t ht => ?_, fun z => by cases z⟩
        rw [then_srcs] at ht
        have e0 : x.srcs = [] := by
          cases x with
          | nm k n => rfl
          | num k n => rfl
          | flat => rfl
          | zip p => exact pl.elim
        rw [e0, List.append_nil] at ht
        exact .inl ht
      · cases h
    · cases h
theorem inv_src {us : List Str} {ps : List Pg} {st : Stt} (i : Inv8 (ps, true)) (h : rdSrc us ps = some st) : Inv8 st := by
  match us, h with
  | [], h => cases h
  | [_], h => cases h
  | _ :: _ :: _ :: _, h => cases h
  | [f, s], h =>
    have h : (if f = ("from" : Str) ∧ s ∈ free ps then some (Pg.mk s .nil :: ps, false) else none) = some st := h
    split at h
    · rename_i c
      cases h
      have k0 := (mem_free.mp c.2).1
      refine ⟨nil_ok k0, ?_, fun z => by cases z⟩
      cases ps with
      | nil => trivial
      | cons q ps =>
        have i : q.ok ∧ okc q ps ∧ (true = true → q.lenP < 6 ∧ free (q :: ps) ≠ []) := i
        have ok2 := zip_can i.1 c.2 (i.2.2 rfl).1
        refine ⟨ok2, okc_srcs i.2.1 ok2 fun t ht => ?_⟩
        rw [then_srcs] at ht
        rcases List.mem_append.mp ht with a | a
        · exact .inl a
        · have a : t ∈ [s] := a
          rw [List.mem_singleton.mp a]
          exact .inr fun p hp => (mem_free.mp c.2).2 p (List.mem_cons_of_mem _ hp)
    · cases h
theorem inv_line {z : Str} {st st' : Stt} (i : Inv8 st) (h : rdL z st = some st') : Inv8 st' := by
  obtain ⟨ps, b⟩ := st
  cases b with
  | true =>
    have h : (if bl z % 2 = 0 ∧ bl z / 2 = ps.length then rdSrc (usOf z) ps else none) = some st' := h
    split at h
    · exact inv_src i h
    · cases h
  | false =>
    cases ps with
    | nil => cases h
    | cons p r =>
      have i : p.ok ∧ okc p r ∧ (false = true → p.lenP < 6 ∧ free (p :: r) ≠ []) := i
      have h : (if bl z % 2 = 0 ∧ bl z / 2 ≤ r.length then rdStg (usOf z) (closeTo (bl z / 2) p r).1 (closeTo (bl z / 2) p r).2 else none) = some st' := h
      split at h
      · obtain ⟨c1, c2⟩ := close_ok (bl z / 2) i.1 i.2.1
        exact inv_stg c1 c2 h
      · cases h
theorem fin_ok : ∀ {r : List Pg} {p : Pg}, p.ok → okc p r → (fin p r).ok
  | [], p, h, _ => h
  | q :: r, p, _, o => fin_ok (r := r) o.1 o.2
theorem fin_len : ∀ (r : List Pg) (p : Pg), r.length + p.srcs.length ≤ (fin p r).srcs.length
  | [], p => by show 0 + p.srcs.length ≤ p.srcs.length; omega
  | q :: r, p => by
    have a := fin_len r (q.then (.zip p))
    rw [then_srcs, List.length_append] at a
    have e : (Sg.zip p).srcs = p.srcs := rfl
    rw [e] at a
    have q1 : 1 ≤ q.srcs.length := by
      obtain ⟨s, l⟩ := q
      show 1 ≤ (s :: l.srcs).length
      rw [List.length_cons]
      omega
    show (r.length + 1) + p.srcs.length ≤ (fin (q.then (.zip p)) r).srcs.length
    omega
theorem fin_mem : ∀ (r : List Pg) (p : Pg) {t : Str}, t ∈ (fin p r).srcs → ∃ q ∈ p :: r, t ∈ q.srcs
  | [], p, t, h => ⟨p, List.mem_cons_self, h⟩
  | q :: r, p, t, h => by
    obtain ⟨q1, h1, h2⟩ := fin_mem r (q.then (.zip p)) h
    rcases List.mem_cons.mp h1 with rfl | h1
    · rw [then_srcs] at h2
      rcases List.mem_append.mp h2 with a | a
      · exact ⟨q, List.mem_cons_of_mem _ List.mem_cons_self, a⟩
      · exact ⟨p, List.mem_cons_self, a⟩
    · exact ⟨q1, List.mem_cons_of_mem _ (List.mem_cons_of_mem _ h1), h2⟩
theorem inv_few {ps : List Pg} (i : Inv8 (ps, true)) (h : free ps ≠ []) : ps.length ≤ 3 := by
  cases ps with
  | nil => exact Nat.zero_le _
  | cons p r =>
    have i : p.ok ∧ okc p r ∧ (true = true → p.lenP < 6 ∧ free (p :: r) ≠ []) := i
    obtain ⟨s, hs⟩ := List.exists_mem_of_ne_nil _ h
    obtain ⟨k0, nf⟩ := mem_free.mp hs
    have ok := fin_ok i.1 i.2.1
    obtain ⟨nd, sub⟩ := Pg.fine _ ok
    have nin : s ∉ (fin p r).srcs := fun z => by
      obtain ⟨q, h1, h2⟩ := fin_mem r p z
      exact nf q h1 h2
    have a := nd_len (s :: (fin p r).srcs) K0 (List.nodup_cons.mpr ⟨nin, nd⟩) fun x hx => by
      rcases List.mem_cons.mp hx with rfl | hx
      · exact k0
      · exact sub x hx
    have b := fin_len r p
    have q1 : 1 ≤ p.srcs.length := by
      obtain ⟨s, l⟩ := p
      show 1 ≤ (s :: l.srcs).length
      rw [List.length_cons]
      omega
    rw [List.length_cons] at a
    have c : K0.length = 4 := rfl
    rw [List.length_cons]
    omega
theorem inv_open {ps : List Pg} (i : Inv8 (ps, false)) : ∃ p r, ps = p :: r ∧ okc p r := by
  cases ps with
  | nil => cases i
  | cons p r => exact ⟨p, r, rfl, i.2.1⟩
/-- all lines, from the n-th on -/
def rdF : List Str → Stt → Nat → Sum Nat Stt
  | [], st, _ => .inr st
  | z :: r, st, n => match rdL z st with
    | some st' => rdF r st' (n + 1)
    | none => .inl (n + 1)
theorem rdF_inv : ∀ {zs : List Str} {st st' : Stt} {n : Nat}, Inv8 st → rdF zs st n = .inr st' → Inv8 st'
  | [], st, st', n, i, h => by cases h; exact i
  | z :: r, st, st', n, i, h => by
    unfold rdF at h
    cases e : rdL z st with
    | some s2 =>
      rw [e] at h
      exact rdF_inv (inv_line i e) h
    | none =>
      rw [e] at h
      cases h
end K81
set_option Elab.async false
set_option linter.all false
set_option maxRecDepth 100000
set_option maxHeartbeats 4000000
namespace K81
open PySem L2 VK
open TL (tl)
abbrev sI7 : Stmt := inClass (top 7) 0
theorem scI7 : FnScope ["self", "line"] ["self", "line"] (defScope sI7) := ⟨rfl, rfl, rfl, by decide +kernel, rfl, by decide +kernel, by decide +kernel⟩
def spAll (K : Fg) (C CR : Addr) : Sp := fun vs H Q _ => ∃ (a l : Addr) (ws : List V) (p : Pg) (r : List Pg), vs = [.ref a] ∧ Rd8 K C CR H a l ws (p :: r) false ∧ okc p r ∧ ∀ (v : V) (H' : Hp), Bxx a l H H' → PgAt K C H' v (fin p r) → Q v H'
/-- the error of a text -/
def TextErr (CT : Addr) (H : Hp) (E : XK) (k : Nat) : Prop := ∀ (H' : Hp) (e : Addr), H e = none → Same H H' → H' e = some (.xd [("line", .int (k : Nat))]) → E (.ref CT) (some e) H'
/-- what becomes of lines -/
def Reads (K : Fg) (C CT : Addr) (H : Hp) (Q : VK) (E : XK) (n : Nat) : Sum Nat Stt → Prop
  | .inl k => TextErr CT H E k
  | .inr (_, true) => TextErr CT H E (n + 1)
  | .inr ([], false) => True
  | .inr (p :: r, false) => ∀ (v : V) (H' : Hp), Same H H' → PgAt K C H' v (fin p r) → Q v H'
def spRead (K : Fg) (C CT : Addr) : Sp := fun vs H Q E => ∃ v : V, vs = [v] ∧
  ((∃ z : Str, v = .str z ∧ z.length + 2 ≤ sizeLine ∧ (Txt.split z "\n").length ≤ 1000 ∧ (∀ l ∈ Txt.split z "\n", Ln l) ∧ Reads K C CT H Q E (Txt.split z "\n").length (rdF (Txt.split z "\n") ([], true) 0)) ∨
   (∃ t : String, TyX K H v (.type t) ∧ kitB t "str" = some false ∧ TextErr CT H E 1))
section
variable {P : Program} {w : World} {K : Fg} {mg : Str → Option Value} {base : Heap} {A I : Nat → Addr} {D J : Nat → FuncData} {aS a1 a2 C e0 CR CE f fT fF fW aN : Addr} {fd dT dF dW : FuncData} {R : Nat → Addr} {S : Nat → FuncData}
theorem ok_all (Y : Rc K mg CR R S) (Z : Lp K mg A I D J aS a1 a2 C e0) (M : Mt K C "then" "Program.then" sThen ["self", "stage"] fT dT) : FnOk P w K mg base CX0 9 (R 7) (S 7) ["self"] (spAll K C CR) := by
  have G6 : FnOk P w K mg base CX0 8 (R 6) (S 6) ["self"] (spClose K C CR) := ok_close Y Z M
  refine Y.m7.F.ok scAll (fun vs H Q E h => ?_) (fun cdv B outer s H vs Q E hr h => ?_)
  · obtain ⟨a, l, ws, p, r, rfl, _⟩ := h
    rfl
  · obtain ⟨a, l, ws, p, r1, rfl, hR, okr, k⟩ := h
    refine ⟨_, pss_cons (ps_while PassesOwn.never (pt_cmpR op_gt (pe_callB call_len_seq (by rfl) Z.L.N.len PySem.boot_len (pa_cons (pe_fld (pv 0) rfl) pa_nil)) pe_int (nomark _)) (pss_one (ps_expr (pe_meth0 (pv 0) Y.cl Y.m6.m G6 hr Y.m6.b .nil pass0))))
      (pss_one (ps_ret (pe_ix ix_list (pe_fld (pv 0) rfl) pe_int (fun _ _ => rfl)))), ?_⟩
    refine ⟨fun m σ H' => ∃ (ws : List V) (p' : Pg) (r : List Pg), σ = [some (.ref a)] ∧ m = r.length ∧ Bxx a l H H' ∧ Rd8 K C CR H' a l ws (p' :: r) false ∧ okc p' r ∧ fin p' r = fin p r1,
        ⟨_, ws, p, r1, rfl, rfl, fun _ _ _ _ e => e, hR, okr, rfl⟩, ?_⟩
    rintro m σ H2 ⟨ws2, p', r, rfl, rfl, bx2, hR2, ok2, ef⟩
    obtain ⟨dx2, a2⟩ := hR2.at_
    have l2 := hR2.ls
    have lw3 := hR2.pg.len
    rw [List.length_cons] at lw3
    refine ⟨_, rfl, a, CR, dx2, _, _, rfl, a2, Y.cl, Y.n1, get_p _ _, l, _, rfl, .inl (SqL.of l2), _, _, rfl, rfl, _, rfl, ?_⟩
    refine dif (fun z => ?_) (fun z => ?_)
    · rw [List.length_reverse, lw3] at z
      cases r with
      | nil => exact absurd z (by simp)
      | cons q1 r =>
        have ok2 : (q1.then (.zip p')).ok ∧ okc (q1.then (.zip p')) r := ok2
        refine ⟨fun σ' H' => ∃ m', m' < (q1 :: r).length ∧ ∃ (ws : List V) (p' : Pg) (r : List Pg), σ' = [some (.ref a)] ∧ m' = r.length ∧ Bxx a l H H' ∧ Rd8 K C CR H' a l ws (p' :: r) false ∧ okc p' r ∧ fin p' r = fin p r1, fun σ' H' h => h, ?_⟩
        cases ws2 with
        | nil => cases lw3
        | cons v1 ws2 =>
        cases ws2 with
        | nil =>
          rw [List.length_cons, List.length_cons] at lw3
          exact absurd lw3 (by simp)
        | cons v2 ws2 =>
        refine ⟨_, rfl, a, dx2, _, rfl, a2, rf_no (by decide +kernel) (by decide +kernel), a, l, v1, v2, ws2, p', q1, r, false, rfl, hR2, ok2.1, fun v H' b' hR' => ?_⟩
        exact ⟨r.length, Nat.lt_succ_self _, v :: ws2, q1.then (.zip p'), r, rfl, rfl, bx2.trans b'.l, hR', ok2.2, ef⟩
    · rw [List.length_reverse, lw3] at z
      cases r with
      | cons q1 r => exact absurd (by simp <;> omega) z
      | nil =>
      have ef : p' = fin p r1 := ef
      subst ef
      cases ws2 with
      | nil => cases lw3
      | cons v1 ws2 =>
      have hv : PgAt K C H2 v1 (fin p r1) := by
        have z := hR2.pg
        cases z with
        | cons h _ => exact h
      have e0 : ws2 = [] := by
        cases ws2 with
        | nil => rfl
        | cons _ _ => exact absurd lw3 (by simp)
      subst e0
      exact ⟨_, rfl, a, CR, dx2, _, _, rfl, a2, Y.cl, Y.n1, get_p _ _, l, _, _, v1, rfl, rfl, SqL.of l2, atI_nat (j := 0) rfl, k v1 H2 bx2 hv⟩
theorem Bxx.same {a l : Addr} {H H1 H' : Hp} (s : Same H H1) (b : Bxx a l H1 H') (ha : H a = none) (hl : H l = none) : Same H H' := fun c o e => b c o (ne_of_none e ha) (ne_of_none e hl) (s _ _ e)
theorem ok_i7 {CT IT : Addr} {JT : FuncData} (e7 : ErrC K mg "BadText" "BadText.__init__" "line" sI7 CT IT JT) : FnOk P w K mg base CX0 1 IT JT ["self", "line"] (spErr CT "line") := by
  refine e7.fn.ok scI7 (fun vs H Q E h => ?_) (fun cdv B outer s H vs Q E hr h => ?_)
  · obtain ⟨a, v, rfl, _⟩ := h
    rfl
  · obtain ⟨a, v, rfl, ha, k⟩ := h
    exact ⟨_, pss_one (ps_ost (pv 0) (pv 1)), _, rfl, _, rfl, a, _, rfl, e7.ox, e7.no, .inl ⟨ha, k⟩⟩
theorem TextErr.up {CT : Addr} {H H1 : Hp} {E : XK} {k : Nat} (s : Same H H1) (h : TextErr CT H E k) : TextErr CT H1 E k := fun H' e he s' e1 => h H' e (s.free he) (s.trans s') e1
theorem ok_read {CT IT : Addr} {JT : FuncData} (Y : Rc K mg CR R S) (Z : Lp K mg A I D J aS a1 a2 C e0) (hne : CR ≠ C) (M : Mt K C "then" "Program.then" sThen ["self", "stage"] fT dT) (DF : Df K mg "can_follow" sFollow ["program", "stage"] fF dF) (DW : Df K mg "stage_of_words" sWords ["words"] fW dW) (gE : mg "StreamError" = some (.ref CE)) (U : Nu K mg w aN)
    (kts : PySem.W.kitOne K (.type "str") (.ref C) = some false) (Xe : Ex K A CE) (ti : ∃ t, mg "INDENT" = some (.str "  " t)) (DR : Df K mg "read_program" sRead ["text"] f fd) (e7 : ErrC K mg "BadText" "BadText.__init__" "line" sI7 CT IT JT) :
    FnOk P w K mg base (L2.CX P w) 12 f fd ["text"] (spRead K C CT) := by
  have GL : FnOk P w K mg base CX0 11 (R 2) (S 2) ["self", "line"] (spRLine K C CR) := ok_rline Y Z hne M DF DW gE U kts Xe ti
  have GA : FnOk P w K mg base CX0 9 (R 7) (S 7) ["self"] (spAll K C CR) := ok_all Y Z M
  have GI : FnOk P w K mg base CX0 1 (R 0) (S 0) ["self"] (spRInit CR) := ok_rinit Y
  have G7 : FnOk P w K mg base CX0 1 IT JT ["self", "line"] (spErr CT "line") := ok_i7 e7
  refine DR.F.okX scRead (fun vs H Q E h => ?_) (fun cdv B outer s H vs Q E hr h => ?_)
  · obtain ⟨v, rfl, _⟩ := h
    rfl
  · obtain ⟨v, rfl, k⟩ := h
    have hr2 := hr.mono (show 2 ≤ 11 by decide)
    have hr9 := hr.mono (show 9 ≤ 11 by decide)
    refine ⟨_, pss_cons (ps_if (pt_not (pt_val (pe_callB call_isi (by rfl) Z.L.N.isi PyProof.Rows.boot_isinstance (pa_cons (pv 0) (pa_cons (pe_bltn (v := .ty "str") (by rfl) Z.L.N.str boot_str' rfl) pa_nil)))))
        (pss_one (ps_raise rfl (takes_of rfl rfl rfl rfl) (pmk_oex e7.ox e7.ini e7.tyI G7 hr2 e7.bd .nil pass0 rfl e7.g (pa_cons pe_int pa_nil)))) pss_nil)
      (pss_cons (ps_set (i := 1) scRead.nd rfl (Or.inl rfl) (pe_make0 Y.ky GI hr2 rfl Y.g Y.b0 .nil pass0))
      (pss_cons (ps_set (i := 2) scRead.nd rfl (Or.inl rfl) (pe_split (pv 0) pe_str))
      (pss_cons (ps_for (passes_of rfl) rfl (pi_enumA (by rfl) Z.L.N.enm (pa_cons (pv 2) pa_nil)) (pg_tup rfl (pgs_cons (pg_name (i := 3) scRead.nd rfl (Or.inl rfl)) (pgs_cons (pg_name (i := 4) scRead.nd rfl (Or.inl rfl)) pgs_nil)))
        (pss_one (ps_if (pt_not (pt_val (pe_meth (pv 1) Y.cl Y.m2.m GL hr Y.m2.b .nil pass0 (pa_cons (pv 4) pa_nil))))
          (pss_one (ps_raise rfl (takes_of rfl rfl rfl rfl) (pmk_oex e7.ox e7.ini e7.tyI G7 hr2 e7.bd .nil pass0 rfl e7.g (pa_cons (pe_op op_add (pv 3) pe_int) pa_nil)))) pss_nil)))
      (pss_cons (ps_if (pt_val (pe_fld (pv 1) rfl))
          (pss_one (ps_raise rfl (takes_of rfl rfl rfl rfl) (pmk_oex e7.ox e7.ini e7.tyI G7 hr2 e7.bd .nil pass0 rfl e7.g (pa_cons (pe_op op_add (pe_callB call_len_seq (by rfl) Z.L.N.len PySem.boot_len (pa_cons (pv 2) pa_nil)) pe_int) pa_nil)))) pss_nil)
      (pss_one (ps_ret (pe_meth0 (pv 1) Y.cl Y.m7.m GA hr9 Y.m7.b .nil pass0))))))), ?_⟩
    rcases k with ⟨z, rfl, zl, znum, zln, k⟩ | ⟨t, ty, kb, k⟩
    case inr =>
      refine ⟨_, rfl, v, .ty "str", .type t, .type "str", false, rfl, .ty _, ty, kit_ty kb, _, rfl, iteT (B := True) ?_⟩
      exact ⟨by show 1 ≤ 1000; decide, fun a ha => read_raise (R := fun e H' => E (.ref CT) (some e) H') (fun e H' he s2 e2 => k H' e he s2 e2) a ha⟩
    refine ⟨_, rfl, .str z, .ty "str", .type "str", .type "str", true, rfl, .ty _, .base (.str _), kit_ty (by decide +kernel), _, rfl, iteF (A := True) ?_⟩
    dsimp only [tNil]
    intro x dx hx hdx hne2
    have s1 : Same H (upd (upd H dx (.own x)) x (.ins CR dx [])) := same_mk hx hdx
    refine ⟨x, dx, rfl, upd_same, fun l H1 hl b1 e1 el => ⟨rfl, ?_⟩⟩
    have hlH : H l = none := s1.free hl
    have sH1 : Same H H1 := fun c o e => b1 _ _ (ne_of_none e hx) (s1 _ _ e)
    have hR1 : Rd8 K C CR H1 x l [] [] true := ⟨⟨dx, e1⟩, el, .nil, by decide, fun _ h => by cases h⟩
    clear s1 b1 e1 el hl
    refine ⟨_, rfl, ⟨_, rfl⟩, _, _, rfl, rfl, by decide +kernel, zl, ?_⟩
    generalize hts : Txt.split z "\n" = ts at *
    intro q hq
    have s2 : Same H1 (upd H1 q (.lst (ts.map V.str))) := same_new hq
    have e2 : upd H1 q (.lst (ts.map V.str)) q = some (.lst (ts.map V.str)) := upd_same
    generalize upd H1 q (.lst (ts.map V.str)) = H2 at s2 e2
    have hR2 := hR1.same s2
    have hqx : q ≠ x := fun z => by
      obtain ⟨dx, e⟩ := hR2.at_
      rw [← z, e2] at e
      cases e
    have hql : q ≠ l := fun z => by
      have e := hR1.ls
      rw [← z, hq] at e
      cases e
    have sH2 : Same H H2 := sH1.trans s2
    refine ⟨_, rfl, q, _, rfl, _, .inl ⟨SqL.of e2, rfl⟩, ?_⟩
    refine for_it (walk_enum (xs := ts.map V.str)) (fun i σ H' => ∃ (ws : List V) (st : Stt) (v3 v4 : Option V), σ = [some (.str z), some (.ref x), some (.ref q), v3, v4] ∧ Bxx x l H2 H' ∧ Rd8 K C CR H' x l ws st.1 st.2 ∧ Inv8 st ∧ rdF ts ([], true) 0 = rdF (ts.drop i) st i)
      ⟨[], ([], true), none, none, rfl, fun _ _ _ _ e => e, hR2, rfl, rfl⟩ (fun i σ H' _ z => ?_) ?_ ?_
    · obtain ⟨_, _, _, _, _, b, _⟩ := z
      exact SqL.of (b q _ hqx hql e2)
    · rintro i y σ H3 H4 hi ⟨ws, st, v3, v4, rfl, bx3, hR3, iv, rn⟩ ⟨T, a, b, rfl, hT, rfl, ea, eb⟩
      have ea' : V.int (i : Nat) = a := Option.some.inj ea
      subst ea'
      obtain ⟨u, htk, rfl⟩ := map_get eb
      have hi2 : i < ts.length := (List.getElem?_eq_some_iff.mp htk).1
      have hd : ts.drop i = u :: ts.drop (i + 1) := by
        rw [List.drop_eq_getElem_cons hi2]
        rw [List.getElem?_eq_getElem hi2] at htk
        rw [Option.some.inj htk]
      rw [hd] at rn
      have s4 : Same H3 (upd H3 T (.tup [.int (i : Nat), .str u])) := same_new hT
      refine ⟨T, _, rfl, .inl (.inl upd_same), rfl, _, _, rfl, _, _, rfl, rfl, ?_⟩
      generalize upd H3 T (.tup [.int (i : Nat), .str u]) = H4 at s4
      have hR4 := hR3.same s4
      obtain ⟨dx4, a4⟩ := hR4.at_
      refine ⟨_, rfl, x, dx4, _, rfl, a4, rf_no (by decide +kernel) (by decide +kernel), _, rfl, ?_⟩
      dsimp only [tNil]
      obtain ⟨ps, bb⟩ := st
      refine ⟨x, l, ws, u, ps, bb, rfl, zln u (List.mem_of_getElem? htk), hR4, fun e => by subst e; exact inv_few iv, fun e => by subst e; exact inv_open iv, ?_⟩
      have un : rdF (u :: ts.drop (i + 1)) (ps, bb) i = match rdL u (ps, bb) with
        | some st' => rdF (ts.drop (i + 1)) st' (i + 1)
        | none => .inl (i + 1) := rfl
      cases er : rdL u (ps, bb) with
      | some st' =>
        rw [er] at un
        intro ws5 H5 b5 hR5
        refine ⟨_, rfl, iteF (A := True) ?_⟩
        exact ⟨ws5, st', _, _, rfl, (bx3.trans (Same.xx s4)).trans b5, hR5, inv_line iv er, rn.trans un⟩
      | none =>
        rw [er] at un
        intro H5 b5
        refine ⟨_, rfl, iteT (B := True) ?_⟩
        have sH5 : Same H H5 := ((bx3.trans (Same.xx s4)).trans b5).same sH2 hx hlH
        rw [rn, un] at k
        refine ⟨_, rfl, _, _, rfl, rfl, by show 1 ≤ 1000; decide, fun a ha => read_raise (R := fun e H' => E (.ref CT) (some e) H') (fun e H' he s2 e2 => ?_) a ha⟩
        exact (TextErr.up sH5 k) H' e he s2 e2
    · rintro σ H3 ⟨ws, st, v3, v4, rfl, bx3, hR3, iv, rn⟩
      rw [List.length_map, List.drop_length] at rn
      have rn : rdF ts ([], true) 0 = .inr st := rn
      rw [rn] at k
      obtain ⟨ps, bb⟩ := st
      obtain ⟨dx3, a3⟩ := hR3.at_
      have sH3 : Same H H3 := bx3.same sH2 hx hlH
      refine ⟨_, rfl, x, CR, dx3, _, _, rfl, a3, Y.cl, Y.n2, get_o _ _, _, rfl, ?_⟩
      cases bb with
      | true =>
        refine iteT (B := True) ?_
        have e3 := bx3 q _ hqx hql e2
        have k : TextErr CT H E (ts.length + 1) := k
        refine ⟨_, rfl, q, _, rfl, .inl (SqL.of e3), _, _, rfl, rfl, by show 1 ≤ 1000; decide, fun a ha => read_raise (R := fun e H' => E (.ref CT) (some e) H') (fun e H' he s2 e2 => ?_) a ha⟩
        refine (TextErr.up sH3 k) H' e he s2 ?_
        rw [e2, List.length_map]
        rfl
      | false =>
        refine iteF (A := True) ?_
        obtain ⟨p, r, rfl, okr⟩ := inv_open iv
        refine ⟨_, rfl, x, dx3, _, rfl, a3, rf_no (by decide +kernel) (by decide +kernel), x, l, ws, p, r, rfl, hR3, okr, fun v H4 b4 hv => ?_⟩
        exact k v H4 ((bx3.trans b4).same sH2 hx hlH) hv
end
end K81
set_option Elab.async false
set_option linter.all false
set_option maxRecDepth 100000
set_option maxHeartbeats 4000000
namespace K81
open PySem L2 VK
open TL (tl)
/-! ### what is read has the text -/
theorem snoc_lines : ∀ (l : Sgs) (x : Sg), (l.snoc x).lines = l.lines ++ x.lines
  | .nil, x => by
    show x.lines ++ [] = [] ++ x.lines
    rw [List.append_nil]
    rfl
  | .cons y r, x => by
    show y.lines ++ (r.snoc x).lines = (y.lines ++ r.lines) ++ x.lines
    rw [snoc_lines r x, List.append_assoc]
theorem then_lines (g : Pg) (x : Sg) : (g.then x).lines = g.lines ++ x.lines := by
  obtain ⟨s, l⟩ := g
  show _ :: (l.snoc x).lines = _ :: l.lines ++ x.lines
  rw [snoc_lines]
  rfl
theorem fin_lines : ∀ (r : List Pg) {p p' : Pg} {L : List Str}, p'.lines = p.lines ++ L → (fin p' r).lines = (fin p r).lines ++ L.map (ind r.length)
  | [], p, p', L, h => by
    show p'.lines = p.lines ++ L.map (fun x => x)
    rw [List.map_id']
    exact h
  | q :: r, p, p', L, h => by
    have e : (q.then (.zip p')).lines = (q.then (.zip p)).lines ++ L.map fun l => ("  " : Str) ++ l := by
      rw [then_lines, then_lines]
      have e1 : (Sg.zip p').lines = ("zip" : Str) :: p'.lines.map fun l => ("  " : Str) ++ l := rfl
      have e2 : (Sg.zip p).lines = ("zip" : Str) :: p.lines.map fun l => ("  " : Str) ++ l := rfl
      rw [e1, e2, h, List.map_append, ← List.cons_append, List.append_assoc]
    have z := fin_lines r e
    show (fin (q.then (.zip p')) r).lines = (fin (q.then (.zip p)) r).lines ++ L.map (ind (r.length + 1))
    rw [z, ind_map]
theorem close_fin (d : Nat) : ∀ (r : List Pg) (p : Pg), fin (closeTo d p r).1 (closeTo d p r).2 = fin p r
  | [], p => rfl
  | q :: r, p => by
    by_cases lt : d < (q :: r).length
    · have e : closeTo d p (q :: r) = closeTo d (q.then (.zip p)) r := if_pos lt
      rw [e]
      exact close_fin d r (q.then (.zip p))
    · have e : closeTo d p (q :: r) = (p, q :: r) := if_neg lt
      rw [e]
theorem close_len (d : Nat) : ∀ (r : List Pg) (p : Pg), d ≤ r.length → (closeTo d p r).2.length = d
  | [], p, h => by
    have : d = 0 := Nat.le_zero.mp h
    rw [this]
    rfl
  | q :: r, p, h => by
    by_cases lt : d < (q :: r).length
    · have e : closeTo d p (q :: r) = closeTo d (q.then (.zip p)) r := if_pos lt
      rw [e]
      rw [List.length_cons] at lt
      exact close_len d r _ (by omega)
    · have e : closeTo d p (q :: r) = (p, q :: r) := if_neg lt
      rw [e]
      show (q :: r).length = d
      omega
theorem rs_join (z : Str) : Txt.join " " (usOf z) = rs z := by
  rw [TL.join_eq]
  exact PySem.StrLaws.join_split (rs z) " "
theorem takeW_rep : ∀ l : List Nat, l.takeWhile (fun c => c == 32) = List.replicate (l.takeWhile (fun c => c == 32)).length 32
  | [] => rfl
  | c :: r => by
    rw [List.takeWhile_cons]
    by_cases h : c = 32
    · have h' : (c == 32) = true := by rw [h]; rfl
      rw [h']
      show c :: r.takeWhile (fun c => c == 32) = List.replicate ((r.takeWhile (fun c => c == 32)).length + 1) 32
      rw [List.replicate_succ, ← takeW_rep r, h]
    · have h' : (c == 32) = false := beq_false_of_ne h
      rw [h']
      rfl
theorem line_eq {z : Str} (h : bl z % 2 = 0) : z = ind (bl z / 2) (rs z) := by
  refine TL.ext_tl ?_
  rw [tl_ind]
  have e1 : 2 * (bl z / 2) = bl z := by omega
  rw [e1]
  have e2 : tl z = (tl z).takeWhile (fun c => c == 32) ++ (tl z).drop (bl z) := takeW_all (tl z)
  have e3 : tl (rs z) = (tl z).drop (bl z) := rfl
  rw [e3]
  conv => lhs; rw [e2]
  congr 1
  exact takeW_rep (tl z)
def tLines : Stt → List Str
  | ([], _) => []
  | (p :: r, false) => (fin p r).lines
  | (p :: r, true) => (fin p r).lines ++ [ind r.length "zip"]
theorem plain_lines {x : Sg} (h : x.plain) : x.lines = [Txt.join " " x.words] := by
  cases x with
  | nm k n => rfl
  | num k n => rfl
  | flat => rfl
  | zip p => exact h.elim
theorem line_text {z : Str} {st st' : Stt} (h : rdL z st = some st') : tLines st' = tLines st ++ [z] := by
  obtain ⟨ps, b⟩ := st
  cases b with
  | true =>
    have h : (if bl z % 2 = 0 ∧ bl z / 2 = ps.length then rdSrc (usOf z) ps else none) = some st' := h
    split at h
    case isFalse => cases h
    rename_i c
    have ez := line_eq c.1
    rw [c.2, ← rs_join] at ez
    match hu : usOf z, h with
    | [], h => cases h
    | [_], h => cases h
    | _ :: _ :: _ :: _, h => cases h
    | [f, s], h =>
      have h : (if f = ("from" : Str) ∧ s ∈ free ps then some (Pg.mk s .nil :: ps, false) else none) = some st' := h
      split at h
      case isFalse => cases h
      rename_i c2
      cases h
      rw [hu, c2.1, ← from_eq] at ez
      cases ps with
      | nil =>
        show [("from " : Str) ++ s] = [] ++ [z]
        rw [ez]
        rfl
      | cons q r =>
        have e : (q.then (.zip (.mk s .nil))).lines = q.lines ++ [("zip" : Str), ("  " : Str) ++ (("from " : Str) ++ s)] := then_lines _ _
        have f := fin_lines r e
        show (fin (q.then (.zip (.mk s .nil))) r).lines = ((fin q r).lines ++ [ind r.length "zip"]) ++ [z]
        rw [f, ez, List.append_assoc]
        rfl
  | false =>
    cases ps with
    | nil => cases h
    | cons p r =>
      have h : (if bl z % 2 = 0 ∧ bl z / 2 ≤ r.length then rdStg (usOf z) (closeTo (bl z / 2) p r).1 (closeTo (bl z / 2) p r).2 else none) = some st' := h
      split at h
      case isFalse => cases h
      rename_i c
      have ez := line_eq c.1
      rw [← rs_join] at ez
      have cl := close_len (bl z / 2) r p c.2
      have cf := close_fin (bl z / 2) r p
      generalize closeTo (bl z / 2) p r = gB at h cl cf
      obtain ⟨g, B⟩ := gB
      have cl : B.length = bl z / 2 := cl
      have cf : fin g B = fin p r := cf
      show tLines st' = (fin p r).lines ++ [z]
      rw [← cf]
      have h : rdStg (usOf z) g B = some st' := h
      unfold rdStg at h
      split at h
      · rename_i eu
        split at h
        case isFalse => cases h
        cases h
        show (fin g B).lines ++ [ind B.length "zip"] = _
        rw [cl, ez, eu, join_one]
        congr 3
        rw [← join_one "zip", ← eu, ← ez]
      · split at h
        case h_2 => cases h
        rename_i x e
        split at h
        case isFalse => cases h
        cases h
        obtain ⟨vd, pl, ew⟩ := stW_vd e
        have f := fin_lines B (then_lines g x)
        show (fin (g.then x) B).lines = _
        rw [f, plain_lines pl, ← ew, cl]
        show _ ++ [ind (bl z / 2) (Txt.join " " (usOf z))] = _
        rw [← ez]
theorem rdF_text : ∀ {zs : List Str} {st st' : Stt} {n : Nat}, rdF zs st n = .inr st' → tLines st' = tLines st ++ zs
  | [], st, st', n, h => by cases h; rw [List.append_nil]
  | z :: r, st, st', n, h => by
    unfold rdF at h
    cases e : rdL z st with
    | some s2 =>
      rw [e] at h
      rw [rdF_text h, line_text e, List.append_assoc]
      rfl
    | none =>
      rw [e] at h
      cases h
end K81
set_option Elab.async false
set_option linter.all false
set_option maxRecDepth 100000
set_option maxHeartbeats 4000000
/-! xs == [], whatever stands in xs -/
namespace VK
open PySem PySem.Spec PyProof.Rows L2
def rEqNil (K : PySem.W.Frag) : R2 := fun x y H Q => ∃ (a b : Addr) (xs : List V), x = .ref a ∧ y = .ref b ∧ SqL K H a xs ∧ SqL K H b [] ∧ Q (.bl xs.isEmpty) H
theorem op_eqNil {X : Cx} (hu : X.A.units + 64 < cLine) : OpR X (compareOp .Eq) (rEqNil X.K) := by
  intro pins s σ H x y v u Q I rx ry hq
  obtain ⟨a, b, xs, rfl, rfl, ha, hb, q⟩ := hq
  cases rx
  cases ry
  obtain ⟨us, r1, p1, _⟩ := I.list ha
  obtain ⟨vs, r2, p2, _⟩ := I.list hb
  have l1 := r1.length
  have l2 := r2.length
  have un : X.A.units < cLine := by omega
  have z2 : vs.toArray.size = 0 := by rw [List.size_toArray, ← l2]; rfl
  show wpAny (model X.prog X.w) X.A (richCompare .Eq (.ref a) (.ref b)) _ _ _
  cases xs with
  | nil =>
    have z1 : us.toArray.size = 0 := by rw [List.size_toArray, ← l1]; rfl
    have c := SeqAt.RcAt.lists (A := X.A) (e := fun _ => true) p1.isList p2.isList (z1.trans z2.symm) un (fun j h1 h2 => absurd h1 (by omega))
    rw [z1] at c
    exact c X.prog X.w X.xe _ ⟨.bl true, H, I, rfl, q⟩
  | cons x r =>
    have z1 : us.toArray.size = r.length + 1 := by rw [List.size_toArray, ← l1]; rfl
    exact SeqAt.RcAt.lists_lengths (A := X.A) p1.isList p2.isList (by rw [z1, z2]; rfl) un X.prog X.w X.xe _ ⟨.bl false, H, I, rfl, q⟩
end VK
set_option Elab.async false
set_option linter.all false
set_option maxRecDepth 100000
set_option maxHeartbeats 4000000
/-! a text times a number -/
namespace VK
open PySem PySem.Spec PyProof.Rows L2
def repS (z : Str) (n : Nat) : Str := ⟨(List.replicate n z.cps.toList).flatten.toArray⟩
theorem tl_repS (z : Str) (n : Nat) : TL.tl (repS z n) = (List.replicate n (TL.tl z)).flatten := rfl
theorem foldl_app : ∀ (l : List (Array Nat)) (a : Array Nat), (l.foldl (· ++ ·) a).toList = a.toList ++ (l.map Array.toList).flatten
  | [], a => by simp
  | x :: r, a => by
    rw [List.foldl_cons, foldl_app r, Array.toList_append, List.map_cons, List.flatten_cons, List.append_assoc]
theorem op_mulS {X : Cx} : OpR X (binaryOp .Mult) (fun x y H Q => ∃ (z : Str) (n : Nat), x = .str z ∧ y = .int (n : Nat) ∧ n ≤ 1000 ∧ z.length ≤ 1000 ∧ Q (.str (repS z n)) H) := by
  intro pins s σ H x y v u Q I rx ry h
  obtain ⟨z, n, rfl, rfl, hn, hz, q⟩ := h
  obtain ⟨t, rfl⟩ := rx
  obtain ⟨t', rfl⟩ := ry
  have lr : (repS z n).length = z.length * n := by
    rw [TL.len_tl, tl_repS, List.length_flatten, List.map_replicate, List.sum_replicate_nat, ← TL.len_tl, Nat.mul_comm]
  have big : z.length * n ≤ 1000000 := Nat.mul_le_mul hz hn
  refine PySem.P.mul_str ?_ (fun h1 _ => ?_) (fun h1 _ => ?_) ?_
  · have h1 : ¬ ((n : Int) < -(2 ^ 63 : Int)) := by omega
    have h2 : ¬ ((n : Int) ≥ 2 ^ 63) := by omega
    rw [decide_eq_false h1, decide_eq_false h2]
    rfl
  · have : (2 ^ 63 - 1 : Int) / (n : Int) ≥ 1000 := by
      apply Int.le_ediv_of_mul_le (by omega)
      omega
    omega
  · show PySem.Builtin.Str.tooLong (z.length * (n : Int).toNat) = false
    rw [Int.toNat_natCast]
    unfold PySem.Builtin.Str.tooLong
    rw [decide_eq_false]
    rw [sizeLine_eq]
    omega
  · by_cases h0 : (n : Int) < 1
    · rw [if_pos h0]
      have e : n = 0 := by omega
      subst e
      refine ⟨by decide, ?_⟩
      exact ⟨.str Str.empty, H, I.tok _, ⟨_, rfl⟩, q⟩
    · rw [if_neg h0]
      by_cases h1 : ((n : Int) == 1 || z.length == 0) = true
      · rw [if_pos h1]
        have e : repS z n = z := by
          refine TL.ext_tl ?_
          rw [tl_repS]
          rw [Bool.or_eq_true, beq_iff_eq, beq_iff_eq] at h1
          rcases h1 with h1 | h1
          · have e : n = 1 := by omega
            subst e
            simp
          · have e0 : TL.tl z = [] := by
              rw [TL.len_tl] at h1
              exact List.length_eq_zero_iff.mp h1
            rw [e0]
            simp
        rw [e] at q
        exact ⟨.str z, H, I.tok _, ⟨_, rfl⟩, q⟩
      · rw [if_neg h1, Int.toNat_natCast]
        have e : (⟨(List.replicate n z.cps).foldl (· ++ ·) #[]⟩ : Str) = repS z n := by
          refine TL.ext_tl ?_
          show ((List.replicate n z.cps).foldl (· ++ ·) #[]).toList = _
          rw [foldl_app, List.map_replicate]
          rfl
        rw [e]
        refine ⟨?_, ?_⟩
        · rw [lr, sizeLine_eq]
          omega
        · exact ⟨.str _, H, I.tok _, ⟨_, rfl⟩, q⟩
end VK
set_option Elab.async false
set_option linter.all false
set_option maxRecDepth 100000
set_option maxHeartbeats 4000000
namespace K81
open PySem L2 VK
open TL (tl)
abbrev sSO : Stmt := top 46
theorem scSO : FnScope ["line", "words", "is_fine", "sign"] ["line"] (defScope sSO) := ⟨rfl, rfl, rfl, by decide +kernel, rfl, by decide +kernel, by decide +kernel⟩
/-- the stage that a line writes, in the law's words -/
inductive PSt (K : Fg) (H : Hp) (v : V) (us : List Str) : Prop where
  | st {x : Sg} (e : stW us = some x) (h : PsV K H v x) : PSt K H v us
  | no (e : stW us = none) (h : v = .non) : PSt K H v us
def spSO (K : Fg) : Sp := fun vs H Q _ => ∃ z : Str, vs = [.str z] ∧ Ln z ∧ ∀ (v : V) (H' : Hp), Same H H' → PSt K H' v (Txt.split z " ") → Q v H'
def abc : Str := "abcdefghijklmnopqrstuvwxyz"
theorem abc_mem (c : Nat) : c ∈ tl abc ↔ 97 ≤ c ∧ c ≤ 122 := by
  have e : tl abc = (List.range 26).map (fun i => 97 + i) := by decide +kernel
  rw [e, List.mem_map]
  constructor
  · rintro ⟨i, hi, rfl⟩
    have := List.mem_range.mp hi
    omega
  · rintro ⟨h1, h2⟩
    exact ⟨c - 97, List.mem_range.mpr (by omega), by omega⟩
theorem split_flat : Txt.split "flat" " " = [("flat" : Str)] := by
  have := split_words (wd_one fr_flat)
  rw [join_one] at this
  exact this
section
variable {P : Program} {w : World} {K : Fg} {mg : Str → Option Value} {base : Heap} {f : Addr} {fd : FuncData}
theorem ok_so (DS : Df K mg "_law_stage_of" sSO ["line"] f fd) (N : Nm mg) : FnOk P w K mg base CX0 1 f fd ["line"] (spSO K) := by
  refine DS.F.ok scSO (fun vs H Q E h => ?_) (fun cdv B outer s H vs Q E hr h => ?_)
  · obtain ⟨z, rfl, _⟩ := h
    rfl
  · obtain ⟨z, rfl, hz, k⟩ := h
    refine ⟨_, pss_cons (ps_set (i := 1) scSO.nd rfl (Or.inl rfl) (pe_split (pv 0) pe_str))
      (pss_cons (ps_if (pt_cmpR op_eq (pv 0) pe_str (nomark _)) (pss_one (ps_ret (pe_tup (pa_cons pe_str pa_nil)))) pss_nil)
      (pss_cons (ps_if (PW.pt (pw_or (pt_cmpR op_ne (pe_callB call_len_seq (by rfl) N.len PySem.boot_len (pa_cons (pv 1) pa_nil)) pe_int (nomark _)) (pw_or1 (pt_cmpR op_notIn_seq (pe_ix ix_list (pv 1) pe_int (fun _ _ => rfl))
          (pe_tup (pa_cons pe_str (pa_cons pe_str (pa_cons pe_str (pa_cons pe_str (pa_cons pe_str (pa_cons pe_str (pa_cons pe_str (pa_cons pe_str pa_nil))))))))) rfl)))) (pss_one (ps_ret pe_non)) pss_nil)
      (pss_cons (ps_if (pt_cmpR op_in_seq (pe_ix ix_list (pv 1) pe_int (fun _ _ => rfl)) (pe_tup (pa_cons pe_str (pa_cons pe_str (pa_cons pe_str (pa_cons pe_str pa_nil))))) rfl)
        (pss_one (ps_ret (pe_ifExp (pt_cmpR op_in_seq (pe_ix ix_list (pv 1) pe_int (fun _ _ => rfl)) (pe_tup (pa_cons pe_str (pa_cons pe_str (pa_cons pe_str (pa_cons pe_str pa_nil))))) rfl)
          (pe_tup (pa_cons (pe_ix ix_list (pv 1) pe_int (fun _ _ => rfl)) (pa_cons (pe_callTy call_int_str (by rfl) N.int PyProof.Rows.boot_int (pa_cons (pe_ix ix_list (pv 1) pe_int (fun _ _ => rfl)) pa_nil)) pa_nil))) pe_non))) pss_nil)
      (pss_cons (ps_set (i := 2) scSO.nd rfl (Or.inl rfl) (pe_and (pe_chain op_le op_le pe_int (pe_callB call_len_str (by rfl) N.len PySem.boot_len (pa_cons (pe_ix ix_list (pv 1) pe_int (fun _ _ => rfl)) pa_nil)) pe_int) (pe_one (pe_cmpR (op_eqNil hr.units)
          (pe_lc (own := [("sign", 3)]) (g := gName 3) (tt := tTest (tOp (fun x y H Q => ∃ (c : Nat) (z : Str), x = .str ⟨#[c]⟩ ∧ y = .str z ∧ Q (.bl (!decide (c ∈ z.cps.toList))) H) (tVar 3) (tC (.str abc)))) (te := tVar 3) rfl scSO.nd (pi_str (pe_ix ix_list (pv 1) pe_int (fun _ _ => rfl)))
            (blkOk_by (N := ["line", "words", "is_fine", "sign"]) (sc := defScope sSO) (by decide +kernel)) (fun _ _ _ _ _ => pg_name (i := 3) scSO.nd rfl (Or.inl rfl)) (fun _ _ _ _ _ => by exact pts_one (pt_cmpR op_notIn_sign (pv 3) pe_str rfl)) (fun _ _ _ _ _ => by exact pv 3))
          (pe_lst pa_nil) (nomark _)))))
      (pss_one (ps_ret (pe_ifExp (pt_val (pv 2)) (pe_tup (pa_cons (pe_ix ix_list (pv 1) pe_int (fun _ _ => rfl)) (pa_cons (pe_ix ix_list (pv 1) pe_int (fun _ _ => rfl)) pa_nil))) pe_non))))))), ?_⟩
    have zl : z.length ≤ sizeLine := by rw [sizeLine_eq]; have := hz.len; omega
    refine ⟨_, rfl, ⟨_, rfl⟩, _, _, rfl, rfl, by decide +kernel, by rw [sizeLine_eq]; have := hz.len; omega, ?_⟩
    intro q hq
    have jn : Str.join " " (Txt.split z " ") = z := PySem.StrLaws.join_split z " "
    have usl : ∀ u ∈ Txt.split z " ", u.length ≤ 1000 ∧ ∀ c ∈ tl u, c < 1000 := fun u hu => by
      have m := join_mem hu " "
      rw [jn] at m
      exact ⟨Nat.le_trans m.1 hz.len, fun c hc => hz.sm c (m.2 c hc)⟩
    have fl : z = "flat" → Txt.split z " " = [("flat" : Str)] := fun e => by rw [e]; exact split_flat
    have fl2 : ∀ u, Txt.split z " " = [u] → z = u := fun u e => by
      rw [e] at jn
      exact jn.symm
    generalize Txt.split z " " = us at *
    have s1 : Same H (upd H q (.lst (us.map V.str))) := same_new hq
    have e1 : upd H q (.lst (us.map V.str)) q = some (.lst (us.map V.str)) := upd_same
    generalize upd H q (.lst (us.map V.str)) = H1 at s1 e1
    refine ⟨_, rfl, rfl, _, rfl, ?_⟩
    refine dif (fun ef => ?_) (fun ef => ?_)
    · have ez := V.str.inj ef
      rw [fl ez] at k
      refine ⟨by show 1 ≤ sizeLine; decide, fun t ht => ?_⟩
      exact k _ _ (s1.trans (same_new ht)) (.st (x := .flat) (show (if ("flat" : Str) = "flat" then some Sg.flat else none) = some Sg.flat from if_pos rfl) (.flat (.inl (.inl upd_same))))
    have zf : z ≠ "flat" := fun e => ef (by rw [e])
    refine ⟨_, rfl, q, _, rfl, .inl (SqL.of e1), rfl, _, rfl, ?_⟩
    match us, e1, fl2, k, usl with
    | [], e1, fl2, k, usl => exact iteT (B := True) (k _ _ s1 (.no rfl rfl))
    | [u], e1, fl2, k, usl =>
      have ne : u ≠ "flat" := fun e => zf (by rw [fl2 u rfl, e])
      exact iteT (B := True) (k _ _ s1 (.no (show (if u = "flat" then some Sg.flat else none) = none from if_neg ne) rfl))
    | u1 :: u2 :: u3 :: r, e1, fl2, k, usl =>
      have ne3 : ¬ (V.int (((u1 :: u2 :: u3 :: r).map V.str).length : Nat) = V.int 2) := fun z => by
        have z : ((((u1 :: u2 :: u3 :: r).map V.str).length : Nat) : Int) = 2 := V.int.inj z
        rw [List.length_map, List.length_cons, List.length_cons, List.length_cons] at z
        omega
      rw [decide_eq_false ne3]
      exact iteT (B := True) (k _ _ s1 (.no rfl rfl))
    | [u, n], e1, fl2, k, usl =>
      have e1 : H1 q = some (.lst [.str u, .str n]) := e1
      have nlen := (usl n (List.mem_cons_of_mem _ List.mem_cons_self)).1
      refine iteF (A := True) ?_
      refine ⟨_, rfl, q, _, _, .str u, rfl, rfl, SqL.of e1, atI_nat (j := 0) rfl, by show 8 ≤ sizeLine; decide, fun t8 ht8 => ?_⟩
      have s2 : Same H1 (upd H1 t8 (.tup [.str "map", .str "keep", .str "while", .str "after", .str "take", .str "skip", .str "lots", .str "gather"])) := same_new ht8
      have e8 : upd H1 t8 (.tup [.str "map", .str "keep", .str "while", .str "after", .str "take", .str "skip", .str "lots", .str "gather"]) t8 = some (.tup [.str "map", .str "keep", .str "while", .str "after", .str "take", .str "skip", .str "lots", .str "gather"]) := upd_same
      generalize upd H1 t8 (.tup [.str "map", .str "keep", .str "while", .str "after", .str "take", .str "skip", .str "lots", .str "gather"]) = H2 at s2 e8
      refine ⟨t8, _, rfl, .inr (.inl (.inl e8)), rfl, rfl, _, rfl, ?_⟩
      rw [show inV (.str u) [.str "map", .str "keep", .str "while", .str "after", .str "take", .str "skip", .str "lots", .str "gather"] = decide (u ∈ K1 ++ K2) from in_dec u (K1 ++ K2)]
      have k12 : u ∉ K1 ++ K2 → u ∉ K1 ∧ u ∉ K2 := fun h => ⟨fun z => h (List.mem_append_left _ z), fun z => h (List.mem_append_right _ z)⟩
      have ew : stW [u, n] = if u ∈ K1 then (if isNm n = true then some (Sg.nm u n) else none) else if u ∈ K2 then (numOf n).map (Sg.num u) else none := rfl
      by_cases hk : u ∈ K1 ++ K2
      case neg =>
        rw [decide_eq_false hk]
        exact iteT (B := True) (k _ _ (s1.trans s2) (.no (by rw [ew, if_neg (k12 hk).1, if_neg (k12 hk).2]) rfl))
      rw [decide_eq_true hk]
      refine iteF (A := True) ?_
      have s12 := s1.trans s2
      have e2 := s2 _ _ e1
      refine ⟨_, rfl, q, _, _, .str u, rfl, rfl, SqL.of e2, atI_nat (j := 0) rfl, by show 4 ≤ sizeLine; decide, fun t4 ht4 => ?_⟩
      have s3 : Same H2 (upd H2 t4 (.tup [.str "take", .str "skip", .str "lots", .str "gather"])) := same_new ht4
      have e4 : upd H2 t4 (.tup [.str "take", .str "skip", .str "lots", .str "gather"]) t4 = some (.tup [.str "take", .str "skip", .str "lots", .str "gather"]) := upd_same
      generalize upd H2 t4 (.tup [.str "take", .str "skip", .str "lots", .str "gather"]) = H3 at s3 e4
      refine ⟨t4, _, rfl, .inr (.inl (.inl e4)), rfl, rfl, _, rfl, ?_⟩
      rw [show inV (.str u) [.str "take", .str "skip", .str "lots", .str "gather"] = decide (u ∈ K2) from in_dec u K2]
      have s13 := s12.trans s3
      have e3 := s3 _ _ e2
      by_cases h2 : u ∈ K2
      · have n1 : u ∉ K1 := fun z => (by decide +kernel : ∀ z ∈ K1, z ∉ K2) _ z h2
        rw [if_neg n1, if_pos h2] at ew
        rw [decide_eq_true h2]
        refine iteT (B := True) ?_
        refine ⟨_, rfl, q, _, _, .str n, rfl, rfl, SqL.of e3, atI_nat (j := 1) rfl, by show 4 ≤ sizeLine; decide, fun t5 ht5 => ?_⟩
        have s5 : Same H3 (upd H3 t5 (.tup [.str "1", .str "2", .str "3", .str "4"])) := same_new ht5
        have e5 : upd H3 t5 (.tup [.str "1", .str "2", .str "3", .str "4"]) t5 = some (.tup [.str "1", .str "2", .str "3", .str "4"]) := upd_same
        generalize upd H3 t5 (.tup [.str "1", .str "2", .str "3", .str "4"]) = H5 at s5 e5
        refine ⟨t5, _, rfl, .inr (.inl (.inl e5)), rfl, rfl, _, rfl, ?_⟩
        rw [show inV (.str n) [.str "1", .str "2", .str "3", .str "4"] = decide (n ∈ (["1", "2", "3", "4"] : List Str)) from in_dec n ["1", "2", "3", "4"]]
        have s15 := s13.trans s5
        have e6 := s5 _ _ e3
        cases en : numOf n with
        | some i =>
          obtain ⟨i1, i4, enn⟩ := numOf_some en
          have inn : n ∈ (["1", "2", "3", "4"] : List Str) := by
            rw [enn]
            rcases numS_cases i1 i4 with ⟨_, e⟩ | ⟨_, e⟩ | ⟨_, e⟩ | ⟨_, e⟩ <;> rw [e] <;> decide +kernel
          have it : intText? n = some i := by
            rw [enn]
            rcases numS_cases i1 i4 with ⟨e', e⟩ | ⟨e', e⟩ | ⟨e', e⟩ | ⟨e', e⟩ <;> rw [e, e'] <;> decide +kernel
          have nl : n.length ≤ 640 := by
            rw [enn]
            exact Nat.le_trans (fr_num i1 i4).2.1 (by decide)
          rw [decide_eq_true inn]
          refine iteT (B := True) ?_
          refine ⟨_, rfl, q, _, _, .str u, rfl, rfl, SqL.of e6, atI_nat (j := 0) rfl, _, rfl, q, _, _, .str n, rfl, rfl, SqL.of e6, atI_nat (j := 1) rfl, n, i, rfl, it, nl, by show 2 ≤ sizeLine; decide, fun t6 ht6 => ?_⟩
          exact k _ _ (s15.trans (same_new ht6)) (.st (x := .num u i) (by rw [ew, en]; rfl) (.num (.inl (.inl upd_same))))
        | none =>
          rw [decide_eq_false (numOf_none en)]
          exact iteF (A := True) (k _ _ s15 (.no (by rw [ew, en]; rfl) rfl))
      · have h1 : u ∈ K1 := by
          rcases List.mem_append.mp hk with h | h
          · exact h
          · exact absurd h h2
        rw [if_pos h1] at ew
        rw [decide_eq_false h2]
        refine iteF (A := True) ?_
        have done : ∀ (b : Bool) (H' : Hp), Same H3 H' → b = isNm n → tRet (tIf (tB (tVar 2)) (tTup (tCons (tOp (rIxL K) (tVar 1) (tC (.int 0))) (tCons (tOp (rIxL K) (tVar 1) (tC (.int 1))) tNil))) (tC .non)) { nx := fun _ H' => Q .non H', rt := Q } [some (.str z), some (.ref q), some (.bl b), none] H' := by
          intro b H' sH eb
          have eH := sH _ _ e3
          refine ⟨_, rfl, b, rfl, ?_⟩
          cases b with
          | true =>
            refine iteT (B := True) ?_
            refine ⟨_, rfl, q, _, _, .str u, rfl, rfl, SqL.of eH, atI_nat (j := 0) rfl, _, rfl, q, _, _, .str n, rfl, rfl, SqL.of eH, atI_nat (j := 1) rfl, by show 2 ≤ sizeLine; decide, fun t6 ht6 => ?_⟩
            exact k _ _ ((s13.trans sH).trans (same_new ht6)) (.st (x := .nm u n) (by rw [ew, if_pos eb.symm]) (.nm (.inl (.inl upd_same))))
          | false =>
            refine iteF (A := True) ?_
            exact k _ _ (s13.trans sH) (.no (by rw [ew, if_neg (by rw [← eb]; exact Bool.false_ne_true)]) rfl)
        have nsz : n.length ≤ sizeLine := by rw [sizeLine_eq]; omega
        refine ⟨_, rfl, q, _, _, .str n, rfl, rfl, SqL.of e3, atI_nat (j := 1) rfl, n, rfl, nsz, _, _, rfl, rfl, _, rfl, ?_⟩
        have nat1 : (1 : Int) ≤ (n.length : Int) ↔ 1 ≤ n.length := by omega
        have nat8 : (n.length : Int) ≤ 8 ↔ n.length ≤ 8 := by omega
        by_cases l1 : 1 ≤ n.length
        case neg =>
          rw [if_neg (by rw [decide_eq_false (fun h => l1 (nat1.mp h))]; exact Bool.false_ne_true)]
          refine ⟨_, rfl, iteF (A := True) ?_⟩
          exact done false H3 (Same.refl _) (by unfold isNm; rw [decide_eq_false l1]; rfl)
        rw [if_pos (decide_eq_true (nat1.mpr l1))]
        refine ⟨_, _, rfl, rfl, _, rfl, ?_⟩
        by_cases l8 : n.length ≤ 8
        case neg =>
          rw [if_neg (by rw [decide_eq_false (fun h => l8 (nat8.mp h))]; exact Bool.false_ne_true)]
          exact done false H3 (Same.refl _) (by unfold isNm; rw [decide_eq_true l1, decide_eq_false l8]; rfl)
        rw [if_pos (decide_eq_true (nat8.mpr l8))]
        refine ⟨_, rfl, q, _, _, .str n, rfl, rfl, SqL.of e3, atI_nat (j := 1) rfl, n, rfl, fun D hD => ?_⟩
        refine lc_it walk_str (fun i H' => Same H3 H' ∧ H' D = some (.lst (((tl n).take i).filter (fun c => !decide (c ∈ tl abc)) |>.map fun c => V.str ⟨#[c]⟩))) ⟨same_new hD, upd_same⟩ (fun _ _ _ _ => trivial) ?_ ?_
        · rintro i x H6 H7 hi ⟨sH, eD⟩ ⟨rfl, c, hc, rfl⟩
          have hcl : (tl n)[i]? = some c := by rw [Array.getElem?_toList]; exact hc
          have stp : ((tl n).take (i + 1)).filter (fun c => !decide (c ∈ tl abc)) = ((tl n).take i).filter (fun c => !decide (c ∈ tl abc)) ++ (if (!decide (c ∈ tl abc)) = true then [c] else []) := by
            rw [List.take_add_one, hcl, List.filter_append]
            congr 1
            show List.filter _ [c] = _
            rw [List.filter_cons, List.filter_nil]
          refine ⟨rfl, _, rfl, c, abc, rfl, rfl, _, rfl, ?_⟩
          by_cases hm : c ∈ tl abc
          · rw [decide_eq_true hm] at stp ⊢
            refine iteF (A := True) ⟨sH, ?_⟩
            rw [eD, stp]
            show _ = some (HO.lst ((_ ++ []).map _))
            rw [List.append_nil]
          · rw [decide_eq_false hm] at stp ⊢
            refine iteT (B := True) ⟨_, rfl, _, eD, ?_, ?_, ?_⟩
            · rw [List.length_map]
              refine small1000 (Nat.le_trans (List.length_filter_le _ _) ?_)
              rw [List.length_take, ← TL.len_tl]
              omega
            · intro b o e
              rw [upd_ne (ne_of_none e hD)]
              exact sH _ _ e
            · rw [upd_same, stp, List.map_append]
              rfl
        · rintro H6 ⟨sH, eD⟩
          have e9 : (tl n).take n.cps.size = tl n := List.take_of_length_le (by rw [Array.length_toList]; exact Nat.le_refl _)
          rw [e9] at eD
          refine ⟨by show 0 ≤ sizeLine; decide, fun b hb => ?_⟩
          have sb : Same H6 (upd H6 b (.lst [])) := same_new hb
          refine ⟨D, b, _, rfl, rfl, SqL.of (sb _ _ eD), SqL.of upd_same, ?_⟩
          refine done _ _ (sH.trans sb) ?_
          unfold isNm
          rw [decide_eq_true l1, decide_eq_true l8, Bool.true_and, Bool.true_and]
          have key : ∀ l : List Nat, ((l.filter fun c => !decide (c ∈ tl abc)).map fun c => V.str ⟨#[c]⟩).isEmpty = l.all okSign := by
            intro l
            induction l with
            | nil => rfl
            | cons c r ih =>
              rw [List.filter_cons, List.all_cons]
              have ec : okSign c = decide (c ∈ tl abc) := by
                unfold okSign
                rw [← Bool.decide_and]
                exact decide_eq_decide.mpr (abc_mem c).symm
              rw [ec]
              by_cases hm : c ∈ tl abc
              · rw [decide_eq_true hm, Bool.true_and]
                exact ih
              · rw [decide_eq_false hm, Bool.false_and]
                rfl
          exact key (tl n)
end
end K81
set_option Elab.async false
set_option linter.all false
set_option maxRecDepth 100000
set_option maxHeartbeats 4000000
namespace K81
open PySem L2 VK
open TL (tl)
abbrev sClo : Stmt := top 47
abbrev sTak : Stmt := top 48
abbrev sBeg : Stmt := top 49
abbrev sLZip : Stmt := top 50
theorem scClo : FnScope ["levels", "inner", "outer"] ["levels"] (defScope sClo) := ⟨rfl, rfl, rfl, by decide +kernel, rfl, by decide +kernel, by decide +kernel⟩
theorem scTak : FnScope ["levels", "line", "blanks", "source", "height", "many", "stage"] ["levels", "line"] (defScope sTak) := ⟨rfl, rfl, rfl, by decide +kernel, rfl, by decide +kernel, by decide +kernel⟩
theorem scBeg : FnScope ["levels", "used", "line", "front", "text"] ["levels", "used", "line"] (defScope sBeg) := ⟨rfl, rfl, rfl, by decide +kernel, rfl, by decide +kernel, by decide +kernel⟩
theorem scLZip : FnScope ["levels", "used", "line", "blanks", "source", "height", "many"] ["levels", "used", "line"] (defScope sLZip) := ⟨rfl, rfl, rfl, by decide +kernel, rfl, by decide +kernel, by decide +kernel⟩
/-! ### the law's levels -/
abbrev Lv := Str × Int × Int
def LvV (H : Hp) (v : V) (x : Lv) : Prop := ∃ a : Addr, v = .ref a ∧ H a = some (.lst [.str x.1, .int x.2.1, .int x.2.2])
inductive LvAll (H : Hp) : List V → List Lv → Prop where
  | nil : LvAll H [] []
  | cons {v : V} {vs : List V} {x : Lv} {r : List Lv} (h : LvV H v x) (t : LvAll H vs r) : LvAll H (v :: vs) (x :: r)
theorem LvV.same {H H' : Hp} {v : V} {x : Lv} (h : LvV H v x) (s : Same H H') : LvV H' v x := by
  obtain ⟨a, e, h⟩ := h
  exact ⟨a, e, s _ _ h⟩
theorem LvAll.same {H H' : Hp} {vs : List V} {r : List Lv} (h : LvAll H vs r) (s : Same H H') : LvAll H' vs r := by
  induction h with
  | nil => exact .nil
  | cons h _ ih => exact .cons (h.same s) ih
theorem LvAll.len {H : Hp} {vs : List V} {r : List Lv} (h : LvAll H vs r) : vs.length = r.length := by
  induction h with
  | nil => rfl
  | cons _ _ ih => rw [List.length_cons, List.length_cons, ih]
def clo (i o : Lv) : Lv := (o.1, 1 + (if i.2.1 < o.2.1 then i.2.1 else o.2.1), o.2.2)
theorem rev2 {w1 w2 : V} {ws : List V} : (w1 :: w2 :: ws).reverse = ws.reverse ++ [w2, w1] := by
  rw [List.reverse_cons, List.reverse_cons, List.append_assoc]
  rfl
theorem atI_rev2 {w1 w2 : V} {ws : List V} : atI (w1 :: w2 :: ws).reverse (-2) = some w2 := by
  rw [rev2]
  have hl : (ws.reverse ++ [w2, w1]).length = ws.length + 2 := by simp
  have e : ixN (ws.reverse ++ [w2, w1]).length (-2) = some ws.length := by
    unfold ixN
    rw [hl, if_neg (by omega), if_pos (by omega)]
    congr 1
    omega
  unfold atI
  rw [e]
  show (ws.reverse ++ [w2, w1])[ws.length]? = some w2
  rw [List.getElem?_append_right (by rw [List.length_reverse]; exact Nat.le_refl _), List.length_reverse, Nat.sub_self]
  rfl
theorem cut2 {w1 w2 : V} {ws : List V} : cutV (w1 :: w2 :: ws).reverse none (some (-2)) = ws.reverse := by
  rw [rev2]
  have hl : (ws.reverse ++ [w2, w1]).length = ws.length + 2 := by simp
  unfold cutV
  rw [hl, HT.sIx_none, List.drop_zero]
  have e : HT.sIx (ws.length + 2) (ws.length + 2) (some (-2)) = ws.length := by
    show (if (-2 : Int) < 0 then ((-2 : Int) + ((ws.length + 2 : Nat) : Int)).toNat else min (-2 : Int).toNat (ws.length + 2)) = ws.length
    rw [if_pos (by decide)]
    omega
  rw [e, Nat.sub_zero, List.take_left' (by rw [List.length_reverse])]
theorem cut1 {w1 : V} {ws : List V} : cutV (w1 :: ws).reverse none (some (-1)) = ws.reverse := by
  rw [List.reverse_cons]
  have hl : (ws.reverse ++ [w1]).length = ws.length + 1 := by simp
  unfold cutV
  rw [hl, HT.sIx_none, List.drop_zero]
  have e : HT.sIx (ws.length + 1) (ws.length + 1) (some (-1)) = ws.length := by
    show (if (-1 : Int) < 0 then ((-1 : Int) + ((ws.length + 1 : Nat) : Int)).toNat else min (-1 : Int).toNat (ws.length + 1)) = ws.length
    rw [if_pos (by decide)]
    omega
  rw [e, Nat.sub_zero, List.take_left' (by rw [List.length_reverse])]
def spClo (K : Fg) : Sp := fun vs H Q _ => ∃ (q : Addr) (w1 w2 : V) (ws : List V) (i o : Lv) (r : List Lv), vs = [.ref q] ∧ H q = some (.lst (w1 :: w2 :: ws).reverse) ∧ LvAll H (w1 :: w2 :: ws) (i :: o :: r) ∧ r.length ≤ 10 ∧
  ∀ (q' : Addr) (v : V) (H' : Hp), H q' = none → Same H H' → H' q' = some (.lst (v :: ws).reverse) → LvAll H' (v :: ws) (clo i o :: r) → Q (.ref q') H'
section
variable {P : Program} {w : World} {K : Fg} {mg : Str → Option Value} {base : Heap} {f : Addr} {fd : FuncData}
theorem ok_clo (DC : Df K mg "_law_closed" sClo ["levels"] f fd) (N : Nm mg) : FnOk P w K mg base CX0 1 f fd ["levels"] (spClo K) := by
  refine DC.F.ok scClo (fun vs H Q E h => ?_) (fun cdv B outer s H vs Q E hr h => ?_)
  · obtain ⟨q, w1, w2, ws, i, o, r, rfl, _⟩ := h
    rfl
  · obtain ⟨q, w1, w2, ws, i, o, r, rfl, hq, la, few, k⟩ := h
    refine ⟨_, pss_cons (ps_par (by rfl) scClo.nd rfl rfl (show 1 ≠ 2 by decide) rfl rfl (pa_cons (pe_ix ix_list (pv 0) (pe_un un_neg pe_int) (fun _ _ => rfl)) (pa_cons (pe_ix ix_list (pv 0) (pe_un un_neg pe_int) (fun _ _ => rfl)) pa_nil)) (by rfl))
      (pss_one (ps_ret (pe_op op_cat (pe_slice sl_list (pv 0) po_none (po_some (pe_un un_neg pe_int))) (pe_lst (pa_cons (pe_lst (pa_cons (pe_ix ix_list (pv 2) pe_int (fun _ _ => rfl))
        (pa_cons (pe_op op_add pe_int (pe_callB (call_min2 rfl) (by rfl) N.min boot_min' (pa_cons (pe_ix ix_list (pv 2) pe_int (fun _ _ => rfl)) (pa_cons (pe_ix ix_list (pv 1) pe_int (fun _ _ => rfl)) pa_nil)))) (pa_cons (pe_ix ix_list (pv 2) pe_int (fun _ _ => rfl)) pa_nil)))) pa_nil))))), ?_⟩
    cases la with
    | cons h1 la =>
    cases la with
    | cons h2 la =>
    obtain ⟨a1, rfl, e1⟩ := h1
    obtain ⟨a2, rfl, e2⟩ := h2
    have lw := la.len
    refine ⟨_, rfl, _, rfl, q, _, _, .ref a1, rfl, rfl, SqL.of hq, atI_rev, _, rfl, _, rfl, q, _, _, .ref a2, rfl, rfl, SqL.of hq, atI_rev2, _, _, rfl, ?_⟩
    refine ⟨_, rfl, _, rfl, _, rfl, q, _, rfl, SqL.of hq, fun p hp => ?_⟩
    rw [cut2]
    have s1 : Same H (upd H p (.lst ws.reverse)) := same_new hp
    have f1 : upd H p (.lst ws.reverse) p = some (.lst ws.reverse) := upd_same
    generalize upd H p (.lst ws.reverse) = H1 at s1 f1
    have g1 := s1 _ _ e1
    have g2 := s1 _ _ e2
    refine ⟨_, rfl, a2, _, _, .str o.1, rfl, rfl, SqL.of g2, atI_nat (j := 0) rfl, _, rfl, a2, _, _, .int o.2.1, rfl, rfl, SqL.of g2, atI_nat (j := 1) rfl, _, rfl, a1, _, _, .int i.2.1, rfl, rfl, SqL.of g1, atI_nat (j := 1) rfl, _, _, rfl, _, _, rfl, rfl,
      _, rfl, a2, _, _, .int o.2.2, rfl, rfl, SqL.of g2, atI_nat (j := 2) rfl, by show 3 ≤ sizeLine; decide, fun v hv => ?_⟩
    have s2 : Same H1 (upd H1 v (.lst [.str (clo i o).1, .int (clo i o).2.1, .int (clo i o).2.2])) := same_new hv
    have f2 : upd H1 v (.lst [.str (clo i o).1, .int (clo i o).2.1, .int (clo i o).2.2]) v = some (.lst [.str (clo i o).1, .int (clo i o).2.1, .int (clo i o).2.2]) := upd_same
    change tNil _ (upd H1 v (.lst [.str (clo i o).1, .int (clo i o).2.1, .int (clo i o).2.2])) _
    generalize upd H1 v (.lst [.str (clo i o).1, .int (clo i o).2.1, .int (clo i o).2.2]) = H2 at s2 f2
    refine ⟨by show 1 ≤ sizeLine; decide, fun x hx => ?_⟩
    have s3 : Same H2 (upd H2 x (.lst [.ref v])) := same_new hx
    have f3 : upd H2 x (.lst [.ref v]) x = some (.lst [.ref v]) := upd_same
    generalize upd H2 x (.lst [.ref v]) = H3 at s3 f3
    refine ⟨p, x, _, _, rfl, rfl, s3 _ _ (s2 _ _ f1), f3, ?_, fun y hy => ?_⟩
    · rw [List.length_reverse, sizeLine_eq]
      show ws.length + 1 ≤ _
      omega
    have s4 : Same H3 (upd H3 y (.lst (ws.reverse ++ [.ref v]))) := same_new hy
    have s04 := s1.trans (s2.trans (s3.trans s4))
    refine k y (.ref v) _ ((s1.trans (s2.trans s3)).free hy) s04 (by rw [upd_same, List.reverse_cons]) (.cons ⟨v, rfl, s4 _ _ (s3 _ _ f2)⟩ (la.same s04))
end
end K81
set_option Elab.async false
set_option linter.all false
set_option maxRecDepth 100000
set_option maxHeartbeats 4000000
namespace K81
open PySem L2 VK
open TL (tl)
def lwClose (b : Nat) : Lv → List Lv → Lv × List Lv
  | i, [] => (i, [])
  | i, o :: r => if b < 2 * (o :: r).length then lwClose b (clo i o) r else (i, o :: r)
def lwTake (z : Str) : List Lv → Option (List Lv)
  | [] => none
  | i :: r => match stW (usOf z) with
    | some x => if bl z = 2 * (lwClose (bl z) i r).2.length ∧ (lwClose (bl z) i r).1.2.2 ≤ 5 ∧ ¬ (x.kd = "flat" ∧ (lwClose (bl z) i r).1.2.1 = 0) then
        some (((lwClose (bl z) i r).1.1, x.dep (lwClose (bl z) i r).1.2.1, (lwClose (bl z) i r).1.2.2 + 1) :: (lwClose (bl z) i r).2) else none
    | none => none
/-- what the law's word gives: levels, or None -/
def LAfter (H : Hp) (Q : VK) : Option (List Lv) → Prop
  | some lv => ∀ (q : Addr) (ws : List V) (H' : Hp), Same H H' → H' q = some (.lst ws.reverse) → LvAll H' ws lv → Q (.ref q) H'
  | none => ∀ H' : Hp, Same H H' → Q .non H'
theorem LAfter.up {H H1 : Hp} {Q : VK} {o : Option (List Lv)} (s : Same H H1) (h : LAfter H Q o) : LAfter H1 Q o := by
  cases o with
  | some lv => exact fun q ws H' s' e l => h q ws H' (s.trans s') e l
  | none => exact fun H' s' => h H' (s.trans s')
theorem cut_rs {z : Str} : cutS z (some ((bl z : Nat) : Int)) none = rs z := by
  refine TL.ext_tl ?_
  have h := bl_le z
  show ((tl z).drop (HT.sIx z.length 0 (some ((bl z : Nat) : Int)))).take (HT.sIx z.length z.length none - HT.sIx z.length 0 (some ((bl z : Nat) : Int))) = (tl z).drop (bl z)
  rw [HT.sIx_nat, HT.sIx_none, Nat.min_eq_left h, List.take_of_length_le (by rw [List.length_drop, ← TL.len_tl]; exact Nat.le_refl _)]
theorem lwClose_len (b : Nat) : ∀ (r : List Lv) (i : Lv), (lwClose b i r).2.length ≤ r.length
  | [], i => Nat.le_refl _
  | o :: r, i => by
    by_cases h : b < 2 * (o :: r).length
    · have e : lwClose b i (o :: r) = lwClose b (clo i o) r := if_pos h
      rw [e]
      exact Nat.le_trans (lwClose_len b r _) (Nat.le_succ _)
    · have e : lwClose b i (o :: r) = (i, o :: r) := if_neg h
      rw [e]
      exact Nat.le_refl _
def spTak (K : Fg) : Sp := fun vs H Q _ => ∃ (q : Addr) (z : Str) (ws : List V) (lv : List Lv), vs = [.ref q, .str z] ∧ Ln z ∧ H q = some (.lst ws.reverse) ∧ LvAll H ws lv ∧ lv ≠ [] ∧ lv.length ≤ 10 ∧ LAfter H Q (lwTake z lv)
theorem vd_sd {x : Sg} (w : x.vd) (pl : x.plain) : x.sd := by
  cases x with
  | nm k n => exact w
  | num k n =>
    have w : k ∈ K2 ∧ okNum n = true := w
    unfold okNum at w
    rw [Bool.and_eq_true, decide_eq_true_eq, decide_eq_true_eq] at w
    exact w
  | flat => trivial
  | zip p => exact pl.elim
theorem plain_nest {x : Sg} (pl : x.plain) : x.nest < 5 := by
  cases x with
  | nm k n => exact Nat.succ_pos 4
  | num k n => exact Nat.succ_pos 4
  | flat => exact Nat.succ_pos 4
  | zip p => exact pl.elim
section
variable {P : Program} {w : World} {K : Fg} {mg : Str → Option Value} {base : Heap} {f fC fS fH : Addr} {fd dC dS dH : FuncData}
theorem ok_tak (DT : Df K mg "_law_taken" sTak ["levels", "line"] f fd) (DC : Df K mg "_law_closed" sClo ["levels"] fC dC) (DS : Df K mg "_law_stage_of" sSO ["line"] fS dS) (DH : Df K mg "_law_height" sHeight ["height", "stage"] fH dH) (N : Nm mg)
    (GH : FnOk P w K mg base CX0 11 fH dH ["height", "stage"] (spHeight K 5)) : FnOk P w K mg base CX0 12 f fd ["levels", "line"] (spTak K) := by
  have GC : FnOk P w K mg base CX0 1 fC dC ["levels"] (spClo K) := ok_clo DC N
  have GS : FnOk P w K mg base CX0 1 fS dS ["line"] (spSO K) := ok_so DS N
  refine DT.F.ok scTak (fun vs H Q E h => ?_) (fun cdv B outer s H vs Q E hr h => ?_)
  · obtain ⟨q, z, ws, lv, rfl, _⟩ := h
    rfl
  · obtain ⟨q, z, ws, lv, rfl, hz, hq, la, ne, few, k⟩ := h
    have hr1 := hr.mono (show 1 ≤ 11 by decide)
    refine ⟨_, pss_cons (ps_set (i := 2) scTak.nd rfl (Or.inl rfl) (pe_op op_sub (pe_callB call_len_str (by rfl) N.len PySem.boot_len (pa_cons (pv 1) pa_nil)) (pe_callB call_len_str (by rfl) N.len PySem.boot_len (pa_cons (pe_m1 PySem.F.slot_str_lstrip PySem.F.type_str_lstrip mt_lstripChars (pv 1) pe_str) pa_nil))))
      (pss_cons (ps_while PassesOwn.never (PW.pt (pw_and (pt_cmpR op_gt (pe_callB call_len_seq (by rfl) N.len PySem.boot_len (pa_cons (pv 0) pa_nil)) pe_int (nomark _))
          (pw_and1 (pt_cmpR op_lt (pv 2) (pe_op op_mul pe_int (pe_op op_sub (pe_callB call_len_seq (by rfl) N.len PySem.boot_len (pa_cons (pv 0) pa_nil)) pe_int)) (nomark _)))))
        (pss_one (ps_set (i := 0) scTak.nd rfl (Or.inl rfl) (pe_call GC hr1 rfl DC.g DC.F.kp DC.b .nil pass0 (pa_cons (pv 0) pa_nil)))))
      (pss_cons (ps_asg (pe_ix ix_list (pv 0) (pe_un un_neg pe_int) (fun _ _ => rfl)) (pg_unl rfl (pgs_cons (pg_name (i := 3) scTak.nd rfl (Or.inl rfl)) (pgs_cons (pg_name (i := 4) scTak.nd rfl (Or.inl rfl)) (pgs_cons (pg_name (i := 5) scTak.nd rfl (Or.inl rfl)) pgs_nil)))))
      (pss_cons (ps_set (i := 6) scTak.nd rfl (Or.inl rfl) (pe_call GS hr1 rfl DS.g DS.F.kp DS.b .nil pass0 (pa_cons (pe_slice sl_str (pv 1) (po_some (pv 2)) po_none) pa_nil)))
      (pss_cons (ps_if (PW.pt (pw_or (pt_cmpR op_ne (pv 2) (pe_op op_mul pe_int (pe_op op_sub (pe_callB call_len_seq (by rfl) N.len PySem.boot_len (pa_cons (pv 0) pa_nil)) pe_int)) (nomark _)) (pw_or (pt_cmpR op_gt (pv 5) pe_int (nomark _))
          (pw_or (pt_cmpR op_isN (pv 6) pe_non (nomark _)) (pw_or1 (PW.pt (pw_and (pt_cmpR op_eq (pe_ix ix_tup (pv 6) pe_int (fun _ _ => rfl)) pe_str (nomark _)) (pw_and1 (pt_cmpR op_eq (pv 4) pe_int (nomark _)))))))))) (pss_one (ps_ret pe_non)) pss_nil)
      (pss_one (ps_ret (pe_op op_cat (pe_slice sl_list (pv 0) po_none (po_some (pe_un un_neg pe_int))) (pe_lst (pa_cons (pe_lst (pa_cons (pv 3) (pa_cons (pe_call GH hr rfl DH.g DH.F.kp DH.b .nil pass0 (pa_cons (pv 4) (pa_cons (pv 6) pa_nil))) (pa_cons (pe_op op_add (pv 5) pe_int) pa_nil)))) pa_nil))))))))), ?_⟩
    have zl : z.length ≤ sizeLine := by rw [sizeLine_eq]; have := hz.len; omega
    have rl : (rs z).length ≤ sizeLine := by rw [sizeLine_eq]; have := (rs_sub hz).len; omega
    have ble := bl_le z
    refine ⟨_, rfl, _, rfl, zl, _, rfl, ⟨_, rfl⟩, _, _, rfl, rfl, zl, _, rfl, ?_, _, _, rfl, rfl, ?_⟩
    · rw [lstrip_rs]
      exact rl
    rw [lstrip_rs, len_rs]
    dsimp only
    have eb : ((z.length : Nat) : Int) - ((z.length - bl z : Nat) : Int) = ((bl z : Nat) : Int) := by omega
    rw [eb]
    cases lv with
    | nil => exact absurd rfl ne
    | cons i0 r0 =>
    have bsm : bl z ≤ 1000 := Nat.le_trans ble hz.len
    refine ⟨fun m σ H' => ∃ (q' : Addr) (ws' : List V) (i : Lv) (r : List Lv), σ = [some (.ref q'), some (.str z), some (.int (bl z : Nat)), none, none, none, none] ∧ m = r.length ∧ Same H H' ∧ H' q' = some (.lst ws'.reverse) ∧ LvAll H' ws' (i :: r) ∧ r.length ≤ 9 ∧ lwClose (bl z) i r = lwClose (bl z) i0 r0,
      ⟨_, q, ws, i0, r0, rfl, rfl, Same.refl _, hq, la, by rw [List.length_cons] at few; omega, rfl⟩, ?_⟩
    rintro m σ H1 ⟨q1, ws1, i, r, rfl, rfl, s1, hq1, la1, few1, ec⟩
    have lw := la1.len
    rw [List.length_cons] at lw
    have wl : ws1.reverse.length = r.length + 1 := by rw [List.length_reverse, lw]
    refine ⟨_, rfl, q1, _, rfl, .inl (SqL.of hq1), _, _, rfl, rfl, _, rfl, ?_⟩
    by_cases hl : r ≠ [] ∧ bl z < 2 * r.length
    · obtain ⟨o, r', rfl⟩ : ∃ o r', r = o :: r' := by
        cases r with
        | nil => exact absurd rfl hl.1
        | cons o r' => exact ⟨o, r', rfl⟩
      rw [List.length_cons] at wl few1 lw
      have go1 : (1 : Int) < ((ws1.reverse.length : Nat) : Int) := by rw [wl]; omega
      rw [decide_eq_true go1]
      refine iteT (B := True) ?_
      refine ⟨_, rfl, _, rfl, q1, _, rfl, .inl (SqL.of hq1), _, _, rfl, rfl, _, _, rfl, rfl, .inl ⟨by decide, by decide⟩, _, _, rfl, rfl, _, rfl, ?_⟩
      have hl2 := hl.2
      rw [List.length_cons] at hl2
      have go2 : ((bl z : Nat) : Int) < 2 * (((ws1.reverse.length : Nat) : Int) - 1) := by rw [wl]; omega
      rw [decide_eq_true go2]
      refine iteT (B := True) ?_
      have ecl : lwClose (bl z) i (o :: r') = lwClose (bl z) (clo i o) r' := if_pos hl.2
      refine ⟨fun σ' H' => ∃ m', m' < (o :: r').length ∧ ∃ (q' : Addr) (ws' : List V) (i : Lv) (r : List Lv), σ' = [some (.ref q'), some (.str z), some (.int (bl z : Nat)), none, none, none, none] ∧ m' = r.length ∧ Same H H' ∧ H' q' = some (.lst ws'.reverse) ∧ LvAll H' ws' (i :: r) ∧ r.length ≤ 9 ∧ lwClose (bl z) i r = lwClose (bl z) i0 r0, fun σ' H' h => h, ?_⟩
      cases ws1 with
      | nil => cases lw
      | cons w1 ws1 =>
      cases ws1 with
      | nil =>
        rw [List.length_cons] at lw
        exact absurd lw (by simp)
      | cons w2 ws1 =>
      refine ⟨_, rfl, q1, w1, w2, ws1, i, o, r', rfl, hq1, la1, by omega, fun q2 v H2 nq s2 e2 la2 => ?_⟩
      exact ⟨r'.length, Nat.lt_succ_self _, q2, v :: ws1, clo i o, r', rfl, rfl, s1.trans s2, e2, la2, by omega, by rw [← ecl]; exact ec⟩
    have ec2 : lwClose (bl z) i0 r0 = (i, r) := by
      rw [← ec]
      cases r with
      | nil => rfl
      | cons o r => exact if_neg (fun h => hl ⟨List.cons_ne_nil _ _, h⟩)
    by_cases hr0 : r = []
    case' pos =>
      have go1 : ¬ ((1 : Int) < ((ws1.reverse.length : Nat) : Int)) := by rw [wl, hr0]; decide
      rw [decide_eq_false go1]
      refine iteF (A := True) ?_
    case' neg =>
      have go1 : (1 : Int) < ((ws1.reverse.length : Nat) : Int) := by
        rw [wl]
        have := List.length_pos_iff.mpr hr0
        omega
      rw [decide_eq_true go1]
      refine iteT (B := True) ?_
      refine ⟨_, rfl, _, rfl, q1, _, rfl, .inl (SqL.of hq1), _, _, rfl, rfl, _, _, rfl, rfl, .inl ⟨by decide, by decide⟩, _, _, rfl, rfl, _, rfl, ?_⟩
      have go2 : ¬ (((bl z : Nat) : Int) < 2 * (((ws1.reverse.length : Nat) : Int) - 1)) := fun h => hl ⟨hr0, by rw [wl] at h; omega⟩
      rw [decide_eq_false go2]
      refine iteF (A := True) ?_
    all_goals (
      cases la1 with
      | @cons w1 wr _ _ h1 la1 =>
      obtain ⟨a1, rfl, e1⟩ := h1
      refine ⟨_, rfl, _, rfl, q1, _, _, .ref a1, rfl, rfl, SqL.of hq1, atI_rev, a1, _, rfl, SqL.of e1, rfl, _, _, rfl, _, _, rfl, _, _, rfl, rfl, ?_⟩
      refine ⟨_, rfl, _, rfl, _, rfl, z, rfl, zl, ?_⟩
      rw [cut_rs]
      refine ⟨rs z, rfl, rs_sub hz, fun v H2 s2 hv => ?_⟩
      have hv : PSt K H2 v (usOf z) := hv
      have hq2 := s2 _ _ hq1
      have s02 := s1.trans s2
      have k := k.up s02
      have er : lwTake z (i0 :: r0) = match stW (usOf z) with
        | some x => if bl z = 2 * r.length ∧ i.2.2 ≤ 5 ∧ ¬ (x.kd = "flat" ∧ i.2.1 = 0) then some ((i.1, x.dep i.2.1, i.2.2 + 1) :: r) else none
        | none => none := by
        show (match stW (usOf z) with
          | some x => if bl z = 2 * (lwClose (bl z) i0 r0).2.length ∧ (lwClose (bl z) i0 r0).1.2.2 ≤ 5 ∧ ¬ (x.kd = "flat" ∧ (lwClose (bl z) i0 r0).1.2.1 = 0) then
              some (((lwClose (bl z) i0 r0).1.1, x.dep (lwClose (bl z) i0 r0).1.2.1, (lwClose (bl z) i0 r0).1.2.2 + 1) :: (lwClose (bl z) i0 r0).2) else none
          | none => none) = _
        rw [ec2]
      rw [er] at k
      refine ⟨_, rfl, _, rfl, q1, _, rfl, .inl (SqL.of hq2), _, _, rfl, rfl, _, _, rfl, rfl, .inl ⟨by decide, by decide⟩, rfl, _, rfl, ?_⟩
      by_cases c1 : bl z = 2 * r.length
      case neg =>
        have ne1 : ¬ (V.int ((bl z : Nat) : Int) = V.int (2 * (((((V.ref a1 :: wr).reverse).length : Nat) : Int) - 1))) := fun h => by
          have h := V.int.inj h
          rw [wl] at h
          omega
        rw [decide_eq_false ne1]
        refine iteT (B := True) (?_ : Q .non H2)
        have kn : LAfter H2 Q none := by
          cases es : stW (usOf z) with
          | none => rw [es] at k; exact k
          | some x => rw [es] at k; have k : LAfter H2 Q (if bl z = 2 * r.length ∧ i.2.2 ≤ 5 ∧ ¬ (x.kd = "flat" ∧ i.2.1 = 0) then some ((i.1, x.dep i.2.1, i.2.2 + 1) :: r) else none) := k; rw [if_neg (fun h => c1 h.1)] at k; exact k
        exact kn H2 (Same.refl _)
      have ee1 : V.int ((bl z : Nat) : Int) = V.int (2 * (((((V.ref a1 :: wr).reverse).length : Nat) : Int) - 1)) := by
        congr 1
        rw [wl]
        omega
      rw [decide_eq_true ee1]
      refine iteF (A := True) ?_
      refine ⟨_, rfl, _, _, rfl, rfl, _, rfl, ?_⟩
      refine dif (fun c2 => ?_) (fun c2 => ?_)
      · have kn : LAfter H2 Q none := by
          cases es : stW (usOf z) with
          | none => rw [es] at k; exact k
          | some x => rw [es] at k; have k : LAfter H2 Q (if bl z = 2 * r.length ∧ i.2.2 ≤ 5 ∧ ¬ (x.kd = "flat" ∧ i.2.1 = 0) then some ((i.1, x.dep i.2.1, i.2.2 + 1) :: r) else none) := k; rw [if_neg (fun h => by have := h.2.1; omega)] at k; exact k
        exact kn H2 (Same.refl _)
      refine ⟨_, rfl, rfl, _, rfl, ?_⟩
      cases hv with
      | no es ev =>
        subst ev
        rw [es] at k
        exact iteT (B := True) (k H2 (Same.refl _))
      | @st x es hv =>
      rw [es] at k
      have k : LAfter H2 Q (if bl z = 2 * r.length ∧ i.2.2 ≤ 5 ∧ ¬ (x.kd = "flat" ∧ i.2.1 = 0) then some ((i.1, x.dep i.2.1, i.2.2 + 1) :: r) else none) := k
      obtain ⟨vd, pl, _⟩ := stW_vd es
      obtain ⟨b0, rr, rfl, hb0⟩ := hv.at0
      refine iteF (A := True) ?_
      refine ⟨_, rfl, b0, _, _, .str x.kd, rfl, rfl, hb0, at_of (j := 0) rfl rfl, rfl, _, rfl, ?_⟩
      by_cases c3 : x.kd = "flat" ∧ i.2.1 = 0
      case pos =>
        rw [if_neg (fun h => h.2.2 c3)] at k
        rw [decide_eq_true (show V.str x.kd = V.str "flat" by rw [c3.1])]
        refine iteT (B := True) ⟨_, rfl, rfl, _, rfl, ?_⟩
        rw [decide_eq_true (show V.int i.2.1 = V.int 0 by rw [c3.2])]
        exact iteT (B := True) (k H2 (Same.refl _))
      rw [if_pos ⟨c1, by omega, c3⟩] at k
      by_cases c4 : x.kd = "flat"
      case' pos =>
        rw [decide_eq_true (show V.str x.kd = V.str "flat" by rw [c4])]
        refine iteT (B := True) ⟨_, rfl, rfl, _, rfl, ?_⟩
        rw [decide_eq_false (show ¬ (V.int i.2.1 = V.int 0) from fun h => c3 ⟨c4, V.int.inj h⟩)]
        refine iteF (A := True) ?_
      case' neg =>
        rw [decide_eq_false (show ¬ (V.str x.kd = V.str "flat") from fun h => c4 (V.str.inj h))]
        refine iteF (A := True) ?_
      all_goals (
        refine ⟨_, rfl, _, rfl, _, rfl, q1, _, rfl, SqL.of hq2, fun p hp => ?_⟩
        rw [cut1]
        have s3 : Same H2 (upd H2 p (.lst wr.reverse)) := same_new hp
        have f3 : upd H2 p (.lst wr.reverse) p = some (.lst wr.reverse) := upd_same
        generalize upd H2 p (.lst wr.reverse) = H3 at s3 f3
        refine ⟨_, rfl, _, rfl, _, rfl, .ref b0, x, i.2.1, rfl, PsV.kp (Kp.of s3) hv, vd_sd vd pl, plain_nest pl, fun H4 s4 => ?_⟩
        refine ⟨_, rfl, _, _, rfl, rfl, by show 3 ≤ sizeLine; decide, fun y hy => ?_⟩
        have s5 : Same H4 (upd H4 y (.lst [.str i.1, .int (x.dep i.2.1), .int (i.2.2 + 1)])) := same_new hy
        have f5 : upd H4 y (.lst [.str i.1, .int (x.dep i.2.1), .int (i.2.2 + 1)]) y = some (.lst [.str i.1, .int (x.dep i.2.1), .int (i.2.2 + 1)]) := upd_same
        generalize upd H4 y (.lst [.str i.1, .int (x.dep i.2.1), .int (i.2.2 + 1)]) = H5 at s5 f5
        refine ⟨by show 1 ≤ sizeLine; decide, fun x6 hx6 => ?_⟩
        have s6 : Same H5 (upd H5 x6 (.lst [.ref y])) := same_new hx6
        have f6 : upd H5 x6 (.lst [.ref y]) x6 = some (.lst [.ref y]) := upd_same
        generalize upd H5 x6 (.lst [.ref y]) = H6 at s6 f6
        have lwr := la1.len
        refine ⟨p, x6, _, _, rfl, rfl, s6 _ _ (s5 _ _ (s4 _ _ f3)), f6, ?_, fun y7 hy7 => ?_⟩
        · rw [List.length_reverse, sizeLine_eq]
          show wr.length + 1 ≤ _
          omega
        have s7 : Same H6 (upd H6 y7 (.lst (wr.reverse ++ [.ref y]))) := same_new hy7
        have s27 := s3.trans (s4.trans (s5.trans (s6.trans s7)))
        exact k y7 (.ref y :: wr) _ s27 (by rw [upd_same, List.reverse_cons]) (.cons ⟨y, rfl, s7 _ _ (s6 _ _ f5)⟩ (la1.same (s2.trans s27)))))
end
end K81
set_option Elab.async false
set_option linter.all false
set_option maxRecDepth 100000
set_option maxHeartbeats 4000000
namespace K81
open PySem L2 VK
open TL (tl)
def lwZip (z : Str) (n : Nat) : List Lv → Option (List Lv)
  | [] => none
  | i :: r => if bl z = 2 * (lwClose (bl z) i r).2.length ∧ (lwClose (bl z) i r).1.2.2 ≤ 5 ∧ n ≤ 3 then
        some (((lwClose (bl z) i r).1.1, (lwClose (bl z) i r).1.2.1, (lwClose (bl z) i r).1.2.2 + 1) :: (lwClose (bl z) i r).2) else none
def lwBegun (z : Str) (used : List Str) (lv : List Lv) : Option (List Lv) :=
  if (tl z).take (2 * lv.length) = List.replicate (2 * lv.length) 32 then
    match (tl z).drop (2 * lv.length) with
    | [a, b, c, d, e, x] => if [a, b, c, d, e] = tl "from " ∧ x ∈ tl "abcd" ∧ (⟨#[x]⟩ : Str) ∉ used then some ((⟨#[x]⟩, 0, 0) :: lv) else none
    | _ => none
  else none
def spLZip (K : Fg) : Sp := fun vs H Q _ => ∃ (q uq : Addr) (z : Str) (us : List Str) (ws : List V) (lv : List Lv), vs = [.ref q, .ref uq, .str z] ∧ Ln z ∧ rs z = "zip" ∧ H uq = some (.lst (us.map V.str)) ∧ H q = some (.lst ws.reverse) ∧ LvAll H ws lv ∧ lv ≠ [] ∧ lv.length ≤ 10 ∧ LAfter H Q (lwZip z us.length lv)
def spBeg (K : Fg) : Sp := fun vs H Q _ => ∃ (q uq : Addr) (z : Str) (us : List Str) (ws : List V) (lv : List Lv), vs = [.ref q, .ref uq, .str z] ∧ Ln z ∧ H uq = some (.lst (us.map V.str)) ∧ H q = some (.lst ws.reverse) ∧ LvAll H ws lv ∧ lv.length ≤ 10 ∧ LAfter H Q (lwBegun z us lv)
section
variable {P : Program} {w : World} {K : Fg} {mg : Str → Option Value} {base : Heap} {f fC : Addr} {fd dC : FuncData}
theorem ok_lzip (DZ : Df K mg "_law_zip" sLZip ["levels", "used", "line"] f fd) (DC : Df K mg "_law_closed" sClo ["levels"] fC dC) (N : Nm mg) : FnOk P w K mg base CX0 2 f fd ["levels", "used", "line"] (spLZip K) := by
  have GC : FnOk P w K mg base CX0 1 fC dC ["levels"] (spClo K) := ok_clo DC N
  refine DZ.F.ok scLZip (fun vs H Q E h => ?_) (fun cdv B outer s H vs Q E hr h => ?_)
  · obtain ⟨q, uq, z, us, ws, lv, rfl, _⟩ := h
    rfl
  · obtain ⟨q, uq, z, us, ws, lv, rfl, hz, ez, hu, hq, la, ne, few, k⟩ := h
    have hr1 := hr
    refine ⟨_, pss_cons (ps_set (i := 3) scLZip.nd rfl (Or.inl rfl) (pe_op op_sub (pe_callB call_len_str (by rfl) N.len PySem.boot_len (pa_cons (pv 2) pa_nil)) pe_int))
      (pss_cons (ps_while PassesOwn.never (PW.pt (pw_and (pt_cmpR op_gt (pe_callB call_len_seq (by rfl) N.len PySem.boot_len (pa_cons (pv 0) pa_nil)) pe_int (nomark _))
          (pw_and1 (pt_cmpR op_lt (pv 3) (pe_op op_mul pe_int (pe_op op_sub (pe_callB call_len_seq (by rfl) N.len PySem.boot_len (pa_cons (pv 0) pa_nil)) pe_int)) (nomark _)))))
        (pss_one (ps_set (i := 0) scLZip.nd rfl (Or.inl rfl) (pe_call GC hr1 rfl DC.g DC.F.kp DC.b .nil pass0 (pa_cons (pv 0) pa_nil)))))
      (pss_cons (ps_asg (pe_ix ix_list (pv 0) (pe_un un_neg pe_int) (fun _ _ => rfl)) (pg_unl rfl (pgs_cons (pg_name (i := 4) scLZip.nd rfl (Or.inl rfl)) (pgs_cons (pg_name (i := 5) scLZip.nd rfl (Or.inl rfl)) (pgs_cons (pg_name (i := 6) scLZip.nd rfl (Or.inl rfl)) pgs_nil)))))
      (pss_cons (ps_if (PW.pt (pw_or (pt_cmpR op_ne (pv 3) (pe_op op_mul pe_int (pe_op op_sub (pe_callB call_len_seq (by rfl) N.len PySem.boot_len (pa_cons (pv 0) pa_nil)) pe_int)) (nomark _)) (pw_or (pt_cmpR op_gt (pv 6) pe_int (nomark _))
          (pw_or1 (pt_cmpR op_gt (pe_callB call_len_seq (by rfl) N.len PySem.boot_len (pa_cons (pv 1) pa_nil)) pe_int (nomark _)))))) (pss_one (ps_ret pe_non)) pss_nil)
      (pss_one (ps_ret (pe_op op_cat (pe_slice sl_list (pv 0) po_none (po_some (pe_un un_neg pe_int))) (pe_lst (pa_cons (pe_lst (pa_cons (pv 4) (pa_cons (pv 5) (pa_cons (pe_op op_add (pv 6) pe_int) pa_nil)))) pa_nil)))))))), ?_⟩
    have zl : z.length ≤ sizeLine := by rw [sizeLine_eq]; have := hz.len; omega
    have ble := bl_le z
    have zlen : z.length = bl z + 3 := by
      have := len_rs z
      rw [ez, show ("zip" : Str).length = 3 by decide +kernel] at this
      omega
    refine ⟨_, rfl, _, rfl, zl, _, _, rfl, rfl, ?_⟩
    rw [zlen]
    dsimp only
    have eb : ((bl z + 3 : Nat) : Int) - 3 = ((bl z : Nat) : Int) := by omega
    rw [eb]
    cases lv with
    | nil => exact absurd rfl ne
    | cons i0 r0 =>
    have bsm : bl z ≤ 1000 := Nat.le_trans ble hz.len
    refine ⟨fun m σ H' => ∃ (q' : Addr) (ws' : List V) (i : Lv) (r : List Lv), σ = [some (.ref q'), some (.ref uq), some (.str z), some (.int (bl z : Nat)), none, none, none] ∧ m = r.length ∧ Same H H' ∧ H' q' = some (.lst ws'.reverse) ∧ LvAll H' ws' (i :: r) ∧ r.length ≤ 9 ∧ lwClose (bl z) i r = lwClose (bl z) i0 r0,
      ⟨_, q, ws, i0, r0, rfl, rfl, Same.refl _, hq, la, by rw [List.length_cons] at few; omega, rfl⟩, ?_⟩
    rintro m σ H1 ⟨q1, ws1, i, r, rfl, rfl, s1, hq1, la1, few1, ec⟩
    have lw := la1.len
    rw [List.length_cons] at lw
    have wl : ws1.reverse.length = r.length + 1 := by rw [List.length_reverse, lw]
    refine ⟨_, rfl, q1, _, rfl, .inl (SqL.of hq1), _, _, rfl, rfl, _, rfl, ?_⟩
    by_cases hl : r ≠ [] ∧ bl z < 2 * r.length
    · obtain ⟨o, r', rfl⟩ : ∃ o r', r = o :: r' := by
        cases r with
        | nil => exact absurd rfl hl.1
        | cons o r' => exact ⟨o, r', rfl⟩
      rw [List.length_cons] at wl few1 lw
      have go1 : (1 : Int) < ((ws1.reverse.length : Nat) : Int) := by rw [wl]; omega
      rw [decide_eq_true go1]
      refine iteT (B := True) ?_
      refine ⟨_, rfl, _, rfl, q1, _, rfl, .inl (SqL.of hq1), _, _, rfl, rfl, _, _, rfl, rfl, .inl ⟨by decide, by decide⟩, _, _, rfl, rfl, _, rfl, ?_⟩
      have hl2 := hl.2
      rw [List.length_cons] at hl2
      have go2 : ((bl z : Nat) : Int) < 2 * (((ws1.reverse.length : Nat) : Int) - 1) := by rw [wl]; omega
      rw [decide_eq_true go2]
      refine iteT (B := True) ?_
      have ecl : lwClose (bl z) i (o :: r') = lwClose (bl z) (clo i o) r' := if_pos hl.2
      refine ⟨fun σ' H' => ∃ m', m' < (o :: r').length ∧ ∃ (q' : Addr) (ws' : List V) (i : Lv) (r : List Lv), σ' = [some (.ref q'), some (.ref uq), some (.str z), some (.int (bl z : Nat)), none, none, none] ∧ m' = r.length ∧ Same H H' ∧ H' q' = some (.lst ws'.reverse) ∧ LvAll H' ws' (i :: r) ∧ r.length ≤ 9 ∧ lwClose (bl z) i r = lwClose (bl z) i0 r0, fun σ' H' h => h, ?_⟩
      cases ws1 with
      | nil => cases lw
      | cons w1 ws1 =>
      cases ws1 with
      | nil =>
        rw [List.length_cons] at lw
        exact absurd lw (by simp)
      | cons w2 ws1 =>
      refine ⟨_, rfl, q1, w1, w2, ws1, i, o, r', rfl, hq1, la1, by omega, fun q2 v H2 nq s2 e2 la2 => ?_⟩
      exact ⟨r'.length, Nat.lt_succ_self _, q2, v :: ws1, clo i o, r', rfl, rfl, s1.trans s2, e2, la2, by omega, by rw [← ecl]; exact ec⟩
    have ec2 : lwClose (bl z) i0 r0 = (i, r) := by
      rw [← ec]
      cases r with
      | nil => rfl
      | cons o r => exact if_neg (fun h => hl ⟨List.cons_ne_nil _ _, h⟩)
    by_cases hr0 : r = []
    case' pos =>
      have go1 : ¬ ((1 : Int) < ((ws1.reverse.length : Nat) : Int)) := by rw [wl, hr0]; decide
      rw [decide_eq_false go1]
      refine iteF (A := True) ?_
    case' neg =>
      have go1 : (1 : Int) < ((ws1.reverse.length : Nat) : Int) := by
        rw [wl]
        have := List.length_pos_iff.mpr hr0
        omega
      rw [decide_eq_true go1]
      refine iteT (B := True) ?_
      refine ⟨_, rfl, _, rfl, q1, _, rfl, .inl (SqL.of hq1), _, _, rfl, rfl, _, _, rfl, rfl, .inl ⟨by decide, by decide⟩, _, _, rfl, rfl, _, rfl, ?_⟩
      have go2 : ¬ (((bl z : Nat) : Int) < 2 * (((ws1.reverse.length : Nat) : Int) - 1)) := fun h => hl ⟨hr0, by rw [wl] at h; omega⟩
      rw [decide_eq_false go2]
      refine iteF (A := True) ?_
    all_goals (
      cases la1 with
      | @cons w1 wr _ _ h1 la1 =>
      obtain ⟨a1, rfl, e1⟩ := h1
      refine ⟨_, rfl, _, rfl, q1, _, _, .ref a1, rfl, rfl, SqL.of hq1, atI_rev, a1, _, rfl, SqL.of e1, rfl, _, _, rfl, _, _, rfl, _, _, rfl, rfl, ?_⟩
      have s02 := s1
      have hq2 := hq1
      have k := k.up s02
      have er : lwZip z us.length (i0 :: r0) = if bl z = 2 * r.length ∧ i.2.2 ≤ 5 ∧ us.length ≤ 3 then some ((i.1, i.2.1, i.2.2 + 1) :: r) else none := by
        show (if bl z = 2 * (lwClose (bl z) i0 r0).2.length ∧ (lwClose (bl z) i0 r0).1.2.2 ≤ 5 ∧ us.length ≤ 3 then
            some (((lwClose (bl z) i0 r0).1.1, (lwClose (bl z) i0 r0).1.2.1, (lwClose (bl z) i0 r0).1.2.2 + 1) :: (lwClose (bl z) i0 r0).2) else none) = _
        rw [ec2]
      rw [er] at k
      refine ⟨_, rfl, _, rfl, q1, _, rfl, .inl (SqL.of hq2), _, _, rfl, rfl, _, _, rfl, rfl, .inl ⟨by decide, by decide⟩, rfl, _, rfl, ?_⟩
      by_cases c1 : bl z = 2 * r.length
      case neg =>
        have ne1 : ¬ (V.int ((bl z : Nat) : Int) = V.int (2 * (((((V.ref a1 :: wr).reverse).length : Nat) : Int) - 1))) := fun h => by
          have h := V.int.inj h
          rw [wl] at h
          omega
        rw [decide_eq_false ne1]
        rw [if_neg (fun h => c1 h.1)] at k
        exact iteT (B := True) (k H1 (Same.refl _))
      have ee1 : V.int ((bl z : Nat) : Int) = V.int (2 * (((((V.ref a1 :: wr).reverse).length : Nat) : Int) - 1)) := by
        congr 1
        rw [wl]
        omega
      rw [decide_eq_true ee1]
      refine iteF (A := True) ?_
      refine ⟨_, rfl, _, _, rfl, rfl, _, rfl, ?_⟩
      refine dif (fun c2 => ?_) (fun c2 => ?_)
      · rw [if_neg (fun h => by have := h.2.1; omega)] at k
        exact k H1 (Same.refl _)
      refine ⟨_, rfl, uq, _, rfl, .inl (SqL.of (s1 _ _ hu)), _, _, rfl, rfl, _, rfl, ?_⟩
      refine dif (fun c3 => ?_) (fun c3 => ?_)
      · rw [if_neg (fun h => by have := h.2.2; rw [List.length_map] at c3; omega)] at k
        exact k H1 (Same.refl _)
      rw [if_pos ⟨c1, by omega, by rw [List.length_map] at c3; omega⟩] at k
      refine ⟨_, rfl, _, rfl, _, rfl, q1, _, rfl, SqL.of hq2, fun p hp => ?_⟩
      rw [cut1]
      have s3 : Same H1 (upd H1 p (.lst wr.reverse)) := same_new hp
      have f3 : upd H1 p (.lst wr.reverse) p = some (.lst wr.reverse) := upd_same
      generalize upd H1 p (.lst wr.reverse) = H3 at s3 f3
      refine ⟨_, rfl, _, rfl, _, rfl, _, _, rfl, rfl, by show 3 ≤ sizeLine; decide, fun y hy => ?_⟩
      have s5 : Same H3 (upd H3 y (.lst [.str i.1, .int i.2.1, .int (i.2.2 + 1)])) := same_new hy
      have f5 : upd H3 y (.lst [.str i.1, .int i.2.1, .int (i.2.2 + 1)]) y = some (.lst [.str i.1, .int i.2.1, .int (i.2.2 + 1)]) := upd_same
      generalize upd H3 y (.lst [.str i.1, .int i.2.1, .int (i.2.2 + 1)]) = H5 at s5 f5
      refine ⟨by show 1 ≤ sizeLine; decide, fun x6 hx6 => ?_⟩
      have s6 : Same H5 (upd H5 x6 (.lst [.ref y])) := same_new hx6
      have f6 : upd H5 x6 (.lst [.ref y]) x6 = some (.lst [.ref y]) := upd_same
      generalize upd H5 x6 (.lst [.ref y]) = H6 at s6 f6
      have lwr := la1.len
      refine ⟨p, x6, _, _, rfl, rfl, s6 _ _ (s5 _ _ f3), f6, ?_, fun y7 hy7 => ?_⟩
      · rw [List.length_reverse, sizeLine_eq]
        show wr.length + 1 ≤ _
        omega
      have s7 : Same H6 (upd H6 y7 (.lst (wr.reverse ++ [.ref y]))) := same_new hy7
      have s27 := s3.trans (s5.trans (s6.trans s7))
      exact k y7 (.ref y :: wr) _ s27 (by rw [upd_same, List.reverse_cons]) (.cons ⟨y, rfl, s7 _ _ (s6 _ _ f5)⟩ (la1.same s27)))
end
end K81
set_option Elab.async false
set_option linter.all false
set_option maxRecDepth 100000
set_option maxHeartbeats 4000000
namespace K81
open PySem L2 VK
open TL (tl)
theorem flat_rep : ∀ n : Nat, (List.replicate n ([32, 32] : List Nat)).flatten = List.replicate (2 * n) 32
  | 0 => rfl
  | n + 1 => by
    rw [List.replicate_succ, List.flatten_cons, flat_rep n]
    show 32 :: 32 :: List.replicate (2 * n) 32 = List.replicate (2 * n + 2) 32
    rfl
theorem front_tl (n : Nat) : tl (repS "  " n) = List.replicate (2 * n) 32 := by
  rw [tl_repS, tl_two, flat_rep]
theorem front_len (n : Nat) : (repS "  " n).length = 2 * n := by
  rw [TL.len_tl, front_tl, List.length_replicate]
theorem cut_hi {z : Str} {n : Nat} : tl (cutS z none (some (n : Int))) = (tl z).take n := by
  show ((tl z).drop (HT.sIx z.length 0 none)).take (HT.sIx z.length z.length (some (n : Int)) - HT.sIx z.length 0 none) = (tl z).take n
  rw [HT.sIx_nat, HT.sIx_none, List.drop_zero, Nat.sub_zero]
  by_cases h : n ≤ z.length
  · rw [Nat.min_eq_left h]
  · rw [Nat.min_eq_right (by omega), List.take_of_length_le (by rw [← TL.len_tl]; exact Nat.le_refl _), List.take_of_length_le (by rw [← TL.len_tl]; omega)]
theorem cut_lo {z : Str} {n : Nat} : tl (cutS z (some (n : Int)) none) = (tl z).drop n := by
  show ((tl z).drop (HT.sIx z.length 0 (some (n : Int)))).take (HT.sIx z.length z.length none - HT.sIx z.length 0 (some (n : Int))) = (tl z).drop n
  rw [HT.sIx_nat, HT.sIx_none]
  by_cases h : n ≤ z.length
  · rw [Nat.min_eq_left h, List.take_of_length_le (by rw [List.length_drop, ← TL.len_tl]; exact Nat.le_refl _)]
  · rw [Nat.min_eq_right (by omega), Nat.sub_self, List.take_zero, List.drop_of_length_le (by rw [← TL.len_tl]; omega)]
theorem from_tl : tl ("from " : Str) = [102, 114, 111, 109, 32] := by decide +kernel
section
variable {P : Program} {w : World} {K : Fg} {mg : Str → Option Value} {base : Heap} {f : Addr} {fd : FuncData}
theorem ok_beg (DB : Df K mg "_law_begun" sBeg ["levels", "used", "line"] f fd) (N : Nm mg) : FnOk P w K mg base CX0 1 f fd ["levels", "used", "line"] (spBeg K) := by
  refine DB.F.ok scBeg (fun vs H Q E h => ?_) (fun cdv B outer s H vs Q E hr h => ?_)
  · obtain ⟨q, uq, z, us, ws, lv, rfl, _⟩ := h
    rfl
  · obtain ⟨q, uq, z, us, ws, lv, rfl, hz, hu, hq, la, few, k⟩ := h
    refine ⟨_, pss_cons (ps_set (i := 3) scBeg.nd rfl (Or.inl rfl) (pe_op op_mulS pe_str (pe_callB call_len_seq (by rfl) N.len PySem.boot_len (pa_cons (pv 0) pa_nil))))
      (pss_cons (ps_set (i := 4) scBeg.nd rfl (Or.inl rfl) (pe_slice sl_str (pv 2) (po_some (pe_callB call_len_str (by rfl) N.len PySem.boot_len (pa_cons (pv 3) pa_nil))) po_none))
      (pss_cons (ps_if (PW.pt (pw_or (pt_cmpR op_ne (pe_slice sl_str (pv 2) po_none (po_some (pe_callB call_len_str (by rfl) N.len PySem.boot_len (pa_cons (pv 3) pa_nil)))) (pv 3) (nomark _))
          (pw_or (pt_cmpR op_ne (pe_callB call_len_str (by rfl) N.len PySem.boot_len (pa_cons (pv 4) pa_nil)) pe_int (nomark _))
          (pw_or (pt_cmpR op_ne (pe_slice sl_str (pv 4) po_none (po_some pe_int)) pe_str (nomark _))
          (pw_or (pt_cmpR op_notIn_sign (pe_ix ix_str (pv 4) pe_int (fun _ _ => rfl)) pe_str rfl) (pw_or1 (pt_cmpR op_in_seq (pe_ix ix_str (pv 4) pe_int (fun _ _ => rfl)) (pv 1) rfl))))))) (pss_one (ps_ret pe_non)) pss_nil)
      (pss_one (ps_ret (pe_op op_cat (pv 0) (pe_lst (pa_cons (pe_lst (pa_cons (pe_ix ix_str (pv 4) pe_int (fun _ _ => rfl)) (pa_cons pe_int (pa_cons pe_int pa_nil)))) pa_nil))))))), ?_⟩
    have zl : z.length ≤ sizeLine := by rw [sizeLine_eq]; have := hz.len; omega
    have lw := la.len
    have wl : ws.reverse.length = lv.length := by rw [List.length_reverse, lw]
    refine ⟨_, rfl, q, _, rfl, .inl (SqL.of hq), "  ", lv.length, rfl, by rw [wl], by omega, by decide +kernel, ?_⟩
    have fl : (repS "  " lv.length).length ≤ sizeLine := by rw [front_len, sizeLine_eq]; omega
    refine ⟨_, rfl, _, rfl, _, rfl, fl, _, rfl, z, rfl, zl, ?_⟩
    rw [front_len]
    have ftl := front_tl lv.length
    have flen := front_len lv.length
    generalize repS "  " lv.length = fr at ftl flen fl
    have xtl : tl (cutS z (some ((2 * lv.length : Nat) : Int)) none) = (tl z).drop (2 * lv.length) := cut_lo
    have xl : (cutS z (some ((2 * lv.length : Nat) : Int)) none).length ≤ sizeLine := Nat.le_trans (cutS_length _ _ _) zl
    generalize cutS z (some ((2 * lv.length : Nat) : Int)) none = tx at xtl xl
    refine ⟨_, rfl, _, rfl, fr, rfl, fl, _, rfl, z, rfl, zl, _, rfl, rfl, _, rfl, ?_⟩
    rw [flen]
    unfold lwBegun at k
    by_cases c1 : (tl z).take (2 * lv.length) = List.replicate (2 * lv.length) 32
    case neg =>
      rw [if_neg c1] at k
      have ne1 : ¬ (V.str (cutS z none (some ((2 * lv.length : Nat) : Int))) = V.str fr) := fun h => c1 (by
        have h := V.str.inj h
        rw [← ftl, ← h, cut_hi])
      rw [decide_eq_false ne1]
      exact iteT (B := True) (k H (Same.refl _))
    rw [if_pos c1] at k
    have ee1 : V.str (cutS z none (some ((2 * lv.length : Nat) : Int))) = V.str fr := by
      congr 1
      exact TL.ext_tl (by rw [ftl, cut_hi, c1])
    rw [decide_eq_true ee1]
    refine iteF (A := True) ?_
    refine ⟨_, rfl, tx, rfl, xl, rfl, _, rfl, ?_⟩
    rw [← xtl] at k
    have six : (∃ a b c d e x, tl tx = [a, b, c, d, e, x]) ∨ ¬ tx.length = 6 := by
      rw [TL.len_tl]
      match tl tx with
      | [] => exact .inr (by decide)
      | [_] => exact .inr (by simp)
      | [_, _] => exact .inr (by simp)
      | [_, _, _] => exact .inr (by simp)
      | [_, _, _, _] => exact .inr (by simp)
      | [_, _, _, _, _] => exact .inr (by simp)
      | [a, b, c, d, e, x] => exact .inl ⟨a, b, c, d, e, x, rfl⟩
      | _ :: _ :: _ :: _ :: _ :: _ :: _ :: r => exact .inr (by simp)
    rcases six with ⟨a, b, c, d, e, x, et⟩ | n6
    case inr =>
      have ne2 : ¬ (V.int ((tx.length : Nat) : Int) = V.int 6) := fun h => n6 (by
        have h := V.int.inj h
        omega)
      rw [decide_eq_false ne2]
      have kn : LAfter H Q none := by
        split at k
        · rename_i h
          rw [TL.len_tl, h] at n6
          exact absurd rfl n6
        · exact k
      exact iteT (B := True) (kn H (Same.refl _))
    have l6 : tx.length = 6 := by rw [TL.len_tl, et]; rfl
    rw [et] at k
    have k : LAfter H Q (if [a, b, c, d, e] = tl "from " ∧ x ∈ tl "abcd" ∧ (⟨#[x]⟩ : Str) ∉ us then some ((⟨#[x]⟩, 0, 0) :: lv) else none) := k
    rw [decide_eq_true (show V.int ((tx.length : Nat) : Int) = V.int 6 by rw [l6]; rfl)]
    refine iteF (A := True) ?_
    refine ⟨_, rfl, _, rfl, tx, rfl, xl, rfl, _, rfl, ?_⟩
    have c5 : tl (cutS tx none (some 5)) = [a, b, c, d, e] := by
      have := cut_hi (z := tx) (n := 5)
      rw [et] at this
      exact this
    by_cases c2 : [a, b, c, d, e] = tl ("from " : Str)
    case neg =>
      rw [if_neg (fun h => c2 h.1)] at k
      have ne3 : ¬ (V.str (cutS tx none (some 5)) = V.str "from ") := fun h => c2 (by rw [← c5, V.str.inj h])
      rw [decide_eq_false ne3]
      exact iteT (B := True) (k H (Same.refl _))
    have ee3 : V.str (cutS tx none (some 5)) = V.str "from " := by
      congr 1
      exact TL.ext_tl (by rw [c5, c2])
    rw [decide_eq_true ee3]
    refine iteF (A := True) ?_
    have at5 : atI tx.cps.toList 5 = some x := by
      show atI (tl tx) 5 = some x
      rw [et]
      exact atI_nat (j := 5) rfl
    refine ⟨_, rfl, tx, _, x, rfl, rfl, xl, at5, x, _, rfl, rfl, _, rfl, ?_⟩
    by_cases c3 : x ∈ tl "abcd"
    case neg =>
      rw [if_neg (fun h => c3 h.2.1)] at k
      rw [decide_eq_false c3]
      exact iteT (B := True) (k H (Same.refl _))
    rw [decide_eq_true c3]
    refine iteF (A := True) ?_
    refine ⟨_, rfl, tx, _, x, rfl, rfl, xl, at5, _, rfl, uq, _, rfl, .inl (SqL.of hu), rfl, all_flat _, _, rfl, ?_⟩
    rw [show inV (.str (⟨#[x]⟩ : Str)) (us.map V.str) = decide ((⟨#[x]⟩ : Str) ∈ us) from in_dec _ us]
    by_cases c4 : (⟨#[x]⟩ : Str) ∈ us
    case pos =>
      rw [if_neg (fun h => h.2.2 c4)] at k
      rw [decide_eq_true c4]
      exact iteT (B := True) (k H (Same.refl _))
    rw [if_pos ⟨c2, c3, c4⟩] at k
    rw [decide_eq_false c4]
    refine iteF (A := True) ?_
    refine ⟨_, rfl, _, rfl, tx, _, x, rfl, rfl, xl, at5, by show 3 ≤ sizeLine; decide, fun y hy => ?_⟩
    have s5 : Same H (upd H y (.lst [.str ⟨#[x]⟩, .int 0, .int 0])) := same_new hy
    have f5 : upd H y (.lst [.str ⟨#[x]⟩, .int 0, .int 0]) y = some (.lst [.str ⟨#[x]⟩, .int 0, .int 0]) := upd_same
    generalize upd H y (.lst [.str ⟨#[x]⟩, .int 0, .int 0]) = H5 at s5 f5
    refine ⟨by show 1 ≤ sizeLine; decide, fun x6 hx6 => ?_⟩
    have s6 : Same H5 (upd H5 x6 (.lst [.ref y])) := same_new hx6
    have f6 : upd H5 x6 (.lst [.ref y]) x6 = some (.lst [.ref y]) := upd_same
    generalize upd H5 x6 (.lst [.ref y]) = H6 at s6 f6
    refine ⟨q, x6, _, _, rfl, rfl, s6 _ _ (s5 _ _ hq), f6, ?_, fun y7 hy7 => ?_⟩
    · rw [wl, sizeLine_eq]
      show lv.length + 1 ≤ _
      omega
    have s7 : Same H6 (upd H6 y7 (.lst (ws.reverse ++ [.ref y]))) := same_new hy7
    have s27 := s5.trans (s6.trans s7)
    exact k y7 (.ref y :: ws) _ s27 (by rw [upd_same, List.reverse_cons]) (.cons ⟨y, rfl, s7 _ _ (s6 _ _ f5)⟩ (la.same s27))
end
end K81
set_option Elab.async false
set_option linter.all false
set_option maxRecDepth 100000
set_option maxHeartbeats 4000000
namespace K81
open PySem L2 VK
open TL (tl)
/-! ### the law's reading and the reader's are one -/
mutual
theorem Sg.dep0 : ∀ (x : Sg) (d : Int) (tk : List Str), x.ok d tk → 0 ≤ d → 0 ≤ x.dep d
  | .nm k n, d, _, _, h => by
    show 0 ≤ (if k = "map" then 0 else d)
    split
    · exact Int.le_refl 0
    · exact h
  | .num k n, d, _, _, h => by
    show 0 ≤ (if k = "lots" then d + 1 else d)
    split <;> omega
  | .flat, d, _, o, h => by
    have o : 0 < d := o
    show 0 ≤ d - 1
    omega
  | .zip p, d, tk, o, h => by
    have o : p.ok ∧ ∀ s ∈ p.srcs, s ∉ tk := o
    have := Pg.dep0 p o.1
    show 0 ≤ (if p.dep < d then p.dep else d) + 1
    split <;> omega
theorem Pg.dep0 : ∀ g : Pg, g.ok → 0 ≤ g.dep
  | .mk s l, h => by
    have h : s ∈ K0 ∧ l.len ≤ 6 ∧ l.ok 0 [s] := h
    exact Sgs.dep0 l 0 [s] h.2.2 (Int.le_refl 0)
theorem Sgs.dep0 : ∀ (l : Sgs) (d : Int) (tk : List Str), l.ok d tk → 0 ≤ d → 0 ≤ l.dep d
  | .nil, d, _, _, h => h
  | .cons x r, d, tk, o, h => by
    have o : x.ok d tk ∧ r.ok (x.dep d) (tk ++ x.srcs) := o
    exact Sgs.dep0 r _ _ o.2 (Sg.dep0 x d tk o.1 h)
end
def Pg.srcP : Pg → Str
  | .mk s _ => s
def lvO (q : Pg) : Lv := (q.srcP, q.depP, (q.lenP : Int) + 1)
def lvI (p : Pg) : Lv := (p.srcP, p.depP, (p.lenP : Int))
def lvOf : Stt → List Lv
  | (ps, true) => ps.map lvO
  | ([], false) => []
  | (p :: r, false) => lvI p :: r.map lvO
theorem clo_eq (p q : Pg) : clo (lvI p) (lvO q) = lvI (q.then (.zip p)) := by
  obtain ⟨s, l⟩ := q
  obtain ⟨s', l'⟩ := p
  show (s, 1 + (if l'.dep 0 < l.dep 0 then l'.dep 0 else l.dep 0), ((l.len : Nat) : Int) + 1) = (s, (l.snoc (.zip (.mk s' l'))).dep 0, (((l.snoc (.zip (.mk s' l'))).len : Nat) : Int))
  rw [dep_snoc, len_snoc]
  show _ = (s, (if l'.dep 0 < l.dep 0 then l'.dep 0 else l.dep 0) + 1, _)
  rw [Int.add_comm]
  rfl
theorem close_eq (d : Nat) : ∀ (r : List Pg) (p : Pg), lwClose (2 * d) (lvI p) (r.map lvO) = (lvI (closeTo d p r).1, (closeTo d p r).2.map lvO)
  | [], p => rfl
  | q :: r, p => by
    by_cases lt : d < (q :: r).length
    · have e : closeTo d p (q :: r) = closeTo d (q.then (.zip p)) r := if_pos lt
      have e2 : lwClose (2 * d) (lvI p) ((q :: r).map lvO) = lwClose (2 * d) (clo (lvI p) (lvO q)) (r.map lvO) := if_pos (by
        show 2 * d < 2 * ((q :: r).map lvO).length
        rw [List.length_map]
        omega)
      rw [e, e2, clo_eq]
      exact close_eq d r _
    · have e : closeTo d p (q :: r) = (p, q :: r) := if_neg lt
      have e2 : lwClose (2 * d) (lvI p) ((q :: r).map lvO) = (lvI p, (q :: r).map lvO) := if_neg (by
        show ¬ 2 * d < 2 * ((q :: r).map lvO).length
        rw [List.length_map]
        omega)
      rw [e, e2]
theorem close_mem (d : Nat) {t : Str} : ∀ (r : List Pg) (p : Pg), (∃ q ∈ (closeTo d p r).1 :: (closeTo d p r).2, t ∈ q.srcs) ↔ ∃ q ∈ p :: r, t ∈ q.srcs
  | [], p => Iff.rfl
  | q :: r, p => by
    by_cases lt : d < (q :: r).length
    · have e : closeTo d p (q :: r) = closeTo d (q.then (.zip p)) r := if_pos lt
      rw [e, close_mem d r (q.then (.zip p))]
      constructor
      · rintro ⟨q1, h1, h2⟩
        rcases List.mem_cons.mp h1 with rfl | h1
        · rw [then_srcs] at h2
          rcases List.mem_append.mp h2 with a | a
          · exact ⟨q, List.mem_cons_of_mem _ List.mem_cons_self, a⟩
          · exact ⟨p, List.mem_cons_self, a⟩
        · exact ⟨q1, List.mem_cons_of_mem _ (List.mem_cons_of_mem _ h1), h2⟩
      · rintro ⟨q1, h1, h2⟩
        rcases List.mem_cons.mp h1 with rfl | h1
        · exact ⟨_, List.mem_cons_self, by rw [then_srcs]; exact List.mem_append_right _ h2⟩
        · rcases List.mem_cons.mp h1 with rfl | h1
          · exact ⟨_, List.mem_cons_self, by rw [then_srcs]; exact List.mem_append_left _ h2⟩
          · exact ⟨q1, List.mem_cons_of_mem _ h1, h2⟩
    · have e : closeTo d p (q :: r) = (p, q :: r) := if_neg lt
      rw [e]
structure Used (ps : List Pg) (us : List Str) : Prop where
  nd : us.Nodup
  mem : ∀ t, t ∈ us ↔ ∃ q ∈ ps, t ∈ q.srcs
/-- sources are left exactly if fewer than four are used -/
theorem used_free {ps : List Pg} {us : List Str} (h : Used ps us) (ok : ∀ q ∈ ps, q.ok) : us.length ≤ 3 ↔ free ps ≠ [] := by
  have sub : ∀ t ∈ us, t ∈ K0 := fun t ht => by
    obtain ⟨q, h1, h2⟩ := (h.mem t).mp ht
    exact (Pg.fine q (ok q h1)).2 t h2
  constructor
  · intro l e
    have all : ∀ t ∈ K0, t ∈ us := fun t ht => by
      refine Classical.byContradiction fun n => ?_
      have : t ∈ free ps := mem_free.mpr ⟨ht, fun q hq z => n ((h.mem t).mpr ⟨q, hq, z⟩)⟩
      rw [e] at this
      cases this
    have := nd_len K0 us (by decide +kernel) all
    have e4 : K0.length = 4 := rfl
    omega
  · intro e
    obtain ⟨s, hs⟩ := List.exists_mem_of_ne_nil _ e
    obtain ⟨k0, nf⟩ := mem_free.mp hs
    have nin : s ∉ us := fun z => by
      obtain ⟨q, h1, h2⟩ := (h.mem s).mp z
      exact nf q h1 h2
    have := nd_len (s :: us) K0 (List.nodup_cons.mpr ⟨nin, h.nd⟩) fun x hx => by
      rcases List.mem_cons.mp hx with rfl | hx
      · exact k0
      · exact sub x hx
    rw [List.length_cons] at this
    have e4 : K0.length = 4 := rfl
    omega
theorem us_zip {z : Str} : usOf z = [("zip" : Str)] ↔ rs z = "zip" := by
  constructor
  · intro h
    have := rs_join z
    rw [h, join_one] at this
    exact this.symm
  · intro h
    unfold usOf
    rw [h]
    have := split_words (wd_one fr_zip)
    rw [join_one] at this
    exact this
theorem used_iff {ps qs : List Pg} {us : List Str} (h : Used ps us) (e : ∀ t, (∃ q ∈ qs, t ∈ q.srcs) ↔ ∃ q ∈ ps, t ∈ q.srcs) : Used qs us := ⟨h.nd, fun t => by rw [h.mem t, e t]⟩
/-- a line "zip" -/
theorem zip_eq {z : Str} {p : Pg} {r : List Pg} {us : List Str} (ez : rs z = "zip") (u : Used (p :: r) us) (ok : ∀ q ∈ (closeTo (bl z / 2) p r).1 :: (closeTo (bl z / 2) p r).2, q.ok) :
    match rdL z (p :: r, false) with
    | some st => lwZip z us.length (lvOf (p :: r, false)) = some (lvOf st) ∧ Used st.1 us ∧ st.2 = true
    | none => lwZip z us.length (lvOf (p :: r, false)) = none := by
  have er : rdL z (p :: r, false) = if bl z % 2 = 0 ∧ bl z / 2 ≤ r.length then rdStg (usOf z) (closeTo (bl z / 2) p r).1 (closeTo (bl z / 2) p r).2 else none := rfl
  have ew : lwZip z us.length (lvOf (p :: r, false)) = if bl z = 2 * (lwClose (bl z) (lvI p) (r.map lvO)).2.length ∧ (lwClose (bl z) (lvI p) (r.map lvO)).1.2.2 ≤ 5 ∧ us.length ≤ 3 then
        some (((lwClose (bl z) (lvI p) (r.map lvO)).1.1, (lwClose (bl z) (lvI p) (r.map lvO)).1.2.1, (lwClose (bl z) (lvI p) (r.map lvO)).1.2.2 + 1) :: (lwClose (bl z) (lvI p) (r.map lvO)).2) else none := rfl
  by_cases ev : bl z % 2 = 0
  case neg =>
    rw [er, if_neg (fun h => ev h.1), ew, if_neg (fun h => by have := h.1; omega)]
  generalize hd : bl z / 2 = d at *
  have e2 : bl z = 2 * d := by omega
  rw [ew, e2, close_eq]
  by_cases dl : d ≤ r.length
  case neg =>
    rw [er, if_neg (fun h => dl h.2), if_neg]
    rintro ⟨h, _⟩
    have h : 2 * d = 2 * ((closeTo d p r).2.map lvO).length := h
    have a := lwClose_len (2 * d) (r.map lvO) (lvI p)
    rw [close_eq] at a
    have a : ((closeTo d p r).2.map lvO).length ≤ (r.map lvO).length := a
    rw [List.length_map] at a h
    rw [List.length_map] at a
    omega
  rw [er, if_pos ⟨ev, dl⟩]
  have cl := close_len d r p dl
  have cm := fun t => close_mem d (t := t) r p
  generalize closeTo d p r = gB at *
  obtain ⟨g, B⟩ := gB
  have cl : B.length = d := cl
  have u2 : Used (g :: B) us := used_iff u cm
  have uf := used_free u2 ok
  have es : rdStg (usOf z) g B = if free (g :: B) ≠ [] ∧ g.lenP < 6 then some (g :: B, true) else none := if_pos (us_zip.mpr ez)
  show match rdStg (usOf z) g B with
    | some st => (if 2 * d = 2 * (B.map lvO).length ∧ ((g.lenP : Nat) : Int) ≤ 5 ∧ us.length ≤ 3 then some ((g.srcP, g.depP, ((g.lenP : Nat) : Int) + 1) :: B.map lvO) else none) = some (lvOf st) ∧ Used st.1 us ∧ st.2 = true
    | none => (if 2 * d = 2 * (B.map lvO).length ∧ ((g.lenP : Nat) : Int) ≤ 5 ∧ us.length ≤ 3 then some ((g.srcP, g.depP, ((g.lenP : Nat) : Int) + 1) :: B.map lvO) else none) = none
  rw [es]
  by_cases c : free (g :: B) ≠ [] ∧ g.lenP < 6
  · rw [if_pos c, if_pos ⟨by rw [List.length_map, cl], by omega, uf.mpr c.1⟩]
    exact ⟨rfl, u2, rfl⟩
  · rw [if_neg c]
    exact if_neg (fun h => c ⟨uf.mp h.2.2, by omega⟩)
end K81
set_option Elab.async false
set_option linter.all false
set_option maxRecDepth 100000
set_option maxHeartbeats 4000000
namespace K81
open PySem L2 VK
open TL (tl)
theorem depP_nonneg {g : Pg} (ok : g.ok) : 0 ≤ g.depP := by
  obtain ⟨s, l⟩ := g
  exact Pg.dep0 (.mk s l) ok
/-- any other line -/
theorem take_eq {z : Str} {p : Pg} {r : List Pg} {us : List Str} (ez : rs z ≠ "zip") (u : Used (p :: r) us) (ok : ∀ q ∈ (closeTo (bl z / 2) p r).1 :: (closeTo (bl z / 2) p r).2, q.ok) :
    match rdL z (p :: r, false) with
    | some st => lwTake z (lvOf (p :: r, false)) = some (lvOf st) ∧ Used st.1 us ∧ st.2 = false
    | none => lwTake z (lvOf (p :: r, false)) = none := by
  have er : rdL z (p :: r, false) = if bl z % 2 = 0 ∧ bl z / 2 ≤ r.length then rdStg (usOf z) (closeTo (bl z / 2) p r).1 (closeTo (bl z / 2) p r).2 else none := rfl
  have ew : lwTake z (lvOf (p :: r, false)) = match stW (usOf z) with
    | some x => if bl z = 2 * (lwClose (bl z) (lvI p) (r.map lvO)).2.length ∧ (lwClose (bl z) (lvI p) (r.map lvO)).1.2.2 ≤ 5 ∧ ¬ (x.kd = "flat" ∧ (lwClose (bl z) (lvI p) (r.map lvO)).1.2.1 = 0) then
        some (((lwClose (bl z) (lvI p) (r.map lvO)).1.1, x.dep (lwClose (bl z) (lvI p) (r.map lvO)).1.2.1, (lwClose (bl z) (lvI p) (r.map lvO)).1.2.2 + 1) :: (lwClose (bl z) (lvI p) (r.map lvO)).2) else none
    | none => none := rfl
  by_cases ev : bl z % 2 = 0
  case neg =>
    rw [er, if_neg (fun h => ev h.1), ew]
    cases stW (usOf z) with
    | none => rfl
    | some x => exact if_neg (fun h => by have := h.1; omega)
  generalize hd : bl z / 2 = d at *
  have e2 : bl z = 2 * d := by omega
  rw [ew, e2, close_eq]
  by_cases dl : d ≤ r.length
  case neg =>
    rw [er, if_neg (fun h => dl h.2)]
    have no : ¬ (2 * d = 2 * ((closeTo d p r).2.map lvO).length) := by
      intro h
      have a := lwClose_len (2 * d) (r.map lvO) (lvI p)
      rw [close_eq] at a
      have a : ((closeTo d p r).2.map lvO).length ≤ (r.map lvO).length := a
      rw [List.length_map] at a h
      rw [List.length_map] at a
      omega
    cases stW (usOf z) with
    | none => rfl
    | some x => exact if_neg (fun h => no h.1)
  rw [er, if_pos ⟨ev, dl⟩]
  have cl := close_len d r p dl
  have cm := fun t => close_mem d (t := t) r p
  generalize closeTo d p r = gB at *
  obtain ⟨g, B⟩ := gB
  have cl : B.length = d := cl
  have u2 : Used (g :: B) us := used_iff u cm
  have okg : g.ok := ok g List.mem_cons_self
  have dp := depP_nonneg okg
  have es : rdStg (usOf z) g B = match stW (usOf z) with
    | some x => if canAt g x = true then some (g.then x :: B, false) else none
    | none => none := if_neg (fun h => ez (us_zip.mp h))
  show match rdStg (usOf z) g B with
    | some st => (match stW (usOf z) with
      | some x => if 2 * d = 2 * (B.map lvO).length ∧ ((g.lenP : Nat) : Int) ≤ 5 ∧ ¬ (x.kd = "flat" ∧ g.depP = 0) then some ((g.srcP, x.dep g.depP, ((g.lenP : Nat) : Int) + 1) :: B.map lvO) else none
      | none => none) = some (lvOf st) ∧ Used st.1 us ∧ st.2 = false
    | none => (match stW (usOf z) with
      | some x => if 2 * d = 2 * (B.map lvO).length ∧ ((g.lenP : Nat) : Int) ≤ 5 ∧ ¬ (x.kd = "flat" ∧ g.depP = 0) then some ((g.srcP, x.dep g.depP, ((g.lenP : Nat) : Int) + 1) :: B.map lvO) else none
      | none => none) = none
  rw [es]
  cases ew : stW (usOf z) with
  | none => rfl
  | some x =>
    obtain ⟨vd, pl, _⟩ := stW_vd ew
    have same : canAt g x = true ↔ (2 * d = 2 * (B.map lvO).length ∧ ((g.lenP : Nat) : Int) ≤ 5 ∧ ¬ (x.kd = "flat" ∧ g.depP = 0)) := by
      unfold canAt
      rw [Bool.and_eq_true, decide_eq_true_eq, List.length_map, cl]
      have kf : ∀ k ∈ K1 ++ K2, k ≠ "flat" := by decide +kernel
      cases x with
      | nm k n =>
        have vd : k ∈ K1 ∧ isNm n = true := vd
        exact ⟨fun h => ⟨rfl, by omega, fun c => kf k (List.mem_append_left _ vd.1) c.1⟩, fun h => ⟨by omega, rfl⟩⟩
      | num k n =>
        have vd : k ∈ K2 ∧ okNum n = true := vd
        exact ⟨fun h => ⟨rfl, by omega, fun c => kf k (List.mem_append_right _ vd.1) c.1⟩, fun h => ⟨by omega, rfl⟩⟩
      | flat =>
        constructor
        · rintro ⟨h1, h2⟩
          have h2 : 0 < g.depP := of_decide_eq_true h2
          exact ⟨rfl, by omega, fun c => by have := c.2; omega⟩
        · rintro ⟨_, h1, h2⟩
          refine ⟨by omega, decide_eq_true ?_⟩
          have h2 : ¬ (("flat" : Str) = "flat" ∧ g.depP = 0) := h2
          have : g.depP ≠ 0 := fun z => h2 ⟨rfl, z⟩
          omega
      | zip p => exact pl.elim
    show match (if canAt g x = true then some (g.then x :: B, false) else none : Option Stt) with
      | some st => (if 2 * d = 2 * (B.map lvO).length ∧ ((g.lenP : Nat) : Int) ≤ 5 ∧ ¬ (x.kd = "flat" ∧ g.depP = 0) then some ((g.srcP, x.dep g.depP, ((g.lenP : Nat) : Int) + 1) :: B.map lvO) else none) = some (lvOf st) ∧ Used st.1 us ∧ st.2 = false
      | none => (if 2 * d = 2 * (B.map lvO).length ∧ ((g.lenP : Nat) : Int) ≤ 5 ∧ ¬ (x.kd = "flat" ∧ g.depP = 0) then some ((g.srcP, x.dep g.depP, ((g.lenP : Nat) : Int) + 1) :: B.map lvO) else none) = none
    by_cases c : canAt g x = true
    · rw [if_pos c, if_pos (same.mp c)]
      refine ⟨?_, used_iff u2 fun t => ?_, rfl⟩
      · obtain ⟨s, l⟩ := g
        show some ((s, x.dep (l.dep 0), ((l.len : Nat) : Int) + 1) :: B.map lvO) = some ((s, (l.snoc x).dep 0, (((l.snoc x).len : Nat) : Int)) :: B.map lvO)
        rw [dep_snoc, len_snoc]
        rfl
      · have e0 : x.srcs = [] := by
          cases x with
          | nm k n => rfl
          | num k n => rfl
          | flat => rfl
          | zip p => exact pl.elim
        have e1 : (g.then x).srcs = g.srcs := by rw [then_srcs, e0, List.append_nil]
        constructor
        · rintro ⟨q, h1, h2⟩
          rcases List.mem_cons.mp h1 with rfl | h1
          · exact ⟨g, List.mem_cons_self, by rw [← e1]; exact h2⟩
          · exact ⟨q, List.mem_cons_of_mem _ h1, h2⟩
        · rintro ⟨q, h1, h2⟩
          rcases List.mem_cons.mp h1 with rfl | h1
          · exact ⟨_, List.mem_cons_self, by rw [e1]; exact h2⟩
          · exact ⟨q, List.mem_cons_of_mem _ h1, h2⟩
    · rw [if_neg c]
      exact if_neg (fun h => c (same.mpr h))
/-- the last sign -/
def lastS (z : Str) : Str := cutS z (some (-1)) none
theorem k0_sign {s : Str} : s ∈ K0 ↔ ∃ x, x ∈ tl ("abcd" : Str) ∧ s = ⟨#[x]⟩ := by
  have e : tl ("abcd" : Str) = [97, 98, 99, 100] := by decide +kernel
  have k : K0 = [⟨#[97]⟩, ⟨#[98]⟩, ⟨#[99]⟩, ⟨#[100]⟩] := by decide +kernel
  rw [e, k]
  constructor
  · intro h
    rcases List.mem_cons.mp h with rfl | h
    · exact ⟨97, by decide, rfl⟩
    rcases List.mem_cons.mp h with rfl | h
    · exact ⟨98, by decide, rfl⟩
    rcases List.mem_cons.mp h with rfl | h
    · exact ⟨99, by decide, rfl⟩
    rcases List.mem_cons.mp h with rfl | h
    · exact ⟨100, by decide, rfl⟩
    · cases h
  · rintro ⟨x, h, rfl⟩
    rcases List.mem_cons.mp h with rfl | h
    · decide +kernel
    rcases List.mem_cons.mp h with rfl | h
    · decide +kernel
    rcases List.mem_cons.mp h with rfl | h
    · decide +kernel
    rcases List.mem_cons.mp h with rfl | h
    · decide +kernel
    · cases h
theorem last_eq {z : Str} {l : List Nat} {x : Nat} (h : tl z = l ++ [x]) : lastS z = ⟨#[x]⟩ := by
  refine TL.ext_tl ?_
  have len : z.length = l.length + 1 := by rw [TL.len_tl, h, List.length_append]; rfl
  show ((tl z).drop (HT.sIx z.length 0 (some (-1)))).take (HT.sIx z.length z.length none - HT.sIx z.length 0 (some (-1))) = [x]
  have e : HT.sIx z.length 0 (some (-1)) = l.length := by
    show (if (-1 : Int) < 0 then ((-1 : Int) + (z.length : Int)).toNat else min (-1 : Int).toNat z.length) = l.length
    rw [if_pos (by decide), len]
    omega
  rw [e, HT.sIx_none, h, List.drop_left' rfl, len]
  rw [show l.length + 1 - l.length = 1 by omega]
  rfl
/-- the first line of a program -/
theorem beg_eq {z : Str} {ps : List Pg} {us : List Str} (u : Used ps us) :
    match rdL z (ps, true) with
    | some st => lwBegun z us (lvOf (ps, true)) = some (lvOf st) ∧ Used st.1 (us ++ [lastS z]) ∧ st.2 = false
    | none => lwBegun z us (lvOf (ps, true)) = none := by
  have er : rdL z (ps, true) = if bl z % 2 = 0 ∧ bl z / 2 = ps.length then rdSrc (usOf z) ps else none := rfl
  have ll : (lvOf (ps, true)).length = ps.length := by
    show (ps.map lvO).length = _
    rw [List.length_map]
  have acc : ∀ x, x ∈ tl ("abcd" : Str) → (⟨#[x]⟩ : Str) ∉ us → tl z = List.replicate (2 * ps.length) 32 ++ (tl ("from " : Str) ++ [x]) →
      rdL z (ps, true) = some (.mk ⟨#[x]⟩ .nil :: ps, false) ∧ Used (.mk ⟨#[x]⟩ .nil :: ps) (us ++ [lastS z]) := by
    intro x hx hu ht
    have k0 : (⟨#[x]⟩ : Str) ∈ K0 := k0_sign.mpr ⟨x, hx, rfl⟩
    have fr : (⟨#[x]⟩ : Str) ∈ free ps := mem_free.mpr ⟨k0, fun q hq z => hu ((u.mem _).mpr ⟨q, hq, z⟩)⟩
    have b : bl z = 2 * ps.length := by
      unfold bl
      rw [ht, take_rep (2 * ps.length) rfl]
      intro c r e
      rw [from_tl] at e
      injection e with e1 _
      rw [← e1]
      rfl
    have ers : rs z = ("from " : Str) ++ ⟨#[x]⟩ := by
      refine TL.ext_tl ?_
      show (tl z).drop (bl z) = _
      rw [b, ht, List.drop_left' (by rw [List.length_replicate]), TL.tl_append]
    have eus : usOf z = [("from" : Str), ⟨#[x]⟩] := by
      unfold usOf
      rw [ers, from_eq]
      exact split_words (wd_two fr_from (fr_k0 _ k0))
    refine ⟨?_, ?_⟩
    · rw [er, if_pos ⟨by rw [b]; omega, by rw [b]; omega⟩, eus]
      exact if_pos ⟨rfl, fr⟩
    · have el : lastS z = ⟨#[x]⟩ := last_eq (l := List.replicate (2 * ps.length) 32 ++ tl ("from " : Str)) (by rw [ht, List.append_assoc])
      rw [el]
      refine ⟨List.nodup_append.mpr ⟨u.nd, by simp, fun a ha b hb e => hu (by rw [List.mem_singleton.mp hb] at e; rw [← e]; exact ha)⟩, fun t => ?_⟩
      rw [List.mem_append, u.mem t, List.mem_singleton]
      constructor
      · rintro (⟨q, h1, h2⟩ | rfl)
        · exact ⟨q, List.mem_cons_of_mem _ h1, h2⟩
        · exact ⟨_, List.mem_cons_self, List.mem_cons_self⟩
      · rintro ⟨q, h1, h2⟩
        rcases List.mem_cons.mp h1 with rfl | h1
        · have h2 : t ∈ [(⟨#[x]⟩ : Str)] := h2
          exact .inr (List.mem_singleton.mp h2)
        · exact .inl ⟨q, h1, h2⟩
  have ew : lwBegun z us (lvOf (ps, true)) = if (tl z).take (2 * ps.length) = List.replicate (2 * ps.length) 32 then
    match (tl z).drop (2 * ps.length) with
    | [a, b, c, d, e, x] => if [a, b, c, d, e] = tl "from " ∧ x ∈ tl "abcd" ∧ (⟨#[x]⟩ : Str) ∉ us then some ((⟨#[x]⟩, 0, 0) :: lvOf (ps, true)) else none
    | _ => none
    else none := by
    unfold lwBegun
    first
      | (rw [ll]; done)
      | (rw [ll]; rfl)
  by_cases good : ∃ x, x ∈ tl ("abcd" : Str) ∧ (⟨#[x]⟩ : Str) ∉ us ∧ tl z = List.replicate (2 * ps.length) 32 ++ (tl ("from " : Str) ++ [x])
  · obtain ⟨x, hx, hu, ht⟩ := good
    obtain ⟨e1, e2⟩ := acc x hx hu ht
    rw [e1]
    refine ⟨?_, e2, rfl⟩
    rw [ew, ht, List.take_left' (by rw [List.length_replicate]), if_pos rfl, List.drop_left' (by rw [List.length_replicate]), from_tl]
    show (if [102, 114, 111, 109, 32] = tl ("from " : Str) ∧ x ∈ tl "abcd" ∧ (⟨#[x]⟩ : Str) ∉ us then some ((⟨#[x]⟩, 0, 0) :: lvOf (ps, true)) else none) = _
    rw [if_pos ⟨from_tl.symm, hx, hu⟩]
    rfl
  · have no1 : rdL z (ps, true) = none := by
      rw [er]
      split
      case isFalse => rfl
      rename_i c
      have eln := line_eq c.1
      rw [c.2] at eln
      have ejn := rs_join z
      match hus : usOf z with
      | [] => rfl
      | [_] => rfl
      | _ :: _ :: _ :: _ => rfl
      | [f, s] =>
        show (if f = ("from" : Str) ∧ s ∈ free ps then some (Pg.mk s .nil :: ps, false) else none) = none
        refine if_neg (fun h => good ?_)
        obtain ⟨k0, nf⟩ := mem_free.mp h.2
        obtain ⟨x, hx, rfl⟩ := k0_sign.mp k0
        refine ⟨x, hx, fun hm => ?_, ?_⟩
        · obtain ⟨q, h1, h2⟩ := (u.mem _).mp hm
          exact nf q h1 h2
        · rw [hus, h.1, ← from_eq] at ejn
          rw [eln, tl_ind, ← ejn, TL.tl_append]
    rw [no1, ew]
    show _ = none
    split
    case isFalse => rfl
    rename_i c1
    split
    case h_2 => rfl
    rename_i a b c d e x h6
    refine if_neg (fun h => good ⟨x, h.2.1, h.2.2, ?_⟩)
    rw [← h.1]
    have := List.take_append_drop (2 * ps.length) (tl z)
    rw [h6, c1] at this
    exact this.symm
end K81
set_option Elab.async false
set_option linter.all false
set_option maxRecDepth 100000
set_option maxHeartbeats 4000000
namespace K81
open PySem L2 VK
open TL (tl)
theorem of_then {q : Pg} {x : Sg} (h : (q.then x).ok) : q.ok := by
  obtain ⟨s, l⟩ := q
  have h : s ∈ K0 ∧ (l.snoc x).len ≤ 6 ∧ (l.snoc x).ok 0 [s] := h
  obtain ⟨h0, h1, h2⟩ := h
  rw [len_snoc] at h1
  exact ⟨h0, by omega, (snoc_ok h2).1⟩
theorem okc_all : ∀ {ps : List Pg} {g : Pg}, okc g ps → ∀ q ∈ ps, q.ok
  | [], _, _, q, h => by cases h
  | p :: ps, g, o, q, h => by
    have o : (p.then (.zip g)).ok ∧ okc (p.then (.zip g)) ps := o
    rcases List.mem_cons.mp h with rfl | h
    · exact of_then o.1
    · exact okc_all o.2 q h
theorem close_all (d : Nat) {r : List Pg} {p : Pg} (h : p.ok) (o : okc p r) : ∀ q ∈ (closeTo d p r).1 :: (closeTo d p r).2, q.ok := by
  obtain ⟨a, b⟩ := close_ok d h o
  intro q hq
  rcases List.mem_cons.mp hq with rfl | hq
  · exact a
  · exact okc_all b q hq
theorem inv_len {st : Stt} (i : Inv8 st) : st.1.length ≤ 4 := by
  obtain ⟨ps, b⟩ := st
  cases ps with
  | nil => exact Nat.zero_le _
  | cons p r =>
    have i : p.ok ∧ okc p r ∧ (b = true → p.lenP < 6 ∧ free (p :: r) ≠ []) := i
    obtain ⟨nd, sub⟩ := Pg.fine _ (fin_ok i.1 i.2.1)
    have a := nd_len (fin p r).srcs K0 nd sub
    have b := fin_len r p
    have q1 : 1 ≤ p.srcs.length := by
      obtain ⟨s, l⟩ := p
      show 1 ≤ (s :: l.srcs).length
      rw [List.length_cons]
      omega
    have c : K0.length = 4 := rfl
    show (p :: r).length ≤ 4
    rw [List.length_cons]
    omega
def lwL (z : Str) (us : List Str) (lv : List Lv) (op : Bool) : Option (List Lv) :=
  if op = true then lwBegun z us lv else if rs z = "zip" then lwZip z us.length lv else lwTake z lv
def usL (z : Str) (us : List Str) (op : Bool) : List Str := if op = true then us ++ [lastS z] else us
def opL (z : Str) (op : Bool) : Bool := if op = true then false else decide (rs z = "zip")
theorem line_eqs {z : Str} {st : Stt} {us : List Str} (i : Inv8 st) (u : Used st.1 us) :
    match rdL z st with
    | some st' => lwL z us (lvOf st) st.2 = some (lvOf st') ∧ Used st'.1 (usL z us st.2) ∧ st'.2 = opL z st.2
    | none => lwL z us (lvOf st) st.2 = none := by
  obtain ⟨ps, b⟩ := st
  cases b with
  | true => exact beg_eq u
  | false =>
    cases ps with
    | nil => cases i
    | cons p r =>
      have i : p.ok ∧ okc p r ∧ (false = true → p.lenP < 6 ∧ free (p :: r) ≠ []) := i
      have all := close_all (bl z / 2) i.1 i.2.1
      by_cases ez : rs z = "zip"
      · have e1 : lwL z us (lvOf (p :: r, false)) false = lwZip z us.length (lvOf (p :: r, false)) := if_pos ez
        have e2 : opL z false = true := decide_eq_true ez
        show match rdL z (p :: r, false) with
          | some st' => lwL z us (lvOf (p :: r, false)) false = some (lvOf st') ∧ Used st'.1 us ∧ st'.2 = opL z false
          | none => lwL z us (lvOf (p :: r, false)) false = none
        rw [e1, e2]
        exact zip_eq ez u all
      · have e1 : lwL z us (lvOf (p :: r, false)) false = lwTake z (lvOf (p :: r, false)) := if_neg ez
        have e2 : opL z false = false := decide_eq_false ez
        show match rdL z (p :: r, false) with
          | some st' => lwL z us (lvOf (p :: r, false)) false = some (lvOf st') ∧ Used st'.1 us ∧ st'.2 = opL z false
          | none => lwL z us (lvOf (p :: r, false)) false = none
        rw [e1, e2]
        exact take_eq ez u all
theorem lvOf_len (st : Stt) : (lvOf st).length = st.1.length := by
  obtain ⟨ps, b⟩ := st
  cases b with
  | true => exact List.length_map _
  | false =>
    cases ps with
    | nil => rfl
    | cons p r =>
      show (lvI p :: r.map lvO).length = (p :: r).length
      rw [List.length_cons, List.length_cons, List.length_map]
theorem used_len {ps : List Pg} {us : List Str} (u : Used ps us) (ok : ∀ q ∈ ps, q.ok) : us.length ≤ 4 := by
  have sub : ∀ t ∈ us, t ∈ K0 := fun t ht => by
    obtain ⟨q, h1, h2⟩ := (u.mem t).mp ht
    exact (Pg.fine q (ok q h1)).2 t h2
  exact nd_len us K0 u.nd sub
theorem inv_all {st : Stt} (i : Inv8 st) : ∀ q ∈ st.1, q.ok := by
  obtain ⟨ps, b⟩ := st
  cases ps with
  | nil => exact fun q h => by cases h
  | cons p r =>
    have i : p.ok ∧ okc p r ∧ (b = true → p.lenP < 6 ∧ free (p :: r) ≠ []) := i
    intro q h
    rcases List.mem_cons.mp h with rfl | h
    · exact i.1
    · exact okc_all i.2.1 q h
abbrev sFB : Stmt := top 51
theorem scFB : FnScope ["text", "levels", "used", "is_open", "at", "line"] ["text"] (defScope sFB) := ⟨rfl, rfl, rfl, by decide +kernel, rfl, by decide +kernel, by decide +kernel⟩
/-- the number that is told -/
def ver (n : Nat) : Sum Nat Stt → Nat
  | .inl k => k
  | .inr (_, true) => n + 1
  | .inr (_, false) => 0
def spFB (K : Fg) : Sp := fun vs H Q _ => ∃ z : Str, vs = [.str z] ∧ z.length + 2 ≤ sizeLine ∧ (Txt.split z "\n").length ≤ 1000 ∧ (∀ l ∈ Txt.split z "\n", Ln l) ∧
  ∀ H', Same H H' → Q (.int (ver (Txt.split z "\n").length (rdF (Txt.split z "\n") ([], true) 0) : Nat)) H'
section
variable {P : Program} {w : World} {K : Fg} {mg : Str → Option Value} {base : Heap} {f fB fZ fT : Addr} {fd dB dZ dT : FuncData}
theorem ok_fb (DF : Df K mg "_law_first_bad_line" sFB ["text"] f fd) (DB : Df K mg "_law_begun" sBeg ["levels", "used", "line"] fB dB) (DZ : Df K mg "_law_zip" sLZip ["levels", "used", "line"] fZ dZ) (DT : Df K mg "_law_taken" sTak ["levels", "line"] fT dT) (N : Nm mg)
    (GB : FnOk P w K mg base CX0 1 fB dB ["levels", "used", "line"] (spBeg K)) (GZ : FnOk P w K mg base CX0 2 fZ dZ ["levels", "used", "line"] (spLZip K)) (GT : FnOk P w K mg base CX0 12 fT dT ["levels", "line"] (spTak K)) :
    FnOk P w K mg base CX0 13 f fd ["text"] (spFB K) := by
  refine DF.F.ok scFB (fun vs H Q E h => ?_) (fun cdv B outer s H vs Q E hr h => ?_)
  · obtain ⟨z, rfl, _⟩ := h
    rfl
  · obtain ⟨z, rfl, zl, znum, zln, k⟩ := h
    have hr1 := hr.mono (show 1 ≤ 12 by decide)
    have hr2 := hr.mono (show 2 ≤ 12 by decide)
    refine ⟨_, pss_cons (ps_par3 rfl scFB.nd rfl rfl rfl (show 1 ≠ 2 by decide) (show 1 ≠ 3 by decide) (show 2 ≠ 3 by decide) rfl rfl rfl (pa_cons (pe_lst pa_nil) (pa_cons (pe_lst pa_nil) (pa_cons pe_bl pa_nil))) (by rfl))
      (pss_cons (ps_for PassesOwn.never rfl (pi_enumA (by rfl) N.enm (pa_cons (pe_split (pv 0) pe_str) pa_nil)) (pg_tup rfl (pgs_cons (pg_name (i := 4) scFB.nd rfl (Or.inl rfl)) (pgs_cons (pg_name (i := 5) scFB.nd rfl (Or.inl rfl)) pgs_nil)))
        (pss_cons (ps_if (pt_val (pv 3))
            (pss_cons (ps_par (by rfl) scFB.nd rfl rfl (show 1 ≠ 3 by decide) rfl rfl (pa_cons (pe_call GB hr1 rfl DB.g DB.F.kp DB.b .nil pass0 (pa_cons (pv 1) (pa_cons (pv 2) (pa_cons (pv 5) pa_nil)))) (pa_cons pe_bl pa_nil)) (by rfl))
              (pss_one (ps_set (i := 2) scFB.nd rfl (Or.inl rfl) (pe_op op_cat (pv 2) (pe_lst (pa_cons (pe_slice sl_str (pv 5) (po_some (pe_un un_neg pe_int)) po_none) pa_nil))))))
            (pss_one (ps_if (pt_cmpR op_eq (pe_m1 PySem.F.slot_str_lstrip PySem.F.type_str_lstrip mt_lstripChars (pv 5) pe_str) pe_str (nomark _))
              (pss_one (ps_par (by rfl) scFB.nd rfl rfl (show 1 ≠ 3 by decide) rfl rfl (pa_cons (pe_call GZ hr2 rfl DZ.g DZ.F.kp DZ.b .nil pass0 (pa_cons (pv 1) (pa_cons (pv 2) (pa_cons (pv 5) pa_nil)))) (pa_cons pe_bl pa_nil)) (by rfl)))
              (pss_one (ps_set (i := 1) scFB.nd rfl (Or.inl rfl) (pe_call GT hr rfl DT.g DT.F.kp DT.b .nil pass0 (pa_cons (pv 1) (pa_cons (pv 5) pa_nil))))))))
        (pss_one (ps_if (pt_cmpR op_isN (pv 1) pe_non (nomark _)) (pss_one (ps_ret (pe_op op_add (pv 4) pe_int))) pss_nil))))
      (pss_one (ps_ret (pe_ifExp (pt_val (pv 3)) (pe_op op_add (pe_callB call_len_seq (by rfl) N.len PySem.boot_len (pa_cons (pe_split (pv 0) pe_str) pa_nil)) pe_int) pe_int)))), ?_⟩
    refine ⟨by show 0 ≤ sizeLine; decide, fun q0 hq0 => ?_⟩
    have s0 : Same H (upd H q0 (.lst [])) := same_new hq0
    have e0 : upd H q0 (.lst []) q0 = some (.lst []) := upd_same
    generalize upd H q0 (.lst []) = H0 at s0 e0
    refine ⟨by show 0 ≤ sizeLine; decide, fun u0 hu0 => ?_⟩
    have s1 : Same H0 (upd H0 u0 (.lst [])) := same_new hu0
    have e1 : upd H0 u0 (.lst []) u0 = some (.lst []) := upd_same
    have e01 := s1 _ _ e0
    generalize upd H0 u0 (.lst []) = H1 at s1 e1 e01
    have s01 := s0.trans s1
    refine ⟨_, _, _, rfl, ?_⟩
    refine ⟨_, rfl, ⟨_, rfl⟩, _, _, rfl, rfl, by decide +kernel, zl, ?_⟩
    generalize hts : Txt.split z "\n" = ts at *
    intro q hq
    have s2 : Same H1 (upd H1 q (.lst (ts.map V.str))) := same_new hq
    have e2 : upd H1 q (.lst (ts.map V.str)) q = some (.lst (ts.map V.str)) := upd_same
    have e02 := s2 _ _ e01
    have e12 := s2 _ _ e1
    generalize upd H1 q (.lst (ts.map V.str)) = H2 at s2 e2 e02 e12
    have sH2 := s01.trans s2
    refine ⟨q, _, rfl, _, .inl ⟨SqL.of e2, rfl⟩, ?_⟩
    refine for_it (walk_enum (xs := ts.map V.str)) (fun i σ H' => ∃ (ql uq : Addr) (ws : List V) (us : List Str) (st : Stt) (v4 v5 : Option V), σ = [some (.str z), some (.ref ql), some (.ref uq), some (.bl st.2), v4, v5] ∧ Same H2 H' ∧ H' ql = some (.lst ws.reverse) ∧
        LvAll H' ws (lvOf st) ∧ H' uq = some (.lst (us.map V.str)) ∧ Used st.1 us ∧ Inv8 st ∧ rdF ts ([], true) 0 = rdF (ts.drop i) st i)
      ⟨q0, u0, [], [], ([], true), none, none, rfl, Same.refl _, e02, .nil, e12, ⟨List.nodup_nil, fun t => ⟨fun h => (by cases h), fun h => (by obtain ⟨q, h, _⟩ := h; cases h)⟩⟩, rfl, rfl⟩ (fun i σ H' _ z => ?_) ?_ ?_
    · obtain ⟨_, _, _, _, _, _, _, _, b, _⟩ := z
      exact SqL.of (b _ _ e2)
    · rintro i y σ H3 H4 hi ⟨ql, uq, ws, us, st, v4, v5, rfl, s3, eq3, la3, eu3, u3, iv, rn⟩ ⟨T, a, b, rfl, hT, rfl, ea, eb⟩
      have ea' : V.int (i : Nat) = a := Option.some.inj ea
      subst ea'
      obtain ⟨u, htk, rfl⟩ := map_get eb
      have hi2 : i < ts.length := (List.getElem?_eq_some_iff.mp htk).1
      have hd : ts.drop i = u :: ts.drop (i + 1) := by
        rw [List.drop_eq_getElem_cons hi2]
        rw [List.getElem?_eq_getElem hi2] at htk
        rw [Option.some.inj htk]
      rw [hd] at rn
      have hu : Ln u := zln u (List.mem_of_getElem? htk)
      have ul : u.length ≤ sizeLine := by rw [sizeLine_eq]; have := hu.len; omega
      have s4 : Same H3 (upd H3 T (.tup [.int (i : Nat), .str u])) := same_new hT
      refine ⟨T, _, rfl, .inl (.inl upd_same), rfl, _, _, rfl, _, _, rfl, rfl, ?_⟩
      generalize upd H3 T (.tup [.int (i : Nat), .str u]) = H4 at s4
      have eq4 := s4 _ _ eq3
      have eu4 := s4 _ _ eu3
      have la4 := la3.same s4
      have s24 := s3.trans s4
      clear la3 eu3 eq3 s4 s3 hT
      have un : rdF (u :: ts.drop (i + 1)) st i = match rdL u st with
        | some st' => rdF (ts.drop (i + 1)) st' (i + 1)
        | none => .inl (i + 1) := rfl
      have le := line_eqs (z := u) iv u3
      have l4 := inv_len iv
      have u4 := used_len u3 (inv_all iv)
      have lvl := lvOf_len st
      obtain ⟨ps, bb⟩ := st
      have l4 : ps.length ≤ 4 := l4
      refine ⟨_, rfl, _, rfl, ?_⟩
      cases bb with
      | true =>
        refine iteT (B := True) ?_
        refine ⟨_, rfl, _, rfl, _, rfl, ql, uq, u, us, ws, lvOf (ps, true), rfl, hu, eu4, eq4, la4, by rw [lvl]; show ps.length ≤ 10; omega, ?_⟩
        cases er : rdL u (ps, true) with
        | some st' =>
          rw [er] at un le
          obtain ⟨el, ul', eo⟩ := le
          have el : lwBegun u us (lvOf (ps, true)) = some (lvOf st') := el
          rw [el]
          intro q5 ws5 H5 s5 e5 la5
          refine ⟨_, _, rfl, ?_⟩
          refine ⟨_, rfl, _, rfl, _, rfl, _, rfl, u, rfl, ul, by show 1 ≤ sizeLine; decide, fun x hx => ?_⟩
          have s6 : Same H5 (upd H5 x (.lst [.str (cutS u (some (-1)) none)])) := same_new hx
          have e6 : upd H5 x (.lst [.str (cutS u (some (-1)) none)]) x = some (.lst [.str (lastS u)]) := upd_same
          generalize upd H5 x (.lst [.str (cutS u (some (-1)) none)]) = H6 at s6 e6
          refine ⟨uq, x, us.map V.str, [.str (lastS u)], rfl, rfl, s6 _ _ (s5 _ _ eu4), e6, ?_, fun y hy => ?_⟩
          · rw [List.length_map, sizeLine_eq]
            show us.length + 1 ≤ _
            omega
          have s7 : Same H6 (upd H6 y (.lst (us.map V.str ++ [.str (lastS u)]))) := same_new hy
          have e7 : upd H6 y (.lst (us.map V.str ++ [.str (lastS u)])) y = some (.lst ((us ++ [lastS u]).map V.str)) := by rw [upd_same, List.map_append]; rfl
          generalize upd H6 y (.lst (us.map V.str ++ [.str (lastS u)])) = H7 at s7 e7
          have s57 := s6.trans s7
          refine ⟨_, rfl, rfl, _, rfl, iteF (A := True) ?_⟩
          exact ⟨q5, y, ws5, us ++ [lastS u], st', _, _, by rw [eo]; rfl, (s24.trans s5).trans s57, s57 _ _ e5, la5.same s57, e7, ul', inv_line iv er, rn.trans un⟩
        | none =>
          rw [er] at un le
          have el : lwBegun u us (lvOf (ps, true)) = none := le
          rw [el]
          intro H5 s5
          refine ⟨_, _, rfl, ?_⟩
          refine ⟨_, rfl, _, rfl, _, rfl, _, rfl, u, rfl, ul, by show 1 ≤ sizeLine; decide, fun x hx => ?_⟩
          have s6 : Same H5 (upd H5 x (.lst [.str (cutS u (some (-1)) none)])) := same_new hx
          have e6 : upd H5 x (.lst [.str (cutS u (some (-1)) none)]) x = some (.lst [.str (lastS u)]) := upd_same
          generalize upd H5 x (.lst [.str (cutS u (some (-1)) none)]) = H6 at s6 e6
          refine ⟨uq, x, us.map V.str, [.str (lastS u)], rfl, rfl, s6 _ _ (s5 _ _ eu4), e6, ?_, fun y hy => ?_⟩
          · rw [List.length_map, sizeLine_eq]
            show us.length + 1 ≤ _
            omega
          have s7 : Same H6 (upd H6 y (.lst (us.map V.str ++ [.str (lastS u)]))) := same_new hy
          generalize upd H6 y (.lst (us.map V.str ++ [.str (lastS u)])) = H7 at s7
          rw [rn, un] at k
          refine ⟨_, rfl, rfl, _, rfl, iteT (B := True) ?_⟩
          refine ⟨_, rfl, _, _, rfl, rfl, ?_⟩
          exact k H7 (sH2.trans (s24.trans (s5.trans (s6.trans s7))))
      | false =>
        refine iteF (A := True) ?_
        have lz : lvOf (ps, false) ≠ [] := by
          cases ps with
          | nil => cases iv
          | cons p r => exact List.cons_ne_nil _ _
        refine ⟨_, rfl, ⟨_, rfl⟩, _, _, rfl, rfl, ul, ?_⟩
        rw [lstrip_rs]
        refine ⟨rfl, _, rfl, ?_⟩
        refine dif (fun ez => ?_) (fun ez => ?_)
        · have ez := V.str.inj ez
          refine ⟨_, rfl, _, rfl, _, rfl, ql, uq, u, us, ws, lvOf (ps, false), rfl, hu, ez, eu4, eq4, la4, lz, by rw [lvl]; show ps.length ≤ 10; omega, ?_⟩
          have e0 : lwL u us (lvOf (ps, false)) false = lwZip u us.length (lvOf (ps, false)) := if_pos ez
          have eop : opL u false = true := decide_eq_true ez
          rw [← e0]
          cases er : rdL u (ps, false) with
          | some st' =>
            rw [er] at un le
            obtain ⟨el, ul', eo⟩ := le
            have el : lwL u us (lvOf (ps, false)) false = some (lvOf st') := el
            rw [el]
            intro q5 ws5 H5 s5 e5 la5
            refine ⟨_, _, rfl, ?_⟩
            refine ⟨_, rfl, rfl, _, rfl, iteF (A := True) ?_⟩
            exact ⟨q5, uq, ws5, us, st', _, _, by rw [eo, eop]; rfl, s24.trans s5, e5, la5, s5 _ _ eu4, ul', inv_line iv er, rn.trans un⟩
          | none =>
            rw [er] at un le
            have el : lwL u us (lvOf (ps, false)) false = none := le
            rw [el]
            intro H5 s5
            refine ⟨_, _, rfl, ?_⟩
            rw [rn, un] at k
            refine ⟨_, rfl, rfl, _, rfl, iteT (B := True) ?_⟩
            refine ⟨_, rfl, _, _, rfl, rfl, ?_⟩
            exact k H5 (sH2.trans (s24.trans s5))
        · have ez : ¬ rs u = "zip" := fun e => ez (by rw [e])
          refine ⟨_, rfl, _, rfl, ql, u, ws, lvOf (ps, false), rfl, hu, eq4, la4, lz, by rw [lvl]; show ps.length ≤ 10; omega, ?_⟩
          have e0 : lwL u us (lvOf (ps, false)) false = lwTake u (lvOf (ps, false)) := if_neg ez
          have eop : opL u false = false := decide_eq_false ez
          rw [← e0]
          cases er : rdL u (ps, false) with
          | some st' =>
            rw [er] at un le
            obtain ⟨el, ul', eo⟩ := le
            have el : lwL u us (lvOf (ps, false)) false = some (lvOf st') := el
            rw [el]
            intro q5 ws5 H5 s5 e5 la5
            refine ⟨_, rfl, rfl, _, rfl, iteF (A := True) ?_⟩
            exact ⟨q5, uq, ws5, us, st', _, _, by rw [eo, eop]; rfl, s24.trans s5, e5, la5, s5 _ _ eu4, ul', inv_line iv er, rn.trans un⟩
          | none =>
            rw [er] at un le
            have el : lwL u us (lvOf (ps, false)) false = none := le
            rw [el]
            intro H5 s5
            rw [rn, un] at k
            refine ⟨_, rfl, rfl, _, rfl, iteT (B := True) ?_⟩
            refine ⟨_, rfl, _, _, rfl, rfl, ?_⟩
            exact k H5 (sH2.trans (s24.trans s5))
    · rintro σ H3 ⟨ql, uq, ws, us, st, v4, v5, rfl, s3, eq3, la3, eu3, u3, iv, rn⟩
      rw [List.length_map, List.drop_length] at rn
      have rn : rdF ts ([], true) 0 = .inr st := rn
      rw [rn] at k
      obtain ⟨ps, bb⟩ := st
      refine ⟨_, rfl, _, rfl, ?_⟩
      cases bb with
      | true =>
        refine iteT (B := True) ?_
        refine ⟨_, rfl, ⟨_, rfl⟩, _, _, rfl, rfl, by decide +kernel, zl, ?_⟩
        rw [hts]
        intro q hq
        refine ⟨q, _, rfl, .inl (SqL.of upd_same), _, _, rfl, rfl, ?_⟩
        rw [List.length_map]
        exact k _ ((sH2.trans s3).trans (same_new hq))
      | false =>
        refine iteF (A := True) ?_
        exact k _ (sH2.trans s3)
end
end K81
set_option Elab.async false
set_option linter.all false
set_option maxRecDepth 100000
set_option maxHeartbeats 4000000
namespace K81
open PySem L2 VK
open TL (tl)
abbrev sTld : Stmt := top 52
theorem scTld : FnScope ["value", "told", "error"] ["value"] (defScope sTld) := ⟨rfl, rfl, rfl, by decide +kernel, rfl, by decide +kernel, by decide +kernel⟩
/-- a text that may be read -/
structure Tx (z : Str) : Prop where
  len : z.length + 2 ≤ sizeLine
  few : (Txt.split z "\n").length ≤ 1000
  lns : ∀ l ∈ Txt.split z "\n", Ln l
def verT (z : Str) : Nat := ver (Txt.split z "\n").length (rdF (Txt.split z "\n") ([], true) 0)
def spTld (K : Fg) : Sp := fun vs H Q _ => ∃ v : V, vs = [v] ∧
  ((∃ z : Str, v = .str z ∧ Tx z ∧ ∀ H', Same H H' → Q (.int (verT z : Nat)) H') ∨
   (∃ t : String, TyX K H v (.type t) ∧ kitB t "str" = some false ∧ ∀ H', Same H H' → Q (.int 1) H'))
theorem look1 {f : Str} {y : V} : [(f, y)].lookup f = some y := by simp [List.lookup]
section
variable {P : Program} {w : World} {K : Fg} {mg : Str → Option Value} {base : Heap} {f fR fT C CT IT : Addr} {fd dR dT JT : FuncData}
theorem ok_tld (DF : Df K mg "_law_told" sTld ["value"] f fd) (DR : Df K mg "read_program" sRead ["text"] fR dR) (DT : Df K mg "program_text" sText ["program"] fT dT) (e7 : ErrC K mg "BadText" "BadText.__init__" "line" sI7 CT IT JT)
    (x77 : PySem.W.exmOne K (.ref CT) (.ref CT) = some true)
    (GR : FnOk P w K mg base (L2.CX P w) 12 fR dR ["text"] (spRead K C CT)) (GT : FnOk P w K mg base CX0 11 fT dT ["program"] (spText K C)) :
    FnOk P w K mg base CX0 13 f fd ["value"] (spTld K) := by
  refine DF.F.ok scTld (fun vs H Q E h => ?_) (fun cdv B outer s H vs Q E hr h => ?_)
  · obtain ⟨z, rfl, _⟩ := h
    rfl
  · obtain ⟨v, rfl, k⟩ := h
    have hr11 := hr.mono (show 11 ≤ 12 by decide)
    refine ⟨_, pss_cons (ps_try_each (n := "error") (i := 2) (Wo := fun _ _ _ _ => False)
        (tb := fun W => tAsg (tCallS (spRead K C CT) (WE W) (tCons (tVar 0) tNil)) (gName 1))
        rfl rfl scTld.nd rfl rfl takes0
        (fun W pn xe tk _ => by exact pss_one (ps_set (i := 1) scTld.nd rfl (Or.inl rfl) (pe_callS GR hr (by rfl) DR.g DR.F.kp DR.b (fun σ => passAt tk σ) (pa_cons (pv 0) pa_nil))))
        (.cons (c := .ref CT) ⟨rfl, by decide, .inl e7.g⟩ (fun a oe cls d pn hz hf => by exact pss_one (ps_ret (pe_xf e7.xf e7.no hz hf (pv 2)))) .nil))
      (pss_one (ps_ret (pe_ifExp (pt_cmpR op_eq (pe_call GT hr11 rfl DT.g DT.F.kp DT.b .nil pass0 (pa_cons (pv 1) pa_nil)) (pv 0) (nomark _)) pe_int pe_non))), ?_⟩
    refine ⟨_, rfl, v, rfl, ?_⟩
    rcases k with ⟨z, rfl, tx, k⟩ | ⟨t, ty, kb, k⟩
    · refine .inl ⟨z, rfl, tx.len, tx.few, tx.lns, ?_⟩
      unfold verT at k
      have jn : Str.join "\n" (Txt.split z "\n") = z := PySem.StrLaws.join_split z "\n"
      cases e : rdF (Txt.split z "\n") ([], true) 0 with
      | inl n =>
        rw [e] at k
        intro H' d hd s' ed
        exact ⟨true, x77, fun _ a0 na => ⟨_, rfl, rfl, rfl, d, _, _, rfl, ed, look1, k _ s'⟩, (fun z => by cases z)⟩
      | inr st =>
        obtain ⟨ps, b⟩ := st
        cases b with
        | true =>
          rw [e] at k
          intro H' d hd s' ed
          exact ⟨true, x77, fun _ a0 na => ⟨_, rfl, rfl, rfl, d, _, _, rfl, ed, look1, k _ s'⟩, (fun z => by cases z)⟩
        | false =>
          cases ps with
          | nil => trivial
          | cons p r =>
            rw [e] at k
            have iv : Inv8 (p :: r, false) := rdF_inv (st := ([], true)) rfl e
            have iv' : p.ok ∧ okc p r ∧ (false = true → p.lenP < 6 ∧ free (p :: r) ≠ []) := iv
            have ok := fin_ok iv'.1 iv'.2.1
            have ls : (fin p r).lines = Txt.split z "\n" := rdF_text e
            intro v2 H' s' pg
            refine ⟨_, rfl, v2, fin p r, rfl, pg, ok, fun H2 s2 => ⟨_, rfl, rfl, _, rfl, ?_⟩⟩
            have et : (fin p r).text = z := by
              show Txt.join "\n" (fin p r).lines = z
              rw [ls, TL.join_eq]
              exact jn
            rw [et, decide_eq_true rfl]
            refine iteT (B := True) ?_
            exact k _ (s'.trans s2)
    · refine .inr ⟨t, ty, kb, ?_⟩
      intro H' d hd s' ed
      exact ⟨true, x77, fun _ a0 na => ⟨_, rfl, rfl, rfl, d, _, _, rfl, ed, look1, k _ s'⟩, (fun z => by cases z)⟩
end
end K81
set_option Elab.async false
set_option linter.all false
set_option maxRecDepth 100000
set_option maxHeartbeats 4000000
namespace K81
open PySem L2 VK
open TL (tl)
abbrev sBent : Stmt := top 53
theorem scBent : FnScope ["source", "lines", "at", "to", "kind", "line", "rest", "moved", "some"] ["source", "lines"] (defScope sBent) := ⟨rfl, rfl, rfl, by decide +kernel, rfl, by decide +kernel, by decide +kernel⟩
/-! ### texts of bounded length -/
def Lc (m : Nat) (t : Str) : Prop := t.length ≤ m ∧ ∀ c ∈ tl t, c < 1000
def Tv (m : Nat) (xs : List V) : Prop := ∀ v ∈ xs, ∃ t, v = .str t ∧ Lc m t
theorem Lc.mono {m n : Nat} {t : Str} (h : Lc m t) (l : m ≤ n) : Lc n t := ⟨Nat.le_trans h.1 l, h.2⟩
theorem Tv.mono {m n : Nat} {xs : List V} (h : Tv m xs) (l : m ≤ n) : Tv n xs := fun v hv => by
  obtain ⟨t, e, k⟩ := h v hv
  exact ⟨t, e, k.mono l⟩
theorem Tv.app {m : Nat} {xs ys : List V} (h : Tv m xs) (k : Tv m ys) : Tv m (xs ++ ys) := fun v hv => (List.mem_append.mp hv).elim (h v) (k v)
theorem Tv.one {m : Nat} {t : Str} (h : Lc m t) : Tv m [.str t] := fun v hv => ⟨t, List.mem_singleton.mp hv, h⟩
theorem Tv.sub {m : Nat} {xs ys : List V} (h : Tv m ys) (k : ∀ v ∈ xs, v ∈ ys) : Tv m xs := fun v hv => h v (k v hv)
theorem Tv.strs {m : Nat} : ∀ {xs : List V}, Tv m xs → ∃ us : List Str, xs = us.map V.str ∧ ∀ t ∈ us, Lc m t
  | [], _ => ⟨[], rfl, fun _ h => by cases h⟩
  | v :: r, h => by
    obtain ⟨t, e, k⟩ := h v List.mem_cons_self
    obtain ⟨us, e2, k2⟩ := Tv.strs (xs := r) fun v hv => h v (List.mem_cons_of_mem _ hv)
    refine ⟨t :: us, by rw [e, e2]; rfl, fun t' ht => ?_⟩
    rcases List.mem_cons.mp ht with rfl | ht
    · exact k
    · exact k2 t' ht
theorem Tv.of {m : Nat} {us : List Str} (h : ∀ t ∈ us, Lc m t) : Tv m (us.map V.str) := fun v hv => by
  obtain ⟨t, ht, rfl⟩ := List.mem_map.mp hv
  exact ⟨t, rfl, h t ht⟩
theorem cutV_hi {xs : List V} {n : Nat} : cutV xs none (some (n : Int)) = xs.take n := by
  unfold cutV
  rw [HT.sIx_nat, HT.sIx_none, List.drop_zero, Nat.sub_zero]
  by_cases h : n ≤ xs.length
  · rw [Nat.min_eq_left h]
  · rw [Nat.min_eq_right (by omega), List.take_of_length_le (Nat.le_refl _), List.take_of_length_le (by omega)]
theorem cutV_lo {xs : List V} {n : Nat} : cutV xs (some (n : Int)) none = xs.drop n := by
  unfold cutV
  rw [HT.sIx_nat, HT.sIx_none]
  by_cases h : n ≤ xs.length
  · rw [Nat.min_eq_left h, List.take_of_length_le (by rw [List.length_drop]; exact Nat.le_refl _)]
  · rw [Nat.min_eq_right (by omega), Nat.sub_self, List.take_zero, List.drop_of_length_le (by omega)]
theorem Lc.hi {m n : Nat} {t : Str} (h : Lc m t) : Lc m (cutS t none (some (n : Int))) := ⟨Nat.le_trans (cutS_length _ _ _) h.1, fun c hc => h.2 c (by rw [cut_hi] at hc; exact List.mem_of_mem_take hc)⟩
theorem Lc.lo {m n : Nat} {t : Str} (h : Lc m t) : Lc m (cutS t (some (n : Int)) none) := ⟨Nat.le_trans (cutS_length _ _ _) h.1, fun c hc => h.2 c (by rw [cut_lo] at hc; exact List.mem_of_mem_drop hc)⟩
theorem Lc.app {m n : Nat} {t u : Str} (h : Lc m t) (k : Lc n u) : Lc (m + n) (t ++ u) := ⟨by
  have a := h.1
  have b := k.1
  rw [TL.len_tl] at a b
  rw [TL.len_tl, TL.tl_append, List.length_append]
  omega, fun c hc => by
  rw [TL.tl_append] at hc
  exact (List.mem_append.mp hc).elim (h.2 c) (k.2 c)⟩
theorem lcS : Lc 2 "  " ∧ Lc 1 " " := ⟨⟨by decide +kernel, by decide +kernel⟩, by decide +kernel, by decide +kernel⟩
/-- the law's bending -/
def Bt (n m : Nat) (ts : List Str) : Prop := ts.length ≤ n ∧ ∀ t ∈ ts, Lc m t
def spBent (K : Fg) : Sp := fun vs H Q _ => ∃ (p q : Addr) (ts : List Str) (n m : Nat), vs = [.ref p, .ref q] ∧ Strm H p ∧ H q = some (.lst (ts.map V.str)) ∧ q ≠ p ∧ ts ≠ [] ∧ Bt n m ts ∧ n ≤ 100 ∧ 17 ≤ m ∧ m ≤ 100 ∧
  ∀ (r : Addr) (us : List Str) (H' : Hp), Bt (n + 1) (m + 2) us → H r = none → H' r = some (.lst (us.map V.str)) → Strm H' p → Bx p H H' → Q (.ref r) H'
def some1 : List Str := (["flat", "zip", "from a", "from b", "from e", "map f", "map", "map F", "keep p q", "take 0", "take 5"] : List Str)
def some2 : List Str := (["take 01", "skip 1", "gather", "", "  flat", "  from c", "  from d", "zip b", "flat 1", "lots 4"] : List Str)
def some3 : List Str := (["after abcdefghi", "map f1", "keep p_q", "while {", "map 1"] : List Str)
def some4 : List Str := (["    take 1", "from  a", "From a", "while p", "take +1", " from a", "  zip", "flat "] : List Str)
theorem some_ok : (∀ t ∈ some1, Lc 17 t) ∧ (∀ t ∈ some2, Lc 17 t) ∧ (∀ t ∈ some3, Lc 17 t) ∧ (∀ t ∈ some4, Lc 17 t) := by
  have key : ∀ t ∈ some1 ++ some2 ++ some3 ++ some4, t.length ≤ 17 ∧ ∀ c ∈ tl t, c < 1000 := by decide +kernel
  exact ⟨fun t h => key t (by simp [h]), fun t h => key t (by simp [h]), fun t h => key t (by simp [h]), fun t h => key t (by simp [h])⟩
section
variable {P : Program} {w : World} {K : Fg} {mg : Str → Option Value} {base : Heap} {f fD fP : Addr} {fd dD dP : FuncData}
theorem ok_bent (DB : Df K mg "_law_bent" sBent ["source", "lines"] f fd) (DD : Df K mg "_law_draw" sDraw ["stream", "span"] fD dD) (DPk : Df K mg "_law_pick" sPick ["stream", "things"] fP dP) (N : Nm mg) : FnOk P w K mg base CX0 3 f fd ["source", "lines"] (spBent K) := by
  have GD : FnOk P w K mg base CX0 1 fD dD ["stream", "span"] spDraw := ok_draw DD.F N
  have GP : FnOk P w K mg base CX0 2 fP dP ["stream", "things"] (spPick K) := ok_pick DPk.F N DD.g DD.F DD.b
  refine DB.F.ok scBent (fun vs H Q E h => ?_) (fun cdv B outer s H vs Q E hr h => ?_)
  · obtain ⟨p, q, ts, n, m, rfl, _⟩ := h
    rfl
  · obtain ⟨p, q, ts, n, m, rfl, hp, hq, nqp, ne, bt, n100, m17, m100, k⟩ := h
    have hr1 := hr.mono (show 1 ≤ 2 by decide)
    refine ⟨_, pss_cons (ps_par3 rfl scBent.nd rfl rfl rfl (show 2 ≠ 3 by decide) (show 2 ≠ 4 by decide) (show 3 ≠ 4 by decide) rfl rfl rfl (pa_cons (pe_call GD hr1 rfl DD.g DD.F.kp DD.b .nil pass0 (pa_cons (pv 0) (pa_cons (pe_callB call_len_seq (by rfl) N.len PySem.boot_len (pa_cons (pv 1) pa_nil)) pa_nil))) (pa_cons (pe_call GD hr1 rfl DD.g DD.F.kp DD.b .nil pass0 (pa_cons (pv 0) (pa_cons (pe_callB call_len_seq (by rfl) N.len PySem.boot_len (pa_cons (pv 1) pa_nil)) pa_nil))) (pa_cons (pe_call GD hr1 rfl DD.g DD.F.kp DD.b .nil pass0 (pa_cons (pv 0) (pa_cons pe_int pa_nil))) pa_nil))) (by rfl))
      (pss_cons (ps_par (by rfl) scBent.nd rfl rfl (show 5 ≠ 6 by decide) rfl rfl (pa_cons (pe_ix ix_list (pv 1) (pv 2) (fun _ _ => rfl)) (pa_cons (pe_op op_cat (pe_slice sl_list (pv 1) po_none (po_some (pv 2))) (pe_slice sl_list (pv 1) (po_some (pe_op op_add (pv 2) pe_int)) po_none)) pa_nil)) (by rfl))
      (pss_cons (ps_if (pt_cmpR op_eq (pv 4) pe_int (nomark _)) (pss_one (ps_ret (pv 6))) pss_nil)
      (pss_cons (ps_if (pt_cmpR op_eq (pv 4) pe_int (nomark _)) (pss_one (ps_ret (pe_op op_cat (pe_op op_cat (pe_slice sl_list (pv 1) po_none (po_some (pv 2))) (pe_lst (pa_cons (pv 5) pa_nil))) (pe_slice sl_list (pv 1) (po_some (pv 2)) po_none)))) pss_nil)
      (pss_cons (ps_if (pt_cmpR op_eq (pv 4) pe_int (nomark _)) (pss_one (ps_ret (pe_op op_cat (pe_op op_cat (pe_slice sl_list (pv 1) po_none (po_some (pv 2))) (pe_lst (pa_cons (pe_slice sl_str (pv 5) po_none (po_some (pe_call GD hr1 rfl DD.g DD.F.kp DD.b .nil pass0 (pa_cons (pv 0) (pa_cons (pe_op op_add (pe_callB call_len_str (by rfl) N.len PySem.boot_len (pa_cons (pv 5) pa_nil)) pe_int) pa_nil))))) pa_nil))) (pe_slice sl_list (pv 1) (po_some (pe_op op_add (pv 2) pe_int)) po_none)))) pss_nil)
      (pss_cons (ps_if (pt_cmpR op_eq (pv 4) pe_int (nomark _)) (pss_one (ps_ret (pe_op op_cat (pe_op op_cat (pe_slice sl_list (pv 6) po_none (po_some (pv 3))) (pe_lst (pa_cons (pv 5) pa_nil))) (pe_slice sl_list (pv 6) (po_some (pv 3)) po_none)))) pss_nil)
      (pss_cons (ps_if (pt_cmpR op_eq (pv 4) pe_int (nomark _)) (pss_cons (ps_set (i := 7) scBent.nd rfl (Or.inl rfl) (pe_call GP hr rfl DPk.g DPk.F.kp DPk.b .nil pass0 (pa_cons (pv 0) (pa_cons (pe_lst (pa_cons (pe_op op_add_str pe_str (pv 5)) (pa_cons (pe_slice sl_str (pv 5) (po_some pe_int) po_none) (pa_cons (pe_op op_add_str pe_str (pv 5)) (pa_cons (pe_slice sl_str (pv 5) (po_some pe_int) po_none) (pa_cons (pe_op op_add_str (pv 5) pe_str) pa_nil)))))) pa_nil)))) (pss_one (ps_ret (pe_op op_cat (pe_op op_cat (pe_slice sl_list (pv 1) po_none (po_some (pv 2))) (pe_lst (pa_cons (pv 7) pa_nil))) (pe_slice sl_list (pv 1) (po_some (pe_op op_add (pv 2) pe_int)) po_none))))) pss_nil)
      (pss_cons (ps_set (i := 8) scBent.nd rfl (Or.inl rfl) (pe_lst (pa_cons pe_str (pa_cons pe_str (pa_cons pe_str (pa_cons pe_str (pa_cons pe_str (pa_cons pe_str (pa_cons pe_str (pa_cons pe_str (pa_cons pe_str (pa_cons pe_str (pa_cons pe_str pa_nil)))))))))))))
      (pss_cons (ps_set (i := 8) scBent.nd rfl (Or.inl rfl) (pe_op op_cat (pv 8) (pe_lst (pa_cons pe_str (pa_cons pe_str (pa_cons pe_str (pa_cons pe_str (pa_cons pe_str (pa_cons pe_str (pa_cons pe_str (pa_cons pe_str (pa_cons pe_str (pa_cons pe_str pa_nil)))))))))))))
      (pss_cons (ps_set (i := 8) scBent.nd rfl (Or.inl rfl) (pe_op op_cat (pv 8) (pe_lst (pa_cons pe_str (pa_cons pe_str (pa_cons pe_str (pa_cons pe_str (pa_cons pe_str pa_nil))))))))
      (pss_cons (ps_set (i := 8) scBent.nd rfl (Or.inl rfl) (pe_op op_cat (pv 8) (pe_lst (pa_cons pe_str (pa_cons pe_str (pa_cons pe_str (pa_cons pe_str (pa_cons pe_str (pa_cons pe_str (pa_cons pe_str (pa_cons pe_str pa_nil)))))))))))
      (pss_one (ps_ret (pe_op op_cat (pe_op op_cat (pe_slice sl_list (pv 1) po_none (po_some (pv 2))) (pe_lst (pa_cons (pe_call GP hr rfl DPk.g DPk.F.kp DPk.b .nil pass0 (pa_cons (pv 0) (pa_cons (pv 8) pa_nil))) pa_nil))) (pe_slice sl_list (pv 1) (po_some (pe_op op_add (pv 2) (pe_call GD hr1 rfl DD.g DD.F.kp DD.b .nil pass0 (pa_cons (pv 0) (pa_cons pe_int pa_nil))))) po_none)))))))))))))), ?_⟩
    have tn : 0 < ts.length := List.length_pos_iff.mpr ne
    have tv : Tv m (ts.map V.str) := Tv.of bt.2
    have tlen : (ts.map V.str).length = ts.length := List.length_map _
    have few := bt.1
    refine ⟨_, rfl, _, rfl, q, _, rfl, .inl (SqL.of hq), p, _, rfl, hp, by omega, by omega, fun d1 H1 d10 d11 hp1 b1 => ?_⟩
    have hq1 := (b1 q nqp).trans hq
    refine ⟨_, rfl, _, rfl, q, _, rfl, .inl (SqL.of hq1), p, _, rfl, hp1, by omega, by omega, fun d2 H2 d20 d21 hp2 b2 => ?_⟩
    have hq2 := (b2 q nqp).trans hq1
    refine ⟨_, rfl, p, _, rfl, hp2, by decide, by decide, fun kd H3 k0 k9 hp3 b3 => ?_⟩
    have hq3 := (b3 q nqp).trans hq2
    have bx3 : Bx p H H3 := (b1.bx.trans b2.bx).trans b3.bx
    clear b1 b2 b3 hq1 hq2 hp1 hp2
    obtain ⟨i, rfl⟩ := Int.eq_ofNat_of_zero_le d10
    obtain ⟨j, rfl⟩ := Int.eq_ofNat_of_zero_le d20
    have il : i < ts.length := by omega
    have jl : j < ts.length := by omega
    refine ⟨_, _, _, rfl, ?_⟩
    have hat : (ts.map V.str)[i]? = some (V.str ts[i]) := by rw [List.getElem?_map, List.getElem?_eq_getElem il]; rfl
    have lz : Lc m ts[i] := bt.2 _ (List.getElem_mem il)
    generalize ts[i] = z at hat lz
    have zl := lz.1
    refine ⟨_, rfl, _, rfl, q, _, _, .str z, rfl, rfl, SqL.of hq3, atI_nat (j := i) hat, ?_⟩
    generalize ts.map V.str = xs at *
    refine ⟨_, rfl, _, rfl, _, rfl, q, _, rfl, SqL.of hq3, fun a1 ha1 => ?_⟩
    rw [cutV_hi]
    have s4 : Same H3 (upd H3 a1 (.lst (xs.take i))) := same_new ha1
    have e4 : upd H3 a1 (.lst (xs.take i)) a1 = some (.lst (xs.take i)) := upd_same
    generalize upd H3 a1 (.lst (xs.take i)) = H4 at s4 e4
    have hq4 := s4 _ _ hq3
    refine ⟨_, rfl, _, rfl, _, _, rfl, rfl, _, rfl, q, _, rfl, SqL.of hq4, fun a2 ha2 => ?_⟩
    rw [show ((i : Nat) : Int) + 1 = ((i + 1 : Nat) : Int) by omega, cutV_lo]
    have s5 : Same H4 (upd H4 a2 (.lst (xs.drop (i + 1)))) := same_new ha2
    have e5 : upd H4 a2 (.lst (xs.drop (i + 1))) a2 = some (.lst (xs.drop (i + 1))) := upd_same
    generalize upd H4 a2 (.lst (xs.drop (i + 1))) = H5 at s5 e5
    have tk : (xs.take i).length = i := by rw [List.length_take]; omega
    have dr : (xs.drop (i + 1)).length = xs.length - (i + 1) := List.length_drop
    have dr0 : (xs.drop i).length = xs.length - i := List.length_drop
    have tvt : Tv m (xs.take i) := tv.sub fun v hv => List.mem_of_mem_take hv
    have tvd : Tv m (xs.drop (i + 1)) := tv.sub fun v hv => List.mem_of_mem_drop hv
    have tvd0 : Tv m (xs.drop i) := tv.sub fun v hv => List.mem_of_mem_drop hv
    generalize hT : xs.take i = T at *
    generalize hD : xs.drop (i + 1) = D at *
    generalize hD0 : xs.drop i = D0 at *
    refine ⟨a1, a2, _, _, rfl, rfl, s5 _ _ e4, e5, by rw [sizeLine_eq]; omega, fun r hr => ?_⟩
    have s6 : Same H5 (upd H5 r (.lst (T ++ D))) := same_new hr
    have e6 : upd H5 r (.lst (T ++ D)) r = some (.lst (T ++ D)) := upd_same
    generalize upd H5 r (.lst (T ++ D)) = H6 at s6 e6
    have hq6 := s6 _ _ (s5 _ _ hq4)
    have s36 := s4.trans (s5.trans s6)
    have nr3 : H3 r = none := (s4.trans s5).free hr
    clear s4 s5 s6 e4 e5 hq4 hq3
    have hp6 := hp3.same s36
    have bx6 : Bx p H H6 := bx3.trans (Bx.of s36)
    have nrp : r ≠ p := strm_ne hp3 nr3
    have nrH : H r = none := by
      cases e : H r with
      | none => rfl
      | some ob =>
        have := bx3 _ _ nrp e
        rw [nr3] at this
        cases this
    have tvr : Tv m (T ++ D) := tvt.app tvd
    have lr : (T ++ D).length + 1 = xs.length := by rw [List.length_append]; omega
    generalize hR : T ++ D = R at *
    refine ⟨_, _, rfl, ?_⟩
    clear hp3 bx3 s36
    -- what comes out
    have out : ∀ (y : Addr) (L : List V) (H' : Hp), L.length ≤ n + 1 → Tv (m + 2) L → H6 y = none → H' y = some (.lst L) → Strm H' p → Bx p H6 H' → Q (.ref y) H' := by
      intro y L H' l1 l2 l3 l4 l5 l6
      obtain ⟨us, rfl, u2⟩ := l2.strs
      have nyp : y ≠ p := strm_ne hp6 l3
      refine k y us H' ⟨by rw [← List.length_map (f := V.str)]; exact l1, u2⟩ ?_ l4 l5 (bx6.trans l6)
      cases e : H y with
      | none => rfl
      | some ob =>
        have := bx6 _ _ nyp e
        rw [l3] at this
        cases this
    refine ⟨_, rfl, rfl, _, rfl, ?_⟩
    refine dif (fun z0 => ?_) (fun z0 => ?_)
    · obtain ⟨us, eus, u2⟩ := (tvr.mono (show m ≤ m + 2 by omega)).strs
      rw [eus] at e6
      refine ⟨_, rfl, ?_⟩
      exact k r us H6 ⟨by rw [← List.length_map (f := V.str), ← eus]; omega, u2⟩ nrH e6 hp6 bx6
    refine ⟨_, rfl, rfl, _, rfl, ?_⟩
    refine dif (fun z1 => ?_) (fun z1 => ?_)
    · refine ⟨_, rfl, _, rfl, _, rfl, q, _, rfl, SqL.of hq6, fun b1 hb1 => ?_⟩
      rw [cutV_hi, hT]
      have sG1 : Same H6 (upd H6 b1 (.lst T)) := same_new hb1
      have fG1 : upd H6 b1 (.lst T) b1 = some (.lst T) := upd_same
      generalize upd H6 b1 (.lst T) = G1 at sG1 fG1
      refine ⟨_, rfl, by show 1 ≤ sizeLine; decide, fun b2 hb2 => ?_⟩
      have sG2 : Same G1 (upd G1 b2 (.lst [.str z])) := same_new hb2
      have fG2 : upd G1 b2 (.lst [.str z]) b2 = some (.lst [.str z]) := upd_same
      generalize upd G1 b2 (.lst [.str z]) = G2 at sG2 fG2
      refine ⟨b1, b2, _, _, rfl, rfl, sG2 _ _ fG1, fG2, by rw [sizeLine_eq]; show T.length + 1 ≤ _; omega, fun b3 hb3 => ?_⟩
      have sG3 : Same G2 (upd G2 b3 (.lst (T ++ [.str z]))) := same_new hb3
      have fG3 : upd G2 b3 (.lst (T ++ [.str z])) b3 = some (.lst (T ++ [.str z])) := upd_same
      generalize upd G2 b3 (.lst (T ++ [.str z])) = G3 at sG3 fG3
      refine ⟨_, rfl, _, rfl, _, rfl, q, _, rfl, SqL.of (sG3 _ _ (sG2 _ _ (sG1 _ _ hq6))), fun b4 hb4 => ?_⟩
      rw [cutV_lo, hD0]
      have sG4 : Same G3 (upd G3 b4 (.lst D0)) := same_new hb4
      have fG4 : upd G3 b4 (.lst D0) b4 = some (.lst D0) := upd_same
      generalize upd G3 b4 (.lst D0) = G4 at sG4 fG4
      refine ⟨b3, b4, _, _, rfl, rfl, sG4 _ _ fG3, fG4, by rw [List.length_append, sizeLine_eq]; show T.length + 1 + D0.length ≤ _; omega, fun b5 hb5 => ?_⟩
      have sG5 : Same G4 (upd G4 b5 (.lst (T ++ [.str z] ++ D0))) := same_new hb5
      have fG5 : upd G4 b5 (.lst (T ++ [.str z] ++ D0)) b5 = some (.lst (T ++ [.str z] ++ D0)) := upd_same
      generalize upd G4 b5 (.lst (T ++ [.str z] ++ D0)) = G5 at sG5 fG5
      have s65 := sG1.trans (sG2.trans (sG3.trans sG4))
      exact out b5 _ G5 (by rw [List.length_append, List.length_append]; show T.length + 1 + D0.length ≤ _; omega) ((((tvt).mono (by omega)).app (Tv.one (lz.mono (by omega)))).app ((tvd0).mono (by omega))) (s65.free hb5) fG5 (hp6.same (s65.trans sG5)) (Bx.of (s65.trans sG5))
    refine ⟨_, rfl, rfl, _, rfl, ?_⟩
    refine dif (fun z2 => ?_) (fun z2 => ?_)
    · refine ⟨_, rfl, _, rfl, _, rfl, q, _, rfl, SqL.of hq6, fun b1 hb1 => ?_⟩
      rw [cutV_hi, hT]
      have sG1 : Same H6 (upd H6 b1 (.lst T)) := same_new hb1
      have fG1 : upd H6 b1 (.lst T) b1 = some (.lst T) := upd_same
      generalize upd H6 b1 (.lst T) = G1 at sG1 fG1
      have zs : z.length ≤ sizeLine := by rw [sizeLine_eq]; omega
      refine ⟨_, rfl, _, rfl, _, rfl, _, rfl, zs, _, _, rfl, rfl, p, _, rfl, hp6.same sG1, by omega, by omega, fun d4 G2 d40 d41 hpG2 bG2 => ?_⟩
      obtain ⟨d4, rfl⟩ := Int.eq_ofNat_of_zero_le d40
      have nb1 : b1 ≠ p := strm_ne hp6 hb1
      have fG2 := (bG2 b1 nb1).trans fG1
      have qG2 := (bG2 q nqp).trans (sG1 _ _ hq6)
      have bx2 : Bx p H6 G2 := (Bx.of sG1).trans bG2.bx
      clear sG1 fG1 bG2
      refine ⟨_, rfl, z, rfl, zs, by show 1 ≤ sizeLine; decide, fun b2 hb2 => ?_⟩
      have lz4 := lz.hi (n := d4)
      generalize cutS z none (some ((d4 : Nat) : Int)) = z4 at lz4
      have sG3 : Same G2 (upd G2 b2 (.lst [.str z4])) := same_new hb2
      have fG3 : upd G2 b2 (.lst [.str z4]) b2 = some (.lst [.str z4]) := upd_same
      generalize upd G2 b2 (.lst [.str z4]) = G3 at sG3 fG3
      refine ⟨b1, b2, _, _, rfl, rfl, sG3 _ _ fG2, fG3, by rw [sizeLine_eq]; show T.length + 1 ≤ _; omega, fun b3 hb3 => ?_⟩
      have sG4 : Same G3 (upd G3 b3 (.lst (T ++ [.str z4]))) := same_new hb3
      have fG4 : upd G3 b3 (.lst (T ++ [.str z4])) b3 = some (.lst (T ++ [.str z4])) := upd_same
      generalize upd G3 b3 (.lst (T ++ [.str z4])) = G4 at sG4 fG4
      refine ⟨_, rfl, _, rfl, _, _, rfl, rfl, _, rfl, q, _, rfl, SqL.of (sG4 _ _ (sG3 _ _ qG2)), fun b4 hb4 => ?_⟩
      rw [show ((i : Nat) : Int) + 1 = ((i + 1 : Nat) : Int) by omega, cutV_lo, hD]
      have sG5 : Same G4 (upd G4 b4 (.lst D)) := same_new hb4
      have fG5 : upd G4 b4 (.lst D) b4 = some (.lst D) := upd_same
      generalize upd G4 b4 (.lst D) = G5 at sG5 fG5
      refine ⟨b3, b4, _, _, rfl, rfl, sG5 _ _ fG4, fG5, by rw [List.length_append, sizeLine_eq]; show T.length + 1 + D.length ≤ _; omega, fun b5 hb5 => ?_⟩
      have sG6 : Same G5 (upd G5 b5 (.lst (T ++ [.str z4] ++ D))) := same_new hb5
      have fG6 : upd G5 b5 (.lst (T ++ [.str z4] ++ D)) b5 = some (.lst (T ++ [.str z4] ++ D)) := upd_same
      generalize upd G5 b5 (.lst (T ++ [.str z4] ++ D)) = G6 at sG6 fG6
      have s26 := sG3.trans (sG4.trans sG5)
      have nb5 := s26.free hb5
      have nb5p : b5 ≠ p := strm_ne hpG2 nb5
      have nb56 : H6 b5 = none := by
        cases e : H6 b5 with
        | none => rfl
        | some ob =>
          have := bx2 _ _ nb5p e
          rw [nb5] at this
          cases this
      exact out b5 _ G6 (by rw [List.length_append, List.length_append]; show T.length + 1 + D.length ≤ _; omega) (((tvt.mono (by omega)).app (Tv.one (lz4.mono (by omega)))).app (tvd.mono (by omega))) nb56 fG6 (hpG2.same (s26.trans sG6)) (bx2.trans (Bx.of (s26.trans sG6)))
    refine ⟨_, rfl, rfl, _, rfl, ?_⟩
    refine dif (fun z3 => ?_) (fun z3 => ?_)
    · have rl : (R.take j).length + (R.drop j).length = R.length := by rw [← List.length_append, List.take_append_drop]
      refine ⟨_, rfl, _, rfl, _, rfl, r, _, rfl, SqL.of e6, fun b1 hb1 => ?_⟩
      rw [cutV_hi]
      have sG1 : Same H6 (upd H6 b1 (.lst (R.take j))) := same_new hb1
      have fG1 : upd H6 b1 (.lst (R.take j)) b1 = some (.lst (R.take j)) := upd_same
      generalize upd H6 b1 (.lst (R.take j)) = G1 at sG1 fG1
      refine ⟨_, rfl, by show 1 ≤ sizeLine; decide, fun b2 hb2 => ?_⟩
      have sG2 : Same G1 (upd G1 b2 (.lst [.str z])) := same_new hb2
      have fG2 : upd G1 b2 (.lst [.str z]) b2 = some (.lst [.str z]) := upd_same
      generalize upd G1 b2 (.lst [.str z]) = G2 at sG2 fG2
      refine ⟨b1, b2, _, _, rfl, rfl, sG2 _ _ fG1, fG2, by rw [sizeLine_eq]; show (R.take j).length + 1 ≤ _; omega, fun b3 hb3 => ?_⟩
      have sG3 : Same G2 (upd G2 b3 (.lst ((R.take j) ++ [.str z]))) := same_new hb3
      have fG3 : upd G2 b3 (.lst ((R.take j) ++ [.str z])) b3 = some (.lst ((R.take j) ++ [.str z])) := upd_same
      generalize upd G2 b3 (.lst ((R.take j) ++ [.str z])) = G3 at sG3 fG3
      refine ⟨_, rfl, _, rfl, _, rfl, r, _, rfl, SqL.of (sG3 _ _ (sG2 _ _ (sG1 _ _ e6))), fun b4 hb4 => ?_⟩
      rw [cutV_lo]
      have sG4 : Same G3 (upd G3 b4 (.lst (R.drop j))) := same_new hb4
      have fG4 : upd G3 b4 (.lst (R.drop j)) b4 = some (.lst (R.drop j)) := upd_same
      generalize upd G3 b4 (.lst (R.drop j)) = G4 at sG4 fG4
      refine ⟨b3, b4, _, _, rfl, rfl, sG4 _ _ fG3, fG4, by rw [List.length_append, sizeLine_eq]; show (R.take j).length + 1 + (R.drop j).length ≤ _; omega, fun b5 hb5 => ?_⟩
      have sG5 : Same G4 (upd G4 b5 (.lst ((R.take j) ++ [.str z] ++ (R.drop j)))) := same_new hb5
      have fG5 : upd G4 b5 (.lst ((R.take j) ++ [.str z] ++ (R.drop j))) b5 = some (.lst ((R.take j) ++ [.str z] ++ (R.drop j))) := upd_same
      generalize upd G4 b5 (.lst ((R.take j) ++ [.str z] ++ (R.drop j))) = G5 at sG5 fG5
      have s65 := sG1.trans (sG2.trans (sG3.trans sG4))
      exact out b5 _ G5 (by rw [List.length_append, List.length_append]; show (R.take j).length + 1 + (R.drop j).length ≤ _; omega) ((((tvr.sub fun v hv => List.mem_of_mem_take hv).mono (by omega)).app (Tv.one (lz.mono (by omega)))).app ((tvr.sub fun v hv => List.mem_of_mem_drop hv).mono (by omega))) (s65.free hb5) fG5 (hp6.same (s65.trans sG5)) (Bx.of (s65.trans sG5))
    refine ⟨_, rfl, rfl, _, rfl, ?_⟩
    have zs : z.length ≤ sizeLine := by rw [sizeLine_eq]; omega
    refine dif (fun z4 => ?_) (fun z4 => ?_)
    · have l2 : ("  " : Str).length = 2 := by decide +kernel
      have l1 : (" " : Str).length = 1 := by decide +kernel
      refine ⟨_, rfl, _, rfl, _, _, rfl, rfl, by rw [l2, sizeLine_eq]; omega, _, rfl, _, rfl, z, rfl, zs, _, rfl, _, _, rfl, rfl, by rw [l1, sizeLine_eq]; omega, _, rfl, _, rfl, z, rfl, zs, _, rfl, _, _, rfl, rfl, by rw [l1, sizeLine_eq]; omega, by show 5 ≤ sizeLine; decide, fun b0 hb0 => ?_⟩
      have tv5 : Tv (m + 2) [.str (("  " : Str) ++ z), .str (cutS z (some 2) none), .str ((" " : Str) ++ z), .str (cutS z (some 1) none), .str (z ++ (" " : Str))] := fun v hv => by
        rcases List.mem_cons.mp hv with rfl | hv
        · exact ⟨_, rfl, (lcS.1.app lz).mono (by omega)⟩
        rcases List.mem_cons.mp hv with rfl | hv
        · exact ⟨_, rfl, (lz.lo (n := 2)).mono (by omega)⟩
        rcases List.mem_cons.mp hv with rfl | hv
        · exact ⟨_, rfl, (lcS.2.app lz).mono (by omega)⟩
        rcases List.mem_cons.mp hv with rfl | hv
        · exact ⟨_, rfl, (lz.lo (n := 1)).mono (by omega)⟩
        rcases List.mem_cons.mp hv with rfl | hv
        · exact ⟨_, rfl, (lz.app lcS.2).mono (by omega)⟩
        · cases hv
      have five : ([.str (("  " : Str) ++ z), .str (cutS z (some 2) none), .str ((" " : Str) ++ z), .str (cutS z (some 1) none), .str (z ++ (" " : Str))] : List V).length = 5 := rfl
      generalize ([.str (("  " : Str) ++ z), .str (cutS z (some 2) none), .str ((" " : Str) ++ z), .str (cutS z (some 1) none), .str (z ++ (" " : Str))] : List V) = ys at tv5 five
      have sG1 : Same H6 (upd H6 b0 (.lst ys)) := same_new hb0
      have fG1 : upd H6 b0 (.lst ys) b0 = some (.lst ys) := upd_same
      generalize upd H6 b0 (.lst ys) = G1 at sG1 fG1
      have nb0 : b0 ≠ p := strm_ne hp6 hb0
      refine ⟨p, b0, ys, rfl, hp6.same sG1, SqL.of fG1, nb0, (fun e => by rw [e] at five; cases five), by omega, fun v G2 hv hpG2 bG2 => ?_⟩
      obtain ⟨u, rfl, lu⟩ := tv5 v hv
      have qG2 := (bG2 q nqp).trans (sG1 _ _ hq6)
      have bx2 : Bx p H6 G2 := (Bx.of sG1).trans bG2.bx
      clear sG1 fG1 bG2
      refine ⟨_, rfl, _, rfl, _, rfl, q, _, rfl, SqL.of qG2, fun b1 hb1 => ?_⟩
      rw [cutV_hi, hT]
      have sG3 : Same G2 (upd G2 b1 (.lst T)) := same_new hb1
      have fG3 : upd G2 b1 (.lst T) b1 = some (.lst T) := upd_same
      generalize upd G2 b1 (.lst T) = G3 at sG3 fG3
      refine ⟨_, rfl, by show 1 ≤ sizeLine; decide, fun b2 hb2 => ?_⟩
      have sG4 : Same G3 (upd G3 b2 (.lst [.str u])) := same_new hb2
      have fG4 : upd G3 b2 (.lst [.str u]) b2 = some (.lst [.str u]) := upd_same
      generalize upd G3 b2 (.lst [.str u]) = G4 at sG4 fG4
      refine ⟨b1, b2, _, _, rfl, rfl, sG4 _ _ fG3, fG4, by rw [sizeLine_eq]; show T.length + 1 ≤ _; omega, fun b3 hb3 => ?_⟩
      have sG5 : Same G4 (upd G4 b3 (.lst (T ++ [.str u]))) := same_new hb3
      have fG5 : upd G4 b3 (.lst (T ++ [.str u])) b3 = some (.lst (T ++ [.str u])) := upd_same
      generalize upd G4 b3 (.lst (T ++ [.str u])) = G5 at sG5 fG5
      refine ⟨_, rfl, _, rfl, _, _, rfl, rfl, _, rfl, q, _, rfl, SqL.of (sG5 _ _ (sG4 _ _ (sG3 _ _ qG2))), fun b4 hb4 => ?_⟩
      rw [show ((i : Nat) : Int) + 1 = ((i + 1 : Nat) : Int) by omega, cutV_lo, hD]
      have sG6 : Same G5 (upd G5 b4 (.lst D)) := same_new hb4
      have fG6 : upd G5 b4 (.lst D) b4 = some (.lst D) := upd_same
      generalize upd G5 b4 (.lst D) = G6 at sG6 fG6
      refine ⟨b3, b4, _, _, rfl, rfl, sG6 _ _ fG5, fG6, by rw [List.length_append, sizeLine_eq]; show T.length + 1 + D.length ≤ _; omega, fun b5 hb5 => ?_⟩
      have sG7 : Same G6 (upd G6 b5 (.lst (T ++ [.str u] ++ D))) := same_new hb5
      have fG7 : upd G6 b5 (.lst (T ++ [.str u] ++ D)) b5 = some (.lst (T ++ [.str u] ++ D)) := upd_same
      generalize upd G6 b5 (.lst (T ++ [.str u] ++ D)) = G7 at sG7 fG7
      have s26 := sG3.trans (sG4.trans (sG5.trans sG6))
      have nb5 := s26.free hb5
      have nb5p : b5 ≠ p := strm_ne hpG2 nb5
      have nb56 : H6 b5 = none := by
        cases e : H6 b5 with
        | none => rfl
        | some ob =>
          have := bx2 _ _ nb5p e
          rw [nb5] at this
          cases this
      exact out b5 _ G7 (by rw [List.length_append, List.length_append]; show T.length + 1 + D.length ≤ _; omega) (((tvt.mono (by omega)).app (Tv.one lu)).app ((tvd).mono (by omega))) nb56 fG7 (hpG2.same (s26.trans sG7)) (bx2.trans (Bx.of (s26.trans sG7)))
    obtain ⟨k1, k2, k3, k4⟩ := some_ok
    refine ⟨by show 11 ≤ sizeLine; decide, fun c1 hc1 => ?_⟩
    have tc1 : Tv 17 ([.str "flat", .str "zip", .str "from a", .str "from b", .str "from e", .str "map f", .str "map", .str "map F", .str "keep p q", .str "take 0", .str "take 5"] : List V) := Tv.of (us := some1) k1
    have nc1 : ([.str "flat", .str "zip", .str "from a", .str "from b", .str "from e", .str "map f", .str "map", .str "map F", .str "keep p q", .str "take 0", .str "take 5"] : List V).length = 11 := rfl
    generalize ([.str "flat", .str "zip", .str "from a", .str "from b", .str "from e", .str "map f", .str "map", .str "map F", .str "keep p q", .str "take 0", .str "take 5"] : List V) = Yc1 at tc1 nc1
    have sG1 : Same H6 (upd H6 c1 (.lst Yc1)) := same_new hc1
    have fG1 : upd H6 c1 (.lst Yc1) c1 = some (.lst Yc1) := upd_same
    generalize upd H6 c1 (.lst Yc1) = G1 at sG1 fG1
    refine ⟨_, rfl, by show 10 ≤ sizeLine; decide, fun c2 hc2 => ?_⟩
    have tc2 : Tv 17 ([.str "take 01", .str "skip 1", .str "gather", .str "", .str "  flat", .str "  from c", .str "  from d", .str "zip b", .str "flat 1", .str "lots 4"] : List V) := Tv.of (us := some2) k2
    have nc2 : ([.str "take 01", .str "skip 1", .str "gather", .str "", .str "  flat", .str "  from c", .str "  from d", .str "zip b", .str "flat 1", .str "lots 4"] : List V).length = 10 := rfl
    generalize ([.str "take 01", .str "skip 1", .str "gather", .str "", .str "  flat", .str "  from c", .str "  from d", .str "zip b", .str "flat 1", .str "lots 4"] : List V) = Yc2 at tc2 nc2
    have sG2 : Same G1 (upd G1 c2 (.lst Yc2)) := same_new hc2
    have fG2 : upd G1 c2 (.lst Yc2) c2 = some (.lst Yc2) := upd_same
    generalize upd G1 c2 (.lst Yc2) = G2 at sG2 fG2
    refine ⟨c1, c2, _, _, rfl, rfl, sG2 _ _ fG1, fG2, by rw [sizeLine_eq]; omega, fun c3 hc3 => ?_⟩
    have tc3 : Tv 17 (Yc1 ++ Yc2) := tc1.app tc2
    have nc3 : (Yc1 ++ Yc2).length = 21 := by rw [List.length_append]; omega
    generalize Yc1 ++ Yc2 = Yc3 at tc3 nc3
    have sG3 : Same G2 (upd G2 c3 (.lst Yc3)) := same_new hc3
    have fG3 : upd G2 c3 (.lst Yc3) c3 = some (.lst Yc3) := upd_same
    generalize upd G2 c3 (.lst Yc3) = G3 at sG3 fG3
    refine ⟨_, rfl, by show 5 ≤ sizeLine; decide, fun c4 hc4 => ?_⟩
    have tc4 : Tv 17 ([.str "after abcdefghi", .str "map f1", .str "keep p_q", .str "while {", .str "map 1"] : List V) := Tv.of (us := some3) k3
    have nc4 : ([.str "after abcdefghi", .str "map f1", .str "keep p_q", .str "while {", .str "map 1"] : List V).length = 5 := rfl
    generalize ([.str "after abcdefghi", .str "map f1", .str "keep p_q", .str "while {", .str "map 1"] : List V) = Yc4 at tc4 nc4
    have sG4 : Same G3 (upd G3 c4 (.lst Yc4)) := same_new hc4
    have fG4 : upd G3 c4 (.lst Yc4) c4 = some (.lst Yc4) := upd_same
    generalize upd G3 c4 (.lst Yc4) = G4 at sG4 fG4
    refine ⟨c3, c4, _, _, rfl, rfl, sG4 _ _ fG3, fG4, by rw [sizeLine_eq]; omega, fun c5 hc5 => ?_⟩
    have tc5 : Tv 17 (Yc3 ++ Yc4) := tc3.app tc4
    have nc5 : (Yc3 ++ Yc4).length = 26 := by rw [List.length_append]; omega
    generalize Yc3 ++ Yc4 = Yc5 at tc5 nc5
    have sG5 : Same G4 (upd G4 c5 (.lst Yc5)) := same_new hc5
    have fG5 : upd G4 c5 (.lst Yc5) c5 = some (.lst Yc5) := upd_same
    generalize upd G4 c5 (.lst Yc5) = G5 at sG5 fG5
    refine ⟨_, rfl, by show 8 ≤ sizeLine; decide, fun c6 hc6 => ?_⟩
    have tc6 : Tv 17 ([.str "    take 1", .str "from  a", .str "From a", .str "while p", .str "take +1", .str " from a", .str "  zip", .str "flat "] : List V) := Tv.of (us := some4) k4
    have nc6 : ([.str "    take 1", .str "from  a", .str "From a", .str "while p", .str "take +1", .str " from a", .str "  zip", .str "flat "] : List V).length = 8 := rfl
    generalize ([.str "    take 1", .str "from  a", .str "From a", .str "while p", .str "take +1", .str " from a", .str "  zip", .str "flat "] : List V) = Yc6 at tc6 nc6
    have sG6 : Same G5 (upd G5 c6 (.lst Yc6)) := same_new hc6
    have fG6 : upd G5 c6 (.lst Yc6) c6 = some (.lst Yc6) := upd_same
    generalize upd G5 c6 (.lst Yc6) = G6 at sG6 fG6
    refine ⟨c5, c6, _, _, rfl, rfl, sG6 _ _ fG5, fG6, by rw [sizeLine_eq]; omega, fun c7 hc7 => ?_⟩
    have tc7 : Tv 17 (Yc5 ++ Yc6) := tc5.app tc6
    have nc7 : (Yc5 ++ Yc6).length = 34 := by rw [List.length_append]; omega
    generalize Yc5 ++ Yc6 = Yc7 at tc7 nc7
    have sG7 : Same G6 (upd G6 c7 (.lst Yc7)) := same_new hc7
    have fG7 : upd G6 c7 (.lst Yc7) c7 = some (.lst Yc7) := upd_same
    generalize upd G6 c7 (.lst Yc7) = G7 at sG7 fG7
    have s67 := sG1.trans (sG2.trans (sG3.trans (sG4.trans (sG5.trans (sG6.trans sG7)))))
    have hpG7 := hp6.same s67
    have qG7 := s67 _ _ hq6
    have fr7 : H6 c7 = none := (sG1.trans (sG2.trans (sG3.trans (sG4.trans (sG5.trans sG6))))).free hc7
    have nc7p : c7 ≠ p := strm_ne hp6 fr7
    clear sG1 sG2 sG3 sG4 sG5 sG6 sG7 fG1 fG2 fG3 fG4 fG5 fG6
    refine ⟨_, rfl, _, rfl, _, rfl, q, _, rfl, SqL.of qG7, fun b1 hb1 => ?_⟩
    rw [cutV_hi, hT]
    have sG8 : Same G7 (upd G7 b1 (.lst T)) := same_new hb1
    have fG8 : upd G7 b1 (.lst T) b1 = some (.lst T) := upd_same
    generalize upd G7 b1 (.lst T) = G8 at sG8 fG8
    have nb1 : b1 ≠ p := strm_ne hpG7 hb1
    refine ⟨_, rfl, _, rfl, p, c7, Yc7, rfl, hpG7.same sG8, SqL.of (sG8 _ _ fG7), nc7p, (fun e => by rw [e] at nc7; cases nc7), by omega, fun v G9 hv hpG9 bG9 => ?_⟩
    obtain ⟨u, rfl, lu⟩ := tc7 v hv
    have lu : Lc (m + 2) u := lu.mono (by omega)
    have qG9 := (bG9 q nqp).trans (sG8 _ _ qG7)
    have fG9 := (bG9 b1 nb1).trans fG8
    have bx9 : Bx p H6 G9 := (Bx.of (s67.trans sG8)).trans bG9.bx
    clear sG8 fG8 bG9 s67 fG7
    refine ⟨by show 1 ≤ sizeLine; decide, fun b2 hb2 => ?_⟩
    have sG10 : Same G9 (upd G9 b2 (.lst [.str u])) := same_new hb2
    have fG10 : upd G9 b2 (.lst [.str u]) b2 = some (.lst [.str u]) := upd_same
    generalize upd G9 b2 (.lst [.str u]) = G10 at sG10 fG10
    refine ⟨b1, b2, _, _, rfl, rfl, sG10 _ _ fG9, fG10, by rw [sizeLine_eq]; show T.length + 1 ≤ _; omega, fun b3 hb3 => ?_⟩
    have sG11 : Same G10 (upd G10 b3 (.lst (T ++ [.str u]))) := same_new hb3
    have fG11 : upd G10 b3 (.lst (T ++ [.str u])) b3 = some (.lst (T ++ [.str u])) := upd_same
    generalize upd G10 b3 (.lst (T ++ [.str u])) = G11 at sG11 fG11
    have s911 := sG10.trans sG11
    have nb3 : b3 ≠ p := strm_ne (hpG9.same sG10) hb3
    refine ⟨_, rfl, _, rfl, _, rfl, p, _, rfl, hpG9.same s911, by decide, by decide, fun d5 G12 d50 d51 hpG12 bG12 => ?_⟩
    obtain ⟨d5, rfl⟩ := Int.eq_ofNat_of_zero_le d50
    have qG12 := (bG12 q nqp).trans (s911 _ _ qG9)
    have fG12 := (bG12 b3 nb3).trans fG11
    have bx12 : Bx p H6 G12 := (bx9.trans (Bx.of s911)).trans bG12.bx
    refine ⟨_, _, rfl, rfl, _, rfl, q, _, rfl, SqL.of qG12, fun b4 hb4 => ?_⟩
    rw [show ((i : Nat) : Int) + ((d5 : Nat) : Int) = ((i + d5 : Nat) : Int) by omega, cutV_lo]
    have tv5 : Tv m (xs.drop (i + d5)) := tv.sub fun v hv => List.mem_of_mem_drop hv
    have l5 : (xs.drop (i + d5)).length = xs.length - (i + d5) := List.length_drop
    generalize xs.drop (i + d5) = D5 at tv5 l5
    have sG13 : Same G12 (upd G12 b4 (.lst D5)) := same_new hb4
    have fG13 : upd G12 b4 (.lst D5) b4 = some (.lst D5) := upd_same
    generalize upd G12 b4 (.lst D5) = G13 at sG13 fG13
    refine ⟨b3, b4, _, _, rfl, rfl, sG13 _ _ fG12, fG13, by rw [List.length_append, sizeLine_eq]; show T.length + 1 + D5.length ≤ _; omega, fun b5 hb5 => ?_⟩
    have sG14 : Same G13 (upd G13 b5 (.lst (T ++ [.str u] ++ D5))) := same_new hb5
    have fG14 : upd G13 b5 (.lst (T ++ [.str u] ++ D5)) b5 = some (.lst (T ++ [.str u] ++ D5)) := upd_same
    generalize upd G13 b5 (.lst (T ++ [.str u] ++ D5)) = G14 at sG14 fG14
    have nb5 := sG13.free hb5
    have nb5p : b5 ≠ p := strm_ne hpG12 nb5
    have nb56 : H6 b5 = none := by
      cases e : H6 b5 with
      | none => rfl
      | some ob =>
        have := bx12 _ _ nb5p e
        rw [nb5] at this
        cases this
    exact out b5 _ G14 (by rw [List.length_append, List.length_append]; show T.length + 1 + D5.length ≤ _; omega) (((tvt.mono (by omega)).app (Tv.one lu)).app (tv5.mono (by omega))) nb56 fG14 (hpG12.same (sG13.trans sG14)) (bx12.trans (Bx.of (sG13.trans sG14)))
end
end K81
set_option Elab.async false
set_option linter.all false
set_option maxRecDepth 100000
set_option maxHeartbeats 4000000
namespace K81
open PySem L2 VK
open TL (tl)
/-! ### texts that are small -/
theorem join_sm {ws : List Str} {y : Str} (hy : ∀ c ∈ tl y, c < 1000) (h : ∀ w ∈ ws, ∀ c ∈ tl w, c < 1000) : ∀ c ∈ tl (Str.join y ws), c < 1000 := by
  rw [TL.tl_join]
  induction ws with
  | nil => exact fun c hc => by cases hc
  | cons a r ih =>
    cases r with
    | nil => exact h a List.mem_cons_self
    | cons b r =>
      intro c hc
      have hc : c ∈ tl a ++ (tl y ++ TL.joinL (tl y) ((b :: r).map tl)) := hc
      rcases List.mem_append.mp hc with hc | hc
      · exact h a List.mem_cons_self c hc
      rcases List.mem_append.mp hc with hc | hc
      · exact hy c hc
      · exact ih (fun w hw => h w (List.mem_cons_of_mem _ hw)) c hc
theorem join_few {m : Nat} : ∀ {ws : List Str}, (∀ w ∈ ws, w.length ≤ m) → (Str.join "\n" ws).length ≤ ws.length * (m + 1) := by
  intro ws
  rw [TL.len_tl, TL.tl_join, tl_nl]
  induction ws with
  | nil => exact fun _ => Nat.zero_le _
  | cons a r ih =>
    intro h
    have ha := h a List.mem_cons_self
    rw [TL.len_tl] at ha
    have := ih fun w hw => h w (List.mem_cons_of_mem _ hw)
    cases r with
    | nil =>
      show (tl a).length ≤ 1 * (m + 1)
      omega
    | cons b r =>
      have e : TL.joinL [10] ((a :: b :: r).map tl) = tl a ++ ([10] ++ TL.joinL [10] ((b :: r).map tl)) := rfl
      rw [e, List.length_append, List.length_append, List.length_cons (as := b :: r), Nat.succ_mul]
      show (tl a).length + (1 + _) ≤ _
      omega
theorem join_many : ∀ ws : List Str, ws.length ≤ (Str.join "\n" ws).length + 1 := by
  intro ws
  rw [TL.len_tl, TL.tl_join, tl_nl]
  induction ws with
  | nil => exact Nat.zero_le _
  | cons a r ih =>
    cases r with
    | nil =>
      show 1 ≤ (tl a).length + 1
      omega
    | cons b r =>
      have e : TL.joinL [10] ((a :: b :: r).map tl) = tl a ++ ([10] ++ TL.joinL [10] ((b :: r).map tl)) := rfl
      rw [e, List.length_append, List.length_append, List.length_cons]
      show _ ≤ (tl a).length + (1 + _) + 1
      omega
def Sm (z : Str) : Prop := z.length ≤ 999 ∧ ∀ c ∈ tl z, c < 1000
instance (z : Str) : Decidable (Sm z) := by unfold Sm; exact inferInstance
theorem Sm.tx {z : Str} (h : Sm z) : Tx z := by
  have jn : Str.join "\n" (Txt.split z "\n") = z := PySem.StrLaws.join_split z "\n"
  refine ⟨by rw [sizeLine_eq]; have := h.1; omega, ?_, fun l hl => ?_⟩
  · have := join_many (Txt.split z "\n")
    rw [jn] at this
    have := h.1
    omega
  · have m := join_mem hl "\n"
    rw [jn] at m
    exact ⟨by have := h.1; omega, fun c hc => h.2 c (m.2 c hc)⟩
theorem bt_sm {n m : Nat} {ts : List Str} (h : Bt n m ts) (l : n * (m + 1) ≤ 999) : Sm (Str.join "\n" ts) := by
  refine ⟨?_, join_sm (by decide +kernel) fun w hw => (h.2 w hw).2⟩
  have a := join_few (m := m) (ws := ts) fun w hw => (h.2 w hw).1
  have b := Nat.mul_le_mul_right (m + 1) h.1
  omega
theorem sum_le' {m : Nat} : ∀ {ts : List Str}, (∀ t ∈ ts, t.length ≤ m) → (ts.map (·.length)).sum ≤ ts.length * m
  | [], _ => Nat.zero_le _
  | a :: r, h => by
    have := sum_le' (ts := r) fun t ht => h t (List.mem_cons_of_mem _ ht)
    have := h a List.mem_cons_self
    rw [List.map_cons, List.sum_cons, List.length_cons, Nat.succ_mul]
    omega
theorem bt_sum {n m : Nat} {ts : List Str} (h : Bt n m ts) (l : n * (m + 1) ≤ 999) : (ts.map (·.length)).sum + ts.length * ("\n" : Str).length ≤ 16777216 := by
  have e : ("\n" : Str).length = 1 := by decide +kernel
  rw [e]
  have a := sum_le' (m := m) (ts := ts) fun w hw => (h.2 w hw).1
  have b := Nat.mul_le_mul_right (m + 1) h.1
  rw [Nat.mul_succ] at b
  omega
theorem lc_plns {m : Nat} {ts : List Str} (h : ∀ t ∈ ts, Lc m t) : Plns (ts.map V.str) := by
  intro x hx
  obtain ⟨s, hs, rfl⟩ := List.mem_map.mp hx
  refine ⟨_, .str ?_⟩
  have k := (h s hs).2
  unfold PyData.strOk
  rw [Array.all_eq_true_iff_forall_mem]
  intro c hc
  have := k c (Array.mem_toList_iff.mpr hc)
  exact decide_eq_true (by omega)
mutual
theorem Sg.line_sm : ∀ (x : Sg) (d : Int) (tk : List Str), x.ok d tk → ∀ l ∈ x.lines, ∀ c ∈ tl l, c < 1000
  | .zip p, d, tk, h => fun l hl => by
    have h : p.ok ∧ ∀ s ∈ p.srcs, s ∉ tk := h
    rcases List.mem_cons.mp hl with e | hl
    · rw [e]; decide +kernel
    · obtain ⟨m, hm, rfl⟩ := List.mem_map.mp hl
      have b := Pg.line_sm p h.1 m hm
      rw [TL.tl_append, tl_two]
      intro c hc
      rcases List.mem_append.mp hc with z | z
      · exact (by decide : ∀ c ∈ ([32, 32] : List Nat), c < 1000) c z
      · exact b c z
  | .nm k n, d, tk, h => fun l hl => by
    have w : wordsOk (Sg.nm k n).words := words_ok (d := d) (tk := tk) h
    rw [List.mem_singleton.mp hl, TL.join_eq]
    exact join_sm (by decide +kernel) w
  | .num k n, d, tk, h => fun l hl => by
    have w : wordsOk (Sg.num k n).words := words_ok (d := d) (tk := tk) h
    rw [List.mem_singleton.mp hl, TL.join_eq]
    exact join_sm (by decide +kernel) w
  | .flat, d, tk, h => fun l hl => by
    have w : wordsOk Sg.flat.words := words_ok (d := d) (tk := tk) h
    rw [List.mem_singleton.mp hl, TL.join_eq]
    exact join_sm (by decide +kernel) w
theorem Pg.line_sm : ∀ g : Pg, g.ok → ∀ l ∈ g.lines, ∀ c ∈ tl l, c < 1000
  | .mk s r, h => fun l hl => by
    have h : s ∈ K0 ∧ r.len ≤ 6 ∧ r.ok 0 [s] := h
    rcases List.mem_cons.mp hl with e | hl
    · rw [e]
      exact (by decide +kernel : ∀ s ∈ K0, ∀ c ∈ tl (("from " : Str) ++ s), c < 1000) s h.1
    · exact Sgs.line_sm r 0 [s] h.2.2 l hl
theorem Sgs.line_sm : ∀ (r : Sgs) (d : Int) (tk : List Str), r.ok d tk → ∀ l ∈ r.lines, ∀ c ∈ tl l, c < 1000
  | .nil, _, _, _ => fun _ h => by cases h
  | .cons x r, d, tk, h => fun l hl => by
    have h : x.ok d tk ∧ r.ok (x.dep d) (tk ++ x.srcs) := h
    rcases List.mem_append.mp hl with hl | hl
    · exact Sg.line_sm x d tk h.1 l hl
    · exact Sgs.line_sm r _ _ h.2 l hl
end
theorem lines_bt {g : Pg} (h : g.ok) : Bt 28 23 g.lines := by
  have n3 := nest_srcs h
  refine ⟨Pg.many28 h, fun t ht => ⟨?_, Pg.line_sm g h t ht⟩⟩
  have := (Pg.line_ok g h t ht).1
  omega
theorem lines_ne (g : Pg) : g.lines ≠ [] := by
  obtain ⟨s, l⟩ := g
  exact List.cons_ne_nil _ _
theorem text_split {g : Pg} (h : g.ok) : Txt.split g.text "\n" = g.lines := split_lines (lines_ne g) fun l hl => (Pg.line_ok g h l hl).2
theorem text_len {g : Pg} (h : g.ok) : g.text.length + 2 ≤ sizeLine := by
  have := (bt_sm (lines_bt h) (by decide)).tx.len
  show (Txt.join "\n" g.lines).length + 2 ≤ sizeLine
  rw [TL.join_eq]
  exact this
end K81
set_option Elab.async false
set_option linter.all false
set_option maxRecDepth 100000
set_option maxHeartbeats 8000000
namespace K81
open PySem L2 VK
open TL (tl)
abbrev sLaw : Stmt := top 54
abbrev NL : List Str := ["script", "typed", "start", "source", "some", "turn", "lines", "bent", "text", "value"]
theorem scL : FnScope NL ["script"] (defScope sLaw) := ⟨rfl, rfl, rfl, by decide +kernel, rfl, by decide +kernel, by decide +kernel⟩
def spLaw (K : Fg) : Sp := fun vs H Q _ => ∃ (a : Addr) (ns : List Int), vs = [.ref a] ∧ Only H ∧ SqL K H a (ns.map V.int) ∧ ns.length ≤ 63 ∧ Bits ns ∧ ∀ H', Q (.bl true) H'
theorem perm_map {α β : Type} {f : α → β} {ys zs : List β} (h : ys.Perm zs) : ∀ l : List α, zs = l.map f → ∃ l' : List α, l'.Perm l ∧ ys = l'.map f := by
  induction h with
  | nil =>
    intro l e
    cases l with
    | nil => exact ⟨[], .refl _, rfl⟩
    | cons _ _ => cases e
  | cons x _ ih =>
    intro l e
    cases l with
    | nil => cases e
    | cons a r =>
      injection e with e1 e2
      obtain ⟨l', p, e3⟩ := ih r e2
      exact ⟨a :: l', .cons a p, by rw [List.map_cons, e1, e3]⟩
  | swap x y l0 =>
    intro l e
    match l, e with
    | a :: b :: r, e =>
      injection e with e1 e2
      injection e2 with e2 e3
      exact ⟨b :: a :: r, .swap _ _ _, by rw [List.map_cons, List.map_cons, e1, e2, e3]⟩
  | trans _ _ ih1 ih2 =>
    intro l e
    obtain ⟨l1, p1, e1⟩ := ih2 l e
    obtain ⟨l2, p2, e2⟩ := ih1 l1 e1
    exact ⟨l2, p2.trans p1, e2⟩
def Sv (xs : List V) : Prop := ∀ v ∈ xs, ∃ z, v = .str z ∧ Sm z
theorem Sv.app {xs ys : List V} (h : Sv xs) (k : Sv ys) : Sv (xs ++ ys) := fun v hv => (List.mem_append.mp hv).elim (h v) (k v)
theorem Sv.of {us : List Str} (h : ∀ t ∈ us, Sm t) : Sv (us.map V.str) := fun v hv => by
  obtain ⟨t, ht, rfl⟩ := List.mem_map.mp hv
  exact ⟨t, rfl, h t ht⟩
theorem Bx.kps {p : Addr} {H H' : Hp} (b : Bx p H H') (h : Strm H p) : Kp H H' := by
  obtain ⟨r, m0, e, _⟩ := h
  exact fun c o ec f => b c o (fun z => by rw [z, e] at ec; cases ec; cases f) ec
def K3 : List Str := ["a", "b", "c"]
def tDrawn3 (K : Fg) (i : Nat) : TE := tCall (spPlan K 4) [] E0 (tCons (tVar i) (tCons (tCall (spMixed K) [] E0 (tCons (tVar i) (tCons (tLst (tCons (tC (.str "a")) (tCons (tC (.str "b")) (tCons (tC (.str "c")) tNil)))) tNil))) (tCons (tC (.int 4)) tNil)))
theorem drawn3 {K : Fg} {p : Addr} {i : Nat} {σ : L2.St} {H0 : Hp} {Q : VK} (hi : σ[i]? = some (some (.ref p))) (hp : Strm H0 p)
    (k : ∀ (v : V) (g : Pg) (H' : Hp), PlAt K H' v g → g.ok → Strm H' p → Bx p H0 H' → Q v H') : tDrawn3 K i σ H0 Q := by
  refine ⟨_, hi, _, hi, by show 3 ≤ sizeLine; decide, fun m hm => ?_⟩
  have k30 : ∀ s ∈ K3, s ∈ K0 := by decide +kernel
  have pk : Plns (K3.map V.str) := pl_plns k30
  have sm : Same H0 (upd H0 m (.lst [.str "a", .str "b", .str "c"])) := same_new hm
  have em : upd H0 m (.lst [.str "a", .str "b", .str "c"]) m = some (.lst (K3.map V.str)) := upd_same
  generalize upd H0 m (.lst [.str "a", .str "b", .str "c"]) = H1 at sm em
  refine ⟨p, m, K3.map V.str, rfl, hp.same sm, SqL.of em, strm_ne hp hm, by decide, pk, fun r ys H2 pm nr er hs2 bx2 => ?_⟩
  obtain ⟨zs, pz, rfl⟩ := perm_map pm K3 rfl
  have bx2' : Bx p H0 H2 := (Bx.of sm).trans bx2
  have nrp : r ≠ p := fun z => by
    obtain ⟨r0, m0, e, _⟩ := hp
    rw [z] at nr
    have := sm _ _ e
    rw [nr] at this
    cases this
  have nd : zs.Nodup := pz.nodup_iff.mpr (by decide +kernel)
  have sub : ∀ s ∈ zs, s ∈ K0 := fun s h => k30 s (pz.mem_iff.mp h)
  have len : zs.length = 3 := pz.length_eq
  refine ⟨p, r, 4, zs, rfl, by decide, by decide, hs2, nrp, ⟨er, nd, sub⟩, (fun z => by rw [z] at len; cases len), by omega, fun v g pl' H4 hv ok hsr hq4 hs4 bx4 _ => ?_⟩
  refine k v g H4 hv ok hs4 (fun b o n e => ?_)
  have e2 := bx2' _ _ n e
  have nb : b ≠ r := fun z => by
    rw [z] at e
    have := sm _ _ e
    rw [nr] at this
    cases this
  exact bx4 _ _ n nb e2
/-- a value that is no text -/
def Oth (K : Fg) (H : Hp) (v : V) : Prop := ∃ t : String, (∀ H', Same H H' → TyX K H' v (.type t)) ∧ kitB t "str" = some false
def takes (n : Nat) : Str := Txt.join "\n" (List.replicate n ("take 1" : Str))
theorem sm_takes : Sm (("from a\n" : Str) ++ takes 7) ∧ Sm (("from a\n" : Str) ++ takes 6 ++ ("\nzip" : Str)) := by
  unfold takes
  rw [TL.join_eq, TL.join_eq]
  decide +kernel
theorem sm_lines : Sm (("from a\nzip\n  from b\n" : Str) ++ repS "  take 1\n" 6 ++ ("  zip" : Str)) := by decide +kernel
theorem takes_len : (takes 7).length ≤ 400 ∧ (takes 6).length ≤ 400 ∧ (("from a\n" : Str) ++ takes 6).length ≤ 400 := by
  unfold takes
  rw [TL.join_eq, TL.join_eq]
  decide +kernel
theorem sz {a b : Str} (h : a.length ≤ 400) (k : b.length ≤ 400) : a.length + b.length ≤ sizeLine := by
  rw [sizeLine_eq]
  omega
theorem sm_0 : ∀ t ∈ (["", "from", "from ", "from a", "from a\n", "from a\nflat", "from a\nlots 1\nflat\nflat", "from a\nzip"] : List Str), Sm t := by decide +kernel
theorem sm_1 : ∀ t ∈ (["from a\nzip\nfrom b", "from a\nzip\n  from b", "from a\nzip\n  from a"] : List Str), Sm t := by decide +kernel
theorem sm_2 : ∀ t ∈ (["from a\nzip\n  from b\n  zip", "from a\nzip\n  from b\n  zip\n    from c\n  flat\nflat\nflat"] : List Str), Sm t := by decide +kernel
theorem sm_4 : ∀ t ∈ (["from a\nzip\n  from b\n    take 1", "take 1", "from A", "from a\nFlat", "from a\nMap f"] : List Str), Sm t := by decide +kernel
theorem sm_5 : ∀ t ∈ (["from a\ntake  1", "from a\nTAKE 1"] : List Str), Sm t := by decide +kernel
theorem sm_6 : ∀ t ∈ (["from a\nzip\n  from b\n  zip\n    from c\n    zip\n      from d\n      zip", "from a\nzip\n  from b\nzip\n  from c\nzip\n  from d\nzip\n  from a"] : List Str), Sm t := by decide +kernel
section
variable {P : Program} {w : World} {K : Fg} {mg : Str → Option Value} {base : Heap} {A I : Nat → Addr} {D J : Nat → FuncData} {aS a1 a2 C e0 : Addr}
theorem run_law {f fS fL fM fP fT fTD fFB fB : Addr} {fd dS dL dM dP dT dTD dFB dB : FuncData} (F : Fun K "law" "law" sLaw f fd) (Z : Lp K mg A I D J aS a1 a2 C e0)
    (DS : Df K mg "_law_source" sSource ["script", "start"] fS dS) (DL : Df K mg "_law_plan" sPlan ["stream", "pool", "most"] fL dL) (DM : Df K mg "_law_mixed" sMixed ["stream", "things"] fM dM) (DP : Df K mg "_law_program" sProg ["plan"] fP dP)
    (DT : Df K mg "program_text" sText ["program"] fT dT) (DTD : Df K mg "_law_told" sTld ["value"] fTD dTD) (DFB : Df K mg "_law_first_bad_line" sFB ["text"] fFB dFB) (DB : Df K mg "_law_bent" sBent ["source", "lines"] fB dB)
    (GL : FnOk P w K mg base CX0 20 fL dL ["stream", "pool", "most"] (spPlan K 4)) (GM : FnOk P w K mg base CX0 2 fM dM ["stream", "things"] (spMixed K)) (GT : FnOk P w K mg base CX0 11 fT dT ["program"] (spText K C))
    (GTD : FnOk P w K mg base CX0 13 fTD dTD ["value"] (spTld K)) (GFB : FnOk P w K mg base CX0 13 fFB dFB ["text"] (spFB K)) (GB : FnOk P w K mg base CX0 3 fB dB ["source", "lines"] (spBent K)) : RunAt P w K mg base PySem.callerA f fd ["script"] (spLaw K) := by
  have GS : FnOk P w K mg base CX0 1 fS dS ["script", "start"] (spSource K) := ok_source DS.F Z.L.N
  have GR : FnOk P w K mg base CX0 11 fP dP ["plan"] (spProg K C 4) := ok_prog DP.F DP.b DP.g Z 4
  refine runAt_of (k := 22) F scL (fun vs H Q E h => ?_) ⟨rfl, by decide, by decide⟩ (fun cdv outer s H vs Q E hr h => ?_)
  · obtain ⟨a, ns, rfl, _⟩ := h
    rfl
  · obtain ⟨a, ns, rfl, only, hS, hlen, hbits, kk⟩ := h
    have hr1 : Room 1 _ := hr.mono (by decide)
    have hr2 : Room 2 _ := hr.mono (by decide)
    have hr3 : Room 3 _ := hr.mono (by decide)
    have hr11 : Room 11 _ := hr.mono (by decide)
    have hr13 : Room 13 _ := hr.mono (by decide)
    have hr20 : Room 20 _ := hr.mono (by decide)
    refine ⟨_, pss_cons (ps_set (i := 1) scL.nd rfl (Or.inl rfl) (pe_lst (pa_cons pe_str (pa_cons pe_str (pa_cons pe_str (pa_cons pe_str (pa_cons pe_str (pa_cons pe_str (pa_cons pe_str (pa_cons pe_str pa_nil))))))))))
      (pss_cons (ps_set (i := 1) scL.nd rfl (Or.inl rfl) (pe_op op_cat (pv 1) (pe_lst (pa_cons pe_str (pa_cons pe_str (pa_cons pe_str pa_nil))))))
      (pss_cons (ps_set (i := 1) scL.nd rfl (Or.inl rfl) (pe_op op_cat (pv 1) (pe_lst (pa_cons pe_str (pa_cons pe_str pa_nil)))))
      (pss_cons (ps_set (i := 1) scL.nd rfl (Or.inl rfl) (pe_op op_cat (pv 1) (pe_lst (pa_cons (pe_op op_add_str pe_str (pe_join pe_str (pe_op op_rep (pe_lst (pa_cons pe_str pa_nil)) pe_int))) (pa_cons (pe_op op_add_str (pe_op op_add_str pe_str (pe_join pe_str (pe_op op_rep (pe_lst (pa_cons pe_str pa_nil)) pe_int))) pe_str) pa_nil)))))
      (pss_cons (ps_set (i := 1) scL.nd rfl (Or.inl rfl) (pe_op op_cat (pv 1) (pe_lst (pa_cons pe_str (pa_cons pe_str (pa_cons pe_str (pa_cons pe_str (pa_cons pe_str pa_nil))))))))
      (pss_cons (ps_set (i := 1) scL.nd rfl (Or.inl rfl) (pe_op op_cat (pv 1) (pe_lst (pa_cons pe_str (pa_cons (pe_op op_add_str (pe_op op_add_str pe_str (pe_op op_mulS pe_str pe_int)) pe_str) (pa_cons pe_str pa_nil))))))
      (pss_cons (ps_expr (pe_bm PySem.F.plainAttrs_list PySem.F.slot_list_append PySem.F.type_list_append mt_append (pv 1) (pa_cons pe_str pa_nil)))
      (pss_cons (ps_expr (pe_bm PySem.F.plainAttrs_list PySem.F.slot_list_append PySem.F.type_list_append mt_append (pv 1) (pa_cons pe_str pa_nil)))
      (pss_cons (ps_for PassesOwn.never rfl
        (pi_range1 rfl Z.L.N.range (pa_cons (pe_callB (call_max2 rfl) (by rfl) Z.L.N.max PyProof.Rows.boot_max (pa_cons pe_int (pa_cons (pe_callB (call_min2 rfl) (by rfl) Z.L.N.min boot_min'
          (pa_cons pe_int (pa_cons (pe_callB call_len_seq (by rfl) Z.L.N.len PySem.boot_len (pa_cons (pv 0) pa_nil)) pa_nil))) pa_nil))) pa_nil))
        (pg_name (i := 2) scL.nd rfl (Or.inl rfl))
        (pss_cons (ps_set (i := 3) scL.nd rfl (Or.inl rfl) (pe_call GS hr1 rfl DS.g DS.F.kp DS.b .nil pass0 (pa_cons (pv 0) (pa_cons (pv 2) pa_nil))))
        (pss_cons (ps_set (i := 4) scL.nd rfl (Or.inl rfl) (pe_callTy call_list_of (by rfl) Z.L.N.lst PyProof.Rows.boot_list (pa_cons (pv 1) pa_nil)))
        (pss_cons (ps_for PassesOwn.never rfl (pi_range1 rfl Z.L.N.range (pa_cons pe_int pa_nil)) (pg_name (i := 5) scL.nd rfl (Or.inl rfl))
          (pss_cons (ps_set (i := 6) scL.nd rfl (Or.inl rfl) (pe_split (pe_call GT hr11 rfl DT.g DT.F.kp DT.b .nil pass0 (pa_cons (pe_call GR hr11 rfl DP.g DP.F.kp DP.b .nil pass0 (pa_cons (pe_call GL hr20 rfl DL.g DL.F.kp DL.b .nil pass0 (pa_cons (pv 3) (pa_cons (pe_call GM hr2 rfl DM.g DM.F.kp DM.b .nil pass0 (pa_cons (pv 3) (pa_cons (pe_lst (pa_cons pe_str (pa_cons pe_str (pa_cons pe_str pa_nil)))) pa_nil))) (pa_cons pe_int pa_nil)))) pa_nil)) pa_nil)) pe_str))
          (pss_cons (ps_set (i := 7) scL.nd rfl (Or.inl rfl) (pe_call GB hr3 rfl DB.g DB.F.kp DB.b .nil pass0 (pa_cons (pv 3) (pa_cons (pv 6) pa_nil))))
          (pss_one (ps_set (i := 4) scL.nd rfl (Or.inl rfl) (pe_op op_cat (pv 4) (pe_lst (pa_cons (pe_join pe_str (pv 7)) (pa_cons (pe_join pe_str (pe_ifExp (pt_cmpR (op_neD hr.units) (pv 7) (pe_lst pa_nil) (nomark _)) (pe_call GB hr3 rfl DB.g DB.F.kp DB.b .nil pass0 (pa_cons (pv 3) (pa_cons (pv 7) pa_nil))) (pv 6))) pa_nil)))))))))
        (pss_cons (ps_for PassesOwn.never rfl (pi_list (pv 4)) (pg_name (i := 8) scL.nd rfl (Or.inl rfl))
          (pss_one (ps_if (pt_cmpR op_ne (pe_call GTD hr13 rfl DTD.g DTD.F.kp DTD.b .nil pass0 (pa_cons (pv 8) pa_nil)) (pe_call GFB hr13 rfl DFB.g DFB.F.kp DFB.b .nil pass0 (pa_cons (pv 8) pa_nil)) (nomark _)) (pss_one (ps_ret pe_bl)) pss_nil)))
        (pss_one (ps_for PassesOwn.never rfl (pi_list (pe_lst (pa_cons pe_non (pa_cons pe_int (pa_cons pe_bl (pa_cons (pe_lst pa_nil) (pa_cons (pe_lst (pa_cons pe_str pa_nil)) (pa_cons (pe_tup (pa_cons pe_str pa_nil)) (pa_cons pe_dnewK pa_nil))))))))) (pg_name (i := 9) scL.nd rfl (Or.inl rfl))
          (pss_one (ps_if (pt_cmpR op_ne (pe_call GTD hr13 rfl DTD.g DTD.F.kp DTD.b .nil pass0 (pa_cons (pv 9) pa_nil)) pe_int (nomark _)) (pss_one (ps_ret pe_bl)) pss_nil)))))))))
      (pss_one (ps_ret pe_bl)))))))))), ?_⟩
    have hS2 : ∀ H', Kp H H' → SqL K H' a (ns.map V.int) := fun H' kp => by
      rcases hS with (h | ⟨o, h⟩) | h
      · rcases only a with z | ⟨ob, xs, z⟩
        · rw [h] at z; cases z
        · rw [h] at z; cases z
      · exact .inl (.inr ⟨o, kp _ _ h rfl⟩)
      · exact .inr h
    refine ⟨by show 8 ≤ sizeLine; decide, fun c0 hc0 => ?_⟩
    have t0 : Sv ([.str "", .str "from", .str "from ", .str "from a", .str "from a\n", .str "from a\nflat", .str "from a\nlots 1\nflat\nflat", .str "from a\nzip"] : List V) := Sv.of sm_0
    have n0 : ([.str "", .str "from", .str "from ", .str "from a", .str "from a\n", .str "from a\nflat", .str "from a\nlots 1\nflat\nflat", .str "from a\nzip"] : List V).length = 8 := rfl
    generalize ([.str "", .str "from", .str "from ", .str "from a", .str "from a\n", .str "from a\nflat", .str "from a\nlots 1\nflat\nflat", .str "from a\nzip"] : List V) = Y0 at t0 n0
    have sG1 : Same H (upd H c0 (.lst Y0)) := same_new hc0
    have fG1 : upd H c0 (.lst Y0) c0 = some (.lst Y0) := upd_same
    generalize upd H c0 (.lst Y0) = G1 at sG1 fG1
    refine ⟨_, rfl, by show 3 ≤ sizeLine; decide, fun d1 hd1 => ?_⟩
    have u1 : Sv ([.str "from a\nzip\nfrom b", .str "from a\nzip\n  from b", .str "from a\nzip\n  from a"] : List V) := Sv.of sm_1
    have m1 : ([.str "from a\nzip\nfrom b", .str "from a\nzip\n  from b", .str "from a\nzip\n  from a"] : List V).length = 3 := rfl
    generalize ([.str "from a\nzip\nfrom b", .str "from a\nzip\n  from b", .str "from a\nzip\n  from a"] : List V) = X1 at u1 m1
    have sG2 : Same G1 (upd G1 d1 (.lst X1)) := same_new hd1
    have fG2 : upd G1 d1 (.lst X1) d1 = some (.lst X1) := upd_same
    generalize upd G1 d1 (.lst X1) = G2 at sG2 fG2
    refine ⟨c0, d1, _, _, rfl, rfl, sG2 _ _ fG1, fG2, by rw [sizeLine_eq]; omega, fun c1 hc1 => ?_⟩
    have t1 : Sv (Y0 ++ X1) := t0.app u1
    have n1 : (Y0 ++ X1).length = 11 := by rw [List.length_append]; omega
    generalize Y0 ++ X1 = Y1 at t1 n1
    have sG3 : Same G2 (upd G2 c1 (.lst Y1)) := same_new hc1
    have fG3 : upd G2 c1 (.lst Y1) c1 = some (.lst Y1) := upd_same
    generalize upd G2 c1 (.lst Y1) = G3 at sG3 fG3
    refine ⟨_, rfl, by show 2 ≤ sizeLine; decide, fun d2 hd2 => ?_⟩
    have u2 : Sv ([.str "from a\nzip\n  from b\n  zip", .str "from a\nzip\n  from b\n  zip\n    from c\n  flat\nflat\nflat"] : List V) := Sv.of sm_2
    have m2 : ([.str "from a\nzip\n  from b\n  zip", .str "from a\nzip\n  from b\n  zip\n    from c\n  flat\nflat\nflat"] : List V).length = 2 := rfl
    generalize ([.str "from a\nzip\n  from b\n  zip", .str "from a\nzip\n  from b\n  zip\n    from c\n  flat\nflat\nflat"] : List V) = X2 at u2 m2
    have sG4 : Same G3 (upd G3 d2 (.lst X2)) := same_new hd2
    have fG4 : upd G3 d2 (.lst X2) d2 = some (.lst X2) := upd_same
    generalize upd G3 d2 (.lst X2) = G4 at sG4 fG4
    refine ⟨c1, d2, _, _, rfl, rfl, sG4 _ _ fG3, fG4, by rw [sizeLine_eq]; omega, fun c2 hc2 => ?_⟩
    have t2 : Sv (Y1 ++ X2) := t1.app u2
    have n2 : (Y1 ++ X2).length = 13 := by rw [List.length_append]; omega
    generalize Y1 ++ X2 = Y2 at t2 n2
    have sG5 : Same G4 (upd G4 c2 (.lst Y2)) := same_new hc2
    have fG5 : upd G4 c2 (.lst Y2) c2 = some (.lst Y2) := upd_same
    generalize upd G4 c2 (.lst Y2) = G5 at sG5 fG5
    refine ⟨_, rfl, ⟨_, rfl⟩, by show 1 ≤ sizeLine; decide, fun r7 hr7 => ?_⟩
    have sG6 : Same G5 (upd G5 r7 (.lst [.str "take 1"])) := same_new hr7
    have fG6 : upd G5 r7 (.lst [.str "take 1"]) r7 = some (.lst [.str "take 1"]) := upd_same
    generalize upd G5 r7 (.lst [.str "take 1"]) = G6 at sG6 fG6
    refine ⟨r7, 7, _, rfl, rfl, fG6, by decide, by decide, by show 1 * 7 ≤ sizeLine; decide, fun q7 hq7 => ?_⟩
    rw [show (List.replicate (Int.toNat 7) [V.str "take 1"]).flatten = ((List.replicate 7 ("take 1" : Str)).map V.str) from rfl]
    have sG7 : Same G6 (upd G6 q7 (.lst ((List.replicate 7 ("take 1" : Str)).map V.str))) := same_new hq7
    have fG7 : upd G6 q7 (.lst ((List.replicate 7 ("take 1" : Str)).map V.str)) q7 = some (.lst ((List.replicate 7 ("take 1" : Str)).map V.str)) := upd_same
    generalize upd G6 q7 (.lst ((List.replicate 7 ("take 1" : Str)).map V.str)) = G7 at sG7 fG7
    refine ⟨"\n", q7, List.replicate 7 ("take 1" : Str), rfl, rfl, .inl (SqL.of fG7), by decide +kernel, _, _, rfl, rfl, sz (by decide +kernel) takes_len.1, ?_⟩
    refine ⟨⟨_, rfl⟩, by show 1 ≤ sizeLine; decide, fun r6 hr6 => ?_⟩
    have sG8 : Same G7 (upd G7 r6 (.lst [.str "take 1"])) := same_new hr6
    have fG8 : upd G7 r6 (.lst [.str "take 1"]) r6 = some (.lst [.str "take 1"]) := upd_same
    generalize upd G7 r6 (.lst [.str "take 1"]) = G8 at sG8 fG8
    refine ⟨r6, 6, _, rfl, rfl, fG8, by decide, by decide, by show 1 * 6 ≤ sizeLine; decide, fun q6 hq6 => ?_⟩
    rw [show (List.replicate (Int.toNat 6) [V.str "take 1"]).flatten = ((List.replicate 6 ("take 1" : Str)).map V.str) from rfl]
    have sG9 : Same G8 (upd G8 q6 (.lst ((List.replicate 6 ("take 1" : Str)).map V.str))) := same_new hq6
    have fG9 : upd G8 q6 (.lst ((List.replicate 6 ("take 1" : Str)).map V.str)) q6 = some (.lst ((List.replicate 6 ("take 1" : Str)).map V.str)) := upd_same
    generalize upd G8 q6 (.lst ((List.replicate 6 ("take 1" : Str)).map V.str)) = G9 at sG9 fG9
    refine ⟨"\n", q6, List.replicate 6 ("take 1" : Str), rfl, rfl, .inl (SqL.of fG9), by decide +kernel, _, _, rfl, rfl, sz (by decide +kernel) takes_len.2.1, _, _, rfl, rfl, sz takes_len.2.2 (by decide +kernel), by show 2 ≤ sizeLine; decide, fun d3 hd3 => ?_⟩
    rw [show Txt.join ("\n" : Str) (List.replicate 7 ("take 1" : Str)) = takes 7 from rfl, show Txt.join ("\n" : Str) (List.replicate 6 ("take 1" : Str)) = takes 6 from rfl]
    have u3 : Sv ([.str (("from a\n" : Str) ++ takes 7), .str (("from a\n" : Str) ++ takes 6 ++ ("\nzip" : Str))] : List V) := fun v hv => by
      rcases List.mem_cons.mp hv with rfl | hv
      · exact ⟨_, rfl, sm_takes.1⟩
      rcases List.mem_cons.mp hv with rfl | hv
      · exact ⟨_, rfl, sm_takes.2⟩
      · cases hv
    have m3 : ([.str (("from a\n" : Str) ++ takes 7), .str (("from a\n" : Str) ++ takes 6 ++ ("\nzip" : Str))] : List V).length = 2 := rfl
    generalize ([.str (("from a\n" : Str) ++ takes 7), .str (("from a\n" : Str) ++ takes 6 ++ ("\nzip" : Str))] : List V) = X3 at u3 m3
    have sG10 : Same G9 (upd G9 d3 (.lst X3)) := same_new hd3
    have fG10 : upd G9 d3 (.lst X3) d3 = some (.lst X3) := upd_same
    generalize upd G9 d3 (.lst X3) = G10 at sG10 fG10
    refine ⟨c2, d3, _, _, rfl, rfl, sG10 _ _ (sG9 _ _ (sG8 _ _ (sG7 _ _ (sG6 _ _ fG5)))), fG10, by rw [sizeLine_eq]; omega, fun c3 hc3 => ?_⟩
    have t3 : Sv (Y2 ++ X3) := t2.app u3
    have n3 : (Y2 ++ X3).length = 15 := by rw [List.length_append]; omega
    generalize Y2 ++ X3 = Y3 at t3 n3
    have sG11 : Same G10 (upd G10 c3 (.lst Y3)) := same_new hc3
    have fG11 : upd G10 c3 (.lst Y3) c3 = some (.lst Y3) := upd_same
    generalize upd G10 c3 (.lst Y3) = G11 at sG11 fG11
    refine ⟨_, rfl, by show 5 ≤ sizeLine; decide, fun d4 hd4 => ?_⟩
    have u4 : Sv ([.str "from a\nzip\n  from b\n    take 1", .str "take 1", .str "from A", .str "from a\nFlat", .str "from a\nMap f"] : List V) := Sv.of sm_4
    have m4 : ([.str "from a\nzip\n  from b\n    take 1", .str "take 1", .str "from A", .str "from a\nFlat", .str "from a\nMap f"] : List V).length = 5 := rfl
    generalize ([.str "from a\nzip\n  from b\n    take 1", .str "take 1", .str "from A", .str "from a\nFlat", .str "from a\nMap f"] : List V) = X4 at u4 m4
    have sG12 : Same G11 (upd G11 d4 (.lst X4)) := same_new hd4
    have fG12 : upd G11 d4 (.lst X4) d4 = some (.lst X4) := upd_same
    generalize upd G11 d4 (.lst X4) = G12 at sG12 fG12
    refine ⟨c3, d4, _, _, rfl, rfl, sG12 _ _ fG11, fG12, by rw [sizeLine_eq]; omega, fun c4 hc4 => ?_⟩
    have t4 : Sv (Y3 ++ X4) := t3.app u4
    have n4 : (Y3 ++ X4).length = 20 := by rw [List.length_append]; omega
    generalize Y3 ++ X4 = Y4 at t4 n4
    have sG13 : Same G12 (upd G12 c4 (.lst Y4)) := same_new hc4
    have fG13 : upd G12 c4 (.lst Y4) c4 = some (.lst Y4) := upd_same
    generalize upd G12 c4 (.lst Y4) = G13 at sG13 fG13
    refine ⟨_, rfl, "  take 1\n", 6, rfl, rfl, by decide, by decide +kernel, _, _, rfl, rfl, sz (by decide +kernel) (by decide +kernel), _, _, rfl, rfl, sz (by decide +kernel) (by decide +kernel), by show 3 ≤ sizeLine; decide, fun d5 hd5 => ?_⟩
    have u5 : Sv ([.str "from a\ntake  1", .str (("from a\nzip\n  from b\n" : Str) ++ repS "  take 1\n" 6 ++ ("  zip" : Str)), .str "from a\nTAKE 1"] : List V) := (fun v hv => by
        rcases List.mem_cons.mp hv with rfl | hv
        · exact ⟨_, rfl, sm_5 _ (by simp)⟩
        rcases List.mem_cons.mp hv with rfl | hv
        · exact ⟨_, rfl, sm_lines⟩
        rcases List.mem_cons.mp hv with rfl | hv
        · exact ⟨_, rfl, sm_5 _ (by simp)⟩
        · cases hv)
    have m5 : ([.str "from a\ntake  1", .str (("from a\nzip\n  from b\n" : Str) ++ repS "  take 1\n" 6 ++ ("  zip" : Str)), .str "from a\nTAKE 1"] : List V).length = 3 := rfl
    generalize ([.str "from a\ntake  1", .str (("from a\nzip\n  from b\n" : Str) ++ repS "  take 1\n" 6 ++ ("  zip" : Str)), .str "from a\nTAKE 1"] : List V) = X5 at u5 m5
    have sG14 : Same G13 (upd G13 d5 (.lst X5)) := same_new hd5
    have fG14 : upd G13 d5 (.lst X5) d5 = some (.lst X5) := upd_same
    generalize upd G13 d5 (.lst X5) = G14 at sG14 fG14
    refine ⟨c4, d5, _, _, rfl, rfl, sG14 _ _ fG13, fG14, by rw [sizeLine_eq]; omega, fun c5 hc5 => ?_⟩
    have t5 : Sv (Y4 ++ X5) := t4.app u5
    have n5 : (Y4 ++ X5).length = 23 := by rw [List.length_append]; omega
    generalize Y4 ++ X5 = Y5 at t5 n5
    have sG15 : Same G14 (upd G14 c5 (.lst Y5)) := same_new hc5
    have fG15 : upd G14 c5 (.lst Y5) c5 = some (.lst Y5) := upd_same
    generalize upd G14 c5 (.lst Y5) = G15 at sG15 fG15
    refine ⟨_, rfl, .inl ⟨rfl, _, SqL.of fG15⟩, c5, _, _, rfl, rfl, fG15, small1000 (by omega), ?_⟩
    have t6 : Sv (Y5 ++ [V.str "from a\nzip\n  from b\n  zip\n    from c\n    zip\n      from d\n      zip"]) := t5.app (Sv.of (us := ["from a\nzip\n  from b\n  zip\n    from c\n    zip\n      from d\n      zip"]) fun z hz => sm_6 z (by rw [List.mem_singleton.mp hz]; simp))
    have n6 : (Y5 ++ [V.str "from a\nzip\n  from b\n  zip\n    from c\n    zip\n      from d\n      zip"]).length = 24 := by rw [List.length_append]; show Y5.length + 1 = _; omega
    generalize Y5 ++ [V.str "from a\nzip\n  from b\n  zip\n    from c\n    zip\n      from d\n      zip"] = Y6 at t6 n6
    have kG16 : Kp G15 (upd G15 c5 (.lst Y6)) := kp_upd fG15
    have fG16 : upd G15 c5 (.lst Y6) c5 = some (.lst Y6) := upd_same
    generalize upd G15 c5 (.lst Y6) = G16 at kG16 fG16
    refine ⟨_, rfl, .inl ⟨rfl, _, SqL.of fG16⟩, c5, _, _, rfl, rfl, fG16, small1000 (by omega), ?_⟩
    have t7 : Sv (Y6 ++ [V.str "from a\nzip\n  from b\nzip\n  from c\nzip\n  from d\nzip\n  from a"]) := t6.app (Sv.of (us := ["from a\nzip\n  from b\nzip\n  from c\nzip\n  from d\nzip\n  from a"]) fun z hz => sm_6 z (by rw [List.mem_singleton.mp hz]; simp))
    have n7 : (Y6 ++ [V.str "from a\nzip\n  from b\nzip\n  from c\nzip\n  from d\nzip\n  from a"]).length = 25 := by rw [List.length_append]; show Y6.length + 1 = _; omega
    generalize Y6 ++ [V.str "from a\nzip\n  from b\nzip\n  from c\nzip\n  from d\nzip\n  from a"] = Y7 at t7 n7
    have kG17 : Kp G16 (upd G16 c5 (.lst Y7)) := kp_upd fG16
    have fG17 : upd G16 c5 (.lst Y7) c5 = some (.lst Y7) := upd_same
    generalize upd G16 c5 (.lst Y7) = G17 at kG17 fG17
    have ty := t7
    have tyn := n7
    have qtl := fG17
    have kz : Kp H G17 := ((((((((((((((((Kp.of sG1).trans (Kp.of sG2)).trans (Kp.of sG3)).trans (Kp.of sG4)).trans (Kp.of sG5)).trans (Kp.of sG6)).trans (Kp.of sG7)).trans (Kp.of sG8)).trans (Kp.of sG9)).trans (Kp.of sG10)).trans (Kp.of sG11)).trans (Kp.of sG12)).trans (Kp.of sG13)).trans (Kp.of sG14)).trans (Kp.of sG15)).trans kG16).trans kG17
    clear sG1 fG1 sG2 fG2 sG3 fG3 sG4 fG4 sG5 fG5 sG6 fG6 sG7 fG7 sG8 fG8 sG9 fG9 sG10 fG10 sG11 fG11 sG12 fG12 sG13 fG13 sG14 fG14 sG15 fG15 kG16 kG17 fG16 fG17 t7 n7
    generalize G17 = G at qtl kz
    generalize Y7 = Y at qtl ty tyn
    generalize c5 = tl at qtl
    have hj : ∀ n : Nat, n ≤ 63 → (1 : Int) ≤ (if (if (n : Int) < 3 then (n : Int) else 3) > 1 then (if (n : Int) < 3 then (n : Int) else 3) else 1) ∧ (if (if (n : Int) < 3 then (n : Int) else 3) > 1 then (if (n : Int) < 3 then (n : Int) else 3) else 1) ≤ 3 := by
      intro n hn
      split <;> split <;> omega
    have hj2 := hj (ns.map V.int).length (by rw [List.length_map]; exact hlen)
    generalize hJ : (if (if ((ns.map V.int).length : Int) < 3 then ((ns.map V.int).length : Int) else 3) > 1 then (if ((ns.map V.int).length : Int) < 3 then ((ns.map V.int).length : Int) else 3) else 1) = J at hj2
    refine ⟨_, rfl, a, _, rfl, .inl (hS2 _ kz), _, _, rfl, _, _, rfl, J, by rw [← hJ], by omega, by omega, ?_⟩
    clear hJ hj
    refine for_range (lo := 0) (n := J.toNat) (fun _ σ H' => (∃ v2 v3 v4 v5 v6 v7 v8 v9 : Option V, σ = [some (.ref a), some (.ref tl), v2, v3, v4, v5, v6, v7, v8, v9]) ∧ Kp G H' ∧ H' tl = some (.lst Y))
      ⟨⟨_, _, _, _, _, _, _, _, rfl⟩, Kp.refl _, qtl⟩ ?_ (fun σ H' _ => kk H')
    rintro i σ H1 hi ⟨⟨v2, v3, v4, v5, v6, v7, v8, v9, rfl⟩, k1, qt1⟩
    refine ⟨_, rfl, _, rfl, a, ns, _, rfl, hS2 _ (kz.trans k1), hlen, hbits, by omega, by omega, fun p H2 np st2 but2 => ?_⟩
    have s2 : Same H1 H2 := fun b o e => (but2 b (ne_of_none e np)).trans e
    have k2 : Kp G H2 := k1.trans (Kp.of s2)
    have qt2 := s2 _ _ qt1
    have npt : tl ≠ p := fun z => by rw [z, np] at qt1; cases qt1
    clear k1 qt1 s2 but2 np H1
    refine ⟨_, rfl, tl, Y, rfl, .inl (SqL.of qt2), fun sa hsa => ?_⟩
    have s3 : Same H2 (upd H2 sa (.lst Y)) := same_new hsa
    have e3 : upd H2 sa (.lst Y) sa = some (.lst Y) := upd_same
    have nsp := strm_ne st2 hsa
    generalize upd H2 sa (.lst Y) = H3 at s3 e3
    have st3 := st2.same s3
    have qt3 := s3 _ _ qt2
    have k3 := k2.trans (Kp.of s3)
    clear st2 qt2 s3 k2 hsa
    refine ⟨12, rfl, by decide, by decide, ?_⟩
    refine for_range (lo := 0) (n := 12) (fun j σ H' => ∃ (q : Addr) (xs : List V) (v5 v6 v7 v8 v9 : Option V), σ = [some (.ref a), some (.ref tl), some (.int (0 + (i : Int))), some (.ref p), some (.ref q), v5, v6, v7, v8, v9] ∧ Strm H' p ∧ Bx p H3 H' ∧ H' q = some (.lst xs) ∧ q ≠ p ∧ Sv xs ∧ xs.length ≤ 25 + 2 * j)
      ⟨sa, Y, v5, v6, v7, v8, v9, rfl, st3, Bx.of (Same.refl _), e3, nsp, ty, by omega⟩ ?_ ?_
    · rintro j σ H4 hj12 ⟨q, xs, v5, v6, v7, v8, v9, rfl, st4, bx4, eq4, nqp, sv, xl⟩
      refine drawn3 (i := 3) rfl st4 fun v g H5 hv ok st5 bx5 => ?_
      refine ⟨v, g, rfl, hv, ok, Pg.nest4 ok, fun pr H6 npr s6 pg6 => ?_⟩
      refine ⟨_, g, rfl, pg6, ok, fun H7 s7 => ?_⟩
      refine ⟨⟨_, rfl⟩, _, _, rfl, rfl, by decide +kernel, text_len ok, ?_⟩
      rw [text_split ok]
      intro l hl
      have lb := lines_bt ok
      have ln := lines_ne g
      have s57 := s6.trans s7
      have st7 := st5.same s57
      have bx7 : Bx p H3 H7 := (bx4.trans bx5).trans (Bx.of s57)
      have eq7 : H7 q = some (.lst xs) := s57 _ _ (bx5 _ _ nqp eq4)
      generalize g.lines = ls at lb ln
      clear hv ok st5 bx5 npr s6 pg6 s7 s57 st4 bx4 eq4
      have nlp := strm_ne st7 hl
      have s8 : Same H7 (upd H7 l (.lst (ls.map V.str))) := same_new hl
      have e8 : upd H7 l (.lst (ls.map V.str)) l = some (.lst (ls.map V.str)) := upd_same
      generalize upd H7 l (.lst (ls.map V.str)) = H8 at s8 e8
      have st8 := st7.same s8
      have bx8 := bx7.trans (Bx.of s8)
      have eq8 := s8 _ _ eq7
      clear st7 bx7 eq7 s8 hl
      refine ⟨_, rfl, _, rfl, p, l, ls, 28, 23, rfl, st8, e8, nlp, ln, lb, by decide, by decide, by decide, fun b us H9 ub nb9 e9 st9 bx9 => ?_⟩
      have nbp := strm_ne st8 nb9
      have eq9 := bx9 _ _ nqp eq8
      have el9 := bx9 _ _ nlp e8
      have bx39 := bx8.trans bx9
      clear st8 bx8 eq8 e8 bx9 nb9
      have sm1 : Sm (Txt.join "\n" us) := by rw [TL.join_eq]; exact bt_sm ub (by decide)
      -- some + [..]
      refine ⟨_, rfl, ⟨_, rfl⟩, _, rfl, ⟨"\n", b, us, rfl, rfl, .inl (SqL.of e9), bt_sum ub (by decide), ?_⟩⟩
      refine ⟨⟨_, rfl⟩, _, rfl, by show 0 ≤ sizeLine; decide, fun c hc => ?_⟩
      have s10 : Same H9 (upd H9 c (.lst [])) := same_new hc
      have e10 : upd H9 c (.lst []) c = some (.lst []) := upd_same
      generalize upd H9 c (.lst []) = H10 at s10 e10
      have st10 := st9.same s10
      have eq10 := s10 _ _ eq9
      have el10 := s10 _ _ el9
      have e910 := s10 _ _ e9
      have bx10 := bx39.trans (Bx.of s10)
      refine ne_nil (SqL.of e910) (lc_plns ub.2) (SqL.of e10) ⟨_, rfl, ?_⟩
      by_cases hus : us = []
      · have em : (us.map V.str).isEmpty = true := by rw [hus]; rfl
        rw [em]
        refine iteF (A := True) ⟨_, rfl, ⟨"\n", l, ls, rfl, rfl, .inl (SqL.of el10), bt_sum lb (by decide), ?_⟩⟩
        have eqH10 := eq10
        have sm2 : Sm (Txt.join "\n" ls) := by rw [TL.join_eq]; exact bt_sm lb (by decide)
        · refine ⟨by show 2 ≤ sizeLine; decide, fun y hy => ?_⟩
          have s12 : Same H10 (upd H10 y (.lst [.str (Txt.join "\n" us), .str (Txt.join "\n" ls)])) := same_new hy
          have e12 : upd H10 y (.lst [.str (Txt.join "\n" us), .str (Txt.join "\n" ls)]) y = some (.lst [.str (Txt.join "\n" us), .str (Txt.join "\n" ls)]) := upd_same
          have sv2 : Sv ([.str (Txt.join "\n" us), .str (Txt.join "\n" ls)] : List V) := fun v hv => by
            rcases List.mem_cons.mp hv with rfl | hv
            · exact ⟨_, rfl, sm1⟩
            rcases List.mem_cons.mp hv with rfl | hv
            · exact ⟨_, rfl, sm2⟩
            · cases hv
          have two : ([.str (Txt.join "\n" us), .str (Txt.join "\n" ls)] : List V).length = 2 := rfl
          generalize ([.str (Txt.join "\n" us), .str (Txt.join "\n" ls)] : List V) = zz at s12 e12 sv2 two
          generalize upd H10 y (.lst zz) = H12 at s12 e12
          refine ⟨q, y, xs, zz, rfl, rfl, s12 _ _ (eqH10), e12, by rw [sizeLine_eq]; omega, fun x hx => ?_⟩
          have s13 : Same H12 (upd H12 x (.lst (xs ++ zz))) := same_new hx
          have nxp : x ≠ p := strm_ne (st10.same s12) hx
          exact ⟨x, xs ++ zz, _, _, _, _, _, rfl, st10.same (s12.trans s13), bx10.trans (Bx.of (s12.trans s13)), upd_same, nxp, sv.app sv2, by rw [List.length_append]; omega⟩
      · have em : (us.map V.str).isEmpty = false := by
          cases us with
          | nil => exact absurd rfl hus
          | cons _ _ => rfl
        rw [em]
        refine iteT (B := True) ⟨_, rfl, _, rfl, p, b, us, 29, 25, rfl, st10, e910, nbp, hus, ub, by decide, by decide, by decide, fun b2 us2 H11 ub2 nb2 e11 st11 bx11 => ⟨"\n", b2, us2, rfl, rfl, .inl (SqL.of e11), bt_sum ub2 (by decide), ?_⟩⟩
        have eqH11 := bx11 _ _ nqp eq10
        have bx311 := bx10.trans bx11
        have sm2 : Sm (Txt.join "\n" us2) := by rw [TL.join_eq]; exact bt_sm ub2 (by decide)
        · refine ⟨by show 2 ≤ sizeLine; decide, fun y hy => ?_⟩
          have s12 : Same H11 (upd H11 y (.lst [.str (Txt.join "\n" us), .str (Txt.join "\n" us2)])) := same_new hy
          have e12 : upd H11 y (.lst [.str (Txt.join "\n" us), .str (Txt.join "\n" us2)]) y = some (.lst [.str (Txt.join "\n" us), .str (Txt.join "\n" us2)]) := upd_same
          have sv2 : Sv ([.str (Txt.join "\n" us), .str (Txt.join "\n" us2)] : List V) := fun v hv => by
            rcases List.mem_cons.mp hv with rfl | hv
            · exact ⟨_, rfl, sm1⟩
            rcases List.mem_cons.mp hv with rfl | hv
            · exact ⟨_, rfl, sm2⟩
            · cases hv
          have two : ([.str (Txt.join "\n" us), .str (Txt.join "\n" us2)] : List V).length = 2 := rfl
          generalize ([.str (Txt.join "\n" us), .str (Txt.join "\n" us2)] : List V) = zz at s12 e12 sv2 two
          generalize upd H11 y (.lst zz) = H12 at s12 e12
          refine ⟨q, y, xs, zz, rfl, rfl, s12 _ _ (eqH11), e12, by rw [sizeLine_eq]; omega, fun x hx => ?_⟩
          have s13 : Same H12 (upd H12 x (.lst (xs ++ zz))) := same_new hx
          have nxp : x ≠ p := strm_ne (st11.same s12) hx
          exact ⟨x, xs ++ zz, _, _, _, _, _, rfl, st11.same (s12.trans s13), bx311.trans (Bx.of (s12.trans s13)), upd_same, nxp, sv.app sv2, by rw [List.length_append]; omega⟩
    · rintro σ H4 ⟨q, xs, v5, v6, v7, v8, v9, rfl, st4, bx4, eq4, nqp, sv, xl⟩
      have qt4 := bx4 _ _ npt qt3
      have k4 := k3.trans (bx4.kps st3)
      refine ⟨_, rfl, q, rfl, ⟨_, SqL.of eq4⟩, ?_⟩
      refine for_it (walk_list (xs := xs)) (fun _ σ H' => (∃ v8 v9 : Option V, σ = [some (.ref a), some (.ref tl), some (.int (0 + (i : Int))), some (.ref p), some (.ref q), v5, v6, v7, v8, v9]) ∧ Same H4 H')
        ⟨⟨_, _, rfl⟩, Same.refl _⟩ (fun j0 σ H' _ q => q.2.seq (SqL.of eq4)) ?_ ?_
      · rintro j v σ H9 H5 hj5 ⟨⟨w8, w9, rfl⟩, s5⟩ ⟨rfl, hv⟩
        obtain ⟨z, rfl, sz⟩ := sv v (List.mem_of_getElem? hv)
        have tx := sz.tx
        refine ⟨_, rfl, .str z, rfl, .inl ⟨z, rfl, tx, fun H6 s6 => ?_⟩⟩
        refine ⟨_, rfl, z, rfl, tx.len, tx.few, tx.lns, fun H7 s7 => ?_⟩
        refine ⟨rfl, _, rfl, ?_⟩
        show if (!decide (V.int ((verT z : Nat) : Int) = V.int ((verT z : Nat) : Int))) = true then _ else _
        rw [decide_eq_true rfl]
        refine iteF (A := True) ?_
        exact ⟨⟨_, _, rfl⟩, s5.trans (s6.trans s7)⟩
      · rintro σ H5 ⟨⟨w8, w9, rfl⟩, s5⟩
        refine ⟨by show 0 ≤ sizeLine; decide, fun w1 hw1 => ?_⟩
        have x1 : Same H5 (upd H5 w1 (.lst [])) := same_new hw1
        have g1 : upd H5 w1 (.lst []) w1 = some (.lst []) := upd_same
        generalize upd H5 w1 (.lst []) = H6 at x1 g1
        refine ⟨by show 1 ≤ sizeLine; decide, fun w2 hw2 => ?_⟩
        have x2 : Same H6 (upd H6 w2 (.lst [.str "from a"])) := same_new hw2
        have g2 : upd H6 w2 (.lst [.str "from a"]) w2 = some (.lst [.str "from a"]) := upd_same
        generalize upd H6 w2 (.lst [.str "from a"]) = H7 at x2 g2
        refine ⟨by show 1 ≤ sizeLine; decide, fun w3 hw3 => ?_⟩
        have x3 : Same H7 (upd H7 w3 (.tup [.str "from a"])) := same_new hw3
        have g3 : upd H7 w3 (.tup [.str "from a"]) w3 = some (.tup [.str "from a"]) := upd_same
        generalize upd H7 w3 (.tup [.str "from a"]) = H8 at x3 g3
        intro w4 hw4
        have x4 : Same H8 (upd H8 w4 (.dK [])) := same_new hw4
        have g4 : upd H8 w4 (.dK []) w4 = some (.dK []) := upd_same
        generalize upd H8 w4 (.dK []) = H9 at x4 g4
        refine ⟨by show 7 ≤ sizeLine; decide, fun w5 hw5 => ?_⟩
        have oth : ∀ H', Same H9 H' → ∀ v ∈ ([.non, .int 5, .bl true, .ref w1, .ref w2, .ref w3, .ref w4] : List V), Oth K H' v := fun H' sH v hv => by
          have y1 := sH _ _ (x4 _ _ (x3 _ _ (x2 _ _ g1)))
          have y2 := sH _ _ (x4 _ _ (x3 _ _ g2))
          have y3 := sH _ _ (x4 _ _ g3)
          have y4 := sH _ _ g4
          rcases List.mem_cons.mp hv with rfl | hv
          · exact ⟨"NoneType", fun _ _ => .base .non, by decide +kernel⟩
          rcases List.mem_cons.mp hv with rfl | hv
          · exact ⟨"int", fun _ _ => .base (.int _), by decide +kernel⟩
          rcases List.mem_cons.mp hv with rfl | hv
          · exact ⟨"bool", fun _ _ => .base (.bl _), by decide +kernel⟩
          rcases List.mem_cons.mp hv with rfl | hv
          · exact ⟨"list", fun _ s => .base (.lst (s _ _ y1)), by decide +kernel⟩
          rcases List.mem_cons.mp hv with rfl | hv
          · exact ⟨"list", fun _ s => .base (.lst (s _ _ y2)), by decide +kernel⟩
          rcases List.mem_cons.mp hv with rfl | hv
          · exact ⟨"tuple", fun _ s => .base (.tup (s _ _ y3)), by decide +kernel⟩
          rcases List.mem_cons.mp hv with rfl | hv
          · exact ⟨"dict", fun _ s => .base (.dK (s _ _ y4)), by decide +kernel⟩
          · cases hv
        have x5 : Same H9 (upd H9 w5 (.lst [.non, .int 5, .bl true, .ref w1, .ref w2, .ref w3, .ref w4])) := same_new hw5
        have g5 : upd H9 w5 (.lst [.non, .int 5, .bl true, .ref w1, .ref w2, .ref w3, .ref w4]) w5 = some (.lst [.non, .int 5, .bl true, .ref w1, .ref w2, .ref w3, .ref w4]) := upd_same
        generalize upd H9 w5 (.lst [.non, .int 5, .bl true, .ref w1, .ref w2, .ref w3, .ref w4]) = H10 at x5 g5
        generalize ([.non, .int 5, .bl true, .ref w1, .ref w2, .ref w3, .ref w4] : List V) = vals at g5 oth
        have s410 : Same H4 H10 := s5.trans (x1.trans (x2.trans (x3.trans (x4.trans x5))))
        refine ⟨w5, rfl, ⟨_, SqL.of g5⟩, ?_⟩
        refine for_it (walk_list (xs := vals)) (fun _ σ H' => (∃ v9 : Option V, σ = [some (.ref a), some (.ref tl), some (.int (0 + (i : Int))), some (.ref p), some (.ref q), v5, v6, v7, w8, v9]) ∧ Same H10 H')
          ⟨⟨_, rfl⟩, Same.refl _⟩ (fun j0 σ H' _ q => q.2.seq (SqL.of g5)) ?_ ?_
        · rintro j v σ H11 H12 hj5 ⟨⟨w9, rfl⟩, s11⟩ ⟨rfl, hv⟩
          obtain ⟨t, ty', kb⟩ := oth H12 (x5.trans s11) v (List.mem_of_getElem? hv)
          refine ⟨_, rfl, v, rfl, .inr ⟨t, ty' _ (Same.refl _), kb, fun H13 s13 => ?_⟩⟩
          refine ⟨rfl, _, rfl, ?_⟩
          show if (!decide (V.int 1 = V.int 1)) = true then _ else _
          rw [decide_eq_true rfl]
          refine iteF (A := True) ?_
          exact ⟨⟨_, rfl⟩, s11.trans s13⟩
        · rintro σ H11 ⟨⟨w9, rfl⟩, s11⟩
          exact ⟨⟨_, _, _, _, _, _, _, _, rfl⟩, k4.trans (Kp.of (s410.trans s11)), s11 _ _ (s410 _ _ qt4)⟩
end
end K81
set_option Elab.async false
set_option linter.all false
set_option maxRecDepth 100000
set_option maxHeartbeats 8000000
namespace K81
open PySem L2 VK
abbrev sP1 : Stmt := inClass (top 24) 1
abbrev sP2 : Stmt := inClass (top 24) 2
abbrev sP3 : Stmt := inClass (top 24) 3
abbrev sP4 : Stmt := inClass (top 24) 4
theorem scP1 : FnScope ["self"] ["self"] (defScope sP1) := ⟨rfl, rfl, rfl, by decide +kernel, rfl, by decide +kernel, by decide +kernel⟩
theorem scP2 : FnScope ["self"] ["self"] (defScope sP2) := ⟨rfl, rfl, rfl, by decide +kernel, rfl, by decide +kernel, by decide +kernel⟩
theorem scP3 : FnScope ["self"] ["self"] (defScope sP3) := ⟨rfl, rfl, rfl, by decide +kernel, rfl, by decide +kernel, by decide +kernel⟩
theorem scP4 : FnScope ["self"] ["self"] (defScope sP4) := ⟨rfl, rfl, rfl, by decide +kernel, rfl, by decide +kernel, by decide +kernel⟩
section
variable {K : Fg} {h : Heap} {mg : Str → Option Value} {C S fI : Addr}
theorem err_mk (X : K.In h) (G : h.Ns mainGlobals mg) {name qual f : Str} {st : Stmt}
    {nm q : Str} {N : Addr} {bs bm : List Value} {sn : List Str} {sub : List Value} {ab : Bool} {col : Option Bool} {dd : Option Addr} {m0 m1 m2 m3 m5 : Option Value}
    {od an : Option Addr} {sl : Array (Option Value)} {oc kV dc pm cd ct : Value}
    (aC : PySem.W.nsIn K mainGlobals name = some (some (.ref C)))
    (xL : K.lookup C = some (excClassObj nm q C N bs bm true sn sub ab col dd m0 m1 m2 m3 m5 "ValueError.__new__")) (bv : PySem.HandSPX.refsVE bm = true)
    (sa : PySem.W.findIn K (.ref C) "__setattr__" = some (some (.builtin "object.__setattr__")))
    (eC : PySem.W.subIn K (.ref C) (.type "BaseException") = some true) (tC : PySem.W.typeIn K (.ref C) = some (.type "type")) (kC : PySem.W.keepIn K (.ref C) = true)
    (no : PySem.W.findIn K (.ref C) f = some none) (ini : PySem.W.findIn K (.ref C) "__init__" = some (some (.ref fI))) (tyI : PySem.W.typeIn K (.ref fI) = some (.type "function"))
    (l : K.lookup fI = some ⟨oc, od, .func (PySem.W.fnOf "__init__" qual (defArgs st) (defBody st) (defScope st) .none kV dc pm an cd ct), sl⟩) (c : PySem.W.codeIn K cd qual = true) (k : PySem.W.keepIn K (.ref fI) = true)
    (ga : PySem.W.findIn K (.ref C) "__getattribute__" = some (some (.builtin "BaseException.__getattribute__"))) (gg : PySem.W.findIn K (.ref C) "__getattr__" = some none) (hC : PySem.W.hasDictIn K C = true)
    (bd : ∀ (kV doc pm : Value) (an : Option Addr) (cdv ct : Value) (us : List Value), us.length = 2 → bindArgs (PySem.W.fnOf "__init__" qual (defArgs st) (defBody st) (defScope st) .none kV doc pm an cdv ct) ⟨us, []⟩ = pure ((["self", f] : List Str).zip us)) :
    ErrC K mg name qual f st C fI (PySem.W.fnOf "__init__" qual (defArgs st) (defBody st) (defScope st) .none kV dc pm an cd ct) := by
  have F := fun_mk (st := st) l c k
  exact ⟨PySem.W.mg_of X G aC, ⟨⟨nm, q, N, bs, _, sn, sub, ab, col, dd, m0, m1, m2, m3, m5, xL, bv⟩, sa, eC, tC, kC⟩, ⟨ga, gg, eC, hC⟩, no, ini, tyI, F, F.binds (ps := ["self", f]) bd⟩
theorem prp_mk {f g : Str} {st : Stmt} {p ga : Addr} {rest : List Value} {od an : Option Addr} {sl : Array (Option Value)} {oc kV dc pm cd ct : Value} {qual : Str} {p1 p2 p3 : Pos} (c : Cls K C) (n : NoAttr K C g)
    (pa : PySem.W.findIn K (.ref C) f = some (some (.ref p))) (ps : PySem.W.specialIn K (.ref p) "__get__" = some (some (.builtin "property.__get__"))) (pt : PySem.W.takesIn K (.ref p) = some true) (pr : PySem.W.recIn K p "property" = some (.ref ga :: rest))
    (l : K.lookup ga = some ⟨oc, od, .func (PySem.W.fnOf f qual (defArgs st) (defBody st) (defScope st) .none kV dc pm an cd ct), sl⟩) (cc : PySem.W.codeIn K cd qual = true) (sc : FnScope ["self"] ["self"] (defScope st))
    (hb : defBody st = [.Return (some (.Attribute (.Name "self" p1) g p2)) p3])
    (bd : ∀ (kV doc pm : Value) (an : Option Addr) (cdv ct : Value) (us : List Value), us.length = 1 → bindArgs (PySem.W.fnOf f qual (defArgs st) (defBody st) (defScope st) .none kV doc pm an cdv ct) ⟨us, []⟩ = pure ((["self"] : List Str).zip us)) :
    ∀ (P : Program) (w : World) (base : Heap), Prp P w K mg base C f g := fun P w base =>
  ⟨p, ga, _, ⟨pa, ps, pt, rest, pr⟩, fn_getter (k := 0) l cc sc rfl hb c n, .all (bd kV dc pm an cd ct)⟩
theorem sqK {a : Addr} {d : Option Addr} {its : Array Value} {n : Nat} {sl : Array (Option Value)} {xs : List V} (l : K.lookup a = some ⟨.type "tuple", d, .seq its n, sl⟩) (v : Vals xs its.toList) (hz : its.size ≤ 1000) (H : Hp) : SqT K H a xs :=
  .inr ⟨_, its, n, l, rfl, rfl, Nat.le_of_lt (small1000 hz), v⟩
end
theorem no_key {K : Fg} {aD : Addr} {es : Array DictEntry} {n : Nat} (l : K.lookup aD = some ⟨.type "dict", none, .dict es n, #[]⟩) (h : ∃ t1 t2 t3 t4 : Tok, es.toList.map (fun e => e.key) = [.str "1" t1, .str "2" t2, .str "3" t3, .str "4" t4]) :
    ∀ z : Str, z ∉ (["1", "2", "3", "4"] : List Str) → PySem.W.nsIn K aD z = some none := by
  intro z hz
  obtain ⟨t1, t2, t3, t4, h⟩ := h
  have key : ∀ e ∈ es.toList, ∃ (x : Str) (t : Tok), e.key = .str x t ∧ x ∈ (["1", "2", "3", "4"] : List Str) := by
    intro e he
    have m : e.key ∈ es.toList.map (fun e => e.key) := List.mem_map_of_mem he
    rw [h] at m
    rcases List.mem_cons.mp m with m | m
    · exact ⟨_, _, m, by simp⟩
    rcases List.mem_cons.mp m with m | m
    · exact ⟨_, _, m, by simp⟩
    rcases List.mem_cons.mp m with m | m
    · exact ⟨_, _, m, by simp⟩
    rcases List.mem_cons.mp m with m | m
    · exact ⟨_, _, m, by simp⟩
    · cases m
  have f : es.toList.find? (·.key.isStr z) = none := by
    refine List.find?_eq_none.mpr fun e he c => ?_
    obtain ⟨x, t, ek, hx⟩ := key e he
    rw [ek] at c
    have c : (x == z) = true := c
    exact hz (by rw [← beq_iff_eq.mp c]; exact hx)
  have a : es.toList.any (·.refKey) = false := by
    refine List.any_eq_false.mpr fun e he c => ?_
    obtain ⟨x, t, ek, hx⟩ := key e he
    unfold DictEntry.refKey at c
    rw [ek] at c
    cases c
  unfold PySem.W.nsIn
  rw [l]
  dsimp only
  rw [f, a]
  rfl
/-- an entry of a namespace -/
theorem mq_of {K : Fg} {h : Heap} {N : Addr} {m : Str → Option Value} {n : Str} {v : Value} (X : K.In h) (G : h.Ns N m) (e : PySem.W.nsIn K N n = some (some v)) : m n = some v := by
  obtain ⟨o, es, ep, ho, hd, _, hf⟩ := G
  unfold PySem.W.nsIn at e
  split at e
  · rename_i c d es' n' sl q
    have := X _ _ q
    rw [ho] at this
    cases this
    cases hd
    split at e
    · rename_i en he
      cases e
      rw [← hf]
      unfold nsFind findBy
      rw [← Array.find?_toList, he]
      rfl
    · split at e <;> cases e
  · cases e
/-- the plans, as deep as need be -/
theorem plans {P : Program} {w : World} {K : Fg} {mg : Str → Option Value} {base : Heap} {fS fL : Addr} {dS dL : FuncData} (FL : Fun K "_law_plan" "_law_plan" sPlan fL dL)
    (st : ∀ n, FnOk P w K mg base CX0 (2 * n + 12) fL dL ["stream", "pool", "most"] (spPlan K n) → FnOk P w K mg base CX0 (2 * n + 13) fS dS ["stream", "height", "pool", "most"] (spStg K n))
    (pl : ∀ n, FnOk P w K mg base CX0 (2 * n + 13) fS dS ["stream", "height", "pool", "most"] (spStg K n) → FnOk P w K mg base CX0 (2 * n + 14) fL dL ["stream", "pool", "most"] (spPlan K (n + 1))) :
    ∀ n : Nat, FnOk P w K mg base CX0 (2 * n + 12) fL dL ["stream", "pool", "most"] (spPlan K n)
  | 0 => by
    refine FL.ok scPlan (fun vs H Q E h => ?_) (fun cdv B outer s H vs Q E hr h => ?_)
    · obtain ⟨p, q, m, pl, rfl, _⟩ := h
      rfl
    · obtain ⟨p, q, m, pl, rfl, m0, m1, hp, hq, pp, ne, le, k⟩ := h
      exact absurd (List.length_eq_zero_iff.mp (Nat.le_zero.mp le)) ne
  | n + 1 => pl n (st n (plans FL st pl n))
theorem all_mk {l : PySem.W.OpenLaw} {w : World} {K : Fg} {h : Heap} {mg : Str → Option Value} {fa : Addr} (X : K.In h) (G : h.Ns mainGlobals mg) (hfa : mg "law" = some (.ref fa))
    {f13 : Addr} {odf13 anf13 : Option Addr} {slf13 : Array (Option Value)} {ocf13 kVf13 dcf13 pmf13 cdf13 ctf13 : Value}
    {f14 : Addr} {odf14 anf14 : Option Addr} {slf14 : Array (Option Value)} {ocf14 kVf14 dcf14 pmf14 cdf14 ctf14 : Value}
    {f15 : Addr} {odf15 anf15 : Option Addr} {slf15 : Array (Option Value)} {ocf15 kVf15 dcf15 pmf15 cdf15 ctf15 : Value}
    {f16 : Addr} {odf16 anf16 : Option Addr} {slf16 : Array (Option Value)} {ocf16 kVf16 dcf16 pmf16 cdf16 ctf16 : Value}
    {f17 : Addr} {odf17 anf17 : Option Addr} {slf17 : Array (Option Value)} {ocf17 kVf17 dcf17 pmf17 cdf17 ctf17 : Value}
    {f18 : Addr} {odf18 anf18 : Option Addr} {slf18 : Array (Option Value)} {ocf18 kVf18 dcf18 pmf18 cdf18 ctf18 : Value}
    {f19 : Addr} {odf19 anf19 : Option Addr} {slf19 : Array (Option Value)} {ocf19 kVf19 dcf19 pmf19 cdf19 ctf19 : Value}
    {f20 : Addr} {odf20 anf20 : Option Addr} {slf20 : Array (Option Value)} {ocf20 kVf20 dcf20 pmf20 cdf20 ctf20 : Value}
    {f21 : Addr} {odf21 anf21 : Option Addr} {slf21 : Array (Option Value)} {ocf21 kVf21 dcf21 pmf21 cdf21 ctf21 : Value}
    {f24 : Addr} {odf24 anf24 : Option Addr} {slf24 : Array (Option Value)} {ocf24 kVf24 dcf24 pmf24 cdf24 ctf24 : Value}
    {f25 : Addr} {odf25 anf25 : Option Addr} {slf25 : Array (Option Value)} {ocf25 kVf25 dcf25 pmf25 cdf25 ctf25 : Value}
    {f26 : Addr} {odf26 anf26 : Option Addr} {slf26 : Array (Option Value)} {ocf26 kVf26 dcf26 pmf26 cdf26 ctf26 : Value}
    {f27 : Addr} {odf27 anf27 : Option Addr} {slf27 : Array (Option Value)} {ocf27 kVf27 dcf27 pmf27 cdf27 ctf27 : Value}
    {f28 : Addr} {odf28 anf28 : Option Addr} {slf28 : Array (Option Value)} {ocf28 kVf28 dcf28 pmf28 cdf28 ctf28 : Value}
    {f29 : Addr} {odf29 anf29 : Option Addr} {slf29 : Array (Option Value)} {ocf29 kVf29 dcf29 pmf29 cdf29 ctf29 : Value}
    {f30 : Addr} {odf30 anf30 : Option Addr} {slf30 : Array (Option Value)} {ocf30 kVf30 dcf30 pmf30 cdf30 ctf30 : Value}
    {f31 : Addr} {odf31 anf31 : Option Addr} {slf31 : Array (Option Value)} {ocf31 kVf31 dcf31 pmf31 cdf31 ctf31 : Value}
    {f32 : Addr} {odf32 anf32 : Option Addr} {slf32 : Array (Option Value)} {ocf32 kVf32 dcf32 pmf32 cdf32 ctf32 : Value}
    {f33 : Addr} {odf33 anf33 : Option Addr} {slf33 : Array (Option Value)} {ocf33 kVf33 dcf33 pmf33 cdf33 ctf33 : Value}
    {f34 : Addr} {odf34 anf34 : Option Addr} {slf34 : Array (Option Value)} {ocf34 kVf34 dcf34 pmf34 cdf34 ctf34 : Value}
    {f35 : Addr} {odf35 anf35 : Option Addr} {slf35 : Array (Option Value)} {ocf35 kVf35 dcf35 pmf35 cdf35 ctf35 : Value}
    {f36 : Addr} {odf36 anf36 : Option Addr} {slf36 : Array (Option Value)} {ocf36 kVf36 dcf36 pmf36 cdf36 ctf36 : Value}
    {f37 : Addr} {odf37 anf37 : Option Addr} {slf37 : Array (Option Value)} {ocf37 kVf37 dcf37 pmf37 cdf37 ctf37 : Value}
    {f38 : Addr} {odf38 anf38 : Option Addr} {slf38 : Array (Option Value)} {ocf38 kVf38 dcf38 pmf38 cdf38 ctf38 : Value}
    {f39 : Addr} {odf39 anf39 : Option Addr} {slf39 : Array (Option Value)} {ocf39 kVf39 dcf39 pmf39 cdf39 ctf39 : Value}
    {f40 : Addr} {odf40 anf40 : Option Addr} {slf40 : Array (Option Value)} {ocf40 kVf40 dcf40 pmf40 cdf40 ctf40 : Value}
    {f42 : Addr} {odf42 anf42 : Option Addr} {slf42 : Array (Option Value)} {ocf42 kVf42 dcf42 pmf42 cdf42 ctf42 : Value}
    {ft0 : Addr} {odft0 anft0 : Option Addr} {slft0 : Array (Option Value)} {ocft0 kVft0 dcft0 pmft0 cdft0 ctft0 : Value}
    {ft1 : Addr} {odft1 anft1 : Option Addr} {slft1 : Array (Option Value)} {ocft1 kVft1 dcft1 pmft1 cdft1 ctft1 : Value}
    {ft2 : Addr} {odft2 anft2 : Option Addr} {slft2 : Array (Option Value)} {ocft2 kVft2 dcft2 pmft2 cdft2 ctft2 : Value}
    {ft3 : Addr} {odft3 anft3 : Option Addr} {slft3 : Array (Option Value)} {ocft3 kVft3 dcft3 pmft3 cdft3 ctft3 : Value}
    {ft4 : Addr} {odft4 anft4 : Option Addr} {slft4 : Array (Option Value)} {ocft4 kVft4 dcft4 pmft4 cdft4 ctft4 : Value}
    {ft5 : Addr} {odft5 anft5 : Option Addr} {slft5 : Array (Option Value)} {ocft5 kVft5 dcft5 pmft5 cdft5 ctft5 : Value}
    {f41 : Addr} {odf41 anf41 : Option Addr} {slf41 : Array (Option Value)} {ocf41 kVf41 dcf41 pmf41 cdf41 ctf41 : Value}
    {S : Addr}
    {C3 N3 I3 : Addr} {nm3 q3 : Str} {bs3 sub3 : List Value} {sn3 : List Str} {ab3 : Bool} {col3 : Option Bool} {dd3 : Option Addr} {w03 w13 w23 w33 w53 : Option Value} {ode3 ane3 : Option Addr} {sle3 : Array (Option Value)} {oce3 kVe3 dce3 pme3 cde3 cte3 : Value}
    {C4 N4 I4 : Addr} {nm4 q4 : Str} {bs4 sub4 : List Value} {sn4 : List Str} {ab4 : Bool} {col4 : Option Bool} {dd4 : Option Addr} {w04 w14 w24 w34 w54 : Option Value} {ode4 ane4 : Option Addr} {sle4 : Array (Option Value)} {oce4 kVe4 dce4 pme4 cde4 cte4 : Value}
    {C7 N7 I7 : Addr} {nm7 q7 : Str} {bs7 sub7 : List Value} {sn7 : List Str} {ab7 : Bool} {col7 : Option Bool} {dd7 : Option Addr} {w07 w17 w27 w37 w57 : Option Value} {ode7 ane7 : Option Addr} {sle7 : Array (Option Value)} {oce7 kVe7 dce7 pme7 cde7 cte7 : Value}
    {C NC e0 T22 : Addr} {f22 : Addr} {odf22 anf22 : Option Addr} {slf22 : Array (Option Value)} {ocf22 kVf22 dcf22 pmf22 cdf22 ctf22 : Value} {cT : Value} {dT dE : Option Addr} {nT nE : Nat} {sT sE : Array (Option Value)}
    {nmC qC : Str} {bsC subC : List Value} {hdC abC : Bool} {snC : List Str} {colC : Option Bool} {ddC : Option Addr} {w0C w1C w2C w3C w5C : Option Value} {newC : String} {cN : Value} {dN : Option Addr} {esN : Array DictEntry} {nN : Nat} {sN : Array (Option Value)}
    {p1 g1 : Addr} {rest1 : List Value} {odp1 anp1 : Option Addr} {slp1 : Array (Option Value)} {ocp1 kVp1 dcp1 pmp1 cdp1 ctp1 : Value}
    {p2 g2 : Addr} {rest2 : List Value} {odp2 anp2 : Option Addr} {slp2 : Array (Option Value)} {ocp2 kVp2 dcp2 pmp2 cdp2 ctp2 : Value}
    {p3 g3 : Addr} {rest3 : List Value} {odp3 anp3 : Option Addr} {slp3 : Array (Option Value)} {ocp3 kVp3 dcp3 pmp3 cdp3 ctp3 : Value}
    {p4 g4 : Addr} {rest4 : List Value} {odp4 anp4 : Option Addr} {slp4 : Array (Option Value)} {ocp4 kVp4 dcp4 pmp4 cdp4 ctp4 : Value}
    {m0 : Addr} {odm0 anm0 : Option Addr} {slm0 : Array (Option Value)} {ocm0 kVm0 dcm0 pmm0 cdm0 ctm0 : Value}
    {mq : Addr} {odmq anmq : Option Addr} {slmq : Array (Option Value)} {ocmq kVmq dcmq pmmq cdmq ctmq : Value}
    {t6 t8 t4 : Tok} {aS aM aN : Addr}
    {daS : Option Addr} {iaS : Array Value} {naS : Nat} {saS : Array (Option Value)}
    {daM : Option Addr} {iaM : Array Value} {naM : Nat} {saM : Array (Option Value)}
    {daN : Option Addr} {iaN : Array Value} {naN : Nat} {saN : Array (Option Value)}
    {CR aD : Addr} {esD : Array DictEntry} {nD : Nat} {tI tD1 tD2 tD3 tD4 : Tok}
    {r0 : Addr} {odr0 anr0 : Option Addr} {slr0 : Array (Option Value)} {ocr0 kVr0 dcr0 pmr0 cdr0 ctr0 : Value}
    {r1 : Addr} {odr1 anr1 : Option Addr} {slr1 : Array (Option Value)} {ocr1 kVr1 dcr1 pmr1 cdr1 ctr1 : Value}
    {r2 : Addr} {odr2 anr2 : Option Addr} {slr2 : Array (Option Value)} {ocr2 kVr2 dcr2 pmr2 cdr2 ctr2 : Value}
    {r3 : Addr} {odr3 anr3 : Option Addr} {slr3 : Array (Option Value)} {ocr3 kVr3 dcr3 pmr3 cdr3 ctr3 : Value}
    {r4 : Addr} {odr4 anr4 : Option Addr} {slr4 : Array (Option Value)} {ocr4 kVr4 dcr4 pmr4 cdr4 ctr4 : Value}
    {r5 : Addr} {odr5 anr5 : Option Addr} {slr5 : Array (Option Value)} {ocr5 kVr5 dcr5 pmr5 cdr5 ctr5 : Value}
    {r6 : Addr} {odr6 anr6 : Option Addr} {slr6 : Array (Option Value)} {ocr6 kVr6 dcr6 pmr6 cdr6 ctr6 : Value}
    {r7 : Addr} {odr7 anr7 : Option Addr} {slr7 : Array (Option Value)} {ocr7 kVr7 dcr7 pmr7 cdr7 ctr7 : Value}
    (a13 : PySem.W.nsIn K mainGlobals "is_integer" = some (some (.ref f13)))
    (l13 : K.lookup f13 = some ⟨ocf13, odf13, .func (PySem.W.fnOf "is_integer" "is_integer" (defArgs sIsInt) (defBody sIsInt) (defScope sIsInt) .none kVf13 dcf13 pmf13 anf13 cdf13 ctf13), slf13⟩)
    (c13 : PySem.W.codeIn K cdf13 "is_integer" = true)
    (k13 : PySem.W.keepIn K (.ref f13) = true)
    (a14 : PySem.W.nsIn K mainGlobals "is_name" = some (some (.ref f14)))
    (l14 : K.lookup f14 = some ⟨ocf14, odf14, .func (PySem.W.fnOf "is_name" "is_name" (defArgs sIsName) (defBody sIsName) (defScope sIsName) .none kVf14 dcf14 pmf14 anf14 cdf14 ctf14), slf14⟩)
    (c14 : PySem.W.codeIn K cdf14 "is_name" = true)
    (k14 : PySem.W.keepIn K (.ref f14) = true)
    (a15 : PySem.W.nsIn K mainGlobals "is_stage_number" = some (some (.ref f15)))
    (l15 : K.lookup f15 = some ⟨ocf15, odf15, .func (PySem.W.fnOf "is_stage_number" "is_stage_number" (defArgs sIsNum) (defBody sIsNum) (defScope sIsNum) .none kVf15 dcf15 pmf15 anf15 cdf15 ctf15), slf15⟩)
    (c15 : PySem.W.codeIn K cdf15 "is_stage_number" = true)
    (k15 : PySem.W.keepIn K (.ref f15) = true)
    (a16 : PySem.W.nsIn K mainGlobals "is_stage" = some (some (.ref f16)))
    (l16 : K.lookup f16 = some ⟨ocf16, odf16, .func (PySem.W.fnOf "is_stage" "is_stage" (defArgs sIsStage) (defBody sIsStage) (defScope sIsStage) .none kVf16 dcf16 pmf16 anf16 cdf16 ctf16), slf16⟩)
    (c16 : PySem.W.codeIn K cdf16 "is_stage" = true)
    (k16 : PySem.W.keepIn K (.ref f16) = true)
    (a17 : PySem.W.nsIn K mainGlobals "sources_of_stage" = some (some (.ref f17)))
    (l17 : K.lookup f17 = some ⟨ocf17, odf17, .func (PySem.W.fnOf "sources_of_stage" "sources_of_stage" (defArgs sSrcs) (defBody sSrcs) (defScope sSrcs) .none kVf17 dcf17 pmf17 anf17 cdf17 ctf17), slf17⟩)
    (c17 : PySem.W.codeIn K cdf17 "sources_of_stage" = true)
    (k17 : PySem.W.keepIn K (.ref f17) = true)
    (a18 : PySem.W.nsIn K mainGlobals "can_stand" = some (some (.ref f18)))
    (l18 : K.lookup f18 = some ⟨ocf18, odf18, .func (PySem.W.fnOf "can_stand" "can_stand" (defArgs sCan) (defBody sCan) (defScope sCan) .none kVf18 dcf18 pmf18 anf18 cdf18 ctf18), slf18⟩)
    (c18 : PySem.W.codeIn K cdf18 "can_stand" = true)
    (k18 : PySem.W.keepIn K (.ref f18) = true)
    (a19 : PySem.W.nsIn K mainGlobals "depth_behind" = some (some (.ref f19)))
    (l19 : K.lookup f19 = some ⟨ocf19, odf19, .func (PySem.W.fnOf "depth_behind" "depth_behind" (defArgs sDep) (defBody sDep) (defScope sDep) .none kVf19 dcf19 pmf19 anf19 cdf19 ctf19), slf19⟩)
    (c19 : PySem.W.codeIn K cdf19 "depth_behind" = true)
    (k19 : PySem.W.keepIn K (.ref f19) = true)
    (a20 : PySem.W.nsIn K mainGlobals "is_position" = some (some (.ref f20)))
    (l20 : K.lookup f20 = some ⟨ocf20, odf20, .func (PySem.W.fnOf "is_position" "is_position" (defArgs sIsPos) (defBody sIsPos) (defScope sIsPos) .none kVf20 dcf20 pmf20 anf20 cdf20 ctf20), slf20⟩)
    (c20 : PySem.W.codeIn K cdf20 "is_position" = true)
    (k20 : PySem.W.keepIn K (.ref f20) = true)
    (a21 : PySem.W.nsIn K mainGlobals "are_positions" = some (some (.ref f21)))
    (l21 : K.lookup f21 = some ⟨ocf21, odf21, .func (PySem.W.fnOf "are_positions" "are_positions" (defArgs sArePos) (defBody sArePos) (defScope sArePos) .none kVf21 dcf21 pmf21 anf21 cdf21 ctf21), slf21⟩)
    (c21 : PySem.W.codeIn K cdf21 "are_positions" = true)
    (k21 : PySem.W.keepIn K (.ref f21) = true)
    (a24 : PySem.W.nsIn K mainGlobals "_law_source" = some (some (.ref f24)))
    (l24 : K.lookup f24 = some ⟨ocf24, odf24, .func (PySem.W.fnOf "_law_source" "_law_source" (defArgs sSource) (defBody sSource) (defScope sSource) .none kVf24 dcf24 pmf24 anf24 cdf24 ctf24), slf24⟩)
    (c24 : PySem.W.codeIn K cdf24 "_law_source" = true)
    (k24 : PySem.W.keepIn K (.ref f24) = true)
    (a25 : PySem.W.nsIn K mainGlobals "_law_draw" = some (some (.ref f25)))
    (l25 : K.lookup f25 = some ⟨ocf25, odf25, .func (PySem.W.fnOf "_law_draw" "_law_draw" (defArgs sDraw) (defBody sDraw) (defScope sDraw) .none kVf25 dcf25 pmf25 anf25 cdf25 ctf25), slf25⟩)
    (c25 : PySem.W.codeIn K cdf25 "_law_draw" = true)
    (k25 : PySem.W.keepIn K (.ref f25) = true)
    (a26 : PySem.W.nsIn K mainGlobals "_law_pick" = some (some (.ref f26)))
    (l26 : K.lookup f26 = some ⟨ocf26, odf26, .func (PySem.W.fnOf "_law_pick" "_law_pick" (defArgs sPick) (defBody sPick) (defScope sPick) .none kVf26 dcf26 pmf26 anf26 cdf26 ctf26), slf26⟩)
    (c26 : PySem.W.codeIn K cdf26 "_law_pick" = true)
    (k26 : PySem.W.keepIn K (.ref f26) = true)
    (a27 : PySem.W.nsIn K mainGlobals "_law_mixed" = some (some (.ref f27)))
    (l27 : K.lookup f27 = some ⟨ocf27, odf27, .func (PySem.W.fnOf "_law_mixed" "_law_mixed" (defArgs sMixed) (defBody sMixed) (defScope sMixed) .none kVf27 dcf27 pmf27 anf27 cdf27 ctf27), slf27⟩)
    (c27 : PySem.W.codeIn K cdf27 "_law_mixed" = true)
    (k27 : PySem.W.keepIn K (.ref f27) = true)
    (a28 : PySem.W.nsIn K mainGlobals "_law_height" = some (some (.ref f28)))
    (l28 : K.lookup f28 = some ⟨ocf28, odf28, .func (PySem.W.fnOf "_law_height" "_law_height" (defArgs sHeight) (defBody sHeight) (defScope sHeight) .none kVf28 dcf28 pmf28 anf28 cdf28 ctf28), slf28⟩)
    (c28 : PySem.W.codeIn K cdf28 "_law_height" = true)
    (k28 : PySem.W.keepIn K (.ref f28) = true)
    (a29 : PySem.W.nsIn K mainGlobals "_law_depth" = some (some (.ref f29)))
    (l29 : K.lookup f29 = some ⟨ocf29, odf29, .func (PySem.W.fnOf "_law_depth" "_law_depth" (defArgs sDepth) (defBody sDepth) (defScope sDepth) .none kVf29 dcf29 pmf29 anf29 cdf29 ctf29), slf29⟩)
    (c29 : PySem.W.codeIn K cdf29 "_law_depth" = true)
    (k29 : PySem.W.keepIn K (.ref f29) = true)
    (a30 : PySem.W.nsIn K mainGlobals "_law_name" = some (some (.ref f30)))
    (l30 : K.lookup f30 = some ⟨ocf30, odf30, .func (PySem.W.fnOf "_law_name" "_law_name" (defArgs sName) (defBody sName) (defScope sName) .none kVf30 dcf30 pmf30 anf30 cdf30 ctf30), slf30⟩)
    (c30 : PySem.W.codeIn K cdf30 "_law_name" = true)
    (k30 : PySem.W.keepIn K (.ref f30) = true)
    (a31 : PySem.W.nsIn K mainGlobals "_law_stage" = some (some (.ref f31)))
    (l31 : K.lookup f31 = some ⟨ocf31, odf31, .func (PySem.W.fnOf "_law_stage" "_law_stage" (defArgs sStg) (defBody sStg) (defScope sStg) .none kVf31 dcf31 pmf31 anf31 cdf31 ctf31), slf31⟩)
    (c31 : PySem.W.codeIn K cdf31 "_law_stage" = true)
    (k31 : PySem.W.keepIn K (.ref f31) = true)
    (a32 : PySem.W.nsIn K mainGlobals "_law_plan" = some (some (.ref f32)))
    (l32 : K.lookup f32 = some ⟨ocf32, odf32, .func (PySem.W.fnOf "_law_plan" "_law_plan" (defArgs sPlan) (defBody sPlan) (defScope sPlan) .none kVf32 dcf32 pmf32 anf32 cdf32 ctf32), slf32⟩)
    (c32 : PySem.W.codeIn K cdf32 "_law_plan" = true)
    (k32 : PySem.W.keepIn K (.ref f32) = true)
    (a33 : PySem.W.nsIn K mainGlobals "_law_program" = some (some (.ref f33)))
    (l33 : K.lookup f33 = some ⟨ocf33, odf33, .func (PySem.W.fnOf "_law_program" "_law_program" (defArgs sProg) (defBody sProg) (defScope sProg) .none kVf33 dcf33 pmf33 anf33 cdf33 ctf33), slf33⟩)
    (c33 : PySem.W.codeIn K cdf33 "_law_program" = true)
    (k33 : PySem.W.keepIn K (.ref f33) = true)
    (a34 : PySem.W.nsIn K mainGlobals "_law_stage_of" = some (some (.ref f34)))
    (l34 : K.lookup f34 = some ⟨ocf34, odf34, .func (PySem.W.fnOf "_law_stage_of" "_law_stage_of" (defArgs sSO) (defBody sSO) (defScope sSO) .none kVf34 dcf34 pmf34 anf34 cdf34 ctf34), slf34⟩)
    (c34 : PySem.W.codeIn K cdf34 "_law_stage_of" = true)
    (k34 : PySem.W.keepIn K (.ref f34) = true)
    (a35 : PySem.W.nsIn K mainGlobals "_law_closed" = some (some (.ref f35)))
    (l35 : K.lookup f35 = some ⟨ocf35, odf35, .func (PySem.W.fnOf "_law_closed" "_law_closed" (defArgs sClo) (defBody sClo) (defScope sClo) .none kVf35 dcf35 pmf35 anf35 cdf35 ctf35), slf35⟩)
    (c35 : PySem.W.codeIn K cdf35 "_law_closed" = true)
    (k35 : PySem.W.keepIn K (.ref f35) = true)
    (a36 : PySem.W.nsIn K mainGlobals "_law_taken" = some (some (.ref f36)))
    (l36 : K.lookup f36 = some ⟨ocf36, odf36, .func (PySem.W.fnOf "_law_taken" "_law_taken" (defArgs sTak) (defBody sTak) (defScope sTak) .none kVf36 dcf36 pmf36 anf36 cdf36 ctf36), slf36⟩)
    (c36 : PySem.W.codeIn K cdf36 "_law_taken" = true)
    (k36 : PySem.W.keepIn K (.ref f36) = true)
    (a37 : PySem.W.nsIn K mainGlobals "_law_begun" = some (some (.ref f37)))
    (l37 : K.lookup f37 = some ⟨ocf37, odf37, .func (PySem.W.fnOf "_law_begun" "_law_begun" (defArgs sBeg) (defBody sBeg) (defScope sBeg) .none kVf37 dcf37 pmf37 anf37 cdf37 ctf37), slf37⟩)
    (c37 : PySem.W.codeIn K cdf37 "_law_begun" = true)
    (k37 : PySem.W.keepIn K (.ref f37) = true)
    (a38 : PySem.W.nsIn K mainGlobals "_law_zip" = some (some (.ref f38)))
    (l38 : K.lookup f38 = some ⟨ocf38, odf38, .func (PySem.W.fnOf "_law_zip" "_law_zip" (defArgs sLZip) (defBody sLZip) (defScope sLZip) .none kVf38 dcf38 pmf38 anf38 cdf38 ctf38), slf38⟩)
    (c38 : PySem.W.codeIn K cdf38 "_law_zip" = true)
    (k38 : PySem.W.keepIn K (.ref f38) = true)
    (a39 : PySem.W.nsIn K mainGlobals "_law_first_bad_line" = some (some (.ref f39)))
    (l39 : K.lookup f39 = some ⟨ocf39, odf39, .func (PySem.W.fnOf "_law_first_bad_line" "_law_first_bad_line" (defArgs sFB) (defBody sFB) (defScope sFB) .none kVf39 dcf39 pmf39 anf39 cdf39 ctf39), slf39⟩)
    (c39 : PySem.W.codeIn K cdf39 "_law_first_bad_line" = true)
    (k39 : PySem.W.keepIn K (.ref f39) = true)
    (a40 : PySem.W.nsIn K mainGlobals "_law_told" = some (some (.ref f40)))
    (l40 : K.lookup f40 = some ⟨ocf40, odf40, .func (PySem.W.fnOf "_law_told" "_law_told" (defArgs sTld) (defBody sTld) (defScope sTld) .none kVf40 dcf40 pmf40 anf40 cdf40 ctf40), slf40⟩)
    (c40 : PySem.W.codeIn K cdf40 "_law_told" = true)
    (k40 : PySem.W.keepIn K (.ref f40) = true)
    (a42 : PySem.W.nsIn K mainGlobals "_law_bent" = some (some (.ref f42)))
    (l42 : K.lookup f42 = some ⟨ocf42, odf42, .func (PySem.W.fnOf "_law_bent" "_law_bent" (defArgs sBent) (defBody sBent) (defScope sBent) .none kVf42 dcf42 pmf42 anf42 cdf42 ctf42), slf42⟩)
    (c42 : PySem.W.codeIn K cdf42 "_law_bent" = true)
    (k42 : PySem.W.keepIn K (.ref f42) = true)
    (at0 : PySem.W.nsIn K mainGlobals "program_text" = some (some (.ref ft0)))
    (lt0 : K.lookup ft0 = some ⟨ocft0, odft0, .func (PySem.W.fnOf "program_text" "program_text" (defArgs sText) (defBody sText) (defScope sText) .none kVft0 dcft0 pmft0 anft0 cdft0 ctft0), slft0⟩)
    (ct0 : PySem.W.codeIn K cdft0 "program_text" = true)
    (kt0 : PySem.W.keepIn K (.ref ft0) = true)
    (at1 : PySem.W.nsIn K mainGlobals "program_lines" = some (some (.ref ft1)))
    (lt1 : K.lookup ft1 = some ⟨ocft1, odft1, .func (PySem.W.fnOf "program_lines" "program_lines" (defArgs sPL) (defBody sPL) (defScope sPL) .none kVft1 dcft1 pmft1 anft1 cdft1 ctft1), slft1⟩)
    (ct1 : PySem.W.codeIn K cdft1 "program_lines" = true)
    (kt1 : PySem.W.keepIn K (.ref ft1) = true)
    (at2 : PySem.W.nsIn K mainGlobals "stage_lines" = some (some (.ref ft2)))
    (lt2 : K.lookup ft2 = some ⟨ocft2, odft2, .func (PySem.W.fnOf "stage_lines" "stage_lines" (defArgs sSL) (defBody sSL) (defScope sSL) .none kVft2 dcft2 pmft2 anft2 cdft2 ctft2), slft2⟩)
    (ct2 : PySem.W.codeIn K cdft2 "stage_lines" = true)
    (kt2 : PySem.W.keepIn K (.ref ft2) = true)
    (at3 : PySem.W.nsIn K mainGlobals "stage_of_words" = some (some (.ref ft3)))
    (lt3 : K.lookup ft3 = some ⟨ocft3, odft3, .func (PySem.W.fnOf "stage_of_words" "stage_of_words" (defArgs sWords) (defBody sWords) (defScope sWords) .none kVft3 dcft3 pmft3 anft3 cdft3 ctft3), slft3⟩)
    (ct3 : PySem.W.codeIn K cdft3 "stage_of_words" = true)
    (kt3 : PySem.W.keepIn K (.ref ft3) = true)
    (at4 : PySem.W.nsIn K mainGlobals "can_follow" = some (some (.ref ft4)))
    (lt4 : K.lookup ft4 = some ⟨ocft4, odft4, .func (PySem.W.fnOf "can_follow" "can_follow" (defArgs sFollow) (defBody sFollow) (defScope sFollow) .none kVft4 dcft4 pmft4 anft4 cdft4 ctft4), slft4⟩)
    (ct4 : PySem.W.codeIn K cdft4 "can_follow" = true)
    (kt4 : PySem.W.keepIn K (.ref ft4) = true)
    (at5 : PySem.W.nsIn K mainGlobals "read_program" = some (some (.ref ft5)))
    (lt5 : K.lookup ft5 = some ⟨ocft5, odft5, .func (PySem.W.fnOf "read_program" "read_program" (defArgs sRead) (defBody sRead) (defScope sRead) .none kVft5 dcft5 pmft5 anft5 cdft5 ctft5), slft5⟩)
    (ct5 : PySem.W.codeIn K cdft5 "read_program" = true)
    (kt5 : PySem.W.keepIn K (.ref ft5) = true)
    (a41 : PySem.W.nsIn K mainGlobals "law" = some (some (.ref f41)))
    (l41 : K.lookup f41 = some ⟨ocf41, odf41, .func (PySem.W.fnOf "law" "law" (defArgs sLaw) (defBody sLaw) (defScope sLaw) .none kVf41 dcf41 pmf41 anf41 cdf41 ctf41), slf41⟩)
    (c41 : PySem.W.codeIn K cdf41 "law" = true)
    (k41 : PySem.W.keepIn K (.ref f41) = true)
    (eg3 : PySem.W.nsIn K mainGlobals "BadStages" = some (some (.ref C3)))
    (ex3 : K.lookup C3 = some (excClassObj nm3 q3 C3 N3 bs3 (.ref S :: [.type "ValueError", .type "Exception", .type "BaseException", .type "object"]) true sn3 sub3 ab3 col3 dd3 w03 w13 w23 w33 w53 "ValueError.__new__"))
    (es3 : PySem.W.findIn K (.ref C3) "__setattr__" = some (some (.builtin "object.__setattr__")))
    (eb3 : PySem.W.subIn K (.ref C3) (.type "BaseException") = some true)
    (et3 : PySem.W.typeIn K (.ref C3) = some (.type "type"))
    (ek3 : PySem.W.keepIn K (.ref C3) = true)
    (en3 : PySem.W.findIn K (.ref C3) "value" = some none)
    (ei3 : PySem.W.findIn K (.ref C3) "__init__" = some (some (.ref I3)))
    (ety3 : PySem.W.typeIn K (.ref I3) = some (.type "function"))
    (el3 : K.lookup I3 = some ⟨oce3, ode3, .func (PySem.W.fnOf "__init__" "BadStages.__init__" (defArgs sI1) (defBody sI1) (defScope sI1) .none kVe3 dce3 pme3 ane3 cde3 cte3), sle3⟩)
    (ec3 : PySem.W.codeIn K cde3 "BadStages.__init__" = true)
    (eK3 : PySem.W.keepIn K (.ref I3) = true)
    (ega3 : PySem.W.findIn K (.ref C3) "__getattribute__" = some (some (.builtin "BaseException.__getattribute__")))
    (egg3 : PySem.W.findIn K (.ref C3) "__getattr__" = some none)
    (ehd3 : PySem.W.hasDictIn K C3 = true)
    (eg4 : PySem.W.nsIn K mainGlobals "BadStage" = some (some (.ref C4)))
    (ex4 : K.lookup C4 = some (excClassObj nm4 q4 C4 N4 bs4 (.ref S :: [.type "ValueError", .type "Exception", .type "BaseException", .type "object"]) true sn4 sub4 ab4 col4 dd4 w04 w14 w24 w34 w54 "ValueError.__new__"))
    (es4 : PySem.W.findIn K (.ref C4) "__setattr__" = some (some (.builtin "object.__setattr__")))
    (eb4 : PySem.W.subIn K (.ref C4) (.type "BaseException") = some true)
    (et4 : PySem.W.typeIn K (.ref C4) = some (.type "type"))
    (ek4 : PySem.W.keepIn K (.ref C4) = true)
    (en4 : PySem.W.findIn K (.ref C4) "position" = some none)
    (ei4 : PySem.W.findIn K (.ref C4) "__init__" = some (some (.ref I4)))
    (ety4 : PySem.W.typeIn K (.ref I4) = some (.type "function"))
    (el4 : K.lookup I4 = some ⟨oce4, ode4, .func (PySem.W.fnOf "__init__" "BadStage.__init__" (defArgs sI2) (defBody sI2) (defScope sI2) .none kVe4 dce4 pme4 ane4 cde4 cte4), sle4⟩)
    (ec4 : PySem.W.codeIn K cde4 "BadStage.__init__" = true)
    (eK4 : PySem.W.keepIn K (.ref I4) = true)
    (ega4 : PySem.W.findIn K (.ref C4) "__getattribute__" = some (some (.builtin "BaseException.__getattribute__")))
    (egg4 : PySem.W.findIn K (.ref C4) "__getattr__" = some none)
    (ehd4 : PySem.W.hasDictIn K C4 = true)
    (eg7 : PySem.W.nsIn K mainGlobals "BadText" = some (some (.ref C7)))
    (ex7 : K.lookup C7 = some (excClassObj nm7 q7 C7 N7 bs7 (.ref S :: [.type "ValueError", .type "Exception", .type "BaseException", .type "object"]) true sn7 sub7 ab7 col7 dd7 w07 w17 w27 w37 w57 "ValueError.__new__"))
    (es7 : PySem.W.findIn K (.ref C7) "__setattr__" = some (some (.builtin "object.__setattr__")))
    (eb7 : PySem.W.subIn K (.ref C7) (.type "BaseException") = some true)
    (et7 : PySem.W.typeIn K (.ref C7) = some (.type "type"))
    (ek7 : PySem.W.keepIn K (.ref C7) = true)
    (en7 : PySem.W.findIn K (.ref C7) "line" = some none)
    (ei7 : PySem.W.findIn K (.ref C7) "__init__" = some (some (.ref I7)))
    (ety7 : PySem.W.typeIn K (.ref I7) = some (.type "function"))
    (el7 : K.lookup I7 = some ⟨oce7, ode7, .func (PySem.W.fnOf "__init__" "BadText.__init__" (defArgs sI7) (defBody sI7) (defScope sI7) .none kVe7 dce7 pme7 ane7 cde7 cte7), sle7⟩)
    (ec7 : PySem.W.codeIn K cde7 "BadText.__init__" = true)
    (eK7 : PySem.W.keepIn K (.ref I7) = true)
    (ega7 : PySem.W.findIn K (.ref C7) "__getattribute__" = some (some (.builtin "BaseException.__getattribute__")))
    (egg7 : PySem.W.findIn K (.ref C7) "__getattr__" = some none)
    (ehd7 : PySem.W.hasDictIn K C7 = true)
    (aS0 : PySem.W.nsIn K mainGlobals "StreamError" = some (some (.ref S)))
    (aC : PySem.W.nsIn K mainGlobals "Program" = some (some (.ref C)))
    (pg : PySem.W.plainGet K C Str.empty = true)
    (hd : PySem.W.hasDictIn K C = true)
    (po : PySem.W.plainOver K C = true)
    (sa : PySem.W.findIn K (.ref C) "__setattr__" = some (some (.builtin "object.__setattr__")))
    (cl : PySem.W.findIn K (.ref C) "__class__" = some (some (.builtin "object.__class__")))
    (sp : PySem.W.specialIn K (.builtin "object.__class__") "__get__" = some (some (.builtin "getset_descriptor.__get__")))
    (tk : PySem.W.takesIn K (.builtin "object.__class__") = some true)
    (ob : PySem.W.mroIn K C (.type "object") = some true)
    (kc : PySem.W.kitOne K (.ref C) (.ref C) = some true)
    (ct : PySem.W.kitOne K (.ref C) (.type "tuple") = some false)
    (kttuple : PySem.W.kitOne K (.type "tuple") (.ref C) = some false)
    (n1 : PySem.W.findIn K (.ref C) "_source" = some none)
    (n2 : PySem.W.findIn K (.ref C) "_stages" = some none)
    (n3 : PySem.W.findIn K (.ref C) "_sources" = some none)
    (n4 : PySem.W.findIn K (.ref C) "_depth" = some none)
    (mk : PySem.W.makesIn K C = true)
    (ini : PySem.W.findIn K (.ref C) "__init__" = some (some (.ref f22)))
    (fi22 : PySem.W.isFn K (.ref f22) = true)
    (kC : PySem.W.keepIn K (.ref C) = true)
    (l22 : K.lookup f22 = some ⟨ocf22, odf22, .func (PySem.W.fnOf "__init__" "Program.__init__" (defArgs sInit) (defBody sInit) (defScope sInit) (.ref T22) kVf22 dcf22 pmf22 anf22 cdf22 ctf22), slf22⟩)
    (c22 : PySem.W.codeIn K cdf22 "Program.__init__" = true)
    (k22 : PySem.W.keepIn K (.ref f22) = true)
    (lT : K.lookup T22 = some ⟨cT, dT, .seq #[.ref e0] nT, sT⟩)
    (lE : K.lookup e0 = some ⟨.type "tuple", dE, .seq #[] nE, sE⟩)
    (pa1 : PySem.W.findIn K (.ref C) "source" = some (some (.ref p1)))
    (ps1 : PySem.W.specialIn K (.ref p1) "__get__" = some (some (.builtin "property.__get__")))
    (pt1 : PySem.W.takesIn K (.ref p1) = some true)
    (pr1 : PySem.W.recIn K p1 "property" = some (.ref g1 :: rest1))
    (pl1 : K.lookup g1 = some ⟨ocp1, odp1, .func (PySem.W.fnOf "source" "Program.source" (defArgs sP1) (defBody sP1) (defScope sP1) .none kVp1 dcp1 pmp1 anp1 cdp1 ctp1), slp1⟩)
    (pc1 : PySem.W.codeIn K cdp1 "Program.source" = true)
    (pk1 : PySem.W.keepIn K (.ref g1) = true)
    (pa2 : PySem.W.findIn K (.ref C) "stages" = some (some (.ref p2)))
    (ps2 : PySem.W.specialIn K (.ref p2) "__get__" = some (some (.builtin "property.__get__")))
    (pt2 : PySem.W.takesIn K (.ref p2) = some true)
    (pr2 : PySem.W.recIn K p2 "property" = some (.ref g2 :: rest2))
    (pl2 : K.lookup g2 = some ⟨ocp2, odp2, .func (PySem.W.fnOf "stages" "Program.stages" (defArgs sP2) (defBody sP2) (defScope sP2) .none kVp2 dcp2 pmp2 anp2 cdp2 ctp2), slp2⟩)
    (pc2 : PySem.W.codeIn K cdp2 "Program.stages" = true)
    (pk2 : PySem.W.keepIn K (.ref g2) = true)
    (pa3 : PySem.W.findIn K (.ref C) "sources" = some (some (.ref p3)))
    (ps3 : PySem.W.specialIn K (.ref p3) "__get__" = some (some (.builtin "property.__get__")))
    (pt3 : PySem.W.takesIn K (.ref p3) = some true)
    (pr3 : PySem.W.recIn K p3 "property" = some (.ref g3 :: rest3))
    (pl3 : K.lookup g3 = some ⟨ocp3, odp3, .func (PySem.W.fnOf "sources" "Program.sources" (defArgs sP3) (defBody sP3) (defScope sP3) .none kVp3 dcp3 pmp3 anp3 cdp3 ctp3), slp3⟩)
    (pc3 : PySem.W.codeIn K cdp3 "Program.sources" = true)
    (pk3 : PySem.W.keepIn K (.ref g3) = true)
    (pa4 : PySem.W.findIn K (.ref C) "depth" = some (some (.ref p4)))
    (ps4 : PySem.W.specialIn K (.ref p4) "__get__" = some (some (.builtin "property.__get__")))
    (pt4 : PySem.W.takesIn K (.ref p4) = some true)
    (pr4 : PySem.W.recIn K p4 "property" = some (.ref g4 :: rest4))
    (pl4 : K.lookup g4 = some ⟨ocp4, odp4, .func (PySem.W.fnOf "depth" "Program.depth" (defArgs sP4) (defBody sP4) (defScope sP4) .none kVp4 dcp4 pmp4 anp4 cdp4 ctp4), slp4⟩)
    (pc4 : PySem.W.codeIn K cdp4 "Program.depth" = true)
    (pk4 : PySem.W.keepIn K (.ref g4) = true)
    (ma0 : PySem.W.findIn K (.ref C) "then" = some (some (.ref m0)))
    (mi0 : PySem.W.isFn K (.ref m0) = true)
    (mk0 : PySem.W.keepIn K (.ref m0) = true)
    (ml0 : K.lookup m0 = some ⟨ocm0, odm0, .func (PySem.W.fnOf "then" "Program.then" (defArgs sThen) (defBody sThen) (defScope sThen) .none kVm0 dcm0 pmm0 anm0 cdm0 ctm0), slm0⟩)
    (mc0 : PySem.W.codeIn K cdm0 "Program.then" = true)
    (maq : PySem.W.findIn K (.ref C) "__eq__" = some (some (.ref mq)))
    (miq : PySem.W.isFn K (.ref mq) = true)
    (mkq : PySem.W.keepIn K (.ref mq) = true)
    (mlq : K.lookup mq = some ⟨ocmq, odmq, .func (PySem.W.fnOf "__eq__" "Program.__eq__" (defArgs sEq) (defBody sEq) (defScope sEq) .none kVmq dcmq pmmq anmq cdmq ctmq), slmq⟩)
    (mcq : PySem.W.codeIn K cdmq "Program.__eq__" = true)
    (xC : K.lookup C = some (excClassObj nmC qC C NC bsC [.type "object"] hdC snC subC abC colC ddC w0C w1C w2C w3C w5C newC))
    (lN : K.lookup NC = some ⟨cN, dN, .dict esN nN, sN⟩)
    (okN : (esN.toList.all fun e => match e.key with | .str _ _ => true | _ => false) = true)
    (nsq : PySem.W.nsIn K NC "__eq__" = some (some (.ref mq)))
    (nsn : PySem.W.nsIn K NC "__ne__" = some none)
    (z6 : PySem.W.nsIn K mainGlobals "MOST_STAGES" = some (some (.int 6 t6)))
    (z8 : PySem.W.nsIn K mainGlobals "MOST_LETTERS" = some (some (.int 8 t8)))
    (z4 : PySem.W.nsIn K mainGlobals "GREATEST_NUMBER" = some (some (.int 4 t4)))
    (gaS : PySem.W.nsIn K mainGlobals "SOURCES" = some (some (.ref aS)))
    (laS : K.lookup aS = some ⟨.type "tuple", daS, .seq iaS naS, saS⟩)
    (vaS : Vals [.str "a", .str "b", .str "c", .str "d"] iaS.toList)
    (waS : iaS.size = 4)
    (gaM : PySem.W.nsIn K mainGlobals "STAGES_WITH_NAME" = some (some (.ref aM)))
    (laM : K.lookup aM = some ⟨.type "tuple", daM, .seq iaM naM, saM⟩)
    (vaM : Vals [.str "map", .str "keep", .str "while", .str "after"] iaM.toList)
    (waM : iaM.size = 4)
    (gaN : PySem.W.nsIn K mainGlobals "STAGES_WITH_NUMBER" = some (some (.ref aN)))
    (laN : K.lookup aN = some ⟨.type "tuple", daN, .seq iaN naN, saN⟩)
    (vaN : Vals [.str "take", .str "skip", .str "lots", .str "gather"] iaN.toList)
    (waN : iaN.size = 4)
    (y0 : PySem.W.nsIn K mainGlobals "len" = some none)
    (y1 : PySem.W.nsIn K mainGlobals "int" = some none)
    (y2 : PySem.W.nsIn K mainGlobals "bool" = some none)
    (y3 : PySem.W.nsIn K mainGlobals "str" = some none)
    (y4 : PySem.W.nsIn K mainGlobals "tuple" = some none)
    (y5 : PySem.W.nsIn K mainGlobals "list" = some none)
    (y6 : PySem.W.nsIn K mainGlobals "all" = some none)
    (y7 : PySem.W.nsIn K mainGlobals "any" = some none)
    (y8 : PySem.W.nsIn K mainGlobals "max" = some none)
    (y9 : PySem.W.nsIn K mainGlobals "min" = some none)
    (y10 : PySem.W.nsIn K mainGlobals "set" = some none)
    (y11 : PySem.W.nsIn K mainGlobals "range" = some none)
    (y12 : PySem.W.nsIn K mainGlobals "isinstance" = some none)
    (y13 : PySem.W.nsIn K mainGlobals "enumerate" = some none)
    (y14 : PySem.W.nsIn K mainGlobals "repr" = some none)
    (aCR : PySem.W.nsIn K mainGlobals "Reader" = some (some (.ref CR)))
    (pgR : PySem.W.plainGet K CR Str.empty = true)
    (hdR : PySem.W.hasDictIn K CR = true)
    (poR : PySem.W.plainOver K CR = true)
    (saR : PySem.W.findIn K (.ref CR) "__setattr__" = some (some (.builtin "object.__setattr__")))
    (n1R : PySem.W.findIn K (.ref CR) "programs" = some none)
    (n2R : PySem.W.findIn K (.ref CR) "opens" = some none)
    (mkR : PySem.W.makesIn K CR = true)
    (kCR : PySem.W.keepIn K (.ref CR) = true)
    (neR : CR ≠ C)
    (ra0 : PySem.W.findIn K (.ref CR) "__init__" = some (some (.ref r0)))
    (ri0 : PySem.W.isFn K (.ref r0) = true)
    (rk0 : PySem.W.keepIn K (.ref r0) = true)
    (rl0 : K.lookup r0 = some ⟨ocr0, odr0, .func (PySem.W.fnOf "__init__" "Reader.__init__" (defArgs sRInit) (defBody sRInit) (defScope sRInit) .none kVr0 dcr0 pmr0 anr0 cdr0 ctr0), slr0⟩)
    (rc0 : PySem.W.codeIn K cdr0 "Reader.__init__" = true)
    (ra1 : PySem.W.findIn K (.ref CR) "free_sources" = some (some (.ref r1)))
    (ri1 : PySem.W.isFn K (.ref r1) = true)
    (rk1 : PySem.W.keepIn K (.ref r1) = true)
    (rl1 : K.lookup r1 = some ⟨ocr1, odr1, .func (PySem.W.fnOf "free_sources" "Reader.free_sources" (defArgs sFree) (defBody sFree) (defScope sFree) .none kVr1 dcr1 pmr1 anr1 cdr1 ctr1), slr1⟩)
    (rc1 : PySem.W.codeIn K cdr1 "Reader.free_sources" = true)
    (ra2 : PySem.W.findIn K (.ref CR) "read_line" = some (some (.ref r2)))
    (ri2 : PySem.W.isFn K (.ref r2) = true)
    (rk2 : PySem.W.keepIn K (.ref r2) = true)
    (rl2 : K.lookup r2 = some ⟨ocr2, odr2, .func (PySem.W.fnOf "read_line" "Reader.read_line" (defArgs sRLine) (defBody sRLine) (defScope sRLine) .none kVr2 dcr2 pmr2 anr2 cdr2 ctr2), slr2⟩)
    (rc2 : PySem.W.codeIn K cdr2 "Reader.read_line" = true)
    (ra3 : PySem.W.findIn K (.ref CR) "read_source" = some (some (.ref r3)))
    (ri3 : PySem.W.isFn K (.ref r3) = true)
    (rk3 : PySem.W.keepIn K (.ref r3) = true)
    (rl3 : K.lookup r3 = some ⟨ocr3, odr3, .func (PySem.W.fnOf "read_source" "Reader.read_source" (defArgs sRSrc) (defBody sRSrc) (defScope sRSrc) .none kVr3 dcr3 pmr3 anr3 cdr3 ctr3), slr3⟩)
    (rc3 : PySem.W.codeIn K cdr3 "Reader.read_source" = true)
    (ra4 : PySem.W.findIn K (.ref CR) "read_stage" = some (some (.ref r4)))
    (ri4 : PySem.W.isFn K (.ref r4) = true)
    (rk4 : PySem.W.keepIn K (.ref r4) = true)
    (rl4 : K.lookup r4 = some ⟨ocr4, odr4, .func (PySem.W.fnOf "read_stage" "Reader.read_stage" (defArgs sRStg) (defBody sRStg) (defScope sRStg) .none kVr4 dcr4 pmr4 anr4 cdr4 ctr4), slr4⟩)
    (rc4 : PySem.W.codeIn K cdr4 "Reader.read_stage" = true)
    (ra5 : PySem.W.findIn K (.ref CR) "read_zip" = some (some (.ref r5)))
    (ri5 : PySem.W.isFn K (.ref r5) = true)
    (rk5 : PySem.W.keepIn K (.ref r5) = true)
    (rl5 : K.lookup r5 = some ⟨ocr5, odr5, .func (PySem.W.fnOf "read_zip" "Reader.read_zip" (defArgs sRZip) (defBody sRZip) (defScope sRZip) .none kVr5 dcr5 pmr5 anr5 cdr5 ctr5), slr5⟩)
    (rc5 : PySem.W.codeIn K cdr5 "Reader.read_zip" = true)
    (ra6 : PySem.W.findIn K (.ref CR) "close" = some (some (.ref r6)))
    (ri6 : PySem.W.isFn K (.ref r6) = true)
    (rk6 : PySem.W.keepIn K (.ref r6) = true)
    (rl6 : K.lookup r6 = some ⟨ocr6, odr6, .func (PySem.W.fnOf "close" "Reader.close" (defArgs sClose) (defBody sClose) (defScope sClose) .none kVr6 dcr6 pmr6 anr6 cdr6 ctr6), slr6⟩)
    (rc6 : PySem.W.codeIn K cdr6 "Reader.close" = true)
    (ra7 : PySem.W.findIn K (.ref CR) "all_read" = some (some (.ref r7)))
    (ri7 : PySem.W.isFn K (.ref r7) = true)
    (rk7 : PySem.W.keepIn K (.ref r7) = true)
    (rl7 : K.lookup r7 = some ⟨ocr7, odr7, .func (PySem.W.fnOf "all_read" "Reader.all_read" (defArgs sAll) (defBody sAll) (defScope sAll) .none kVr7 dcr7 pmr7 anr7 cdr7 ctr7), slr7⟩)
    (rc7 : PySem.W.codeIn K cdr7 "Reader.all_read" = true)
    (gI : PySem.W.nsIn K mainGlobals "INDENT" = some (some (.str "  " tI)))
    (gD : PySem.W.nsIn K mainGlobals "NUMBERS" = some (some (.ref aD)))
    (lD : K.lookup aD = some ⟨.type "dict", none, .dict esD nD, #[]⟩)
    (kD : PySem.W.KeysLit w.params esD.toList)
    (mD : (aD == sysModules) = false)
    (keyD : ∃ t1 t2 t3 t4 : Tok, esD.toList.map (fun e => e.key) = [.str "1" t1, .str "2" t2, .str "3" t3, .str "4" t4])
    (x3 : PySem.W.exmOne K (.ref C3) (.ref S) = some true)
    (x4 : PySem.W.exmOne K (.ref C4) (.ref S) = some true)
    (x7 : PySem.W.exmOne K (.ref C7) (.ref C7) = some true)
    (ktsC : PySem.W.kitOne K (.type "str") (.ref C) = some false)
    (vD1 : PySem.W.nsIn K aD "1" = some (some (.int 1 tD1)))
    (vD2 : PySem.W.nsIn K aD "2" = some (some (.int 2 tD2)))
    (vD3 : PySem.W.nsIn K aD "3" = some (some (.int 3 tD3)))
    (vD4 : PySem.W.nsIn K aD "4" = some (some (.int 4 tD4))) :
    ∃ fd : FuncData, (∀ (s : Shared) (v : Value), BindsTo s fd ⟨[v], []⟩ [("script", v)]) ∧ ∀ base : Heap, K.In base → base.Ns mainGlobals mg → RunAt l.prog w K mg base callerA fa fd ["script"] (spLaw K) := by
  have e := hfa.symm.trans (PySem.W.mg_of X G a41)
  cases e
  have F13 := fun_mk (st := sIsInt) l13 c13 k13
  have b13 := F13.binds (ps := ["value"]) fun _ _ _ _ _ _ us hl => match us, hl with | [_], _ => rfl
  have g13 := PySem.W.mg_of X G a13
  have F14 := fun_mk (st := sIsName) l14 c14 k14
  have b14 := F14.binds (ps := ["value"]) fun _ _ _ _ _ _ us hl => match us, hl with | [_], _ => rfl
  have g14 := PySem.W.mg_of X G a14
  have F15 := fun_mk (st := sIsNum) l15 c15 k15
  have b15 := F15.binds (ps := ["value"]) fun _ _ _ _ _ _ us hl => match us, hl with | [_], _ => rfl
  have g15 := PySem.W.mg_of X G a15
  have F16 := fun_mk (st := sIsStage) l16 c16 k16
  have b16 := F16.binds (ps := ["value"]) fun _ _ _ _ _ _ us hl => match us, hl with | [_], _ => rfl
  have g16 := PySem.W.mg_of X G a16
  have F17 := fun_mk (st := sSrcs) l17 c17 k17
  have b17 := F17.binds (ps := ["stage"]) fun _ _ _ _ _ _ us hl => match us, hl with | [_], _ => rfl
  have g17 := PySem.W.mg_of X G a17
  have F18 := fun_mk (st := sCan) l18 c18 k18
  have b18 := F18.binds (ps := ["stage", "depth", "sources"]) fun _ _ _ _ _ _ us hl => match us, hl with | [_, _, _], _ => rfl
  have g18 := PySem.W.mg_of X G a18
  have F19 := fun_mk (st := sDep) l19 c19 k19
  have b19 := F19.binds (ps := ["stage", "depth"]) fun _ _ _ _ _ _ us hl => match us, hl with | [_, _], _ => rfl
  have g19 := PySem.W.mg_of X G a19
  have F20 := fun_mk (st := sIsPos) l20 c20 k20
  have b20 := F20.binds (ps := ["value", "many"]) fun _ _ _ _ _ _ us hl => match us, hl with | [_, _], _ => rfl
  have g20 := PySem.W.mg_of X G a20
  have F21 := fun_mk (st := sArePos) l21 c21 k21
  have b21 := F21.binds (ps := ["value", "many"]) fun _ _ _ _ _ _ us hl => match us, hl with | [_, _], _ => rfl
  have g21 := PySem.W.mg_of X G a21
  have F24 := fun_mk (st := sSource) l24 c24 k24
  have b24 := F24.binds (ps := ["script", "start"]) fun _ _ _ _ _ _ us hl => match us, hl with | [_, _], _ => rfl
  have g24 := PySem.W.mg_of X G a24
  have F25 := fun_mk (st := sDraw) l25 c25 k25
  have b25 := F25.binds (ps := ["stream", "span"]) fun _ _ _ _ _ _ us hl => match us, hl with | [_, _], _ => rfl
  have g25 := PySem.W.mg_of X G a25
  have F26 := fun_mk (st := sPick) l26 c26 k26
  have b26 := F26.binds (ps := ["stream", "things"]) fun _ _ _ _ _ _ us hl => match us, hl with | [_, _], _ => rfl
  have g26 := PySem.W.mg_of X G a26
  have F27 := fun_mk (st := sMixed) l27 c27 k27
  have b27 := F27.binds (ps := ["stream", "things"]) fun _ _ _ _ _ _ us hl => match us, hl with | [_, _], _ => rfl
  have g27 := PySem.W.mg_of X G a27
  have F28 := fun_mk (st := sHeight) l28 c28 k28
  have b28 := F28.binds (ps := ["height", "stage"]) fun _ _ _ _ _ _ us hl => match us, hl with | [_, _], _ => rfl
  have g28 := PySem.W.mg_of X G a28
  have F29 := fun_mk (st := sDepth) l29 c29 k29
  have b29 := F29.binds (ps := ["plan"]) fun _ _ _ _ _ _ us hl => match us, hl with | [_], _ => rfl
  have g29 := PySem.W.mg_of X G a29
  have F30 := fun_mk (st := sName) l30 c30 k30
  have b30 := F30.binds (ps := ["stream"]) fun _ _ _ _ _ _ us hl => match us, hl with | [_], _ => rfl
  have g30 := PySem.W.mg_of X G a30
  have F31 := fun_mk (st := sStg) l31 c31 k31
  have b31 := F31.binds (ps := ["stream", "height", "pool", "most"]) fun _ _ _ _ _ _ us hl => match us, hl with | [_, _, _, _], _ => rfl
  have g31 := PySem.W.mg_of X G a31
  have F32 := fun_mk (st := sPlan) l32 c32 k32
  have b32 := F32.binds (ps := ["stream", "pool", "most"]) fun _ _ _ _ _ _ us hl => match us, hl with | [_, _, _], _ => rfl
  have g32 := PySem.W.mg_of X G a32
  have F33 := fun_mk (st := sProg) l33 c33 k33
  have b33 := F33.binds (ps := ["plan"]) fun _ _ _ _ _ _ us hl => match us, hl with | [_], _ => rfl
  have g33 := PySem.W.mg_of X G a33
  have F34 := fun_mk (st := sSO) l34 c34 k34
  have b34 := F34.binds (ps := ["line"]) fun _ _ _ _ _ _ us hl => match us, hl with | [_], _ => rfl
  have g34 := PySem.W.mg_of X G a34
  have F35 := fun_mk (st := sClo) l35 c35 k35
  have b35 := F35.binds (ps := ["levels"]) fun _ _ _ _ _ _ us hl => match us, hl with | [_], _ => rfl
  have g35 := PySem.W.mg_of X G a35
  have F36 := fun_mk (st := sTak) l36 c36 k36
  have b36 := F36.binds (ps := ["levels", "line"]) fun _ _ _ _ _ _ us hl => match us, hl with | [_, _], _ => rfl
  have g36 := PySem.W.mg_of X G a36
  have F37 := fun_mk (st := sBeg) l37 c37 k37
  have b37 := F37.binds (ps := ["levels", "used", "line"]) fun _ _ _ _ _ _ us hl => match us, hl with | [_, _, _], _ => rfl
  have g37 := PySem.W.mg_of X G a37
  have F38 := fun_mk (st := sLZip) l38 c38 k38
  have b38 := F38.binds (ps := ["levels", "used", "line"]) fun _ _ _ _ _ _ us hl => match us, hl with | [_, _, _], _ => rfl
  have g38 := PySem.W.mg_of X G a38
  have F39 := fun_mk (st := sFB) l39 c39 k39
  have b39 := F39.binds (ps := ["text"]) fun _ _ _ _ _ _ us hl => match us, hl with | [_], _ => rfl
  have g39 := PySem.W.mg_of X G a39
  have F40 := fun_mk (st := sTld) l40 c40 k40
  have b40 := F40.binds (ps := ["value"]) fun _ _ _ _ _ _ us hl => match us, hl with | [_], _ => rfl
  have g40 := PySem.W.mg_of X G a40
  have F42 := fun_mk (st := sBent) l42 c42 k42
  have b42 := F42.binds (ps := ["source", "lines"]) fun _ _ _ _ _ _ us hl => match us, hl with | [_, _], _ => rfl
  have g42 := PySem.W.mg_of X G a42
  have Ft0 := fun_mk (st := sText) lt0 ct0 kt0
  have bt0 := Ft0.binds (ps := ["program"]) fun _ _ _ _ _ _ us hl => match us, hl with | [_], _ => rfl
  have gt0 := PySem.W.mg_of X G at0
  have Ft1 := fun_mk (st := sPL) lt1 ct1 kt1
  have bt1 := Ft1.binds (ps := ["program"]) fun _ _ _ _ _ _ us hl => match us, hl with | [_], _ => rfl
  have gt1 := PySem.W.mg_of X G at1
  have Ft2 := fun_mk (st := sSL) lt2 ct2 kt2
  have bt2 := Ft2.binds (ps := ["stage"]) fun _ _ _ _ _ _ us hl => match us, hl with | [_], _ => rfl
  have gt2 := PySem.W.mg_of X G at2
  have Ft3 := fun_mk (st := sWords) lt3 ct3 kt3
  have bt3 := Ft3.binds (ps := ["words"]) fun _ _ _ _ _ _ us hl => match us, hl with | [_], _ => rfl
  have gt3 := PySem.W.mg_of X G at3
  have Ft4 := fun_mk (st := sFollow) lt4 ct4 kt4
  have bt4 := Ft4.binds (ps := ["program", "stage"]) fun _ _ _ _ _ _ us hl => match us, hl with | [_, _], _ => rfl
  have gt4 := PySem.W.mg_of X G at4
  have Ft5 := fun_mk (st := sRead) lt5 ct5 kt5
  have bt5 := Ft5.binds (ps := ["text"]) fun _ _ _ _ _ _ us hl => match us, hl with | [_], _ => rfl
  have gt5 := PySem.W.mg_of X G at5
  have F41 := fun_mk (st := sLaw) l41 c41 k41
  have b41 := F41.binds (ps := ["script"]) fun _ _ _ _ _ _ us hl => match us, hl with | [_], _ => rfl
  have g41 := PySem.W.mg_of X G a41
  have FM0 := fun_mk (st := sThen) ml0 mc0 mk0
  have bM0 := FM0.binds (ps := ["self", "stage"]) fun _ _ _ _ _ _ us hl => match us, hl with | [_, _], _ => rfl
  have FMq := fun_mk (st := sEq) mlq mcq mkq
  have bMq := FMq.binds (ps := ["self", "other"]) fun _ _ _ _ _ _ us hl => match us, hl with | [_, _], _ => rfl
  have FR0 := fun_mk (st := sRInit) rl0 rc0 rk0
  have bR0 := FR0.binds (ps := ["self"]) fun _ _ _ _ _ _ us hl => match us, hl with | [_], _ => rfl
  have FR1 := fun_mk (st := sFree) rl1 rc1 rk1
  have bR1 := FR1.binds (ps := ["self"]) fun _ _ _ _ _ _ us hl => match us, hl with | [_], _ => rfl
  have FR2 := fun_mk (st := sRLine) rl2 rc2 rk2
  have bR2 := FR2.binds (ps := ["self", "line"]) fun _ _ _ _ _ _ us hl => match us, hl with | [_, _], _ => rfl
  have FR3 := fun_mk (st := sRSrc) rl3 rc3 rk3
  have bR3 := FR3.binds (ps := ["self", "words"]) fun _ _ _ _ _ _ us hl => match us, hl with | [_, _], _ => rfl
  have FR4 := fun_mk (st := sRStg) rl4 rc4 rk4
  have bR4 := FR4.binds (ps := ["self", "words"]) fun _ _ _ _ _ _ us hl => match us, hl with | [_, _], _ => rfl
  have FR5 := fun_mk (st := sRZip) rl5 rc5 rk5
  have bR5 := FR5.binds (ps := ["self"]) fun _ _ _ _ _ _ us hl => match us, hl with | [_], _ => rfl
  have FR6 := fun_mk (st := sClose) rl6 rc6 rk6
  have bR6 := FR6.binds (ps := ["self"]) fun _ _ _ _ _ _ us hl => match us, hl with | [_], _ => rfl
  have FR7 := fun_mk (st := sAll) rl7 rc7 rk7
  have bR7 := FR7.binds (ps := ["self"]) fun _ _ _ _ _ _ us hl => match us, hl with | [_], _ => rfl
  have E3 : ErrC K mg "BadStages" "BadStages.__init__" "value" sI1 C3 I3 _ := err_mk X G eg3 ex3 (by show PySem.HandSPX.refsVE ([.type "ValueError", .type "Exception", .type "BaseException", .type "object"] : List Value) = true; decide +kernel) es3 eb3 et3 ek3 en3 ei3 ety3 el3 ec3 eK3 ega3 egg3 ehd3 (fun _ _ _ _ _ _ us hl => match us, hl with | [_, _], _ => rfl)
  have E4 : ErrC K mg "BadStage" "BadStage.__init__" "position" sI2 C4 I4 _ := err_mk X G eg4 ex4 (by show PySem.HandSPX.refsVE ([.type "ValueError", .type "Exception", .type "BaseException", .type "object"] : List Value) = true; decide +kernel) es4 eb4 et4 ek4 en4 ei4 ety4 el4 ec4 eK4 ega4 egg4 ehd4 (fun _ _ _ _ _ _ us hl => match us, hl with | [_, _], _ => rfl)
  have E7 : ErrC K mg "BadText" "BadText.__init__" "line" sI7 C7 I7 _ := err_mk X G eg7 ex7 (by show PySem.HandSPX.refsVE ([.type "ValueError", .type "Exception", .type "BaseException", .type "object"] : List Value) = true; decide +kernel) es7 eb7 et7 ek7 en7 ei7 ety7 el7 ec7 eK7 ega7 egg7 ehd7 (fun _ _ _ _ _ _ us hl => match us, hl with | [_, _], _ => rfl)
  have N : Nm mg := ⟨PySem.W.mg_none_of X G y0, PySem.W.mg_none_of X G y1, PySem.W.mg_none_of X G y2, PySem.W.mg_none_of X G y3, PySem.W.mg_none_of X G y4, PySem.W.mg_none_of X G y5, PySem.W.mg_none_of X G y6, PySem.W.mg_none_of X G y7, PySem.W.mg_none_of X G y8, PySem.W.mg_none_of X G y9, PySem.W.mg_none_of X G y10, PySem.W.mg_none_of X G y11, PySem.W.mg_none_of X G y12, PySem.W.mg_none_of X G y13, PySem.W.mg_none_of X G y14⟩
  have Z0 : Cst K mg aS aM aN := ⟨⟨_, PySem.W.mg_of X G z6⟩, ⟨_, PySem.W.mg_of X G z8⟩, ⟨_, PySem.W.mg_of X G z4⟩, PySem.W.mg_of X G gaS, PySem.W.mg_of X G gaM, PySem.W.mg_of X G gaN, sqK laS vaS (by omega), sqK laM vaM (by omega), sqK laN vaN (by omega)⟩
  have cls : Cls K C := ⟨pg, hd, po, sa⟩
  have c : Cl K mg C := ⟨cls, PySem.W.mg_of X G aC, cl, sp, tk, ob, kttuple, kc, ct, n1, n2, n3, n4⟩
  have q1 : ∀ (P : Program) (w : World) (base : Heap), Prp P w K mg base C "source" "_source" := prp_mk (st := sP1) cls n1 pa1 ps1 pt1 pr1 pl1 pc1 scP1 rfl (fun _ _ _ _ _ _ us hl => match us, hl with | [_], _ => rfl)
  have q2 : ∀ (P : Program) (w : World) (base : Heap), Prp P w K mg base C "stages" "_stages" := prp_mk (st := sP2) cls n2 pa2 ps2 pt2 pr2 pl2 pc2 scP2 rfl (fun _ _ _ _ _ _ us hl => match us, hl with | [_], _ => rfl)
  have q3 : ∀ (P : Program) (w : World) (base : Heap), Prp P w K mg base C "sources" "_sources" := prp_mk (st := sP3) cls n3 pa3 ps3 pt3 pr3 pl3 pc3 scP3 rfl (fun _ _ _ _ _ _ us hl => match us, hl with | [_], _ => rfl)
  have q4 : ∀ (P : Program) (w : World) (base : Heap), Prp P w K mg base C "depth" "_depth" := prp_mk (st := sP4) cls n4 pa4 ps4 pt4 pr4 pl4 pc4 scP4 rfl (fun _ _ _ _ _ _ us hl => match us, hl with | [_], _ => rfl)
  let A : Nat → Addr := fun n => ([C3, C3, C3, C3, C4, C3, C3, C3, C3, C3, C3, C3, C3, f13, f14, f15, f16, f17, f18, f19, f20, f21, f22] : List Addr).getD n C3
  let I : Nat → Addr := fun n => ([I3, I3, I3, I3, I4, I3] : List Addr).getD n I3
  let D : Nat → FuncData := fun n => ([PySem.W.fnOf "is_integer" "is_integer" (defArgs sIsInt) (defBody sIsInt) (defScope sIsInt) .none kVf13 dcf13 pmf13 anf13 cdf13 ctf13, PySem.W.fnOf "is_integer" "is_integer" (defArgs sIsInt) (defBody sIsInt) (defScope sIsInt) .none kVf13 dcf13 pmf13 anf13 cdf13 ctf13, PySem.W.fnOf "is_integer" "is_integer" (defArgs sIsInt) (defBody sIsInt) (defScope sIsInt) .none kVf13 dcf13 pmf13 anf13 cdf13 ctf13, PySem.W.fnOf "is_integer" "is_integer" (defArgs sIsInt) (defBody sIsInt) (defScope sIsInt) .none kVf13 dcf13 pmf13 anf13 cdf13 ctf13, PySem.W.fnOf "is_integer" "is_integer" (defArgs sIsInt) (defBody sIsInt) (defScope sIsInt) .none kVf13 dcf13 pmf13 anf13 cdf13 ctf13, PySem.W.fnOf "is_integer" "is_integer" (defArgs sIsInt) (defBody sIsInt) (defScope sIsInt) .none kVf13 dcf13 pmf13 anf13 cdf13 ctf13, PySem.W.fnOf "is_integer" "is_integer" (defArgs sIsInt) (defBody sIsInt) (defScope sIsInt) .none kVf13 dcf13 pmf13 anf13 cdf13 ctf13, PySem.W.fnOf "is_integer" "is_integer" (defArgs sIsInt) (defBody sIsInt) (defScope sIsInt) .none kVf13 dcf13 pmf13 anf13 cdf13 ctf13, PySem.W.fnOf "is_integer" "is_integer" (defArgs sIsInt) (defBody sIsInt) (defScope sIsInt) .none kVf13 dcf13 pmf13 anf13 cdf13 ctf13, PySem.W.fnOf "is_integer" "is_integer" (defArgs sIsInt) (defBody sIsInt) (defScope sIsInt) .none kVf13 dcf13 pmf13 anf13 cdf13 ctf13, PySem.W.fnOf "is_integer" "is_integer" (defArgs sIsInt) (defBody sIsInt) (defScope sIsInt) .none kVf13 dcf13 pmf13 anf13 cdf13 ctf13, PySem.W.fnOf "is_integer" "is_integer" (defArgs sIsInt) (defBody sIsInt) (defScope sIsInt) .none kVf13 dcf13 pmf13 anf13 cdf13 ctf13, PySem.W.fnOf "is_integer" "is_integer" (defArgs sIsInt) (defBody sIsInt) (defScope sIsInt) .none kVf13 dcf13 pmf13 anf13 cdf13 ctf13, PySem.W.fnOf "is_integer" "is_integer" (defArgs sIsInt) (defBody sIsInt) (defScope sIsInt) .none kVf13 dcf13 pmf13 anf13 cdf13 ctf13, PySem.W.fnOf "is_name" "is_name" (defArgs sIsName) (defBody sIsName) (defScope sIsName) .none kVf14 dcf14 pmf14 anf14 cdf14 ctf14, PySem.W.fnOf "is_stage_number" "is_stage_number" (defArgs sIsNum) (defBody sIsNum) (defScope sIsNum) .none kVf15 dcf15 pmf15 anf15 cdf15 ctf15, PySem.W.fnOf "is_stage" "is_stage" (defArgs sIsStage) (defBody sIsStage) (defScope sIsStage) .none kVf16 dcf16 pmf16 anf16 cdf16 ctf16, PySem.W.fnOf "sources_of_stage" "sources_of_stage" (defArgs sSrcs) (defBody sSrcs) (defScope sSrcs) .none kVf17 dcf17 pmf17 anf17 cdf17 ctf17, PySem.W.fnOf "can_stand" "can_stand" (defArgs sCan) (defBody sCan) (defScope sCan) .none kVf18 dcf18 pmf18 anf18 cdf18 ctf18, PySem.W.fnOf "depth_behind" "depth_behind" (defArgs sDep) (defBody sDep) (defScope sDep) .none kVf19 dcf19 pmf19 anf19 cdf19 ctf19, PySem.W.fnOf "is_position" "is_position" (defArgs sIsPos) (defBody sIsPos) (defScope sIsPos) .none kVf20 dcf20 pmf20 anf20 cdf20 ctf20, PySem.W.fnOf "are_positions" "are_positions" (defArgs sArePos) (defBody sArePos) (defScope sArePos) .none kVf21 dcf21 pmf21 anf21 cdf21 ctf21, PySem.W.fnOf "__init__" "Program.__init__" (defArgs sInit) (defBody sInit) (defScope sInit) (.ref T22) kVf22 dcf22 pmf22 anf22 cdf22 ctf22] : List FuncData).getD n (PySem.W.fnOf "is_integer" "is_integer" (defArgs sIsInt) (defBody sIsInt) (defScope sIsInt) .none kVf13 dcf13 pmf13 anf13 cdf13 ctf13)
  let J : Nat → FuncData := fun n => ([PySem.W.fnOf "__init__" "BadStages.__init__" (defArgs sI1) (defBody sI1) (defScope sI1) .none kVe3 dce3 pme3 ane3 cde3 cte3, PySem.W.fnOf "__init__" "BadStages.__init__" (defArgs sI1) (defBody sI1) (defScope sI1) .none kVe3 dce3 pme3 ane3 cde3 cte3, PySem.W.fnOf "__init__" "BadStages.__init__" (defArgs sI1) (defBody sI1) (defScope sI1) .none kVe3 dce3 pme3 ane3 cde3 cte3, PySem.W.fnOf "__init__" "BadStages.__init__" (defArgs sI1) (defBody sI1) (defScope sI1) .none kVe3 dce3 pme3 ane3 cde3 cte3, PySem.W.fnOf "__init__" "BadStage.__init__" (defArgs sI2) (defBody sI2) (defScope sI2) .none kVe4 dce4 pme4 ane4 cde4 cte4, PySem.W.fnOf "__init__" "BadStages.__init__" (defArgs sI1) (defBody sI1) (defScope sI1) .none kVe3 dce3 pme3 ane3 cde3 cte3] : List FuncData).getD n (PySem.W.fnOf "__init__" "BadStages.__init__" (defArgs sI1) (defBody sI1) (defScope sI1) .none kVe3 dce3 pme3 ane3 cde3 cte3)
  have L : Lb K mg A I D J aS aM aN C := ⟨N, Z0, c, E3, E4, q1, q2, q3, q4, g13, F13, b13, g14, F14, b14, g15, F15, b15, g16, F16, b16, g17, F17, b17, g18, F18, b18, g19, F19, b19, g20, F20, b20, g21, F21, b21⟩
  have FD : L2.FunD K "__init__" "Program.__init__" (defArgs sInit) (defBody sInit) (defScope sInit) [.ref e0] [] f22 (PySem.W.fnOf "__init__" "Program.__init__" (defArgs sInit) (defBody sInit) (defScope sInit) (.ref T22) kVf22 dcf22 pmf22 anf22 cdf22 ctf22) := ⟨⟨_, _, _, _, _, _, _, _, _, _, rfl, l22, c22, .inr ⟨(fun z => by cases z), T22, _, [.ref e0], nT, rfl, lT, rfl, .cons rfl .nil⟩, .inl rfl⟩, k22⟩
  have B3 : Binds K (D 22) ["self", "source", "stages"] [] := by
    obtain ⟨ds, v, b⟩ := FD.binds1 (ps := ["self", "source", "stages"]) 3 1 (fun z => by cases z) rfl (fun T kV doc pm an cdv ct us its hl hi => match us, its, hl, hi with | [_, _, _], [_], _, _ => ⟨_, rfl, rfl⟩)
    cases v
    exact b
  have B2 : Binds K (D 22) ["self", "source", "stages"] [.ref e0] := by
    obtain ⟨ds, v, b⟩ := FD.binds1 (ps := ["self", "source", "stages"]) 2 0 (fun z => by cases z) rfl (fun T kV doc pm an cdv ct us its hl hi => match us, its, hl, hi with | [_, _], [_], _, _ => ⟨_, rfl, rfl⟩)
    cases v with
    | cons r v =>
      cases v
      cases r
      exact b
  have Zp : Lp K mg A I D J aS aM aN C e0 := ⟨L, ⟨mk, ini, fi22, kC⟩, ⟨⟨_, _, _, _, _, _, _, _, _, _, rfl, l22, c22⟩⟩, B3, B2, sqK lE .nil (Nat.zero_le _)⟩
  have okn : PySem.W.nsOkIn K NC = true := by
    unfold PySem.W.nsOkIn
    rw [lN]
    show esN.all _ = true
    rw [← Array.all_toList]
    exact okN
  have U : Le K C mq _ := ⟨FMq, maq, miq, bMq, fun h' x o KX hx ho => by
    have ns := Heap.Ns.of_isNs (PySem.W.isNs_of_in KX okn)
    obtain ⟨of, hof, hofc⟩ : ∃ of, h'.get? mq = some of ∧ of.cls = .type "function" := by
      refine ⟨_, KX _ _ mlq, ?_⟩
      have t : (List.lookup mq K).map (fun x => x.cls) = some (.type "function") := beq_iff_eq.mp miq
      rw [mlq] at t
      exact Option.some.inj t
    exact ⟨o, of, nmC, qC, NC, bsC, hdC, snC, subC, abC, colC, ddC, w0C, w1C, w2C, w3C, w5C, newC, _, _, hx, ho, KX _ _ xC, ns, mq_of KX ns nsq, hof, hofc, PySem.F.mro_object, rfl, PySem.W.ns_none_of KX ns nsn⟩⟩
  refine ⟨PySem.W.fnOf "law" "law" (defArgs sLaw) (defBody sLaw) (defScope sLaw) .none kVf41 dcf41 pmf41 anf41 cdf41 ctf41, fun s v => .of_eq rfl, fun base _ _ => ?_⟩
  have HD := ok_hd (P := l.prog) (w := w) (base := base) N g28 F28 b28 g29 F29 b29 5
  have GS := fun n => ok_stg (P := l.prog) (w := w) (base := base) (n := n) F31 N g32 F32 b32 g30 F30 b30 g26 F26 b26 g25 F25 b25
  have GPn := fun n => ok_plan (P := l.prog) (w := w) (base := base) (n := n) F32 N g31 F31 b31 g28 F28 b28 g25 F25 b25 HD.1
  have GL := plans (P := l.prog) (w := w) (base := base) F32 GS GPn 4
  have GM : FnOk l.prog w K mg base CX0 2 f27 _ ["stream", "things"] (spMixed K) := ok_mixed F27 N g25 F25 b25
  have Mth : Mt K C "then" "Program.then" sThen ["self", "stage"] m0 _ := ⟨⟨ma0, mi0, mk0⟩, FM0, bM0⟩
  have clR : Cls K CR := ⟨pgR, hdR, poR, saR⟩
  let R : Nat → Addr := fun n => ([r0, r1, r2, r3, r4, r5, r6, r7] : List Addr).getD n r0
  let S8 : Nat → FuncData := fun n => ([PySem.W.fnOf "__init__" "Reader.__init__" (defArgs sRInit) (defBody sRInit) (defScope sRInit) .none kVr0 dcr0 pmr0 anr0 cdr0 ctr0, PySem.W.fnOf "free_sources" "Reader.free_sources" (defArgs sFree) (defBody sFree) (defScope sFree) .none kVr1 dcr1 pmr1 anr1 cdr1 ctr1, PySem.W.fnOf "read_line" "Reader.read_line" (defArgs sRLine) (defBody sRLine) (defScope sRLine) .none kVr2 dcr2 pmr2 anr2 cdr2 ctr2, PySem.W.fnOf "read_source" "Reader.read_source" (defArgs sRSrc) (defBody sRSrc) (defScope sRSrc) .none kVr3 dcr3 pmr3 anr3 cdr3 ctr3, PySem.W.fnOf "read_stage" "Reader.read_stage" (defArgs sRStg) (defBody sRStg) (defScope sRStg) .none kVr4 dcr4 pmr4 anr4 cdr4 ctr4, PySem.W.fnOf "read_zip" "Reader.read_zip" (defArgs sRZip) (defBody sRZip) (defScope sRZip) .none kVr5 dcr5 pmr5 anr5 cdr5 ctr5, PySem.W.fnOf "close" "Reader.close" (defArgs sClose) (defBody sClose) (defScope sClose) .none kVr6 dcr6 pmr6 anr6 cdr6 ctr6, PySem.W.fnOf "all_read" "Reader.all_read" (defArgs sAll) (defBody sAll) (defScope sAll) .none kVr7 dcr7 pmr7 anr7 cdr7 ctr7] : List FuncData).getD n (PySem.W.fnOf "__init__" "Reader.__init__" (defArgs sRInit) (defBody sRInit) (defScope sRInit) .none kVr0 dcr0 pmr0 anr0 cdr0 ctr0)
  have Y : Rc K mg CR R S8 := ⟨PySem.W.mg_of X G aCR, ⟨mkR, ra0, ri0, kCR⟩, FR0, bR0, clR, n1R, n2R, ⟨⟨ra1, ri1, rk1⟩, FR1, bR1⟩, ⟨⟨ra2, ri2, rk2⟩, FR2, bR2⟩, ⟨⟨ra3, ri3, rk3⟩, FR3, bR3⟩, ⟨⟨ra4, ri4, rk4⟩, FR4, bR4⟩, ⟨⟨ra5, ri5, rk5⟩, FR5, bR5⟩, ⟨⟨ra6, ri6, rk6⟩, FR6, bR6⟩, ⟨⟨ra7, ri7, rk7⟩, FR7, bR7⟩⟩
  have Un : Nu K mg w aD := ⟨PySem.W.mg_of X G gD, ⟨esD, nD, lD, kD, mD⟩, ⟨_, vD1⟩, ⟨_, vD2⟩, ⟨_, vD3⟩, ⟨_, vD4⟩, no_key lD keyD⟩
  have gE := PySem.W.mg_of X G aS0
  have ti : ∃ t, mg "INDENT" = some (.str "  " t) := ⟨_, PySem.W.mg_of X G gI⟩
  have DP : Df K mg "program_lines" sPL ["program"] ft1 _ := ⟨gt1, Ft1, bt1⟩
  have DS : Df K mg "stage_lines" sSL ["stage"] ft2 _ := ⟨gt2, Ft2, bt2⟩
  have DT : Df K mg "program_text" sText ["program"] ft0 _ := ⟨gt0, Ft0, bt0⟩
  have DW : Df K mg "stage_of_words" sWords ["words"] ft3 _ := ⟨gt3, Ft3, bt3⟩
  have DF : Df K mg "can_follow" sFollow ["program", "stage"] ft4 _ := ⟨gt4, Ft4, bt4⟩
  have DR : Df K mg "read_program" sRead ["text"] ft5 _ := ⟨gt5, Ft5, bt5⟩
  have GT := ok_text (P := l.prog) (w := w) (base := base) c (q1 _ _ _) (q2 _ _ _) ti DP DS DT
  have Xe : Ex K A S := ⟨x3, x4⟩
  have GRD := ok_read (P := l.prog) (w := w) (base := base) Y Zp neR Mth DF DW gE Un ktsC Xe ti DR E7
  have DH : Df K mg "_law_height" sHeight ["height", "stage"] f28 _ := ⟨g28, F28, b28⟩
  have DSO : Df K mg "_law_stage_of" sSO ["line"] f34 _ := ⟨g34, F34, b34⟩
  have DCl : Df K mg "_law_closed" sClo ["levels"] f35 _ := ⟨g35, F35, b35⟩
  have DTk : Df K mg "_law_taken" sTak ["levels", "line"] f36 _ := ⟨g36, F36, b36⟩
  have DBg : Df K mg "_law_begun" sBeg ["levels", "used", "line"] f37 _ := ⟨g37, F37, b37⟩
  have DZl : Df K mg "_law_zip" sLZip ["levels", "used", "line"] f38 _ := ⟨g38, F38, b38⟩
  have DFB : Df K mg "_law_first_bad_line" sFB ["text"] f39 _ := ⟨g39, F39, b39⟩
  have DTD : Df K mg "_law_told" sTld ["value"] f40 _ := ⟨g40, F40, b40⟩
  have DBt : Df K mg "_law_bent" sBent ["source", "lines"] f42 _ := ⟨g42, F42, b42⟩
  have GTk := ok_tak (P := l.prog) (w := w) (base := base) DTk DCl DSO DH N HD.1
  have GBg := ok_beg (P := l.prog) (w := w) (base := base) DBg N
  have GZl := ok_lzip (P := l.prog) (w := w) (base := base) DZl DCl N
  have GFB := ok_fb (P := l.prog) (w := w) (base := base) DFB DBg DZl DTk N GBg GZl GTk
  have GTD := ok_tld (P := l.prog) (w := w) (base := base) DTD DR DT E7 x7 GRD GT
  have GBt := ok_bent (P := l.prog) (w := w) (base := base) DBt ⟨g25, F25, b25⟩ ⟨g26, F26, b26⟩ N
  exact run_law F41 Zp ⟨g24, F24, b24⟩ ⟨g32, F32, b32⟩ ⟨g27, F27, b27⟩ ⟨g33, F33, b33⟩ DT DTD DFB DBt GL GM GT GTD GFB GBt
end K81
set_option Elab.async false
set_option linter.all false
open PySem PySem.W PyProof.Rows
set_option maxRecDepth 100000 in
set_option maxHeartbeats 0 in
theorem PySem.Challenge.cw_pulledonce_k81_texts_refused_holds : PySem.Challenge.rw_pulledonce_k81_texts_refused.Holds := by
  w_on; o_law; k_head; (case hw => w_witness2)
  k_fill
  refine VK.walk_at (l := PySem.Challenge.rw_pulledonce_k81_texts_refused) (n := 63) (x := "script") (sp := fun w => K81.spLaw _) rfl (by decide) rfl (fun w h Y => PySem.W.kIn_of Y) ?F (fun w H a ns hl hb hO hS => ⟨a, ns, rfl, hO, hS, hl, hb, fun _ => rfl⟩)
  case F =>
    intro w mg fa h KX G hmg
    refine' K81.all_mk KX G hmg ?a13 ?l13 ?c13 ?k13 ?a14 ?l14 ?c14 ?k14 ?a15 ?l15 ?c15 ?k15 ?a16 ?l16 ?c16 ?k16 ?a17 ?l17 ?c17 ?k17 ?a18 ?l18 ?c18 ?k18 ?a19 ?l19 ?c19 ?k19 ?a20 ?l20 ?c20 ?k20 ?a21 ?l21 ?c21 ?k21 ?a24 ?l24 ?c24 ?k24 ?a25 ?l25 ?c25 ?k25 ?a26 ?l26 ?c26 ?k26 ?a27 ?l27 ?c27 ?k27 ?a28 ?l28 ?c28 ?k28 ?a29 ?l29 ?c29 ?k29 ?a30 ?l30 ?c30 ?k30 ?a31 ?l31 ?c31 ?k31 ?a32 ?l32 ?c32 ?k32 ?a33 ?l33 ?c33 ?k33 ?a34 ?l34 ?c34 ?k34 ?a35 ?l35 ?c35 ?k35 ?a36 ?l36 ?c36 ?k36 ?a37 ?l37 ?c37 ?k37 ?a38 ?l38 ?c38 ?k38 ?a39 ?l39 ?c39 ?k39 ?a40 ?l40 ?c40 ?k40 ?a42 ?l42 ?c42 ?k42 ?at0 ?lt0 ?ct0 ?kt0 ?at1 ?lt1 ?ct1 ?kt1 ?at2 ?lt2 ?ct2 ?kt2 ?at3 ?lt3 ?ct3 ?kt3 ?at4 ?lt4 ?ct4 ?kt4 ?at5 ?lt5 ?ct5 ?kt5 ?a41 ?l41 ?c41 ?k41 ?eg3 ?ex3 ?es3 ?eb3 ?et3 ?ek3 ?en3 ?ei3 ?ety3 ?el3 ?ec3 ?eK3 ?ega3 ?egg3 ?ehd3 ?eg4 ?ex4 ?es4 ?eb4 ?et4 ?ek4 ?en4 ?ei4 ?ety4 ?el4 ?ec4 ?eK4 ?ega4 ?egg4 ?ehd4 ?eg7 ?ex7 ?es7 ?eb7 ?et7 ?ek7 ?en7 ?ei7 ?ety7 ?el7 ?ec7 ?eK7 ?ega7 ?egg7 ?ehd7 ?aS0 ?aC ?pg ?hd ?po ?sa ?cl ?sp ?tk ?ob ?kc ?ct ?kttuple ?n1 ?n2 ?n3 ?n4 ?mk ?ini ?fi22 ?kC ?l22 ?c22 ?k22 ?lT ?lE ?pa1 ?ps1 ?pt1 ?pr1 ?pl1 ?pc1 ?pk1 ?pa2 ?ps2 ?pt2 ?pr2 ?pl2 ?pc2 ?pk2 ?pa3 ?ps3 ?pt3 ?pr3 ?pl3 ?pc3 ?pk3 ?pa4 ?ps4 ?pt4 ?pr4 ?pl4 ?pc4 ?pk4 ?ma0 ?mi0 ?mk0 ?ml0 ?mc0 ?maq ?miq ?mkq ?mlq ?mcq ?xC ?lN ?okN ?nsq ?nsn ?z6 ?z8 ?z4 ?gaS ?laS ?vaS ?waS ?gaM ?laM ?vaM ?waM ?gaN ?laN ?vaN ?waN ?y0 ?y1 ?y2 ?y3 ?y4 ?y5 ?y6 ?y7 ?y8 ?y9 ?y10 ?y11 ?y12 ?y13 ?y14 ?aCR ?pgR ?hdR ?poR ?saR ?n1R ?n2R ?mkR ?kCR ?neR ?ra0 ?ri0 ?rk0 ?rl0 ?rc0 ?ra1 ?ri1 ?rk1 ?rl1 ?rc1 ?ra2 ?ri2 ?rk2 ?rl2 ?rc2 ?ra3 ?ri3 ?rk3 ?rl3 ?rc3 ?ra4 ?ri4 ?rk4 ?rl4 ?rc4 ?ra5 ?ri5 ?rk5 ?rl5 ?rc5 ?ra6 ?ri6 ?rk6 ?rl6 ?rc6 ?ra7 ?ri7 ?rk7 ?rl7 ?rc7 ?gI ?gD ?lD ?kD ?mD ?keyD ?x3 ?x4 ?x7 ?ktsC ?vD1 ?vD2 ?vD3 ?vD4
    (case a13 => k_is)
    (case l13 => k_is)
    (case c13 => k_is)
    (case k13 => k_is)
    (case a14 => k_is)
    (case l14 => k_is)
    (case c14 => k_is)
    (case k14 => k_is)
    (case a15 => k_is)
    (case l15 => k_is)
    (case c15 => k_is)
    (case k15 => k_is)
    (case a16 => k_is)
    (case l16 => k_is)
    (case c16 => k_is)
    (case k16 => k_is)
    (case a17 => k_is)
    (case l17 => k_is)
    (case c17 => k_is)
    (case k17 => k_is)
    (case a18 => k_is)
    (case l18 => k_is)
    (case c18 => k_is)
    (case k18 => k_is)
    (case a19 => k_is)
    (case l19 => k_is)
    (case c19 => k_is)
    (case k19 => k_is)
    (case a20 => k_is)
    (case l20 => k_is)
    (case c20 => k_is)
    (case k20 => k_is)
    (case a21 => k_is)
    (case l21 => k_is)
    (case c21 => k_is)
    (case k21 => k_is)
    (case a24 => k_is)
    (case l24 => k_is)
    (case c24 => k_is)
    (case k24 => k_is)
    (case a25 => k_is)
    (case l25 => k_is)
    (case c25 => k_is)
    (case k25 => k_is)
    (case a26 => k_is)
    (case l26 => k_is)
    (case c26 => k_is)
    (case k26 => k_is)
    (case a27 => k_is)
    (case l27 => k_is)
    (case c27 => k_is)
    (case k27 => k_is)
    (case a28 => k_is)
    (case l28 => k_is)
    (case c28 => k_is)
    (case k28 => k_is)
    (case a29 => k_is)
    (case l29 => k_is)
    (case c29 => k_is)
    (case k29 => k_is)
    (case a30 => k_is)
    (case l30 => k_is)
    (case c30 => k_is)
    (case k30 => k_is)
    (case a31 => k_is)
    (case l31 => k_is)
    (case c31 => k_is)
    (case k31 => k_is)
    (case a32 => k_is)
    (case l32 => k_is)
    (case c32 => k_is)
    (case k32 => k_is)
    (case a33 => k_is)
    (case l33 => k_is)
    (case c33 => k_is)
    (case k33 => k_is)
    (case a34 => k_is)
    (case l34 => k_is)
    (case c34 => k_is)
    (case k34 => k_is)
    (case a35 => k_is)
    (case l35 => k_is)
    (case c35 => k_is)
    (case k35 => k_is)
    (case a36 => k_is)
    (case l36 => k_is)
    (case c36 => k_is)
    (case k36 => k_is)
    (case a37 => k_is)
    (case l37 => k_is)
    (case c37 => k_is)
    (case k37 => k_is)
    (case a38 => k_is)
    (case l38 => k_is)
    (case c38 => k_is)
    (case k38 => k_is)
    (case a39 => k_is)
    (case l39 => k_is)
    (case c39 => k_is)
    (case k39 => k_is)
    (case a40 => k_is)
    (case l40 => k_is)
    (case c40 => k_is)
    (case k40 => k_is)
    (case a42 => k_is)
    (case l42 => k_is)
    (case c42 => k_is)
    (case k42 => k_is)
    (case at0 => k_is)
    (case lt0 => k_is)
    (case ct0 => k_is)
    (case kt0 => k_is)
    (case at1 => k_is)
    (case lt1 => k_is)
    (case ct1 => k_is)
    (case kt1 => k_is)
    (case at2 => k_is)
    (case lt2 => k_is)
    (case ct2 => k_is)
    (case kt2 => k_is)
    (case at3 => k_is)
    (case lt3 => k_is)
    (case ct3 => k_is)
    (case kt3 => k_is)
    (case at4 => k_is)
    (case lt4 => k_is)
    (case ct4 => k_is)
    (case kt4 => k_is)
    (case at5 => k_is)
    (case lt5 => k_is)
    (case ct5 => k_is)
    (case kt5 => k_is)
    (case a41 => k_is)
    (case l41 => k_is)
    (case c41 => k_is)
    (case k41 => k_is)
    (case eg3 => k_is)
    (case ex3 => k_is)
    (case es3 => k_is)
    (case eb3 => k_is)
    (case et3 => k_is)
    (case ek3 => k_is)
    (case en3 => k_is)
    (case ei3 => k_is)
    (case ety3 => k_is)
    (case el3 => k_is)
    (case ec3 => k_is)
    (case eK3 => k_is)
    (case ega3 => k_is)
    (case egg3 => k_is)
    (case ehd3 => k_is)
    (case eg4 => k_is)
    (case ex4 => k_is)
    (case es4 => k_is)
    (case eb4 => k_is)
    (case et4 => k_is)
    (case ek4 => k_is)
    (case en4 => k_is)
    (case ei4 => k_is)
    (case ety4 => k_is)
    (case el4 => k_is)
    (case ec4 => k_is)
    (case eK4 => k_is)
    (case ega4 => k_is)
    (case egg4 => k_is)
    (case ehd4 => k_is)
    (case eg7 => k_is)
    (case ex7 => k_is)
    (case es7 => k_is)
    (case eb7 => k_is)
    (case et7 => k_is)
    (case ek7 => k_is)
    (case en7 => k_is)
    (case ei7 => k_is)
    (case ety7 => k_is)
    (case el7 => k_is)
    (case ec7 => k_is)
    (case eK7 => k_is)
    (case ega7 => k_is)
    (case egg7 => k_is)
    (case ehd7 => k_is)
    (case aS0 => k_is)
    (case aC => k_is)
    (case pg => k_is)
    (case hd => k_is)
    (case po => k_is)
    (case sa => k_is)
    (case cl => k_is)
    (case sp => k_is)
    (case tk => k_is)
    (case ob => k_is)
    (case kc => kit_is)
    (case ct => kit_is)
    (case kttuple => kit_is)
    (case n1 => k_is)
    (case n2 => k_is)
    (case n3 => k_is)
    (case n4 => k_is)
    (case mk => k_is)
    (case ini => k_is)
    (case fi22 => k_is)
    (case kC => k_is)
    (case l22 => k_is)
    (case c22 => k_is)
    (case k22 => k_is)
    (case lT => k_is)
    (case lE => k_is)
    (case pa1 => k_is)
    (case ps1 => k_is)
    (case pt1 => k_is)
    (case pr1 => k_is)
    (case pl1 => k_is)
    (case pc1 => k_is)
    (case pk1 => k_is)
    (case pa2 => k_is)
    (case ps2 => k_is)
    (case pt2 => k_is)
    (case pr2 => k_is)
    (case pl2 => k_is)
    (case pc2 => k_is)
    (case pk2 => k_is)
    (case pa3 => k_is)
    (case ps3 => k_is)
    (case pt3 => k_is)
    (case pr3 => k_is)
    (case pl3 => k_is)
    (case pc3 => k_is)
    (case pk3 => k_is)
    (case pa4 => k_is)
    (case ps4 => k_is)
    (case pt4 => k_is)
    (case pr4 => k_is)
    (case pl4 => k_is)
    (case pc4 => k_is)
    (case pk4 => k_is)
    (case ma0 => k_is)
    (case mi0 => k_is)
    (case mk0 => k_is)
    (case ml0 => k_is)
    (case mc0 => k_is)
    (case maq => k_is)
    (case miq => k_is)
    (case mkq => k_is)
    (case mlq => k_is)
    (case mcq => k_is)
    (case xC => k_is)
    (case lN => k_is)
    (case okN => rfl)
    (case nsq => k_is)
    (case nsn => k_is)
    (case z6 => k_is)
    (case z8 => k_is)
    (case z4 => k_is)
    (case gaS => k_is)
    (case laS => k_is)
    (case vaS => exact .cons ⟨_, rfl⟩ (.cons ⟨_, rfl⟩ (.cons ⟨_, rfl⟩ (.cons ⟨_, rfl⟩ .nil))))
    (case waS => rfl)
    (case gaM => k_is)
    (case laM => k_is)
    (case vaM => exact .cons ⟨_, rfl⟩ (.cons ⟨_, rfl⟩ (.cons ⟨_, rfl⟩ (.cons ⟨_, rfl⟩ .nil))))
    (case waM => rfl)
    (case gaN => k_is)
    (case laN => k_is)
    (case vaN => exact .cons ⟨_, rfl⟩ (.cons ⟨_, rfl⟩ (.cons ⟨_, rfl⟩ (.cons ⟨_, rfl⟩ .nil))))
    (case waN => rfl)
    (case y0 => k_is)
    (case y1 => k_is)
    (case y2 => k_is)
    (case y3 => k_is)
    (case y4 => k_is)
    (case y5 => k_is)
    (case y6 => k_is)
    (case y7 => k_is)
    (case y8 => k_is)
    (case y9 => k_is)
    (case y10 => k_is)
    (case y11 => k_is)
    (case y12 => k_is)
    (case y13 => k_is)
    (case y14 => k_is)
    (case aCR => k_is)
    (case pgR => k_is)
    (case hdR => k_is)
    (case poR => k_is)
    (case saR => k_is)
    (case n1R => k_is)
    (case n2R => k_is)
    (case mkR => k_is)
    (case kCR => k_is)
    (case neR => decide)
    (case ra0 => k_is)
    (case ri0 => k_is)
    (case rk0 => k_is)
    (case rl0 => k_is)
    (case rc0 => k_is)
    (case ra1 => k_is)
    (case ri1 => k_is)
    (case rk1 => k_is)
    (case rl1 => k_is)
    (case rc1 => k_is)
    (case ra2 => k_is)
    (case ri2 => k_is)
    (case rk2 => k_is)
    (case rl2 => k_is)
    (case rc2 => k_is)
    (case ra3 => k_is)
    (case ri3 => k_is)
    (case rk3 => k_is)
    (case rl3 => k_is)
    (case rc3 => k_is)
    (case ra4 => k_is)
    (case ri4 => k_is)
    (case rk4 => k_is)
    (case rl4 => k_is)
    (case rc4 => k_is)
    (case ra5 => k_is)
    (case ri5 => k_is)
    (case rk5 => k_is)
    (case rl5 => k_is)
    (case rc5 => k_is)
    (case ra6 => k_is)
    (case ri6 => k_is)
    (case rk6 => k_is)
    (case rl6 => k_is)
    (case rc6 => k_is)
    (case ra7 => k_is)
    (case ri7 => k_is)
    (case rk7 => k_is)
    (case rl7 => k_is)
    (case rc7 => k_is)
    (case gI => k_is)
    (case gD => k_is)
    (case lD => k_is)
    (case kD => exact ⟨⟨_, _, rfl, rfl⟩, ⟨_, _, rfl, rfl⟩, ⟨_, _, rfl, rfl⟩, ⟨_, _, rfl, rfl⟩, trivial⟩)
    (case mD => rfl)
    (case keyD => exact ⟨_, _, _, _, rfl⟩)
    (case x3 => kts_exm)
    (case x4 => kts_exm)
    (case x7 => kts_exm)
    (case ktsC => kit_is)
    (case vD1 => k_is)
    (case vD2 => k_is)
    (case vD3 => k_is)
    (case vD4 => k_is)
