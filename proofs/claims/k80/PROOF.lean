import PyProof.Rows.All
import Wide.All
import OpenK.AllK
import Wide.FinOn
import HandS.Base
import HandS.Call
import HandS.List
import HandS.Ends
import HandS.Exc
import HandS.ExcInit
import HandS.WideBits
import PyProof.ReprReads
import KE.KExcIs
import HandS.ExcField
import HandS.IsInst
import HandS.MakeKw
import HandS.ForMost
import HandS.ForExc
import HandS.EndBits
import HandS.Walk
import HandS.Property
import HandS.Strs
import KE.GoesMore
import HandS.TryMany
import HandS.WordsExc
import HandS.Conv
import HandS.TupSets
import HandS.OwnEq
import PyProof.InstNe
import HandS.Style
import PyProof.CallFns
import PyProof.ReprRoads
import HandS.More
import HandS.Text
import HandS.StrMore
import PyProof.Rows.StrCut
import HandS.FStr
import HandS.Small
import HandS.Comp
import HandS.ExcOwn
import HandS.TryOnly
import PyProof.Rows.StrSplitJoin
import HandS.RaiseMore
import HandS.TupMul
import HandS.Defaults
import PySem.Challenge.RW_pulledonce_k80_texts_of_programs
set_option Elab.async false
set_option linter.all false
set_option maxRecDepth 100000
set_option maxHeartbeats 4000000
/-! Rules of my own over the hand layer: powers of great ints, exceptions held as values, repr of data. -/
namespace VK
open PySem PySem.Spec PyProof.Rows L2

/-! ### powers -/
def PowOk (i j : Int) : Prop := 0 ≤ j ∧ (Builtin.Int.intBits i : Int) * j ≤ 2 ^ 27
theorem op_powB {X : Cx} : OpR X (binaryOp .Pow) (rI PowOk fun i j => .int (i ^ j.toNat)) :=
  opI fun _ _ _ _ _ _ _ hc q => pow_int hc.1 hc.2 q

/-! ### an exception of one's own, held as a value: its object exo, its dict exd -/
section
variable {X : Cx} {e : Expr} {es : List Expr} {te : TE} {ta : TA} {p pos : Pos}
def tErr (sp : Sp) (dvs : List V) (C : Addr) (ta : TA) : TE := fun σ H Q => ta σ H fun vs H1 => vs.length ≤ 1000 ∧
  ∀ a, H1 a = none → sp (.ref a :: (vs ++ dvs)) (upd H1 a (exo a C none)) (fun v H2 => v = .non ∧ Q (.ref a) H2) fun _ _ _ => False

/-- C(e, ..), C an own class over ValueError with its own __init__ -/
theorem pe_err {CX : CXT} {x : Str} {C fI : Addr} {k : Nat} {fd : FuncData} {ps : List Str} {sp : Sp} {ds : List Value} {dvs : List V}
    (T : OexC X.K C) (iC : PySem.W.findIn X.K (.ref C) "__init__" = some (some (.ref fI)))
    (tI : PySem.W.typeIn X.K (.ref fI) = some (.type "function"))
    (F1 : FnOk X.prog X.w X.K X.mg X.base CX k fI fd ps sp) (hr : Room (k + 1) X.A) (hb : Binds X.K fd ps ds) (hd : Vals dvs ds)
    (hx : Passes CX X (fun _ _ _ => False)) (hg : Gl X x) (hm : X.mg x = some (.ref C)) (ha : PA X (e :: es) ta)
    (hdb : (x == ("__debug__" : Str)) = false := by decide)
    (he : starEach (e :: es) X.env = (false, eval e X.env) :: starEach es X.env := by rfl)
    (hpl : (backTo pos (starEach es X.env)).any (·.1) = false := by rfl) :
    PE X (.Call (.Name x p) (e :: es) [] pos) (tErr sp dvs C ta) := by
  refine ⟨fun pins s σ H Q I h => ?_⟩
  obtain ⟨nm, q, N, bs, bm, sn, sub, ab, col, dd, k0, k1, k2, k3, k5, hC, hbm⟩ := T.cls
  refine wpAny_Call_Name_kw (ld_glob I hg hm ?_ hdb)
  refine PySem.W.callWith_K (h₀ := X.base) I.ok.mod.kin T.kC (thn (ha.run pos pins s σ H _ I h) fun us s1 ha1 => ?_) he hpl
  obtain ⟨vs, H1, I1, r1, hz, q1⟩ := ha1
  refine ⟨I1.kIn, ?_⟩
  show wpAny _ _ (call (.ref C) us) _ _ _
  obtain ⟨hp, g, dr, tk, os⟩ := s1
  generalize hA : hp.objs.size + 1 = aa at *
  have hle : hp.objs.size ≤ aa := by omega
  have hnew : H1 aa = none := I1.hok.fresh hle
  have want := q1 aa hnew
  have keepAll : ∀ b o, hp.get? b = some o →
      ((hp.push (PySem.W.kdv_tup us)).push (PySem.HandSPX.excO C hp.objs.size)).get? b = some o :=
    fun b o e => Heap.get?_push_of_some _ (Heap.get?_push_of_some _ e)
  have at2 : ((hp.push (PySem.W.kdv_tup us)).push (PySem.HandSPX.excO C hp.objs.size)).get? aa =
      some (PySem.HandSPX.excO C hp.objs.size) := by
    subst hA
    heap_get
  have I2 : Inv X pins σ (upd H1 aa (exo aa C none))
      ⟨(hp.push (PySem.W.kdv_tup us)).push (PySem.HandSPX.excO C hp.objs.size), g, dr, tk, os⟩ :=
    I1.laid (t' := tk) (o := exo aa C none) keepAll hle (exo_ok at2)
  have r2 : Vals (V.ref aa :: (vs ++ dvs)) (Value.ref aa :: (us ++ ds)) := .cons rfl (r1.append hd)
  have hl : (Value.ref aa :: us ++ ds).length = ps.length := by
    have e0 := r2.length
    rw [F1.len _ _ _ _ want] at e0
    exact e0.symm
  have hus : us.length ≤ sizeLine := by
    rw [← Paired.length r1, sizeLine_eq]
    omega
  subst hA
  refine wpAny_call (PySem.HandSPX.call_own F.excBase_ValueError
    (fun Y => PySem.HandSPX.refsVE_contains Y bm hbm) (I1.kIn _ _ hC) (PySem.W.looks_findIn I1.kIn iC)
    (fun self => PySem.W.bind_fn I1.kIn self tI) hus ?_)
  refine codeAny_mono (F1.run _ X.stack _ _ ⟨_ :: us, []⟩ (_ :: (us ++ ds)) _ _ (fun _ _ _ => False)
    (hr.make C us []) (I2.env0.make C us []) (hb _ (_ :: us) I2.kIn hl) r2 want) fun r s' hq' => ?_
  cases r with
  | error er => exact hx pins σ _ _ er s' I2 hq'
  | ok fl =>
    cases fl with
    | ret u =>
      obtain ⟨v, H2, I3, rv, ev, q2⟩ := I2.after hq'
      subst ev
      exact ⟨rv, .ref _, H2, I3, rfl, q2⟩
    | next => exact hq'.elim
    | brk => exact hq'.elim
    | cont => exact hq'.elim
end
end VK
set_option Elab.async false
set_option linter.all false
set_option maxRecDepth 100000
set_option maxHeartbeats 4000000
namespace VK
open PySem PySem.Spec PyProof.Rows L2

/-! ### repr of a list of data; a dict of scalars may stand among its items -/
def keyD : Key → PyData
  | .inl i => .int i
  | .inr x => .str x
/-- scalars as data -/
inductive ScD : V → PyData → Prop where
  | non : ScD .non .none
  | bl (b : Bool) : ScD (.bl b) (.bool b)
  | int (i : Int) : ScD (.int i) (.int i)
  | str (x : Str) : ScD (.str x) (.str x)
inductive ShwV (K : PySem.W.Frag) (H : Hp) : V → PyData → Prop where
  | data {x : V} {d : PyData} (h : Dp K H x d) (n : d.hasDict = false) : ShwV K H x d
  | dct {p : Addr} {kvs : List (Key × V)} {des : List (PyData × PyData)} (e : H p = some (.dK kvs))
      (r : Paired (fun kv de => de.1 = keyD kv.1 ∧ ScD kv.2 de.2) kvs des) : ShwV K H (.ref p) (.dict des)
inductive ShwAll (K : PySem.W.Frag) (H : Hp) : List V → List PyData → Prop where
  | nil : ShwAll K H [] []
  | cons {x : V} {d : PyData} {xs : List V} {ds : List PyData} : ShwV K H x d → ShwAll K H xs ds → ShwAll K H (x :: xs) (d :: ds)
theorem ScD.reads {x : V} {d : PyData} {u : Value} {h : Heap} (k : ScD x d) (r : RelV x u) : Reads h u d [] := by
  cases k with
  | non => cases r; exact .none
  | bl b => cases r; exact .bool b
  | int i => obtain ⟨t, rfl⟩ := r; exact .int i t
  | str x => obtain ⟨t, rfl⟩ := r; exact .str x t
section
variable {X : Cx} {pins : List (Addr × Obj)} {σ : L2.St} {H : Hp} {s : Shared}
theorem dict_reads {h : Heap} : ∀ (kvs : List (Key × V)) (des : List (PyData × PyData)) (vs : List (Key × Value)) (es : List DictEntry),
    Paired (fun kv de => de.1 = keyD kv.1 ∧ ScD kv.2 de.2) kvs des → KV kvs vs → Pairs (mixKind X.prog X.w) es vs →
    ReadsAll h (es.map (·.key)) (des.map (·.1)) [] ∧ ReadsAll h (es.map (·.val)) (des.map (·.2)) []
  | [], des, vs, es, ra, rb, rc => by
    cases ra
    cases rb
    cases rc
    exact ⟨.nil, .nil⟩
  | kv :: kvs, des, vs, es, ra, rb, rc => by
    cases ra with
    | @cons _ de _ des a ra =>
      cases rb with
      | @cons _ kv2 _ vs b rb =>
        cases rc with
        | @cons e _ es _ c1 c2 rc =>
          obtain ⟨a1, a2⟩ := a
          obtain ⟨b1, b2⟩ := b
          obtain ⟨i1, i2⟩ := dict_reads kvs des vs es ra rb rc
          have c3 : keyIs kv2.1 e.key = true := c1
          have k1 : Reads h e.key de.1 [] := by
            rw [a1, b1]
            rcases keyIs_shape c3 with ⟨i, t, e1, e2⟩ | ⟨x, t, e1, e2⟩
            · rw [e2, e1]; exact .int i t
            · rw [e2, e1]; exact .str x t
          have k2 : Reads h e.val de.2 [] := by
            rw [c2]
            exact a2.reads b2
          exact ⟨ReadsAll.cons (as := []) (bs := []) k1 i1, ReadsAll.cons (as := []) (bs := []) k2 i2⟩
theorem ShwV.reads (I : Inv X pins σ H s) {x : V} {d : PyData} {u : Value} (k : ShwV X.K H x d) (r : RelV x u) :
    ∃ as, Reads s.heap u d as ∧ (d.hasDict = true → sysModules ∉ as) := by
  cases k with
  | data h n =>
    obtain ⟨as, q⟩ := Dp.reads I _ _ _ h r
    exact ⟨as, q, fun z => by rw [n] at z; cases z⟩
  | @dct p kvs des e rr =>
    cases r
    have ob : ObjOk X.prog X.w H s.heap p (.dK kvs) := I.hok p _ e
    obtain ⟨_, hs, vs, kv, o, es, ep, ho, ex, hd, _, pr, _⟩ := ob
    obtain ⟨i1, i2⟩ := dict_reads (X := X) (h := s.heap) _ _ _ _ rr kv pr
    refine ⟨[p], Reads.dict (as := []) (bs := []) ho ex.1 hd i1 i2, fun _ hm => ?_⟩
    have e2 : sysModules = p := by simpa using hm
    rw [e2] at hs
    simp at hs
theorem shw_all (I : Inv X pins σ H s) : ∀ {xs : List V} {ds : List PyData} {us : List Value}, ShwAll X.K H xs ds → Vals xs us →
    PyData.showableAll ds = true → (∀ t ∈ PyData.shownAll ds, t.length ≤ sizeLine) →
    (∃ as, ReadsAll s.heap us ds as) ∧ ∃ bs, ReadAtMost s.heap (PyData.depthAll ds) bs ∧
      ReprAllK X.prog X.w bs s.heap (PyData.depthAll ds) us (PyData.shownAll ds)
  | _, _, _, .nil, .nil, _, _ => ⟨⟨_, .nil⟩, [], (fun _ h => by cases h), by simp only [PyData.shownAll]; exact .nil⟩
  | _, _, _, .cons (d := d) (ds := ds) k ks, .cons r rs, hs, hz => by
    have hs2 : d.showable = true ∧ PyData.showableAll ds = true := by simpa [PyData.showableAll] using hs
    obtain ⟨as, q1, q2⟩ := k.reads I r
    have hz1 : d.shown.length ≤ sizeLine := hz _ (by simp only [PyData.shownAll]; exact List.mem_cons_self ..)
    obtain ⟨b1, m1, k1⟩ := ReprK.of_reads (prog := X.prog) (w := X.w) q1 hs2.1 q2 hz1
    obtain ⟨⟨as2, q3⟩, b2, m2, k2⟩ := shw_all I ks rs hs2.2 fun t ht => hz t (by simp only [PyData.shownAll]; exact List.mem_cons_of_mem _ ht)
    refine ⟨⟨_, .cons q1 q3⟩, b1 ++ b2, ?_, ?_⟩
    · have a1 : d.depth ≤ PyData.depthAll (d :: ds) := by simp only [PyData.depthAll]; exact Nat.le_max_left ..
      have a2 : PyData.depthAll ds ≤ PyData.depthAll (d :: ds) := by simp only [PyData.depthAll]; exact Nat.le_max_right ..
      exact (m1.mono a1).append (m2.mono a2)
    · simp only [PyData.depthAll, PyData.shownAll]
      refine .cons ((k1.more fun b hb => List.mem_append_left _ hb).level_le (Nat.le_max_left ..)) ?_
      exact k2.more_le (fun b hb => List.mem_append_right _ hb) (Nat.le_max_right ..)
end
def rShow (K : PySem.W.Frag) : List V → Hp → VK → Prop := fun vs H Q => ∃ (p : Addr) (xs : List V) (ds : List PyData),
  vs = [.ref p] ∧ SqL K H p xs ∧ ShwAll K H xs ds ∧ PyData.showableAll ds = true ∧ (listText (PyData.shownAll ds)).length ≤ sizeLine ∧
    PyData.depthAll ds ≤ 40 ∧ Q (.str (listText (PyData.shownAll ds))) H
theorem call_show {X : Cx} (hg : X.A.guards = some []) (hu : X.A.units + 64 < cLine) : CallR X (.builtin "repr") (rShow X.K) := by
  intro pins s σ H vs us Q I r h
  obtain ⟨p, xs, ds, rfl, hS, hA, sh, hz, hd, q⟩ := h
  obtain ⟨u, rfl, ru⟩ := vals1 r
  cases ru
  obtain ⟨its, rv, ⟨o, n, ho, hc, _, hdat⟩, _⟩ := I.list hS
  obtain ⟨⟨as, ra⟩, bs, mb, hk⟩ := shw_all I hA rv sh fun t ht => Nat.le_trans (listText_mem_le ht) hz
  have hna : p ∉ bs := not_mem_of_deeper (Reads.list ho hc hdat ra) (by simp only [PyData.depth]; omega) mb
  have fin : ∀ (h' : Heap) (u : Tok) (tk : Nat), (∀ b o, s.heap.get? b = some o → h'.get? b = some o) →
      EP X pins σ Q (.str (listText (PyData.shownAll ds)) u) { s with heap := h', toks := tk } :=
    fun h' u tk k => ⟨.str _, H, I.kept k, ⟨u, rfl⟩, q⟩
  refine call_repr_slot (by omega) ⟨o, ho, hc⟩ F.slot_list_repr.toG ?_
  have hg2 : X.A.in1.guards = some [] := hg
  cases rv with
  | nil =>
    cases hA
    simp only [PyData.shownAll, listText_nil] at fin
    exact call_list_repr_empty ⟨o, ho, hc⟩ ho hdat ⟨_, _, rfl, fin s.heap _ _ fun _ _ e => e⟩
  | cons r1 r2 =>
    refine call_list_reprK ho hc hdat hna (by simpa using hk.length_eq) (fun i y e => hk.item i y (by simpa using e)) hg2 (fun b _ => Clear.nil b) ?_ (fun _ _ e => e) (fun h' u tk k => ⟨_, _, rfl, fin h' u tk k⟩) hz
    show X.A.units + 1 + _ < cLine
    omega
end VK
set_option Elab.async false
set_option linter.all false
set_option maxRecDepth 100000
set_option maxHeartbeats 4000000
namespace VK
open PySem PySem.Spec PyProof.Rows L2

/-! ### a held exception's field; isinstance of it -/
/-- at a an exception of the class at C with the fields fs -/
def ErrAt (H : Hp) (a C : Addr) (fs : List (Str × V)) : Prop := ∃ d, H a = some (exo a C (some d)) ∧ H d = some (exd d fs)
theorem ErrAt.same {H H' : Hp} {a C : Addr} {fs : List (Str × V)} (k : ErrAt H a C fs) (s : Same H H') : ErrAt H' a C fs := by
  obtain ⟨d, e1, e2⟩ := k
  exact ⟨d, s _ _ e1, s _ _ e2⟩
theorem ErrAt.inst {X : Cx} {pins : List (Addr × Obj)} {σ : L2.St} {H : Hp} {s : Shared} {a C : Addr} {fs : List (Str × V)}
    (I : Inv X pins σ H s) (k : ErrAt H a C fs) : ∃ (oe od : Obj) (mA : Str → Option Value),
      PySem.W.InstAt s.heap a oe C (some od) ∧ (∀ n, PySem.W.lookIn n od = some (mA n)) ∧ ∀ f, RelO (fs.lookup f) (mA f) := by
  obtain ⟨d, e1, e2⟩ := k
  obtain ⟨t1, ho⟩ := exo_at I.hok e1
  obtain ⟨mA, hns, hr⟩ := exd_at I.hok e2
  obtain ⟨od, hd, hl⟩ := lookIn_ns hns
  exact ⟨_, od, mA, ⟨ho, rfl, rfl, hd⟩, hl, hr⟩
def tErrF (K : PySem.W.Frag) (f : Str) (te : TE) : TE := fun σ H Q => te σ H fun x H1 => ∃ (a C : Addr) (fs : List (Str × V)) (v : V),
  x = .ref a ∧ XfC K C ∧ PySem.W.findIn K (.ref C) f = some none ∧ ErrAt H1 a C fs ∧ fs.lookup f = some v ∧ Q v H1
theorem pe_errF {X : Cx} {e : Expr} {te : TE} {pos : Pos} {f : Str} (he : PE X e te)
    (hb : attributeBase e f X.env (eval e X.env) = eval e X.env := by rfl) : PE X (.Attribute e f pos) (tErrF X.K f te) := by
  refine ⟨fun pins s σ H Q I h => ?_⟩
  refine attr_of hb (thn (he.run pins s σ H _ I h) fun u s1 hh => ?_)
  obtain ⟨x, H1, I1, rx, a, C, fs, v, ex, T, hno, k, l, q⟩ := hh
  subst ex
  obtain rfl : u = Value.ref a := rx
  obtain ⟨oe, od, mA, J, hl, hr⟩ := k.inst I1
  obtain ⟨u, hu, ru⟩ := RelO.some_of (v := v) (o := mA f) (by rw [← l]; exact hr f)
  refine HandSPX.exc_get I1.kIn J T.ga T.gg T.exC ?_ (handed_of ru) ⟨v, H1, I1.tok _, ru, q⟩
  exact PySem.W.findObj_own T.hdC hno rfl (by rw [hl, hu])

/-- what the class must say for isinstance -/
structure ErrI (K : PySem.W.Frag) (C : Addr) : Prop where
  xf : XfC K C
  cl : PySem.W.findIn K (.ref C) "__class__" = some (some (.builtin "object.__class__"))
  sp : PySem.W.specialIn K (.builtin "object.__class__") "__get__" = some (some (.builtin "getset_descriptor.__get__"))
  tk : PySem.W.takesIn K (.builtin "object.__class__") = some true
  ob : PySem.W.mroIn K C (.type "object") = some true
  is : (PySem.W.clsIn K C).isSome = true
def rErrIs (K : PySem.W.Frag) : List V → Hp → VK → Prop := fun vs H Q => ∃ (a C : Addr) (fs : List (Str × V)) (c : V) (cv : Value) (b : Bool),
  vs = [.ref a, c] ∧ ErrI K C ∧ ErrAt H a C fs ∧ ClsV c cv ∧ PySem.W.kitOne K (.ref C) cv = some b ∧ Q (.bl b) H
theorem call_errIs {X : Cx} : CallR X (.builtin "isinstance") (rErrIs X.K) := by
  intro pins s σ H vs us Q I r h
  obtain ⟨a, C, fs, c, cv, b, rfl, T, k, hc, e, q⟩ := h
  obtain ⟨u1, u2, rfl, r1, r2⟩ := vals2 r
  cases r1
  have e2 := hc.eq r2
  subst e2
  obtain ⟨oe, od, mA, J, _, _⟩ := k.inst I
  refine PySem.W.kia_one (PySem.W.kitx_exc (od := some od) T.is T.xf.ga T.xf.gg T.xf.exC T.cl T.sp T.tk T.ob) I.kIn J e (fun z => nomatch z) fun tk => ?_
  exact ⟨.bl b, H, I.tok tk, rfl, q⟩
/-- either rule for a call of a built-in -/
theorem CallR.or {X : Cx} {f : Value} {r r' : List V → Hp → VK → Prop} (h : CallR X f r) (h' : CallR X f r') :
    CallR X f (fun vs H Q => r vs H Q ∨ r' vs H Q) := fun pins s σ H xs us Q I rv q => q.elim (h pins s σ H xs us Q I rv) (h' pins s σ H xs us Q I rv)
end VK
set_option Elab.async false
set_option linter.all false
set_option maxRecDepth 100000
set_option maxHeartbeats 4000000
/-! an own exception made by a call with one keyword -/
namespace VKX
open PySem PySem.HandSPX PySem.Builtin PySem.Builtin.ObjectAttr
section
variable {prog : Program} {w : World} {A : Around} {E : Value → Shared → Prop} {R : Result → Shared → Prop} {h : Heap} {g : Array GenState} {d : Drawn} {t : Nat} {os : OsState}
variable {nm q f : Str} {v : Value} {C N : Addr} {bs bm bmB : List Value} {hdct : Bool} {sn : List Str} {sub : List Value} {ab : Bool} {col : Option Bool} {dd : Option Addr} {k0 k1 k2 k3 k5 : Option Value} {B newId initId : String}
theorem kw_check (F : ExcBaseFacts B newId initId bmB) (hT : ∀ X : String, bm.contains (.type X) = bmB.contains (.type X)) {Q : Unit → Shared → Prop}
    (hC : h.get? C = some (excClassObj nm q C N bs bm hdct sn sub ab col dd k0 k1 k2 k3 k5 newId)) (hq : Q () ⟨h, g, d, t, os⟩) :
    wpAny (model prog w) A (checkBuiltinCall newId ⟨[.ref C], [(f, v)]⟩) Q E ⟨h, g, d, t, os⟩ := by
  have inB : (Value.ref C :: bm).contains (.type B) = true := by
    rw [List.contains_cons, hT, F.hasB]
    exact Bool.or_true _
  have star := F.noStar
  simp only [checkBuiltinCall, F.newKind, F.newSplit, F.newRow]
  repeat (first
    | refine wpAny_loadPart_at hC ?_
    | (refine wpAny_isSubtype_exc hC ?_; rw [inB])
    | refine wpAny_staticBase_exc hC ?_
    | refine wpAny_madeBy_exc hC ?_
    | simp only [bne_self_eq_false, Bool.false_eq_true, if_false]
    | wp_step)
  exact hq
theorem kw_new (F : ExcBaseFacts B newId initId bmB) (hT : ∀ X : String, bm.contains (.type X) = bmB.contains (.type X))
    (hC : h.get? C = some (excClassObj nm q C N bs bm hdct sn sub ab col dd k0 k1 k2 k3 k5 newId))
    (hq : R (.ok (.ret (.ref (h.objs.size + 1)))) ⟨(h.push (W.kdv_tup [])).push (excO C h.objs.size), g, d, t, os⟩) :
    codeAny (model prog w) A (.builtin newId ⟨[.ref C], [(f, v)]⟩) R ⟨h, g, d, t, os⟩ := by
  have ends := F.ends
  have inB : (Value.ref C :: bm).contains (.type B) = true := by
    rw [List.contains_cons, hT, F.hasB]
    exact Bool.or_true _
  have noA : (Value.ref C :: bm).contains (.type "AttributeError") = false := by
    rw [List.contains_cons, hT, F.noAttr]
    exact rfl
  have noN : (Value.ref C :: bm).contains (.type "NameError") = false := by
    rw [List.contains_cons, hT, F.noName]
    exact rfl
  refine codeAny_builtinAt F.entry ?_
  unfold Builtin.«BaseException.__new__»
  refine wpAt_bind ?_
  show wpAt _ _ _ (stack >>= _) _ _ _
  refine wpAt_bind (wpAt_stack fun p below => wpAt_of_wpAny ?_)
  wp_walk
  refine wpAt_of_wpAny ?_
  rw [F.owner]
  repeat (first
    | with_reducible refine wpAny_madeHere_exc F.canon hC ?_
    | with_reducible refine wpAny_loadPart_at hC ?_
    | (with_reducible refine wpAny_isSubtype_exc hC ?_; first | rw [inB] | rw [noA] | rw [noN])
    | wp_step)
  show R _ _
  rw [Heap.size_push]
  exact hq
theorem kw_call {fI : Addr} (F : ExcBaseFacts B newId initId bmB) (hT : ∀ X : String, bm.contains (.type X) = bmB.contains (.type X))
    (hC : h.get? C = some (excClassObj nm q C N bs bm hdct sn sub ab col dd k0 k1 k2 k3 k5 newId))
    (hi : W.Looks (model prog w) h (typeLookup (.ref C) "__init__") (some (.ref fI)))
    (hb : ∀ self, W.Looks (model prog w) h (bindSpecial (.ref fI) self) (.ref fI, [self]))
    (hq : codeAny (model prog w) (A.under (.builtin "type.__call__" ⟨[.ref C], [(f, v)]⟩))
      (.call (.ref fI) ⟨[.ref (h.objs.size + 1)], [(f, v)]⟩) (W.InitBack (h.objs.size + 1) R)
      ⟨(h.push (W.kdv_tup [])).push (excO C h.objs.size), g, d, t, os⟩) :
    codeAny (model prog w) A (.call (.ref C) ⟨[], [(f, v)]⟩) R ⟨h, g, d, t, os⟩ := by
  have f1 := tc_lookup
  have f2 := tc_bind (.ref C)
  have hTy : (⟨h, g, d, t, os⟩ : Shared).TypeIs (.ref C) "type" := ⟨_, hC, rfl⟩
  refine codeAny_of_tree ?_
  show wpAny _ _ (callAny (.ref C) _) _ _ _
  repeat (any_goals (first
    | assumption
    | with_reducible refine wpAny_loadPart_at hC ?_
    | wp_step))
  refine ⟨rfl, ?_⟩
  refine codeAny_call_builtin_at (Code.quiet_builtin _ (by decide +kernel)) entry_typeCall ?_
  refine wpAny_check_type_call_sub hC ?_
  repeat (first
    | with_reducible refine wpAny_loadPart_at hC ?_
    | with_reducible refine wpAny_madeBy_exc hC ?_
    | wp_step)
  refine codeAny_call_builtin_code (Code.quiet_builtin _ F.quiet) (kw_check F hT hC ?_)
  refine kw_new F hT hC ?_
  show wpAny _ _ _ _ _ _
  have k : ∀ b o, h.get? b = some o → ((h.push (W.kdv_tup [])).push (excO C h.objs.size)).get? b = some o :=
    fun b o e => Heap.get?_push_of_some _ (Heap.get?_push_of_some _ e)
  have hC2 := k _ _ hC
  have at2 : ((h.push (W.kdv_tup [])).push (excO C h.objs.size)).get? (h.objs.size + 1) = some (excO C h.objs.size) := by
    heap_get
  have inC : (Value.ref C :: bm).contains (.ref C) = true := by simp
  have i1 := hi.keeps k
  have b1 := (hb (.ref (h.objs.size + 1))).keeps k
  unfold isInstance
  repeat (first
    | with_reducible refine wpAny_loadPart_at at2 ?_
    | (with_reducible refine wpAny_isSubtype_exc hC2 ?_; rw [inC])
    | wp_step)
  show wpAny _ _ (typeLookup (.ref C) _) _ _ _
  refine i1.at ?_
  refine wpAny_holding (wpAny_bind (b1.at ?_))
  refine wpAny_bind (wpAny_call (codeAny_mono hq fun r s' z => ?_))
  rcases r with e | (_ | _ | _ | _)
  all_goals (first | exact z | exact z.elim | skip)
  obtain ⟨rfl, z⟩ := z
  first
    | exact wpAny_pure (wpAny_pure z)
    | (wp_walk; done)
    | (wp_walk; exact z)
end
end VKX
set_option Elab.async false
set_option linter.all false
set_option maxRecDepth 100000
set_option maxHeartbeats 4000000
namespace VK
open PySem PySem.Spec PyProof.Rows L2
section
variable {X : Cx} {e : Expr} {te : TE} {p pos kpos : Pos}
def tErrK (sp : Sp) (C : Addr) (te : TE) : TE := fun σ H Q => tCons te tNil σ H fun vs H1 => ∃ y, vs = [y] ∧
  ∀ a, H1 a = none → sp [.ref a, y] (upd H1 a (exo a C none)) (fun v H2 => v = .non ∧ Q (.ref a) H2) fun _ _ _ => False
/-- C(f = e) -/
theorem pe_errK {CX : CXT} {x f self : Str} {C fI : Addr} {k : Nat} {fd : FuncData} {sp : Sp}
    (T : OexC X.K C) (iC : PySem.W.findIn X.K (.ref C) "__init__" = some (some (.ref fI)))
    (tI : PySem.W.typeIn X.K (.ref fI) = some (.type "function"))
    (F1 : FnOk X.prog X.w X.K X.mg X.base CX k fI fd [self, f] sp) (hr : Room (k + 1) X.A)
    (hb : ∀ (s : Shared) (u v : Value), BindsTo s fd ⟨[u], [(f, v)]⟩ [(self, u), (f, v)])
    (hx : Passes CX X (fun _ _ _ => False)) (hg : Gl X x) (hm : X.mg x = some (.ref C)) (he : PE X e te)
    (hdb : (x == ("__debug__" : Str)) = false := by decide)
    (hall : (backToKw pos (keywordEach [⟨some f, e, kpos⟩] X.env)).all (·.1.isSome) = true := by rfl)
    (hks : (backToKw pos (keywordEach [⟨some f, e, kpos⟩] X.env)).filterMap (·.1) = [f] := by rfl)
    (hpl : ((backTo pos (starEach [] X.env)).any (·.1) || (backToKw pos (keywordEach [⟨some f, e, kpos⟩] X.env)).any (·.1.isNone)) = false := by rfl) :
    PE X (.Call (.Name x p) [] [⟨some f, e, kpos⟩] pos) (tErrK sp C te) := by
  refine ⟨fun pins s σ H Q I h => ?_⟩
  obtain ⟨nm, q, N, bs, bm, sn, sub, ab, col, dd, k0, k1, k2, k3, k5, hC, hbm⟩ := T.cls
  refine wpAny_Call_Name_kw (ld_glob I hg hm ?_ hdb)
  refine PySem.W.callWith_KW0 (h₀ := X.base) I.ok.mod.kin T.kC hall ?_ hpl
  rw [hks]
  refine thn ((pk_cons he pk_nil).run pos pins s σ H _ I h) fun us s1 ha1 => ?_
  obtain ⟨vs, H1, I1, r1, y, ey, q1⟩ := ha1
  subst ey
  obtain ⟨u, rfl, ru⟩ := vals1 r1
  refine ⟨I1.kIn, ?_⟩
  show wpAny _ _ (call (.ref C) [] [(f, u)]) _ _ _
  obtain ⟨hp, g, dr, tk, os⟩ := s1
  generalize hA : hp.objs.size + 1 = aa at *
  have hle : hp.objs.size ≤ aa := by omega
  have hnew : H1 aa = none := I1.hok.fresh hle
  have want := q1 aa hnew
  have keepAll : ∀ b o, hp.get? b = some o →
      ((hp.push (PySem.W.kdv_tup [])).push (PySem.HandSPX.excO C hp.objs.size)).get? b = some o :=
    fun b o e => Heap.get?_push_of_some _ (Heap.get?_push_of_some _ e)
  have at2 : ((hp.push (PySem.W.kdv_tup [])).push (PySem.HandSPX.excO C hp.objs.size)).get? aa =
      some (PySem.HandSPX.excO C hp.objs.size) := by
    subst hA
    heap_get
  have I2 : Inv X pins σ (upd H1 aa (exo aa C none))
      ⟨(hp.push (PySem.W.kdv_tup [])).push (PySem.HandSPX.excO C hp.objs.size), g, dr, tk, os⟩ :=
    I1.laid (t' := tk) (o := exo aa C none) keepAll hle (exo_ok at2)
  have r2 : Vals [V.ref aa, y] [Value.ref aa, u] := .cons rfl (.cons ru .nil)
  subst hA
  refine wpAny_call (VKX.kw_call F.excBase_ValueError
    (fun Y => PySem.HandSPX.refsVE_contains Y bm hbm) (I1.kIn _ _ hC) (PySem.W.looks_findIn I1.kIn iC)
    (fun self => PySem.W.bind_fn I1.kIn self tI) ?_)
  refine codeAny_mono (F1.run _ X.stack _ _ ⟨[_], [(f, u)]⟩ [_, u] _ _ (fun _ _ _ => False)
    (hr.make C [] [(f, u)]) (I2.env0.make C [] [(f, u)]) (hb _ _ u) r2 want) fun r s' hq' => ?_
  cases r with
  | error er => exact hx pins σ _ _ er s' I2 hq'
  | ok fl =>
    cases fl with
    | ret u =>
      obtain ⟨v, H2, I3, rv, ev, q2⟩ := I2.after hq'
      subst ev
      exact ⟨rv, .ref _, H2, I3, rfl, q2⟩
    | next => exact hq'.elim
    | brk => exact hq'.elim
    | cont => exact hq'.elim
end
end VK
set_option Elab.async false
set_option linter.all false
set_option maxRecDepth 100000
set_option maxHeartbeats 4000000
namespace K80
open PySem L2 VK
abbrev Fg := PySem.W.Frag
def top (i : Nat) : Stmt := PySem.Challenge.pw_pulledonce_k80_texts_of_programs.main.body.getD i (.Pass ⟨0, 0, 0, 0⟩)
abbrev sIsInt : Stmt := top 15
abbrev sIsName : Stmt := top 16
abbrev sIsNum : Stmt := top 17
abbrev sIsStage : Stmt := top 18
theorem same_new {H : Hp} {p : Addr} {o : HO} (h : H p = none) : Same H (upd H p o) := fun b u e => by
  rw [upd_ne (ne_of_none e h)]
  exact e
/-- the built-ins by name -/
structure Nm (mg : Str → Option Value) : Prop where
  len : mg "len" = none
  int : mg "int" = none
  bool : mg "bool" = none
  str : mg "str" = none
  tup : mg "tuple" = none
  lst : mg "list" = none
  all : mg "all" = none
  any : mg "any" = none
  max : mg "max" = none
  min : mg "min" = none
  set : mg "set" = none
  range : mg "range" = none
  isi : mg "isinstance" = none
  enm : mg "enumerate" = none
  repr : mg "repr" = none
theorem boot_all' : bootBuiltins "all" = some (.builtin "all") := by decide +kernel
theorem boot_bool' : bootBuiltins "bool" = some (.type "bool") := by decide +kernel
theorem boot_str' : bootBuiltins "str" = some (.type "str") := by decide +kernel
theorem boot_tup' : bootBuiltins "tuple" = some (.type "tuple") := by decide +kernel
/-- the constants of the module -/
structure Cst (K : Fg) (mg : Str → Option Value) (aS a1 a2 : Addr) : Prop where
  most : ∃ t, mg "MOST_STAGES" = some (.int 6 t)
  lett : ∃ t, mg "MOST_LETTERS" = some (.int 8 t)
  great : ∃ t, mg "GREATEST_NUMBER" = some (.int 4 t)
  gS : mg "SOURCES" = some (.ref aS)
  g1 : mg "STAGES_WITH_NAME" = some (.ref a1)
  g2 : mg "STAGES_WITH_NUMBER" = some (.ref a2)
  hS : ∀ H : Hp, SqT K H aS [.str "a", .str "b", .str "c", .str "d"]
  h1 : ∀ H : Hp, SqT K H a1 [.str "map", .str "keep", .str "while", .str "after"]
  h2 : ∀ H : Hp, SqT K H a2 [.str "take", .str "skip", .str "lots", .str "gather"]
/-! ### is_integer, is_name, is_stage_number -/
def spIsInt (K : Fg) : Sp := fun vs H Q _ => ∃ (v : V) (t : String) (b c : Bool), vs = [v] ∧ TyX K H v (.type t) ∧ kitB t "int" = some b ∧ kitB t "bool" = some c ∧ Q (.bl (b && !c)) H
def okSign (c : Nat) : Bool := decide (97 ≤ c) && decide (c ≤ 122)
def isNm (z : Str) : Bool := decide (1 ≤ z.length) && (decide (z.length ≤ 8) && z.cps.toList.all okSign)
def spIsName (K : Fg) : Sp := fun vs H Q _ => ∃ v : V, vs = [v] ∧
  ((∃ z : Str, v = .str z ∧ z.length ≤ 1000 ∧ ∀ H', Same H H' → Q (.bl (isNm z)) H') ∨ ∃ t : String, TyX K H v (.type t) ∧ kitB t "str" = some false ∧ Q (.bl false) H)
def okNum (i : Int) : Bool := decide (1 ≤ i) && decide (i ≤ 4)
def spIsNum (K : Fg) : Sp := fun vs H Q _ => ∃ v : V, vs = [v] ∧
  ((∃ i : Int, v = .int i ∧ Q (.bl (okNum i)) H) ∨ ∃ (t : String) (b c : Bool), TyX K H v (.type t) ∧ kitB t "int" = some b ∧ kitB t "bool" = some c ∧ (b && !c) = false ∧ Q (.bl false) H)
theorem scInt : FnScope ["value"] ["value"] (defScope sIsInt) := ⟨rfl, rfl, rfl, by decide +kernel, rfl, by decide +kernel, by decide +kernel⟩
theorem scName : FnScope ["value", "letter"] ["value"] (defScope sIsName) := ⟨rfl, rfl, rfl, by decide +kernel, rfl, by decide +kernel, by decide +kernel⟩
theorem scNum : FnScope ["value"] ["value"] (defScope sIsNum) := ⟨rfl, rfl, rfl, by decide +kernel, rfl, by decide +kernel, by decide +kernel⟩
theorem sign_le (a c : Nat) : (!decide ([c] < [a])) = decide (a ≤ c) := by
  have : ([c] < [a]) ↔ c < a := by
    constructor
    · intro h
      cases h with
      | rel h => exact h
      | cons h => cases h
    · intro h
      exact List.Lex.rel h
  by_cases h : a ≤ c
  · rw [decide_eq_true h, decide_eq_false]
    · rfl
    · rw [this]; omega
  · rw [decide_eq_false h, decide_eq_true]
    · rfl
    · rw [this]; omega
section
variable {P : Program} {w : World} {K : Fg} {mg : Str → Option Value} {base : Heap} {aS a1 a2 : Addr}
theorem ok_isInt {f : Addr} {fd : FuncData} (F : Fun K "is_integer" "is_integer" sIsInt f fd) (N : Nm mg) : FnOk P w K mg base CX0 1 f fd ["value"] (spIsInt K) := by
  refine F.ok scInt (fun vs H Q E h => ?_) (fun cdv A outer s H vs Q E hr h => ?_)
  · obtain ⟨v, t, b, c, rfl, _⟩ := h
    rfl
  · obtain ⟨v, t, b, c, rfl, ty, kb, kc, k⟩ := h
    refine ⟨_, pss_one (ps_ret (pe_and (pe_callB call_isi (by rfl) N.isi PyProof.Rows.boot_isinstance (pa_cons (pv 0) (pa_cons (pe_bltn (v := .ty "int") (by rfl) N.int PyProof.Rows.boot_int rfl) pa_nil)))
      (pe_one (pe_not (pe_callB call_isi (by rfl) N.isi PyProof.Rows.boot_isinstance (pa_cons (pv 0) (pa_cons (pe_bltn (v := .ty "bool") (by rfl) N.bool boot_bool' rfl) pa_nil))))))), ?_⟩
    refine ⟨_, rfl, v, .ty "int", .type t, .type "int", b, rfl, .ty _, ty, kit_ty kb, _, rfl, ?_⟩
    cases b with
    | false => exact iteF (A := True) k
    | true => exact iteT (B := True) ⟨_, rfl, v, .ty "bool", .type t, .type "bool", c, rfl, .ty _, ty, kit_ty kc, _, rfl, k⟩
theorem ok_isNum {f fI : Addr} {fd dI : FuncData} (F : Fun K "is_stage_number" "is_stage_number" sIsNum f fd) (N : Nm mg) (Z : Cst K mg aS a1 a2) (gI : mg "is_integer" = some (.ref fI)) (FI : Fun K "is_integer" "is_integer" sIsInt fI dI) (bI : Binds K dI ["value"] []) :
    FnOk P w K mg base CX0 2 f fd ["value"] (spIsNum K) := by
  have GI : FnOk P w K mg base CX0 1 fI dI ["value"] (spIsInt K) := ok_isInt FI N
  refine F.ok scNum (fun vs H Q E h => ?_) (fun cdv A outer s H vs Q E hr h => ?_)
  · obtain ⟨v, rfl, _⟩ := h
    rfl
  · obtain ⟨v, rfl, k⟩ := h
    obtain ⟨tg, hg⟩ := Z.great
    refine ⟨_, pss_one (ps_ret (pe_and (pe_call GI hr rfl gI FI.kp bI .nil pass0 (pa_cons (pv 0) pa_nil)) (pe_one (pe_chain op_le op_le pe_int (pv 0) (pe_glob (v := .int 4) rfl hg ⟨_, rfl⟩))))), ?_⟩
    rcases k with ⟨i, rfl, k⟩ | ⟨t, b, c, ty, kb, kc, e, k⟩
    · refine ⟨_, rfl, .int i, "int", true, false, rfl, .base (.int i), by decide +kernel, by decide +kernel, _, rfl, ?_⟩
      refine iteT (B := True) ⟨_, rfl, _, _, rfl, rfl, _, rfl, ?_⟩
      unfold okNum at k
      by_cases h1 : 1 ≤ i
      · rw [if_pos (decide_eq_true h1)]
        rw [decide_eq_true h1, Bool.true_and] at k
        exact ⟨_, _, rfl, rfl, k⟩
      · rw [if_neg (by rw [decide_eq_false h1]; exact Bool.false_ne_true)]
        rw [decide_eq_false h1, Bool.false_and] at k
        exact k
    · refine ⟨_, rfl, v, t, b, c, rfl, ty, kb, kc, _, rfl, ?_⟩
      rw [e]
      exact iteF (A := True) k
theorem ok_isName {f : Addr} {fd : FuncData} (F : Fun K "is_name" "is_name" sIsName f fd) (N : Nm mg) (Z : Cst K mg aS a1 a2) : FnOk P w K mg base CX0 1 f fd ["value"] (spIsName K) := by
  refine F.ok scName (fun vs H Q E h => ?_) (fun cdv A outer s H vs Q E hr h => ?_)
  · obtain ⟨v, rfl, _⟩ := h
    rfl
  · obtain ⟨v, rfl, k⟩ := h
    obtain ⟨tl, hl⟩ := Z.lett
    refine ⟨_, pss_one (ps_ret (pe_and (pe_callB call_isi (by rfl) N.isi PyProof.Rows.boot_isinstance (pa_cons (pv 0) (pa_cons (pe_bltn (v := .ty "str") (by rfl) N.str boot_str' rfl) pa_nil)))
      (pe_and (pe_chain op_le op_le pe_int (pe_callB call_len_str (by rfl) N.len PySem.boot_len (pa_cons (pv 0) pa_nil)) (pe_glob (v := .int 8) rfl hl ⟨_, rfl⟩))
      (pe_one (pe_callB (cr_all rfl) (by rfl) N.all boot_all' (pa_cons
        (pe_lc (own := [("letter", 1)]) (g := gName 1) (tt := tYes) rfl scName.nd (pi_str (pv 0)) (blkOk_by (N := ["value", "letter"]) (sc := defScope sIsName) (by decide +kernel))
          (fun _ _ _ _ _ => pg_name (i := 1) scName.nd rfl (Or.inl rfl)) (fun _ _ _ _ _ => pts_nil) (fun _ _ _ _ _ => by exact pe_chain op_le_str op_le_str pe_str (pv 1) pe_str)) pa_nil)))))), ?_⟩
    rcases k with ⟨z, rfl, hz, k⟩ | ⟨t, ty, kb, k⟩
    · refine ⟨_, rfl, .str z, .ty "str", .type "str", .type "str", true, rfl, .ty _, .base (.str z), kit_ty (by decide +kernel), _, rfl, ?_⟩
      refine iteT (B := True) ?_
      have hzl : z.length ≤ sizeLine := Nat.le_of_lt (small1000 hz)
      refine ⟨_, rfl, z, rfl, hzl, _, _, rfl, rfl, _, rfl, ?_⟩
      unfold isNm at k
      have nat1 : (1 : Int) ≤ (z.length : Int) ↔ 1 ≤ z.length := by omega
      have nat8 : (z.length : Int) ≤ 8 ↔ z.length ≤ 8 := by omega
      by_cases h1 : 1 ≤ z.length
      · rw [if_pos (decide_eq_true (nat1.mpr h1))]
        rw [decide_eq_true h1, Bool.true_and] at k
        refine ⟨_, _, rfl, rfl, _, rfl, ?_⟩
        by_cases h8 : z.length ≤ 8
        · rw [if_pos (decide_eq_true (nat8.mpr h8))]
          rw [decide_eq_true h8, Bool.true_and] at k
          refine ⟨_, rfl, z, rfl, fun D hD => ?_⟩
          refine lc_it walk_str (fun i H' => Same H H' ∧ H' D = some (.lst (((z.cps.toList.take i).map okSign).map V.bl))) ⟨same_new hD, upd_same⟩ (fun _ _ _ _ => trivial) ?_ ?_
          · rintro i x H1 H2 hi ⟨s1, h2⟩ ⟨rfl, c, hc, rfl⟩
            refine ⟨rfl, iteT (B := True) ⟨_, rfl, _, _, rfl, rfl, _, rfl, ?_⟩⟩
            have hcl : z.cps.toList[i]? = some c := by rw [Array.getElem?_toList]; exact hc
            have hlt : i < z.cps.toList.length := (List.getElem?_eq_some_iff.mp hcl).1
            have stp : ((z.cps.toList.take i).map okSign).map V.bl ++ [V.bl (okSign c)] = ((z.cps.toList.take (i + 1)).map okSign).map V.bl := by
              rw [List.take_add_one, hcl]
              simp
            have fin : ∀ b : Bool, b = okSign c → ∃ acc, H2 D = some (.lst acc) ∧ acc.length < sizeLine ∧ Same H (upd H2 D (.lst (acc ++ [.bl b]))) ∧ upd H2 D (.lst (acc ++ [.bl b])) D = some (.lst (((z.cps.toList.take (i + 1)).map okSign).map V.bl)) := by
              rintro b rfl
              refine ⟨_, h2, ?_, ?_, ?_⟩
              · rw [List.length_map, List.length_map, List.length_take]
                have : z.cps.toList.length = z.length := by rw [Array.length_toList]; rfl
                exact small1000 (by omega)
              · intro b o e
                have : b ≠ D := fun z => by rw [z, hD] at e; cases e
                rw [upd_ne this]
                exact s1 b o e
              · rw [upd_same, stp]
            have e1 : (!decide ((⟨#[c]⟩ : Str).cps.toList < ("a" : Str).cps.toList)) = decide (97 ≤ c) := sign_le 97 c
            have e2 : (!decide (("z" : Str).cps.toList < (⟨#[c]⟩ : Str).cps.toList)) = decide (c ≤ 122) := sign_le c 122
            by_cases l1 : 97 ≤ c
            · rw [if_pos (by rw [e1]; exact decide_eq_true l1)]
              refine ⟨_, _, rfl, rfl, ?_⟩
              refine fin _ ?_
              rw [e2]
              unfold okSign
              rw [decide_eq_true l1, Bool.true_and]
            · rw [if_neg (by rw [e1, decide_eq_false l1]; exact Bool.false_ne_true)]
              refine fin _ ?_
              unfold okSign
              rw [decide_eq_false l1, Bool.false_and]
          · rintro H1 ⟨s1, h2⟩
            refine ⟨D, (z.cps.toList.take z.cps.size).map okSign, rfl, SqL.of h2, ?_⟩
            have e : ((z.cps.toList.take z.cps.size).map okSign).any id = ((z.cps.toList.take z.cps.size).map okSign).any id := rfl
            have e3 : ((z.cps.toList.take z.cps.size).map okSign).all id = z.cps.toList.all okSign := by
              rw [List.take_of_length_le (by rw [Array.length_toList]; exact Nat.le_refl _), List.all_map]
              rfl
            rw [e3]
            exact k H1 s1
        · rw [if_neg (by rw [decide_eq_false (fun h => h8 (nat8.mp h))]; exact Bool.false_ne_true)]
          rw [decide_eq_false h8, Bool.false_and] at k
          exact k H (Same.refl H)
      · rw [if_neg (by rw [decide_eq_false (fun h => h1 (nat1.mp h))]; exact Bool.false_ne_true)]
        rw [decide_eq_false h1, Bool.false_and] at k
        exact ⟨_, rfl, iteF (A := True) (k H (Same.refl H))⟩
    · refine ⟨_, rfl, v, .ty "str", .type t, .type "str", false, rfl, .ty _, ty, kit_ty kb, _, rfl, ?_⟩
      exact iteF (A := True) k
end
end K80
set_option Elab.async false
set_option linter.all false
set_option maxRecDepth 100000
set_option maxHeartbeats 4000000
namespace K80
open PySem L2 VK
/-! ### programs and plans as data -/
mutual
inductive Sg where
  | nm (k n : Str)
  | num (k : Str) (n : Int)
  | flat
  | zip (p : Pg)
inductive Pg where
  | mk (s : Str) (l : Sgs)
inductive Sgs where
  | nil
  | cons (x : Sg) (r : Sgs)
end
def K1 : List Str := ["map", "keep", "while", "after"]
def K2 : List Str := ["take", "skip", "lots", "gather"]
def K0 : List Str := ["a", "b", "c", "d"]
mutual
/-- the depth behind a stage -/
def Sg.dep (d : Int) : Sg → Int
  | .nm k _ => if k = "map" then 0 else d
  | .num k _ => if k = "lots" then d + 1 else d
  | .flat => d - 1
  | .zip p => (if p.dep < d then p.dep else d) + 1
def Pg.dep : Pg → Int
  | .mk _ l => l.dep 0
def Sgs.dep (d : Int) : Sgs → Int
  | .nil => d
  | .cons x r => r.dep (x.dep d)
end
mutual
def Sg.srcs : Sg → List Str
  | .nm _ _ => []
  | .num _ _ => []
  | .flat => []
  | .zip p => p.srcs
def Pg.srcs : Pg → List Str
  | .mk s l => s :: l.srcs
def Sgs.srcs : Sgs → List Str
  | .nil => []
  | .cons x r => x.srcs ++ r.srcs
end
def Sgs.len : Sgs → Nat
  | .nil => 0
  | .cons _ r => r.len + 1
mutual
/-- how deep zips stand in zips -/
def Sg.nest : Sg → Nat
  | .nm _ _ => 0
  | .num _ _ => 0
  | .flat => 0
  | .zip p => p.nest + 1
def Pg.nest : Pg → Nat
  | .mk _ l => l.nest
def Sgs.nest : Sgs → Nat
  | .nil => 0
  | .cons x r => max x.nest r.nest
end
mutual
def Sg.ok (d : Int) (taken : List Str) : Sg → Prop
  | .nm k n => k ∈ K1 ∧ isNm n = true
  | .num k n => k ∈ K2 ∧ 1 ≤ n ∧ n ≤ 4
  | .flat => 0 < d
  | .zip p => p.ok ∧ ∀ s ∈ p.srcs, s ∉ taken
def Pg.ok : Pg → Prop
  | .mk s l => s ∈ K0 ∧ l.len ≤ 6 ∧ l.ok 0 [s]
def Sgs.ok (d : Int) (taken : List Str) : Sgs → Prop
  | .nil => True
  | .cons x r => x.ok d taken ∧ r.ok (x.dep d) (taken ++ x.srcs)
end
/-- an object of the class -/
def flds (s : Str) (ts ss : Addr) (d : Int) : List (Str × V) := putF "_depth" (.int d) (putF "_sources" (.ref ss) (putF "_stages" (.ref ts) (putF "_source" (.str s) [])))
theorem f1 : ¬ (("_source" : Str) = "_stages") := by decide +kernel
theorem f2 : ¬ (("_source" : Str) = "_sources") := by decide +kernel
theorem f3 : ¬ (("_source" : Str) = "_depth") := by decide +kernel
theorem f4 : ¬ (("_stages" : Str) = "_sources") := by decide +kernel
theorem f5 : ¬ (("_stages" : Str) = "_depth") := by decide +kernel
theorem f6 : ¬ (("_sources" : Str) = "_depth") := by decide +kernel
section
variable (s : Str) (ts ss : Addr) (d : Int)
theorem get_source : (flds s ts ss d).lookup ("_source" : Str) = some (.str s) := by
  unfold flds
  rw [lookup_putF, if_neg f3, lookup_putF, if_neg f2, lookup_putF, if_neg f1, lookup_putF, if_pos rfl]
theorem get_stages : (flds s ts ss d).lookup ("_stages" : Str) = some (.ref ts) := by
  unfold flds
  rw [lookup_putF, if_neg f5, lookup_putF, if_neg f4, lookup_putF, if_pos rfl]
theorem get_sources : (flds s ts ss d).lookup ("_sources" : Str) = some (.ref ss) := by
  unfold flds
  rw [lookup_putF, if_neg f6, lookup_putF, if_pos rfl]
theorem get_depth : (flds s ts ss d).lookup ("_depth" : Str) = some (.int d) := by
  unfold flds
  rw [lookup_putF, if_pos rfl]
end
mutual
/-- a Program at a -/
inductive PgAt (K : Fg) (C : Addr) (H : Hp) : V → Pg → Prop where
  | mk {a dx ts ss : Addr} {s : Str} {l : Sgs} {xs : List V} (h : H a = some (.ins C dx (flds s ts ss (l.dep 0)))) (hs : SqT K H ts xs) (hl : StAll K C H xs l)
      (hr : SqT K H ss ((s :: l.srcs).map V.str)) : PgAt K C H (.ref a) (.mk s l)
/-- a stage as a tuple -/
inductive StV (K : Fg) (C : Addr) (H : Hp) : V → Sg → Prop where
  | nm {a : Addr} {k n : Str} (h : SqT K H a [.str k, .str n]) : StV K C H (.ref a) (.nm k n)
  | num {a : Addr} {k : Str} {n : Int} (h : SqT K H a [.str k, .int n]) : StV K C H (.ref a) (.num k n)
  | flat {a : Addr} (h : SqT K H a [.str "flat"]) : StV K C H (.ref a) .flat
  | zip {a : Addr} {v : V} {p : Pg} (h : SqT K H a [.str "zip", v]) (hp : PgAt K C H v p) : StV K C H (.ref a) (.zip p)
inductive StAll (K : Fg) (C : Addr) (H : Hp) : List V → Sgs → Prop where
  | nil : StAll K C H [] .nil
  | cons {v : V} {vs : List V} {x : Sg} {r : Sgs} (h : StV K C H v x) (t : StAll K C H vs r) : StAll K C H (v :: vs) (.cons x r)
end
mutual
/-- a plan of the law: tuples alone -/
inductive PlAt (K : Fg) (H : Hp) : V → Pg → Prop where
  | mk {a b : Addr} {s : Str} {l : Sgs} {xs : List V} (h : SqT K H a [.str s, .ref b]) (hs : SqT K H b xs) (hl : PsAll K H xs l) : PlAt K H (.ref a) (.mk s l)
inductive PsV (K : Fg) (H : Hp) : V → Sg → Prop where
  | nm {a : Addr} {k n : Str} (h : SqT K H a [.str k, .str n]) : PsV K H (.ref a) (.nm k n)
  | num {a : Addr} {k : Str} {n : Int} (h : SqT K H a [.str k, .int n]) : PsV K H (.ref a) (.num k n)
  | flat {a : Addr} (h : SqT K H a [.str "flat"]) : PsV K H (.ref a) .flat
  | zip {a : Addr} {v : V} {p : Pg} (h : SqT K H a [.str "zip", v]) (hp : PlAt K H v p) : PsV K H (.ref a) (.zip p)
inductive PsAll (K : Fg) (H : Hp) : List V → Sgs → Prop where
  | nil : PsAll K H [] .nil
  | cons {v : V} {vs : List V} {x : Sg} {r : Sgs} (h : PsV K H v x) (t : PsAll K H vs r) : PsAll K H (v :: vs) (.cons x r)
end
/-! ### what stays: tuples, objects, what is locked -/
def fixd : HO → Bool
  | .tup _ => true
  | .ins _ _ _ => true
  | .frz _ _ => true
  | _ => false
def Kp (H H' : Hp) : Prop := ∀ b o, H b = some o → fixd o = true → H' b = some o
theorem Kp.refl (H : Hp) : Kp H H := fun _ _ h _ => h
theorem Kp.trans {H H1 H2 : Hp} (a : Kp H H1) (b : Kp H1 H2) : Kp H H2 := fun c o h f => b c o (a c o h f) f
theorem Kp.of {H H' : Hp} (s : Same H H') : Kp H H' := fun b o h _ => s b o h
theorem Kp.tup {K : Fg} {H H' : Hp} (k : Kp H H') {a : Addr} {xs : List V} (h : SqT K H a xs) : SqT K H' a xs := by
  rcases h with (h | ⟨o, h⟩) | h
  · exact .inl (.inl (k _ _ h rfl))
  · exact .inl (.inr ⟨o, k _ _ h rfl⟩)
  · exact .inr h
section
variable {K : Fg} {C : Addr} {H H' : Hp}
mutual
theorem PgAt.kp (k : Kp H H') : ∀ {v : V} {p : Pg}, PgAt K C H v p → PgAt K C H' v p
  | _, _, .mk h hs hl hr => .mk (k _ _ h rfl) (k.tup hs) (StAll.kp k hl) (k.tup hr)
theorem StV.kp (k : Kp H H') : ∀ {v : V} {x : Sg}, StV K C H v x → StV K C H' v x
  | _, _, .nm h => .nm (k.tup h)
  | _, _, .num h => .num (k.tup h)
  | _, _, .flat h => .flat (k.tup h)
  | _, _, .zip h hp => .zip (k.tup h) (PgAt.kp k hp)
theorem StAll.kp (k : Kp H H') : ∀ {vs : List V} {l : Sgs}, StAll K C H vs l → StAll K C H' vs l
  | _, _, .nil => .nil
  | _, _, .cons h t => .cons (StV.kp k h) (StAll.kp k t)
end
mutual
theorem PlAt.kp (k : Kp H H') : ∀ {v : V} {p : Pg}, PlAt K H v p → PlAt K H' v p
  | _, _, .mk h hs hl => .mk (k.tup h) (k.tup hs) (PsAll.kp k hl)
theorem PsV.kp (k : Kp H H') : ∀ {v : V} {x : Sg}, PsV K H v x → PsV K H' v x
  | _, _, .nm h => .nm (k.tup h)
  | _, _, .num h => .num (k.tup h)
  | _, _, .flat h => .flat (k.tup h)
  | _, _, .zip h hp => .zip (k.tup h) (PlAt.kp k hp)
theorem PsAll.kp (k : Kp H H') : ∀ {vs : List V} {l : Sgs}, PsAll K H vs l → PsAll K H' vs l
  | _, _, .nil => .nil
  | _, _, .cons h t => .cons (PsV.kp k h) (PsAll.kp k t)
end
theorem StAll.len : ∀ {vs : List V} {l : Sgs}, StAll K C H vs l → vs.length = l.len
  | _, _, .nil => rfl
  | _, _, .cons _ t => by
    show _ + 1 = _ + 1
    rw [StAll.len t]
theorem PsAll.len : ∀ {vs : List V} {l : Sgs}, PsAll K H vs l → vs.length = l.len
  | _, _, .nil => rfl
  | _, _, .cons _ t => by
    show _ + 1 = _ + 1
    rw [PsAll.len t]
end
/-- what isinstance(.., Program) asks of the class -/
structure Cl (K : Fg) (mg : Str → Option Value) (C : Addr) : Prop where
  cl : Cls K C
  g : mg "Program" = some (.ref C)
  ha : PySem.W.findIn K (.ref C) "__class__" = some (some (.builtin "object.__class__"))
  hn : PySem.W.specialIn K (.builtin "object.__class__") "__get__" = some (some (.builtin "getset_descriptor.__get__"))
  htk : PySem.W.takesIn K (.builtin "object.__class__") = some true
  hm : PySem.W.mroIn K C (.type "object") = some true
  kt : PySem.W.kitOne K (.type "tuple") (.ref C) = some false
  kc : PySem.W.kitOne K (.ref C) (.ref C) = some true
  ct : PySem.W.kitOne K (.ref C) (.type "tuple") = some false
  n1 : NoAttr K C "_source"
  n2 : NoAttr K C "_stages"
  n3 : NoAttr K C "_sources"
  n4 : NoAttr K C "_depth"
/-- what is_stage says of a pair's second -/
inductive Det (K : Fg) (C : Addr) (H : Hp) : Str → V → Bool → Prop where
  | nm {k n : Str} (hk : k ∈ K1) (l : n.length ≤ 1000) : Det K C H k (.str n) (isNm n)
  | num {k : Str} {i : Int} (hk : k ∈ K2) : Det K C H k (.int i) (okNum i)
  | zip {d : V} {t : Value} {b : Bool} (ty : TyX K H d t) (kt : PySem.W.kitOne K t (.ref C) = some b) : Det K C H "zip" d b
/-- what is_stage says -/
inductive IsSt (K : Fg) (C : Addr) (H : Hp) : V → Bool → Prop where
  | other {v : V} {t : Value} (ty : TyX K H v t) (kt : PySem.W.kitOne K t (.type "tuple") = some false) : IsSt K C H v false
  | none {a : Addr} (h : SqT K H a []) : IsSt K C H (.ref a) false
  | one {a : Addr} {k : Str} (h : SqT K H a [.str k]) : IsSt K C H (.ref a) (decide (V.str k = V.str "flat"))
  | two {a : Addr} {k : Str} {d : V} {b : Bool} (h : SqT K H a [.str k, d]) (e : Det K C H k d b) : IsSt K C H (.ref a) b
end K80
set_option Elab.async false
set_option linter.all false
set_option maxRecDepth 100000
set_option maxHeartbeats 4000000
namespace K80
open PySem L2 VK
theorem Cl.ty {K : Fg} {mg : Str → Option Value} {C : Addr} (c : Cl K mg C) {H : Hp} {a dx : Addr} {fs : List (Str × V)} (e : H a = some (.ins C dx fs)) : TyX K H (.ref a) (.ref C) :=
  .base (.ins e c.cl c.ha c.hn c.htk c.hm)
theorem TyX.same {K : Fg} {H H' : Hp} {v : V} {t : Value} (ty : TyX K H v t) (s : Same H H') : TyX K H' v t := by
  cases ty with
  | base h =>
    cases h with
    | non => exact .base .non
    | bl x => exact .base (.bl x)
    | int x => exact .base (.int x)
    | str x => exact .base (.str x)
    | flt x => exact .base (.flt x)
    | lst e => exact .base (.lst (s _ _ e))
    | frz e => exact .base (.frz (s _ _ e))
    | tup e => exact .base (.tup (s _ _ e))
    | dK e => exact .base (.dK (s _ _ e))
    | dT e => exact .base (.dT (s _ _ e))
    | ins e cl ha hn htk hm => exact .base (.ins (s _ _ e) cl ha hn htk hm)
  | byt b => exact .byt b
  | set e => exact .set (s _ _ e)
  | kList e c => exact .kList e c
  | kTuple e c => exact .kTuple e c
  | kDict e c => exact .kDict e c
  | fTuple e => exact .fTuple (s _ _ e)
  | fDict e => exact .fDict (s _ _ e)
theorem tyT {K : Fg} {H : Hp} {a : Addr} {xs : List V} (h : SqT K H a xs) : TyX K H (.ref a) (.type "tuple") := by
  rcases h with (h | ⟨o, h⟩) | h
  · exact .base (.tup h)
  · exact .fTuple h
  · obtain ⟨o, _, _, e, c, _⟩ := h
    exact .kTuple e c
theorem in_true {z : Str} {ws : List Str} (h : z ∈ ws) : inV (.str z) (ws.map V.str) = true := by
  unfold inV
  rw [List.any_map, List.any_eq_true]
  exact ⟨z, h, by show eqV (.str z) (.str z) = true; exact decide_eq_true rfl⟩
theorem in_false {z : Str} {ws : List Str} (h : z ∉ ws) : inV (.str z) (ws.map V.str) = false := by
  unfold inV
  rw [List.any_map, List.any_eq_false]
  intro y hy e
  exact h (by
    have : y = z := of_decide_eq_true e
    rw [← this]; exact hy)

def spIsStage (K : Fg) (C : Addr) : Sp := fun vs H Q _ => ∃ (v : V) (b : Bool), vs = [v] ∧ IsSt K C H v b ∧ ∀ H', Same H H' → Q (.bl b) H'
theorem scStage : FnScope ["value", "kind", "detail"] ["value"] (defScope sIsStage) := ⟨rfl, rfl, rfl, by decide +kernel, rfl, by decide +kernel, by decide +kernel⟩
theorem isNm_len {n : Str} (h : isNm n = true) : n.length ≤ 1000 := by
  unfold isNm at h
  rw [Bool.and_eq_true, Bool.and_eq_true, decide_eq_true_eq, decide_eq_true_eq] at h
  omega
section
variable {P : Program} {w : World} {K : Fg} {mg : Str → Option Value} {base : Heap} {aS a1 a2 C : Addr}
theorem ok_isStage {f fN fM fI : Addr} {fd dN dM dI : FuncData} (F : Fun K "is_stage" "is_stage" sIsStage f fd) (N : Nm mg) (Z : Cst K mg aS a1 a2) (c : Cl K mg C)
    (gI : mg "is_integer" = some (.ref fI)) (FI : Fun K "is_integer" "is_integer" sIsInt fI dI) (bI : Binds K dI ["value"] [])
    (gN : mg "is_name" = some (.ref fN)) (FN : Fun K "is_name" "is_name" sIsName fN dN) (bN : Binds K dN ["value"] [])
    (gM : mg "is_stage_number" = some (.ref fM)) (FM : Fun K "is_stage_number" "is_stage_number" sIsNum fM dM) (bM : Binds K dM ["value"] []) :
    FnOk P w K mg base CX0 3 f fd ["value"] (spIsStage K C) := by
  have GN : FnOk P w K mg base CX0 1 fN dN ["value"] (spIsName K) := ok_isName FN N Z
  have GM : FnOk P w K mg base CX0 2 fM dM ["value"] (spIsNum K) := ok_isNum FM N Z gI FI bI
  refine F.ok scStage (fun vs H Q E h => ?_) (fun cdv A outer s H vs Q E hr h => ?_)
  · obtain ⟨v, b, rfl, _⟩ := h
    rfl
  · obtain ⟨v, b, rfl, hv, k⟩ := h
    have hr1 := hr.mono (show 1 ≤ 2 by decide)
    refine ⟨_, pss_cons (ps_if (PW.pt (pw_or (pt_not (pt_val (pe_callB call_isi (by rfl) N.isi PyProof.Rows.boot_isinstance (pa_cons (pv 0) (pa_cons (pe_bltn (v := .ty "tuple") (by rfl) N.tup boot_tup' rfl) pa_nil)))))
        (pw_or1 (pt_cmpR op_notIn_seq (pe_callB call_len_seq (by rfl) N.len PySem.boot_len (pa_cons (pv 0) pa_nil)) (pe_tup (pa_cons pe_int (pa_cons pe_int pa_nil))) rfl))))
        (pss_one (ps_ret pe_bl)) pss_nil)
      (pss_cons (ps_if (pt_cmpR op_eq (pe_callB call_len_seq (by rfl) N.len PySem.boot_len (pa_cons (pv 0) pa_nil)) pe_int (nomark _))
        (pss_one (ps_ret (pe_cmpR op_eq (pe_ix ix_tup (pv 0) pe_int (fun _ _ => rfl)) pe_str (nomark _)))) pss_nil)
      (pss_cons (ps_asg (pv 0) (pg_tup rfl (pgs_cons (pg_name (i := 1) scStage.nd rfl (Or.inl rfl)) (pgs_cons (pg_name (i := 2) scStage.nd rfl (Or.inl rfl)) pgs_nil))))
      (pss_cons (ps_if (pt_cmpR op_in_seq (pv 1) (pe_glob (v := .ref a1) rfl Z.g1 rfl) rfl)
        (pss_one (ps_ret (pe_call GN hr1 rfl gN FN.kp bN .nil pass0 (pa_cons (pv 2) pa_nil)))) pss_nil)
      (pss_cons (ps_if (pt_cmpR op_in_seq (pv 1) (pe_glob (v := .ref a2) rfl Z.g2 rfl) rfl)
        (pss_one (ps_ret (pe_call GM hr rfl gM FM.kp bM .nil pass0 (pa_cons (pv 2) pa_nil)))) pss_nil)
      (pss_one (ps_ret (pe_and (pe_cmpR op_eq (pv 1) pe_str (nomark _)) (pe_one (pe_callB call_isi (by rfl) N.isi PyProof.Rows.boot_isinstance (pa_cons (pv 2) (pa_cons (pe_glob (v := .ref C) rfl c.g rfl) pa_nil))))))))))), ?_⟩
    have ktt : PySem.W.kitOne K (.type "tuple") (.type "tuple") = some true := kit_ty (by decide +kernel)
    cases hv with
    | other ty kt => exact ⟨_, rfl, v, .ty "tuple", _, .type "tuple", false, rfl, .ty _, ty, kt, _, rfl, iteT (B := True) (k H (Same.refl H))⟩
    | @none a h =>
      refine ⟨_, rfl, .ref a, .ty "tuple", .type "tuple", .type "tuple", true, rfl, .ty _, tyT h, ktt, _, rfl, ?_⟩
      refine iteF (A := True) ?_
      refine ⟨_, rfl, a, [], rfl, .inr h, by show 2 ≤ sizeLine; decide, fun p hp => ?_⟩
      exact ⟨p, _, rfl, .inr (.inl (.inl upd_same)), rfl, rfl, _, rfl, k _ (same_new hp)⟩
    | @one a kd h =>
      refine ⟨_, rfl, .ref a, .ty "tuple", .type "tuple", .type "tuple", true, rfl, .ty _, tyT h, ktt, _, rfl, ?_⟩
      refine iteF (A := True) ?_
      refine ⟨_, rfl, a, _, rfl, .inr h, by show 2 ≤ sizeLine; decide, fun p hp => ?_⟩
      refine ⟨p, _, rfl, .inr (.inl (.inl upd_same)), rfl, rfl, _, rfl, ?_⟩
      refine ⟨_, rfl, a, _, rfl, .inr ((Kp.of (same_new hp)).tup h), rfl, _, rfl, ?_⟩
      refine iteT (B := True) ?_
      exact ⟨_, rfl, a, _, _, _, rfl, rfl, (Kp.of (same_new hp)).tup h, rfl, rfl, k _ (same_new hp)⟩
    | @two a kd d b h e => 
      refine ⟨_, rfl, .ref a, .ty "tuple", .type "tuple", .type "tuple", true, rfl, .ty _, tyT h, ktt, _, rfl, ?_⟩
      refine iteF (A := True) ?_
      refine ⟨_, rfl, a, _, rfl, .inr h, by show 2 ≤ sizeLine; decide, fun p hp => ?_⟩
      refine ⟨p, _, rfl, .inr (.inl (.inl upd_same)), rfl, rfl, _, rfl, ?_⟩
      have s1 := same_new (o := .tup [.int 1, .int 2]) hp
      have h1 := (Kp.of s1).tup h
      refine ⟨_, rfl, a, _, rfl, .inr h1, rfl, _, rfl, ?_⟩
      refine iteF (A := True) ?_
      refine ⟨_, rfl, a, _, rfl, h1, rfl, _, _, rfl, _, _, rfl, rfl, ?_⟩
      have n12 : ∀ z ∈ K2, z ∉ K1 := by decide +kernel
      cases e with
      | @nm _ n hk l =>
        refine ⟨_, rfl, a1, _, rfl, .inr (Z.h1 _), rfl, rfl, _, rfl, ?_⟩
        rw [show inV (.str kd) [.str "map", .str "keep", .str "while", .str "after"] = true from in_true (ws := K1) hk]
        refine iteT (B := True) ⟨_, rfl, _, rfl, .inl ⟨n, rfl, l, fun H' s2 => k H' (s1.trans s2)⟩⟩
      | @num _ i hk =>
        refine ⟨_, rfl, a1, _, rfl, .inr (Z.h1 _), rfl, rfl, _, rfl, ?_⟩
        rw [show inV (.str kd) [.str "map", .str "keep", .str "while", .str "after"] = false from in_false (ws := K1) (n12 _ hk)]
        refine iteF (A := True) ?_
        refine ⟨_, rfl, a2, _, rfl, .inr (Z.h2 _), rfl, rfl, _, rfl, ?_⟩
        rw [show inV (.str kd) [.str "take", .str "skip", .str "lots", .str "gather"] = true from in_true (ws := K2) hk]
        refine iteT (B := True) ⟨_, rfl, _, rfl, .inl ⟨i, rfl, k _ s1⟩⟩
      | @zip _ t _ ty kt =>
        refine ⟨_, rfl, a1, _, rfl, .inr (Z.h1 _), rfl, rfl, _, rfl, ?_⟩
        rw [show inV (.str "zip") [.str "map", .str "keep", .str "while", .str "after"] = false from in_false (ws := K1) (by decide +kernel)]
        refine iteF (A := True) ?_
        refine ⟨_, rfl, a2, _, rfl, .inr (Z.h2 _), rfl, rfl, _, rfl, ?_⟩
        rw [show inV (.str "zip") [.str "take", .str "skip", .str "lots", .str "gather"] = false from in_false (ws := K2) (by decide +kernel)]
        refine iteF (A := True) ?_
        refine ⟨_, rfl, rfl, _, rfl, ?_⟩
        refine iteT (B := True) ?_
        refine ⟨_, rfl, d, .ref C, _, .ref C, b, rfl, .own C, TyX.same ty s1, kt, k _ s1⟩
end
end K80
set_option Elab.async false
set_option linter.all false
set_option maxRecDepth 100000
set_option maxHeartbeats 4000000
namespace K80
open PySem L2 VK
abbrev sSrcs : Stmt := top 19
abbrev sCan : Stmt := top 20
abbrev sDep : Stmt := top 21
abbrev sIsPos : Stmt := top 22
abbrev sArePos : Stmt := top 23
/-! ### a comprehension that only makes new things -/
def lcI (H1 : Hp) (D : Addr) (ys : List V) (i : Nat) (H : Hp) : Prop := Same H1 H ∧ H D = some (.lst (ys.take i))
theorem lcI0 {H1 : Hp} {D : Addr} {ys : List V} (hD : H1 D = none) : lcI H1 D ys 0 (upd H1 D (.lst [])) := ⟨same_new hD, by rw [upd_same]; rfl⟩
theorem lc_step {H1 H4 : Hp} {D : Addr} {ys : List V} {i : Nat} {y : V} (hD : H1 D = none) (s : Same H1 H4) (e : H4 D = some (.lst (ys.take i))) (hy : ys[i]? = some y) (hz : ys.length < sizeLine) :
    ∃ acc, H4 D = some (.lst acc) ∧ acc.length < sizeLine ∧ lcI H1 D ys (i + 1) (upd H4 D (.lst (acc ++ [y]))) := by
  refine ⟨_, e, ?_, ?_, ?_⟩
  · rw [List.length_take]
    omega
  · intro b o h
    have : b ≠ D := fun z => by rw [z, hD] at h; cases h
    rw [upd_ne this]
    exact s b o h
  · rw [upd_same, List.take_add_one, hy]
    rfl
theorem lcI.done {H1 H : Hp} {D : Addr} {ys : List V} {n : Nat} (h : lcI H1 D ys n H) (e : ys.length = n) : Same H1 H ∧ H D = some (.lst ys) := by
  refine ⟨h.1, ?_⟩
  rw [h.2, List.take_of_length_le (by omega)]
theorem boot_any' : bootBuiltins "any" = some (.builtin "any") := by decide +kernel
theorem in_dec (z : Str) (ws : List Str) : inV (.str z) (ws.map V.str) = decide (z ∈ ws) := by
  by_cases h : z ∈ ws
  · rw [decide_eq_true h, in_true h]
  · rw [decide_eq_false h, in_false h]
theorem all_flat (ws : List Str) : (ws.map V.str).all flatV = true := by
  rw [List.all_map, List.all_eq_true]
  exact fun _ _ => rfl
theorem boot_min' : bootBuiltins "min" = some (.builtin "min") := by decide +kernel
theorem dif {A B c : Prop} [i : Decidable c] (h1 : c → A) (h2 : ¬ c → B) : if decide c = true then A else B := by
  by_cases h : c
  · rw [if_pos (decide_eq_true h)]
    exact h1 h
  · rw [if_neg (by rw [decide_eq_false h]; exact Bool.false_ne_true)]
    exact h2 h
/-! ### the properties -/
def Prp (P : Program) (w : World) (K : Fg) (mg : Str → Option Value) (base : Heap) (C : Addr) (f g : Str) : Prop :=
  ∃ (p ga : Addr) (fd : FuncData), PropOf K C f p ga ∧ FnOk P w K mg base CX0 1 ga fd ["self"] (getSp C g) ∧ Binds K fd ["self"] []
/-- the stages as they are called with -/
def Sg.wf : Sg → Prop
  | .nm k _ => k ∈ K1
  | .num k _ => k ∈ K2
  | _ => True
def Sg.can (d : Int) (tk : List Str) : Sg → Bool
  | .flat => decide (0 < d)
  | x => !(x.srcs.any fun s => decide (s ∈ tk))
def spSrcs (K : Fg) (C : Addr) : Sp := fun vs H Q _ => ∃ (v : V) (x : Sg), vs = [v] ∧ StV K C H v x ∧ x.wf ∧ ∀ ss H', Same H H' → SqT K H' ss (x.srcs.map V.str) → Q (.ref ss) H'
def spCan (K : Fg) (C : Addr) : Sp := fun vs H Q _ => ∃ (v : V) (x : Sg) (d : Int) (l : Addr) (tk : List Str), vs = [v, .int d, .ref l] ∧ StV K C H v x ∧ x.wf ∧ x.srcs.length ≤ 1000 ∧ SqL K H l (tk.map V.str) ∧ ∀ H', Same H H' → Q (.bl (x.can d tk)) H'
def spDep (K : Fg) (C : Addr) : Sp := fun vs H Q _ => ∃ (v : V) (x : Sg) (d : Int), vs = [v, .int d] ∧ StV K C H v x ∧ x.wf ∧ Q (.int (x.dep d)) H
theorem scSrcs : FnScope ["stage"] ["stage"] (defScope sSrcs) := ⟨rfl, rfl, rfl, by decide +kernel, rfl, by decide +kernel, by decide +kernel⟩
theorem scCan : FnScope ["stage", "depth", "sources", "source"] ["stage", "depth", "sources"] (defScope sCan) := ⟨rfl, rfl, rfl, by decide +kernel, rfl, by decide +kernel, by decide +kernel⟩
theorem scDep : FnScope ["stage", "depth", "kind"] ["stage", "depth"] (defScope sDep) := ⟨rfl, rfl, rfl, by decide +kernel, rfl, by decide +kernel, by decide +kernel⟩
/-- a stage's kind, and what stands behind it -/
def Sg.kd : Sg → Str
  | .nm k _ => k
  | .num k _ => k
  | .flat => "flat"
  | .zip _ => "zip"
theorem StV.at0 {K : Fg} {C : Addr} {H : Hp} {v : V} {x : Sg} (h : StV K C H v x) : ∃ a r, v = .ref a ∧ SqT K H a (.str x.kd :: r) := by
  cases h with
  | nm h => exact ⟨_, _, rfl, h⟩
  | num h => exact ⟨_, _, rfl, h⟩
  | flat h => exact ⟨_, _, rfl, h⟩
  | zip h _ => exact ⟨_, _, rfl, h⟩
theorem kd_eq (a b : Str) : decide (V.str a = V.str b) = decide (a = b) := by
  by_cases h : a = b
  · rw [h]; simp
  · rw [decide_eq_false h, decide_eq_false (fun e => h (V.str.inj e))]
section
variable {P : Program} {w : World} {K : Fg} {mg : Str → Option Value} {base : Heap} {aS a1 a2 C : Addr}
theorem ok_srcs {f : Addr} {fd : FuncData} (F : Fun K "sources_of_stage" "sources_of_stage" sSrcs f fd) (c : Cl K mg C) (pp : Prp P w K mg base C "sources" "_sources") :
    FnOk P w K mg base CX0 3 f fd ["stage"] (spSrcs K C) := by
  obtain ⟨p, ga, gd, po, G, gb⟩ := pp
  refine F.ok scSrcs (fun vs H Q E h => ?_) (fun cdv A outer s H vs Q E hr h => ?_)
  · obtain ⟨v, b, rfl, _⟩ := h
    rfl
  · obtain ⟨v, x, rfl, hv, wf, k⟩ := h
    refine ⟨_, pss_one (ps_ret (pe_ifExp (pt_cmpR op_eq (pe_ix ix_tup (pv 0) pe_int (fun _ _ => rfl)) pe_str (nomark _))
      (pe_prop (pe_ix ix_tup (pv 0) pe_int (fun _ _ => rfl)) c.cl po G hr gb .nil pass0 rfl) (pe_tup pa_nil))), ?_⟩
    obtain ⟨a, r, rfl, ha⟩ := hv.at0
    refine ⟨_, rfl, a, _, _, .str x.kd, rfl, rfl, ha, at_of (j := 0) rfl rfl, rfl, _, rfl, ?_⟩
    rw [kd_eq]
    by_cases e : x.kd = "zip"
    · rw [decide_eq_true e]
      refine iteT (B := True) ?_
      cases hv with
      | nm h => exact absurd e ((by decide +kernel : ∀ z ∈ K1, ¬ (z = "zip")) _ wf)
      | num h => exact absurd e ((by decide +kernel : ∀ z ∈ K2, ¬ (z = "zip")) _ wf)
      | flat h => exact absurd e (by decide +kernel)
      | zip h hp =>
        cases hp with
        | @mk a dx ts ss s l xs h1 h2 h3 h4 =>
          exact ⟨_, rfl, _, _, _, _, rfl, rfl, h, rfl, _, _, _, rfl, h1, _, _, _, _, rfl, h1, get_sources _ _ _ _, k _ _ (Same.refl H) h4⟩
    · rw [decide_eq_false e]
      refine iteF (A := True) ?_
      refine ⟨by decide, fun q hq => k _ _ (same_new hq) ?_⟩
      cases hv with
      | nm h => exact .inl (.inl upd_same)
      | num h => exact .inl (.inl upd_same)
      | flat h => exact .inl (.inl upd_same)
      | zip h hp => exact absurd rfl e
theorem ok_can {f fs : Addr} {fd ds : FuncData} (F : Fun K "can_stand" "can_stand" sCan f fd) (N : Nm mg) (c : Cl K mg C) (pp : Prp P w K mg base C "sources" "_sources")
    (gS : mg "sources_of_stage" = some (.ref fs)) (FS : Fun K "sources_of_stage" "sources_of_stage" sSrcs fs ds) (bS : Binds K ds ["stage"] []) :
    FnOk P w K mg base CX0 4 f fd ["stage", "depth", "sources"] (spCan K C) := by
  have G : FnOk P w K mg base CX0 3 fs ds ["stage"] (spSrcs K C) := ok_srcs FS c pp
  refine F.ok scCan (fun vs H Q E h => ?_) (fun cdv A outer s H vs Q E hr h => ?_)
  · obtain ⟨v, x, d, l, tk, rfl, _⟩ := h
    rfl
  · obtain ⟨v, x, d, l, tk, rfl, hv, wf, hl, ht, k⟩ := h
    refine ⟨_, pss_cons (ps_if (pt_cmpR op_eq (pe_ix ix_tup (pv 0) pe_int (fun _ _ => rfl)) pe_str (nomark _)) (pss_one (ps_ret (pe_cmpR op_gt (pv 1) pe_int (nomark _)))) pss_nil)
      (pss_one (ps_ret (pe_not (pe_callB (cr_any rfl) (by rfl) N.any boot_any' (pa_cons
        (pe_lc (own := [("source", 3)]) (g := gName 3) (tt := tYes) (te := tOp (rIn K false) (tVar 3) (tVar 2)) rfl scCan.nd (pi_tup (pe_call G hr rfl gS FS.kp bS .nil pass0 (pa_cons (pv 0) pa_nil)))
          (blkOk_by (N := ["stage", "depth", "sources", "source"]) (sc := defScope sCan) (by decide +kernel)) (fun _ _ _ _ _ => pg_name (i := 3) scCan.nd rfl (Or.inl rfl)) (fun _ _ _ _ _ => pts_nil)
          (fun _ _ _ _ _ => by exact pe_cmpR op_in_seq (pv 3) (pv 2) rfl)) pa_nil))))), ?_⟩
    obtain ⟨a, r, rfl, ha⟩ := hv.at0
    refine ⟨_, rfl, a, _, _, .str x.kd, rfl, rfl, ha, at_of (j := 0) rfl rfl, rfl, _, rfl, ?_⟩
    rw [kd_eq]
    have walk : (x.kd = "flat" → x = .flat) ∧ (x.kd ≠ "flat" → x.can d tk = !(x.srcs.any fun s => decide (s ∈ tk))) := by
      cases x with
      | nm k n => exact ⟨fun e => absurd e ((by decide +kernel : ∀ z ∈ K1, ¬ (z = "flat")) _ wf), fun _ => rfl⟩
      | num k n => exact ⟨fun e => absurd e ((by decide +kernel : ∀ z ∈ K2, ¬ (z = "flat")) _ wf), fun _ => rfl⟩
      | flat => exact ⟨fun _ => rfl, fun e => absurd rfl e⟩
      | zip p => exact ⟨fun e => absurd e (by decide +kernel : ¬ (("zip" : Str) = "flat")), fun _ => rfl⟩
    by_cases e : x.kd = "flat"
    · rw [decide_eq_true e]
      refine iteT (B := True) ?_
      have e1 := walk.1 e
      subst e1
      exact ⟨_, rfl, d, 0, rfl, rfl, k _ (Same.refl H)⟩
    · rw [decide_eq_false e]
      refine iteF (A := True) ?_
      rw [walk.2 e] at k
      refine ⟨_, rfl, _, _, rfl, hv, wf, fun ss H1 s1 hss => ?_⟩
      refine ⟨ss, rfl, ⟨_, hss⟩, fun D hD => ?_⟩
      refine lc_it walk_tup (lcI H1 D ((x.srcs.map fun s => decide (s ∈ tk)).map V.bl)) (lcI0 hD) (fun i H' _ q => (Kp.of q.1).tup hss) ?_ ?_
      · rintro i y H2 H3 hi q ⟨rfl, hy⟩
        rw [List.getElem?_map] at hy
        cases e5 : x.srcs[i]? with
        | none =>
          rw [e5] at hy
          cases hy
        | some z =>
          rw [e5] at hy
          cases hy
          refine ⟨rfl, iteT (B := True) ⟨_, rfl, _, rfl, l, _, rfl, .inl ((s1.trans q.1).seq ht), rfl, all_flat _, ?_⟩⟩
          refine lc_step hD q.1 q.2 ?_ (by rw [List.length_map, List.length_map]; exact small1000 hl)
          rw [List.getElem?_map, List.getElem?_map, e5]
          show some (V.bl (decide (z ∈ tk))) = some (V.bl (inV (V.str z) (List.map V.str tk)))
          rw [in_dec]
      · intro H2 q
        obtain ⟨q1, q2⟩ := q.done (by rw [List.length_map, List.length_map, List.length_map])
        refine ⟨D, _, rfl, SqL.of q2, _, rfl, ?_⟩
        rw [List.any_map]
        exact k H2 (s1.trans q1)
theorem ok_dep {f : Addr} {fd : FuncData} (F : Fun K "depth_behind" "depth_behind" sDep f fd) (N : Nm mg) (c : Cl K mg C) (pp : Prp P w K mg base C "depth" "_depth") :
    FnOk P w K mg base CX0 3 f fd ["stage", "depth"] (spDep K C) := by
  obtain ⟨p, ga, gd, po, G, gb⟩ := pp
  refine F.ok scDep (fun vs H Q E h => ?_) (fun cdv A outer s H vs Q E hr h => ?_)
  · obtain ⟨v, x, d, rfl, _⟩ := h
    rfl
  · obtain ⟨v, x, d, rfl, hv, wf, k⟩ := h
    refine ⟨_, pss_cons (ps_set (i := 2) scDep.nd rfl (Or.inl rfl) (pe_ix ix_tup (pv 0) pe_int (fun _ _ => rfl)))
      (pss_cons (ps_if (pt_cmpR op_eq (pv 2) pe_str (nomark _)) (pss_one (ps_ret pe_int)) pss_nil)
      (pss_cons (ps_if (pt_cmpR op_eq (pv 2) pe_str (nomark _)) (pss_one (ps_ret (pe_op op_add (pv 1) pe_int))) pss_nil)
      (pss_cons (ps_if (pt_cmpR op_eq (pv 2) pe_str (nomark _)) (pss_one (ps_ret (pe_op op_sub (pv 1) pe_int))) pss_nil)
      (pss_cons (ps_if (pt_cmpR op_eq (pv 2) pe_str (nomark _)) (pss_one (ps_ret (pe_op op_add (pe_callB (call_min2 rfl) (by rfl) N.min boot_min' (pa_cons (pv 1) (pa_cons (pe_prop (pe_ix ix_tup (pv 0) pe_int (fun _ _ => rfl)) c.cl po G hr gb .nil pass0 rfl) pa_nil))) pe_int))) pss_nil)
      (pss_one (ps_ret (pv 1))))))), ?_⟩
    obtain ⟨a, r, rfl, ha⟩ := hv.at0
    refine ⟨_, rfl, a, _, _, .str x.kd, rfl, rfl, ha, at_of (j := 0) rfl rfl, _, rfl, rfl, _, rfl, ?_⟩
    have sk : ∀ {a b : Str}, V.str a = V.str b → a = b := fun h => V.str.inj h
    refine dif (fun e0 => ?_) (fun e0 => ?_)
    · cases x with
      | nm z n =>
        have : (Sg.nm z n).dep d = 0 := if_pos (sk e0)
        rw [this] at k
        exact k
      | num z n => exact absurd (sk e0) ((by decide +kernel : ∀ z ∈ K2, ¬ (z = "map")) _ wf)
      | flat => exact absurd (sk e0) (by decide +kernel : ¬ (("flat" : Str) = "map"))
      | zip p => exact absurd (sk e0) (by decide +kernel : ¬ (("zip" : Str) = "map"))
    refine ⟨_, rfl, rfl, _, rfl, ?_⟩
    refine dif (fun e1 => ?_) (fun e1 => ?_)
    · cases x with
      | nm z n => exact absurd (sk e1) ((by decide +kernel : ∀ z ∈ K1, ¬ (z = "lots")) _ wf)
      | num z n =>
        have : (Sg.num z n).dep d = d + 1 := if_pos (sk e1)
        rw [this] at k
        exact ⟨_, rfl, _, _, rfl, rfl, k⟩
      | flat => exact absurd (sk e1) (by decide +kernel : ¬ (("flat" : Str) = "lots"))
      | zip p => exact absurd (sk e1) (by decide +kernel : ¬ (("zip" : Str) = "lots"))
    refine ⟨_, rfl, rfl, _, rfl, ?_⟩
    refine dif (fun e2 => ?_) (fun e2 => ?_)
    · cases x with
      | nm z n => exact absurd (sk e2) ((by decide +kernel : ∀ z ∈ K1, ¬ (z = "flat")) _ wf)
      | num z n => exact absurd (sk e2) ((by decide +kernel : ∀ z ∈ K2, ¬ (z = "flat")) _ wf)
      | flat => exact ⟨_, rfl, _, _, rfl, rfl, k⟩
      | zip p => exact absurd (sk e2) (by decide +kernel : ¬ (("zip" : Str) = "flat"))
    refine ⟨_, rfl, rfl, _, rfl, ?_⟩
    refine dif (fun e3 => ?_) (fun e3 => ?_)
    · cases hv with
      | nm h => exact absurd (sk e3) ((by decide +kernel : ∀ z ∈ K1, ¬ (z = "zip")) _ wf)
      | num h => exact absurd (sk e3) ((by decide +kernel : ∀ z ∈ K2, ¬ (z = "zip")) _ wf)
      | flat h => exact absurd (sk e3) (by decide +kernel : ¬ (("flat" : Str) = "zip"))
      | zip h hp =>
        cases hp with
        | @mk a dx ts ss s l xs h1 h2 h3 h4 =>
          exact ⟨_, rfl, _, rfl, _, _, _, _, rfl, rfl, h, rfl, _, _, _, rfl, h1, _, _, _, _, rfl, h1, get_depth _ _ _ _, _, _, rfl, _, _, rfl, rfl, k⟩
    · cases x with
      | nm z n =>
        have : (Sg.nm z n).dep d = d := if_neg (fun e => e0 (congrArg V.str e))
        rw [this] at k
        exact ⟨_, rfl, k⟩
      | num z n =>
        have : (Sg.num z n).dep d = d := if_neg (fun e => e1 (congrArg V.str e))
        rw [this] at k
        exact ⟨_, rfl, k⟩
      | flat => exact absurd rfl e2
      | zip p => exact absurd rfl e3
end
end K80
set_option Elab.async false
set_option linter.all false
set_option maxRecDepth 100000
set_option maxHeartbeats 4000000
/-! enumerate of a tuple -/
namespace VK
open PySem PySem.Spec PyProof.Rows L2
section
open AutoSeq1 (wpAny_loadPart')
theorem new_enumT (a : Addr) (xs : Array Value) (n : Nat) (dd : Option Addr) (sl : Array (Option Value)) :
    Meets (Builtin.«enumerate.__new__» ⟨[.type "enumerate", .ref a], []⟩) (fun _ R s => s.heap.get? a = some { cls := .type "tuple", dict := dd, data := .seq xs n, slots := sl } ∧
      R (.ok (.ret (.ref (s.heap.push { cls := .type "tuple_iterator", data := .fields #[.ref a, .int 0 0] }).objs.size)))
        { s with heap := (s.heap.push { cls := .type "tuple_iterator", data := .fields #[.ref a, .int 0 0] }).push { cls := .type "enumerate", data := .fields #[.none, .bool false, .ref s.heap.objs.size, rawInt 0, .none, .none] } }) :=
  .of_wp fun prog w A R s h => by
    obtain ⟨hp, gs, dr, tk, os⟩ := s
    obtain ⟨ha, h⟩ := h
    have sub := sub_enumerate
    have hT : Heap.IsTuple (Shared.heap ⟨hp, gs, dr, tk, os⟩) a xs := ⟨_, ha, rfl, n, rfl⟩
    wp_walk using wpAny_loadPart' ha
    refine wpAny_stack_any fun below => wpAny_pure ?_
    split
    · rename_i c _ _ _ _ _
      cases (c == Value.type "enumerate") <;> (wp_walk using wpAny_loadPart' ha, wpAny_pyIter_tuple hT; exact ⟨_, rfl, h⟩)
    · wp_walk using wpAny_loadPart' ha, wpAny_pyIter_tuple hT
      exact ⟨_, rfl, h⟩
end
section
variable {prog : Program} {w : World} {A : Around} {E : Value → Shared → Prop} {s : Shared}
theorem call_enumT {a : Addr} {xs : Array Value} {Q : Value → Shared → Prop} (hT : s.heap.IsTuple a xs)
    (h : ∀ h', IsEnum h' (s.heap.objs.size + 1) s.heap.objs.size 0 .none → h'.IsTupleIter s.heap.objs.size a 0 →
      (∀ b o, s.heap.get? b = some o → h'.get? b = some o) → Q (.ref (s.heap.objs.size + 1)) { s with heap := h' }) :
    wpAny (model prog w) A (call (.type "enumerate") [.ref a]) Q E s := by
  obtain ⟨⟨cl, dd, dt, sl⟩, ha, hc, n, hd⟩ := hT
  cases (show cl = .type "tuple" from hc)
  cases (show dt = .seq xs n from hd)
  refine callType_new F.called_enumerate (by decide) (F.typeCall_enumerate_1 _) (F.newCall_enumerate_1 _) (fun ob => F.args_object_init_2 ob _) F.entry_enumerate_new (new_enumT a xs n dd sl) ⟨ha, ?_⟩
  generalize hI : s.heap.push { cls := .type "tuple_iterator", data := .fields #[.ref a, .int 0 0] } = hp1
  have z1 : hp1.objs.size = s.heap.objs.size + 1 := by rw [← hI, Heap.size_push]
  have k1 : ∀ b o, s.heap.get? b = some o → hp1.get? b = some o := fun b o e => by
    rw [← hI]
    exact Heap.get?_push_of_some _ e
  have it1 : hp1.get? s.heap.objs.size = some { cls := .type "tuple_iterator", data := .fields #[.ref a, .int 0 0] } := by
    rw [← hI]
    exact Heap.get?_push_size _ rfl
  have en := Heap.get?_push_size hp1 (o := { cls := .type "enumerate", data := .fields #[.none, .bool false, .ref s.heap.objs.size, rawInt 0, .none, .none] }) rfl
  show _ ∧ _
  rw [z1] at en ⊢
  exact ⟨⟨_, en, rfl⟩, h _ en ⟨_, Heap.get?_push_of_some _ it1, rfl, rfl⟩ fun b o e => Heap.get?_push_of_some _ (k1 b o e)⟩
end
/-- the tuple at a, each item in a new pair with its place -/
def IteT (K : PySem.W.Frag) (a : Addr) : It where
  go := fun i H => ∃ (xs : List V) (x : V), SqT K H a xs ∧ xs[i]? = some x
  yld := fun i H v H' => ∃ T x, v = .ref T ∧ H T = none ∧ H' = upd H T (.tup [.int (i : Nat), x]) ∧ ∀ xs, SqT K H a xs → xs[i]? = some x
  stop := fun i H => ∃ xs : List V, SqT K H a xs ∧ xs.length = i
theorem turn_enumT {P : Program} {w : World} {K : PySem.W.Frag} {elts : List Expr} {kk : Nat} {tpos : Pos} (a e it : Addr) :
    Turn P w K (.Tuple elts kk tpos) (IteT K a) [e, it] e (fun i h => (∃ old, IsEnum h e it ((i : Nat) : Int) old) ∧ h.IsTupleIter it a i ∧ e ≠ it) where
  mem := List.mem_cons_self
  obj := by
    rintro i h ⟨⟨old, he⟩, ⟨o, ho, hc, hd⟩, _⟩ b hb
    rcases List.mem_cons.mp hb with z | hb
    · subst z
      exact ⟨_, he, fun v q => nomatch q⟩
    · exact ⟨o, by rw [List.mem_singleton.mp hb]; exact ho, fun v q => by rw [hd] at q; cases q⟩
  keep := by
    rintro i h h' ⟨⟨old, he⟩, hi, hne⟩ k
    exact ⟨⟨old, k e List.mem_cons_self _ he⟩, hi.at fun o q => k it (List.mem_cons_of_mem _ List.mem_cons_self) o q, hne⟩
  item := by
    intro X hP hw hK hc i pins s σ H E I hf st hg
    subst hP hw hK
    obtain ⟨⟨old, he⟩, hit, hne⟩ := st
    obtain ⟨xs, x, hq, hx⟩ := hg
    obtain ⟨its, rv, p, hz⟩ := I.tuple hq
    obtain ⟨u, hu, ru⟩ := rv.get hx
    have hel : e < s.heap.objs.size := Heap.lt_size he
    have hil : it < s.heap.objs.size := by
      obtain ⟨_, q, _⟩ := hit
      exact Heap.lt_size q
    have nit : a ≠ it := by
      rintro rfl
      obtain ⟨o1, e1, c1, _⟩ := hit
      obtain ⟨o2, e2, c2, _⟩ := p
      rw [e1] at e2
      cases e2
      rw [c1] at c2
      injection c2 with c3
      exact absurd c3 (by decide)
    have nea : e ≠ a := by
      rintro rfl
      obtain ⟨o2, e2, c2, _⟩ := p
      rw [he] at e2
      cases e2
      injection c2 with c3
      exact absurd c3 (by decide)
    have hlt : i < its.toArray.size := by
      have h1 := (List.getElem?_eq_some_iff.mp hu).1
      rw [List.size_toArray]
      exact h1
    refine wpAny_pyNext_enum_itemD (Draws.tuple (A := X.A.in1) (I.ok.hd hc) it a nit its.toArray) he ⟨hit, p⟩ hlt hne (fun hm => ?_) fun x' h' tk hx' ho st' hT hsz hk => ?_
    · rcases List.mem_cons.mp hm with z | z
      · exact hne z
      · exact nea (List.mem_singleton.mp z)
    have ux : x' = u := by
      have h1 : its.toArray[i]? = some u := by rw [List.getElem?_toArray]; exact hu
      rw [hx'] at h1
      exact Option.some.inj h1
    subst ux
    refine ⟨_, rfl, wpAny_letOwnedTupleGo_enum (s := { s with heap := h', toks := tk + 1 }) ho fun h2 he' sb => ?_⟩
    have hT2 : h2.get? s.heap.objs.size = some { cls := .type "tuple", data := .seq #[.int i tk, x'] } := (sb.2 _ (Nat.ne_of_gt hel)).trans hT
    have new : ObjOk X.prog X.w (upd H s.heap.objs.size (.tup [.int (i : Nat), x])) h2 s.heap.objs.size (.tup [.int (i : Nat), x]) :=
      ⟨by show 2 ≤ sizeLine; decide, [.int i tk, x'], .cons ⟨_, rfl⟩ (.cons ru .nil), ⟨_, hT2, rfl, _, rfl⟩⟩
    have old' : ∀ b o, b ∉ [e, it] → s.heap.get? b = some o → h2.get? b = some o := fun b o hb q => by
      have be : b ≠ e := fun z => hb (by rw [z]; exact List.mem_cons_self)
      have bi : b ≠ it := fun z => hb (by rw [z]; exact List.mem_cons_of_mem _ List.mem_cons_self)
      exact (sb.2 b be).trans (hk b o be bi q)
    have I1 := I.turnedNew (t' := tk + 1) (ch := [e, it]) old' hf (Nat.le_refl _) new
    refine ⟨.ref s.heap.objs.size, _, I1, rfl, ⟨_, x, rfl, I.hok.fresh (Nat.le_refl _), rfl, fun ys hy => by rw [I.tuple_inj hy hq]; exact hx⟩, ⟨⟨x', ?_⟩, st'.1.at fun o q => (sb.2 it (Ne.symm hne)).trans q, hne⟩, fun b hb => ?_⟩
    · rw [show ((i + 1 : Nat) : Int) = (i : Int) + 1 from by omega]
      exact he'
    · have lt : b < s.heap.objs.size := by
        rcases List.mem_cons.mp hb with z | z
        · rw [z]; exact hel
        · rw [List.mem_singleton.mp z]; exact hil
      rw [upd_ne (Nat.ne_of_lt lt)]
      exact (hf b hb).1
  done := by
    intro X hP hw hK hc i pins s σ H E I hf st hg
    subst hP hw hK
    obtain ⟨⟨old, he⟩, hit, hne⟩ := st
    obtain ⟨xs, hq, hx⟩ := hg
    obtain ⟨its, rv, p, hz⟩ := I.tuple hq
    obtain ⟨f0, f1, f2, f3, f4, f5⟩ := hf it (List.mem_cons_of_mem _ List.mem_cons_self)
    have nit : a ≠ it := by
      rintro rfl
      obtain ⟨o1, e1, c1, _⟩ := hit
      obtain ⟨o2, e2, c2, _⟩ := p
      rw [e1] at e2
      cases e2
      rw [c1] at c2
      injection c2 with c3
      exact absurd c3 (by decide)
    have len : its.toArray.size = i := by rw [List.size_toArray, ← rv.length]; exact hx
    subst len
    exact wpAny_pyNext_enum_endD (Draws.tuple (A := X.A.in1) (I.ok.hd hc) it a nit its.toArray) he ⟨hit, p⟩ fun h' eb =>
      ⟨rfl, I.turned (t' := s.toks) (fun b o hb q => eb b o hb q) f0 f1 f3 f4 f5⟩
  self := fun A i s Q E st h => wpAny_pyIter_enum st.1.choose_spec h
/-- enumerate of a list or a tuple -/
def iEnumA (K : PySem.W.Frag) (ta : TA) : TI := fun σ H R => ta σ H fun vs H1 => ∃ a xs, vs = [.ref a] ∧ ∃ J : It, ((SqL K H1 a xs ∧ J = Ite K a) ∨ (SqT K H1 a xs ∧ J = IteT K a)) ∧ R J H1
theorem pi_enumA {X : Cx} {e : Expr} {ta : TA} {p pos tpos : Pos} {elts : List Expr} {kk : Nat} (hg : Gl X "enumerate") (hm : X.mg "enumerate" = none) (ha : PA X [e] ta)
    (hs : starEach [e] X.env = [(false, eval e X.env)] := by rfl) : PI X (.Tuple elts kk tpos) (.Call (.Name "enumerate" p) [e] [] pos) (iEnumA X.K ta) := by
  refine ⟨fun pins s σ H R I h => Call_ (ld_blt I hg hm boot_enumerate (PyProof.Rows.callWith_type1 (thn (ha.run pos pins s σ H _ I h) fun us s1 hh => ?_) hs rfl))⟩
  obtain ⟨vs, H1, I1, r1, a, xs, rfl, J, q1, q⟩ := hh
  cases r1 with
  | cons r rr =>
    cases rr
    cases r
    have fr : ∀ b, b ∈ [s1.heap.objs.size + 1, s1.heap.objs.size] → FpOk X pins H1 b := fun b hb => by
      have le : s1.heap.objs.size ≤ b := by
        rcases List.mem_cons.mp hb with z | z
        · rw [z]; exact Nat.le_succ _
        · rw [List.mem_singleton.mp z]; exact Nat.le_refl _
      exact I1.fpOk le (I1.hok.fresh le)
    rcases q1 with ⟨hq, rfl⟩ | ⟨hq, rfl⟩
    · obtain ⟨its, rv, p', hz⟩ := I1.list hq
      refine call_enumerate_list p'.isList fun h' he hit hsz hk => wpAny_pyIter_enum he ?_
      exact ⟨_, _, _, _, H1, rfl, I1.kept (t' := s1.toks) hk, turn_enum a _ _, ⟨⟨.none, he⟩, hit, Nat.succ_ne_self _⟩, fr, q⟩
    · obtain ⟨its, rv, p', hz⟩ := I1.tuple hq
      refine call_enumT p' fun h' he hit hk => wpAny_pyIter_enum he ?_
      exact ⟨_, _, _, _, H1, rfl, I1.kept (t' := s1.toks) hk, turn_enumT a _ _, ⟨⟨.none, he⟩, hit, Nat.succ_ne_self _⟩, fr, q⟩
theorem walk_enumT {K : PySem.W.Frag} {a : Addr} {xs : List V} : Walk (IteT K a) xs.length (fun H => SqT K H a xs) (YPair (fun i => some (.int (i : Nat))) (fun i => xs[i]?)) := by
  refine ⟨fun i _ hi q => ⟨xs, xs[i], q, List.getElem?_eq_getElem hi⟩, fun _ q => ⟨xs, q, rfl⟩, fun i H v H' _ q y => ?_⟩
  obtain ⟨T, x, h1, h2, h3, h4⟩ := y
  exact ⟨T, .int (i : Nat), x, h1, h2, h3, rfl, h4 xs q⟩
end VK
set_option Elab.async false
set_option linter.all false
set_option maxRecDepth 100000
set_option maxHeartbeats 4000000
/-! list.extend by a tuple -/
namespace VK
open PySem PySem.Spec PyProof.Rows L2
section
open AutoSeq1
theorem ext_meets (l : Addr) (its : Array Value) (n : Nat) (b : Addr) (ys : Array Value) (n2 : Nat) (dd : Option Addr) (sl : Array (Option Value))
    (h0 : ¬(!its.isEmpty && Builtin.List.listTooLong (its.size + ys.size)) = true) (h1 : its.size ≤ sizeLine) (h2 : its.size + ys.size ≤ sizeLine + 1) :
    Meets (Builtin.«list.extend» ⟨[.ref l, .ref b], []⟩) (fun _ R s => s.heap.get? l = some { cls := .type "list", dict := none, data := .seq its n, slots := #[] } ∧
      s.heap.get? b = some { cls := .type "tuple", dict := dd, data := .seq ys n2, slots := sl } ∧ R (.ok (.ret Value.none)) { s with heap := s.heap.update l (Obj.mapSeq fun x => x ++ ys), toks := s.toks }) :=
  .of_wp fun prog w A R s h => by
    obtain ⟨hp, gs, dr, tk, os⟩ := s
    obtain ⟨hl, hb, h⟩ := h
    have g1 := idx_int
    have g2 := AutoSeq1.sub_tuple_tuple
    have g3 := AutoSeq1.sub_list_list
    have g4 := AutoSeq1.sub_tuple_list
    have g5 := AutoSeq1.sub_list_tuple
    have hz : (its ++ ys).size ≤ sizeLine + 1 := by rw [Array.size_append]; exact h2
    wp_walk using (wpAny_updateSeq hl rfl (hz := h1) (_hz' := hz)), wpAny_loadPart' hl, wpAny_loadPart' hb
    exact ⟨_, rfl, h⟩
end
def rExtT (K : PySem.W.Frag) : V → List V → Hp → VK → Prop := fun x vs H Q => ∃ l b xs zs, x = .ref l ∧ vs = [.ref b] ∧ H l = some (.lst xs) ∧ SqT K H b zs ∧ xs.length + zs.length ≤ sizeLine ∧ Q .non (upd H l (.lst (xs ++ zs)))
theorem mt_extT {X : Cx} : MtM X "list.extend" (rExtT X.K) := by
  intro pins s σ H x vs v us Q I rx rv h
  obtain ⟨l, b, xs, zs, rfl, rfl, hH, hB, hz, q⟩ := h
  cases rx
  obtain ⟨u, rfl, ru⟩ := rv.one
  cases ru
  obtain ⟨z, its, n, r, hl, e⟩ := I.lstM hH
  obtain ⟨ys, r2, ⟨⟨cl, dd, dt, sl⟩, e2, hc, n2, hd⟩, hl2⟩ := I.tuple hB
  cases (show cl = .type "tuple" from hc)
  cases (show dt = .seq ys.toArray n2 from hd)
  have l1 := r.length
  have l2 := r2.length
  have hsz : its.toArray.size + ys.toArray.size ≤ sizeLine := by rw [List.size_toArray, List.size_toArray]; omega
  have short : ¬ (!its.toArray.isEmpty && Builtin.List.listTooLong (its.toArray.size + ys.toArray.size)) = true := by
    rw [notLongL hsz, Bool.and_false]
    exact Bool.false_ne_true
  refine call_meets F.slot_list_extend ⟨_, e, rfl⟩ F.entry_list_extend (F.args_list_extend_2 _ _) (ext_meets l its.toArray n b ys.toArray n2 dd sl short (by rw [List.size_toArray]; omega) (by omega)) ⟨e, e2, ?_⟩
  exact ⟨.non, _, I.lset (its' := its ++ ys) hH e (by simp) (r.append r2) (by rw [List.length_append]; exact hz), rfl, q⟩
end VK
set_option Elab.async false
set_option linter.all false
set_option maxRecDepth 100000
set_option maxHeartbeats 4000000
namespace K80
open PySem L2 VK
abbrev sI1 : Stmt := inClass (top 4) 0
abbrev sI2 : Stmt := inClass (top 5) 0
abbrev sInit : Stmt := inClass (top 24) 0
/-- __init__ of an own error with one field -/
def spErr (C : Addr) (f : Str) : Sp := fun vs H Q _ => ∃ (a : Addr) (v : V), vs = [.ref a, v] ∧ H a = some (exo a C none) ∧
  ∀ dx, H dx = none → dx ≠ a → Q .non (upd (upd H dx (exd dx [(f, v)])) a (exo a C (some dx)))
theorem read_raise {C : Addr} {f : Str} {x : V} {H1 : Hp} {R : Addr → Hp → Prop}
    (k : ∀ d H', H1 d = none → Same H1 H' → H' d = some (.xd [(f, x)]) → R d H') (a : Addr) (ha : H1 a = none) :
    spErr C f [.ref a, x] (upd H1 a (exo a C none)) (fun v H2 => v = .non ∧ ∃ (d : Addr) (fs : List (Str × V)), H2 a = some (exo a C (some d)) ∧ H2 d = some (exd d fs) ∧ H1 d = none ∧ R d (upd (del H2 a) d (.xd fs))) fun _ _ _ => False := by
  refine ⟨a, x, rfl, upd_same, fun dx hd hne => ?_⟩
  have h1d : H1 dx = none := by rw [upd_ne hne] at hd; exact hd
  refine ⟨rfl, dx, [(f, x)], upd_same, by rw [upd_ne hne, upd_same], h1d, k dx _ h1d (fun b o e => ?_) upd_same⟩
  have n1 : b ≠ a := ne_of_none e ha
  have n2 : b ≠ dx := ne_of_none e h1d
  rw [upd_ne n2, del_ne n1, upd_ne n1, upd_ne n2, upd_ne n1]
  exact e
structure ErrC (K : Fg) (mg : Str → Option Value) (name qual f : Str) (st : Stmt) (C fI : Addr) (fd : FuncData) : Prop where
  g : mg name = some (.ref C)
  ox : OexC K C
  xf : XfC K C
  no : PySem.W.findIn K (.ref C) f = some none
  ini : PySem.W.findIn K (.ref C) "__init__" = some (some (.ref fI))
  tyI : PySem.W.typeIn K (.ref fI) = some (.type "function")
  fn : Fun K "__init__" qual st fI fd
  bd : Binds K fd ["self", f] []
/-- a def with a default -/
structure FunD (K : Fg) (x qual : Str) (st : Stmt) (f : Addr) (fd : FuncData) : Prop where
  ex : ∃ (oc : Value) (od : Option Addr) (dV kV doc pm : Value) (an : Option Addr) (cdv ct : Value) (osl : Array (Option Value)),
    fd = PySem.W.fnOf x qual (defArgs st) (defBody st) (defScope st) dV kV doc pm an cdv ct ∧ K.lookup f = some ⟨oc, od, .func fd, osl⟩ ∧ PySem.W.codeIn K cdv qual = true
theorem FunD.okX {P : Program} {w : World} {K : Fg} {mg : Str → Option Value} {base : Heap} {x qual : Str} {st : Stmt} {f : Addr} {fd : FuncData} {N ps : List Str} {k : Nat} {sp : Sp} (F : FunD K x qual st f fd) (S : FnScope N ps (defScope st))
    (len : ∀ vs H Q E, sp vs H Q E → vs.length = ps.length)
    (hb : ∀ (cdv : Value) (A : Around) (outer : List Env) (s : Shared) (H : Hp) (vs : List V) (Q : VK) (E : XK), Room k (A.deeper (PyProof.Rows.envOfC qual (defScope st) s.heap.objs.size f cdv)) → sp vs H Q E →
      ∃ t, PSs (cxOf (L2.CX P w) P w K mg base N qual (defScope st) f cdv A outer s H E) (defBody st) t ∧ t { nx := fun _ H' => Q .non H', rt := Q } (start N vs) H) : FnOk P w K mg base (L2.CX P w) (k + 1) f fd ps sp := by
  obtain ⟨oc, od, dV, kV, doc, pm, an, cdv, ct, osl, rfl, lk, hcd⟩ := F.ex
  exact fn_of lk hcd S len fun A outer s H vs Q E hr q => hb cdv A outer s H vs Q E hr q
/-! ### what stands in a row of stages, from a depth and sources on -/
def Sg.vd : Sg → Prop
  | .nm k n => k ∈ K1 ∧ isNm n = true
  | .num k n => k ∈ K2 ∧ okNum n = true
  | _ => True
theorem Sg.vd.wf {x : Sg} (h : x.vd) : x.wf := by
  cases x with
  | nm k n => exact h.1
  | num k n => exact h.1
  | flat => trivial
  | zip p => trivial
abbrev Out := Sum (Int × List Str) Nat
inductive Rest (K : Fg) (C : Addr) (H : Hp) : Int → List Str → Nat → List V → Out → Prop where
  | nil {d : Int} {tk : List Str} {i : Nat} : Rest K C H d tk i [] (.inl (d, tk))
  | go {d : Int} {tk : List Str} {i : Nat} {v : V} {vs : List V} {x : Sg} {o : Out} (h : StV K C H v x) (w : x.vd) (l : x.srcs.length ≤ 1000) (c : x.can d tk = true) (r : Rest K C H (x.dep d) (tk ++ x.srcs) (i + 1) vs o) : Rest K C H d tk i (v :: vs) o
  | bad {d : Int} {tk : List Str} {i : Nat} {v : V} {vs : List V} (h : IsSt K C H v false) : Rest K C H d tk i (v :: vs) (.inr i)
  | cant {d : Int} {tk : List Str} {i : Nat} {v : V} {vs : List V} {x : Sg} (h : StV K C H v x) (w : x.vd) (l : x.srcs.length ≤ 1000) (c : x.can d tk = false) : Rest K C H d tk i (v :: vs) (.inr i)
/-- all but x stays -/
def Bx (x : Addr) (H H' : Hp) : Prop := ∀ b o, b ≠ x → H b = some o → H' b = some o
def spInit (K : Fg) (C CB CL : Addr) : Sp := fun vs H Q E => ∃ (x dx : Addr) (s : Str) (st : Addr) (xs : List V), vs = [.ref x, .str s, .ref st] ∧ H x = some (.ins C dx []) ∧ s ∈ K0 ∧ (SqL K H st xs ∨ SqT K H st xs) ∧
  ((xs.length ≤ 6 ∧ ∃ o : Out, Rest K C H 0 [s] 0 xs o ∧ match o with
      | .inl (d, tk) => ∀ (H' : Hp) (ts ss : Addr), Bx x H H' → H' x = some (.ins C dx (flds s ts ss d)) → SqT K H' ts xs → SqT K H' ss (tk.map V.str) → Q .non H'
      | .inr p => ∀ (H' : Hp) (e : Addr), H e = none → Same H H' → H' e = some (.xd [("position", .int (p : Nat))]) → E (.ref CB) (some e) H') ∨
   (6 < xs.length ∧ ∀ (H' : Hp) (e : Addr), H e = none → Same H H' → H' e = some (.xd [("value", .ref st)]) → E (.ref CL) (some e) H'))
theorem scI1 : FnScope ["self", "value"] ["self", "value"] (defScope sI1) := ⟨rfl, rfl, rfl, by decide +kernel, rfl, by decide +kernel, by decide +kernel⟩
theorem scI2 : FnScope ["self", "position"] ["self", "position"] (defScope sI2) := ⟨rfl, rfl, rfl, by decide +kernel, rfl, by decide +kernel, by decide +kernel⟩
theorem scInit : FnScope ["self", "source", "stages", "sources", "depth", "position", "stage"] ["self", "source", "stages"] (defScope sInit) := ⟨rfl, rfl, rfl, by decide +kernel, rfl, by decide +kernel, by decide +kernel⟩
theorem walk_l {K : Fg} {st : Addr} {xs : List V} {H1 : Hp} (h : SqL K H1 st xs) : ∃ G : Hp → Prop, Walk (Ite K st) xs.length G (YPair (fun i => some (.int (i : Nat))) (fun i => xs[i]?)) ∧ ∀ H', Same H1 H' → G H' := ⟨_, walk_enum, fun H' s => s.seq h⟩
theorem walk_t {K : Fg} {st : Addr} {xs : List V} {H1 : Hp} (h : SqT K H1 st xs) : ∃ G : Hp → Prop, Walk (IteT K st) xs.length G (YPair (fun i => some (.int (i : Nat))) (fun i => xs[i]?)) ∧ ∀ H', Same H1 H' → G H' := ⟨_, walk_enumT, fun H' s => (Kp.of s).tup h⟩
theorem len_put {f : Str} {v : V} {fs : List (Str × V)} {n : Nat} (h : fs.length ≤ n) : (putF f v fs).length ≤ n + 1 := Nat.le_trans (length_putF f v fs) (Nat.add_le_add_right h 1)
theorem tup_either {K : Fg} {st : Addr} {xs : List V} {H1 : Hp} {Q : VK} (h : SqL K H1 st xs ∨ SqT K H1 st xs) (k : ∀ (t : Addr) (H' : Hp), Same H1 H' → SqT K H' t xs → Q (.ref t) H') : kTup K (.ref st) H1 Q := by
  rcases h with h | h
  · exact .inl ⟨_, _, rfl, h, fun t ht => k t _ (same_new ht) (.inl (.inl upd_same))⟩
  · exact .inr ⟨_, _, rfl, h, k _ _ (Same.refl _) h⟩
theorem sq_same {K : Fg} {st : Addr} {xs : List V} {H H' : Hp} (s : Same H H') (h : SqL K H st xs ∨ SqT K H st xs) : SqL K H' st xs ∨ SqT K H' st xs := h.elim (fun h => .inl (s.seq h)) fun h => .inr ((Kp.of s).tup h)
theorem Bx.of {x : Addr} {H H' : Hp} (s : Same H H') : Bx x H H' := fun b o _ e => s b o e
theorem Bx.trans {x : Addr} {H H1 H2 : Hp} (a : Bx x H H1) (b : Bx x H1 H2) : Bx x H H2 := fun c o n e => b c o n (a c o n e)
theorem Bx.upd {x : Addr} {H : Hp} {o : HO} : Bx x H (upd H x o) := fun b u n e => by rw [upd_ne n]; exact e
theorem Bx.sq {K : Fg} {x st C dx : Addr} {fs : List (Str × V)} {xs : List V} {H H' : Hp} (s : Bx x H H') (hx : H x = some (.ins C dx fs)) (h : SqL K H st xs ∨ SqT K H st xs) : SqL K H' st xs ∨ SqT K H' st xs := by
  have ne : ∀ {o : HO}, H st = some o → (∀ C dx fs, o ≠ .ins C dx fs) → st ≠ x := fun {o} e n z => by
    rw [z, hx] at e
    exact n _ _ _ (Option.some.inj e).symm
  rcases h with ((h | ⟨o, h⟩) | h) | ((h | ⟨o, h⟩) | h)
  · exact .inl (.inl (.inl (s _ _ (ne h fun _ _ _ z => by cases z) h)))
  · exact .inl (.inl (.inr ⟨o, s _ _ (ne h fun _ _ _ z => by cases z) h⟩))
  · exact .inl (.inr h)
  · exact .inr (.inl (.inl (s _ _ (ne h fun _ _ _ z => by cases z) h)))
  · exact .inr (.inl (.inr ⟨o, s _ _ (ne h fun _ _ _ z => by cases z) h⟩))
  · exact .inr (.inr h)
theorem Bx.tup {K : Fg} {x st C dx : Addr} {fs : List (Str × V)} {xs : List V} {H H' : Hp} (s : Bx x H H') (hx : H x = some (.ins C dx fs)) (h : SqT K H st xs) : SqT K H' st xs := by
  have ne : ∀ {o : HO}, H st = some o → (∀ C dx fs, o ≠ .ins C dx fs) → st ≠ x := fun {o} e n z => by
    rw [z, hx] at e
    exact n _ _ _ (Option.some.inj e).symm
  rcases h with (h | ⟨o, h⟩) | h
  · exact (.inl (.inl (s _ _ (ne h fun _ _ _ z => by cases z) h)))
  · exact (.inl (.inr ⟨o, s _ _ (ne h fun _ _ _ z => by cases z) h⟩))
  · exact (.inr h)
theorem tySq {K : Fg} {st : Addr} {xs : List V} {H : Hp} (h : SqL K H st xs ∨ SqT K H st xs) : ∃ t, TyX K H (.ref st) (.type t) ∧ PySem.W.kitAny K (.type t) [.type "list", .type "tuple"] = some true := by
  have l1 : PySem.W.kitOne K (.type "list") (.type "list") = some true := kit_ty (by decide +kernel)
  have l2 : PySem.W.kitOne K (.type "tuple") (.type "list") = some false := kit_ty (by decide +kernel)
  have l3 : PySem.W.kitOne K (.type "tuple") (.type "tuple") = some true := kit_ty (by decide +kernel)
  rcases h with ((h | ⟨o, h⟩) | ⟨o, _, _, e, c, _⟩) | h
  · exact ⟨_, .base (.lst h), by unfold PySem.W.kitAny; rw [l1]⟩
  · exact ⟨_, .base (.frz h), by unfold PySem.W.kitAny; rw [l1]⟩
  · exact ⟨_, .kList e c, by unfold PySem.W.kitAny; rw [l1]⟩
  · refine ⟨_, tyT h, ?_⟩
    unfold PySem.W.kitAny
    rw [l2]
    show PySem.W.kitAny K (.type "tuple") [.type "tuple"] = some true
    unfold PySem.W.kitAny
    rw [l3]
theorem isSt_of {K : Fg} {mg : Str → Option Value} {C : Addr} {H : Hp} {v : V} {x : Sg} (c : Cl K mg C) (h : StV K C H v x) (w : x.vd) : IsSt K C H v true := by
  cases h with
  | @nm a k n h =>
    have e := Det.nm (K := K) (C := C) (H := H) w.1 (isNm_len w.2)
    rw [w.2] at e
    exact .two h e
  | @num a k n h =>
    have e := Det.num (K := K) (C := C) (H := H) (i := n) w.1
    rw [w.2] at e
    exact .two h e
  | @flat a h =>
    have e := IsSt.one (C := C) h
    rw [decide_eq_true rfl] at e
    exact e
  | @zip a v p h hp =>
    cases hp with
    | mk h1 h2 h3 h4 => exact .two h (.zip (c.ty h1) c.kc)
theorem Det.same {K : Fg} {C : Addr} {H H' : Hp} {k : Str} {d : V} {b : Bool} (e : Det K C H k d b) (s : Same H H') : Det K C H' k d b := by
  cases e with
  | nm hk l => exact .nm hk l
  | num hk => exact .num hk
  | zip ty kt => exact .zip (TyX.same ty s) kt
theorem IsSt.same {K : Fg} {C : Addr} {H H' : Hp} {v : V} {b : Bool} (h : IsSt K C H v b) (s : Same H H') : IsSt K C H' v b := by
  cases h with
  | other ty kt => exact .other (TyX.same ty s) kt
  | none h => exact .none ((Kp.of s).tup h)
  | one h => exact .one ((Kp.of s).tup h)
  | two h e => exact .two ((Kp.of s).tup h) (e.same s)
/-- the module: what is written at its top -/
structure Lb (K : Fg) (mg : Str → Option Value) (A I : Nat → Addr) (D J : Nat → FuncData) (aS a1 a2 C : Addr) : Prop where
  N : Nm mg
  Z : Cst K mg aS a1 a2
  c : Cl K mg C
  e3 : ErrC K mg "BadStages" "BadStages.__init__" "value" sI1 (A 3) (I 3) (J 3)
  e4 : ErrC K mg "BadStage" "BadStage.__init__" "position" sI2 (A 4) (I 4) (J 4)
  p1 : ∀ (P : Program) (w : World) (base : Heap), Prp P w K mg base C "source" "_source"
  p2 : ∀ (P : Program) (w : World) (base : Heap), Prp P w K mg base C "stages" "_stages"
  p3 : ∀ (P : Program) (w : World) (base : Heap), Prp P w K mg base C "sources" "_sources"
  p4 : ∀ (P : Program) (w : World) (base : Heap), Prp P w K mg base C "depth" "_depth"
  g13 : mg "is_integer" = some (.ref (A 13))
  F13 : Fun K "is_integer" "is_integer" sIsInt (A 13) (D 13)
  b13 : Binds K (D 13) ["value"] []
  g14 : mg "is_name" = some (.ref (A 14))
  F14 : Fun K "is_name" "is_name" sIsName (A 14) (D 14)
  b14 : Binds K (D 14) ["value"] []
  g15 : mg "is_stage_number" = some (.ref (A 15))
  F15 : Fun K "is_stage_number" "is_stage_number" sIsNum (A 15) (D 15)
  b15 : Binds K (D 15) ["value"] []
  g16 : mg "is_stage" = some (.ref (A 16))
  F16 : Fun K "is_stage" "is_stage" sIsStage (A 16) (D 16)
  b16 : Binds K (D 16) ["value"] []
  g17 : mg "sources_of_stage" = some (.ref (A 17))
  F17 : Fun K "sources_of_stage" "sources_of_stage" sSrcs (A 17) (D 17)
  b17 : Binds K (D 17) ["stage"] []
  g18 : mg "can_stand" = some (.ref (A 18))
  F18 : Fun K "can_stand" "can_stand" sCan (A 18) (D 18)
  b18 : Binds K (D 18) ["stage", "depth", "sources"] []
  g19 : mg "depth_behind" = some (.ref (A 19))
  F19 : Fun K "depth_behind" "depth_behind" sDep (A 19) (D 19)
  b19 : Binds K (D 19) ["stage", "depth"] []
  g20 : mg "is_position" = some (.ref (A 20))
  F20 : Fun K "is_position" "is_position" sIsPos (A 20) (D 20)
  b20 : Binds K (D 20) ["value", "many"] []
  g21 : mg "are_positions" = some (.ref (A 21))
  F21 : Fun K "are_positions" "are_positions" sArePos (A 21) (D 21)
  b21 : Binds K (D 21) ["value", "many"] []
section
variable {P : Program} {w : World} {K : Fg} {mg : Str → Option Value} {base : Heap} {A I : Nat → Addr} {D J : Nat → FuncData} {aS a1 a2 C : Addr}
theorem Lb.o16 (L : Lb K mg A I D J aS a1 a2 C) : FnOk P w K mg base CX0 3 (A 16) (D 16) ["value"] (spIsStage K C) :=
  ok_isStage L.F16 L.N L.Z L.c L.g13 L.F13 L.b13 L.g14 L.F14 L.b14 L.g15 L.F15 L.b15
theorem Lb.o17 (L : Lb K mg A I D J aS a1 a2 C) : FnOk P w K mg base CX0 3 (A 17) (D 17) ["stage"] (spSrcs K C) := ok_srcs L.F17 L.c (L.p3 _ _ _)
theorem Lb.o18 (L : Lb K mg A I D J aS a1 a2 C) : FnOk P w K mg base CX0 4 (A 18) (D 18) ["stage", "depth", "sources"] (spCan K C) := ok_can L.F18 L.N L.c (L.p3 _ _ _) L.g17 L.F17 L.b17
theorem Lb.o19 (L : Lb K mg A I D J aS a1 a2 C) : FnOk P w K mg base CX0 3 (A 19) (D 19) ["stage", "depth"] (spDep K C) := ok_dep L.F19 L.N L.c (L.p4 _ _ _)
theorem Lb.i3 (L : Lb K mg A I D J aS a1 a2 C) : FnOk P w K mg base CX0 1 (I 3) (J 3) ["self", "value"] (spErr (A 3) "value") := by
  refine L.e3.fn.ok scI1 (fun vs H Q E h => ?_) (fun cdv B outer s H vs Q E hr h => ?_)
  · obtain ⟨a, v, rfl, _⟩ := h
    rfl
  · obtain ⟨a, v, rfl, ha, k⟩ := h
    exact ⟨_, pss_one (ps_ost (pv 0) (pv 1)), _, rfl, _, rfl, a, _, rfl, L.e3.ox, L.e3.no, .inl ⟨ha, k⟩⟩
theorem Lb.i4 (L : Lb K mg A I D J aS a1 a2 C) : FnOk P w K mg base CX0 1 (I 4) (J 4) ["self", "position"] (spErr (A 4) "position") := by
  refine L.e4.fn.ok scI2 (fun vs H Q E h => ?_) (fun cdv B outer s H vs Q E hr h => ?_)
  · obtain ⟨a, v, rfl, _⟩ := h
    rfl
  · obtain ⟨a, v, rfl, ha, k⟩ := h
    exact ⟨_, pss_one (ps_ost (pv 0) (pv 1)), _, rfl, _, rfl, a, _, rfl, L.e4.ox, L.e4.no, .inl ⟨ha, k⟩⟩
theorem ok_init {f : Addr} {fd : FuncData} (F : FunD K "__init__" "Program.__init__" sInit f fd) (L : Lb K mg A I D J aS a1 a2 C) :
    FnOk P w K mg base (L2.CX P w) 5 f fd ["self", "source", "stages"] (spInit K C (A 4) (A 3)) := by
  refine F.okX scInit (fun vs H Q E h => ?_) (fun cdv B outer s H vs Q E hr h => ?_)
  · obtain ⟨x, dx, s, st, xs, rfl, _⟩ := h
    rfl
  · obtain ⟨x, dx, s, st, xs, rfl, hx, hs, hst, k⟩ := h
    have hr3 := hr.mono (show 3 ≤ 4 by decide)
    have hr2 := hr.mono (show 2 ≤ 4 by decide)
    obtain ⟨tm, hm⟩ := L.Z.most
    refine ⟨_, pss_cons (ps_if (pt_cmpR op_notIn_seq (pv 1) (pe_glob (v := .ref aS) rfl L.Z.gS rfl) rfl) pss_never pss_nil)
      (pss_cons (ps_if (PW.pt (pw_or (pt_not (pt_val (pe_callB call_isiT (by rfl) L.N.isi PyProof.Rows.boot_isinstance (pa_cons (pv 2) (pa_cons (pe_tup (pa_cons (pe_bltn (v := .ty "list") (by rfl) L.N.lst PyProof.Rows.boot_list rfl)
            (pa_cons (pe_bltn (v := .ty "tuple") (by rfl) L.N.tup boot_tup' rfl) pa_nil))) pa_nil)))))
          (pw_or1 (pt_cmpR op_gt (pe_callB call_len_seq (by rfl) L.N.len PySem.boot_len (pa_cons (pv 2) pa_nil)) (pe_glob (v := .int 6) rfl hm ⟨_, rfl⟩) (nomark _)))))
        (pss_one (ps_raise rfl (takes_of rfl rfl rfl rfl) (pmk_oex L.e3.ox L.e3.ini L.e3.tyI L.i3 hr2 L.e3.bd .nil pass0 rfl L.e3.g (pa_cons (pv 2) pa_nil)))) pss_nil)
      (pss_cons (ps_set (i := 3) scInit.nd rfl (Or.inl rfl) (pe_lst (pa_cons (pv 1) pa_nil)))
      (pss_cons (ps_set (i := 4) scInit.nd rfl (Or.inl rfl) pe_int)
      (pss_cons (ps_for (passes_of rfl) rfl (pi_enumA (by rfl) L.N.enm (pa_cons (pv 2) pa_nil))
          (pg_tup rfl (pgs_cons (pg_name (i := 5) scInit.nd rfl (Or.inl rfl)) (pgs_cons (pg_name (i := 6) scInit.nd rfl (Or.inl rfl)) pgs_nil)))
          (pss_cons (ps_if (PW.pt (pw_or (pt_not (pt_val (pe_call L.o16 hr3 rfl L.g16 L.F16.kp L.b16 .nil pass0 (pa_cons (pv 6) pa_nil))))
              (pw_or1 (pt_not (pt_val (pe_call L.o18 hr rfl L.g18 L.F18.kp L.b18 .nil pass0 (pa_cons (pv 6) (pa_cons (pv 4) (pa_cons (pv 3) pa_nil)))))))))
            (pss_one (ps_raise rfl (takes_of rfl rfl rfl rfl) (pmk_oex L.e4.ox L.e4.ini L.e4.tyI L.i4 hr2 L.e4.bd .nil pass0 rfl L.e4.g (pa_cons (pv 5) pa_nil)))) pss_nil)
          (pss_cons (ps_expr (pe_bm PySem.F.plainAttrs_list PySem.F.slot_list_extend PySem.F.type_list_extend mt_extT (pv 3) (pa_cons (pe_call L.o17 hr3 rfl L.g17 L.F17.kp L.b17 .nil pass0 (pa_cons (pv 6) pa_nil)) pa_nil)))
          (pss_one (ps_set (i := 4) scInit.nd rfl (Or.inl rfl) (pe_call L.o19 hr3 rfl L.g19 L.F19.kp L.b19 .nil pass0 (pa_cons (pv 6) (pa_cons (pv 4) pa_nil))))))))
      (pss_cons (ps_fld (pv 0) (pv 1) rfl)
      (pss_cons (ps_fld (pv 0) (pe_tupleOf (by rfl) L.N.tup (pv 2)) rfl)
      (pss_cons (ps_fld (pv 0) (pe_tupleOf (by rfl) L.N.tup (pv 3)) rfl)
      (pss_one (ps_fld (pv 0) (pv 4) rfl))))))))), ?_⟩
    have hst0 := hst
    -- source not in SOURCES
    refine ⟨_, rfl, aS, _, rfl, .inr (L.Z.hS _), rfl, rfl, _, rfl, ?_⟩
    rw [show inV (.str s) [.str "a", .str "b", .str "c", .str "d"] = true from in_true (ws := K0) hs]
    refine iteF (A := True) ?_
    -- isinstance(stages, (list, tuple)), its length
    refine ⟨_, rfl, by show 2 ≤ sizeLine; decide, fun p hp => ?_⟩
    obtain ⟨t, ty, kt⟩ := tySq hst
    have s1 : Same H (upd H p (.tup [.ty "list", .ty "tuple"])) := same_new hp
    have e1 : upd H p (.tup [.ty "list", .ty "tuple"]) p = some (.tup [.ty "list", .ty "tuple"]) := upd_same
    generalize upd H p (.tup [.ty "list", .ty "tuple"]) = H1 at s1 e1
    refine ⟨.ref st, p, _, .type t, _, true, rfl, e1, .cons (.ty _) (.cons (.ty _) .nil), TyX.same ty s1, kt, _, rfl, ?_⟩
    refine iteF (A := True) ?_
    refine ⟨_, rfl, st, xs, rfl, sq_same s1 hst, _, _, rfl, rfl, _, rfl, ?_⟩
    refine dif (fun big => ?_) (fun small => ?_)
    · refine ⟨_, rfl, by show 1 ≤ 1000; decide, fun a ha => read_raise (R := fun e H' => E (.ref (A 3)) (some e) H') (fun e H' he s2 e2 => ?_) a ha⟩
      rcases k with ⟨hl, _⟩ | ⟨_, k⟩
      · omega
      · exact k H' e (s1.free he) (s1.trans s2) e2
    rcases k with ⟨hl, o, rest0, k⟩ | ⟨hl, _⟩
    case inr => omega
    -- sources = [source]
    refine ⟨_, rfl, by show 1 ≤ sizeLine; decide, fun q hq => ?_⟩
    have s2 : Same H1 (upd H1 q (.lst [.str s])) := same_new hq
    have e2 : upd H1 q (.lst [.str s]) q = some (.lst [.str s]) := upd_same
    have hqH : H q = none := s1.free hq
    generalize upd H1 q (.lst [.str s]) = H2 at s2 e2
    have sHq : ∀ {H' : Hp} {o : HO}, Same H H' → Same H (upd H' q o) := fun {H' o} z b u e => by
      rw [upd_ne (ne_of_none e hqH)]
      exact z b u e
    -- the loop
    refine ⟨_, rfl, st, xs, rfl, ?_⟩
    have s12 := s1.trans s2
    have jn : ∃ (Jt : It) (G : Hp → Prop), Walk Jt xs.length G (YPair (fun i => some (.int (i : Nat))) (fun i => xs[i]?)) ∧ (∀ H', Same H H' → G H') ∧ ((SqL K H2 st xs ∧ Jt = Ite K st) ∨ (SqT K H2 st xs ∧ Jt = IteT K st)) := by
      rcases hst with hh | hh
      · obtain ⟨G, wk, hG⟩ := walk_l hh
        exact ⟨_, G, wk, hG, .inl ⟨s12.seq hh, rfl⟩⟩
      · obtain ⟨G, wk, hG⟩ := walk_t hh
        exact ⟨_, G, wk, hG, .inr ⟨(Kp.of s12).tup hh, rfl⟩⟩
    obtain ⟨Jt, G, wk, hG, ej⟩ := jn
    refine ⟨Jt, ej, ?_⟩
    refine for_it wk (fun i σ H' => ∃ (d : Int) (tk : List Str) (v5 v6 : Option V), σ = [some (.ref x), some (.str s), some (.ref st), some (.ref q), some (.int d), v5, v6] ∧ Same H H' ∧
      H' q = some (.lst (tk.map V.str)) ∧ tk.length ≤ 1 + 1000 * i ∧ Rest K C H d tk i (xs.drop i) o) ⟨0, [s], none, none, rfl, s12, e2, by show 1 ≤ 1 + 1000 * 0; decide, rest0⟩ (fun i σ H' _ hh => ?_) ?_ ?_
    · obtain ⟨d, tk, v5, v6, _, z, _⟩ := hh
      exact hG H' z
    · rintro i y σ Hi H' hi ⟨d, tk, v5, v6, rfl, si, hqi, hl1, rest⟩ ⟨T, a, b, rfl, hT, rfl, ea, eb⟩
      have ea' : V.int (i : Nat) = a := Option.some.inj ea
      subst ea'
      refine ⟨T, _, rfl, .inl (.inl upd_same), rfl, _, _, rfl, _, _, rfl, rfl, ?_⟩
      have sT : Same H (upd Hi T (.tup [.int (i : Nat), b])) := si.trans (same_new hT)
      have hqT : upd Hi T (.tup [.int (i : Nat), b]) q = some (.lst (tk.map V.str)) := by rw [upd_ne (ne_of_none hqi hT)]; exact hqi
      generalize upd Hi T (.tup [.int (i : Nat), b]) = G1 at sT hqT
      have hd : xs.drop i = b :: xs.drop (i + 1) := by
        rw [List.drop_eq_getElem_cons hi]
        have e9 : xs[i]? = some b := eb
        rw [List.getElem?_eq_getElem hi] at e9
        rw [Option.some.inj e9]
      rw [hd] at rest
      cases rest with
      | @go d tk i v vs x' o h w' l c r =>
        refine ⟨_, rfl, b, true, rfl, isSt_of L.c (StV.kp (Kp.of sT) h) w', fun G2 t2 => ?_⟩
        refine ⟨_, rfl, iteF (A := True) ?_⟩
        have h2 := StV.kp (Kp.of (sT.trans t2)) h
        refine ⟨_, rfl, _, rfl, _, rfl, b, x', d, q, tk, rfl, h2, w'.wf, l, SqL.of (t2 _ _ hqT), fun G3 t3 => ?_⟩
        rw [c]
        refine ⟨_, rfl, iteF (A := True) ?_⟩
        have q3 := t3 _ _ (t2 _ _ hqT)
        have s3 := (sT.trans t2).trans t3
        refine ⟨_, rfl, .inl ⟨rfl, _, SqL.of q3⟩, _, rfl, b, x', rfl, StV.kp (Kp.of s3) h, w'.wf, fun ss G4 t4 hss => ?_⟩
        have q4 := t4 _ _ q3
        have s4 := s3.trans t4
        refine ⟨q, ss, _, _, rfl, rfl, q4, hss, ?_, ?_⟩
        · rw [List.length_map, List.length_map]
          rw [sizeLine_eq]
          omega
        refine ⟨_, rfl, _, rfl, b, x', d, rfl, StV.kp (Kp.of (sHq s4)) h, w'.wf, ?_⟩
        refine ⟨_, tk ++ x'.srcs, _, _, rfl, sHq s4, ?_, ?_, r⟩
        · rw [upd_same, List.map_append]
        · rw [List.length_append]
          omega
      | bad h =>
        refine ⟨_, rfl, b, false, rfl, h.same sT, fun G2 t2 => ?_⟩
        refine ⟨_, rfl, iteT (B := True) ?_⟩
        refine ⟨_, rfl, by show 1 ≤ 1000; decide, fun a ha => read_raise (R := fun e H' => E (.ref (A 4)) (some e) H') (fun e H' he s3 e3 => ?_) a ha⟩
        exact k H' e ((sT.trans t2).free he) ((sT.trans t2).trans s3) e3
      | @cant d tk i v vs x' h w' l c =>
        refine ⟨_, rfl, b, true, rfl, isSt_of L.c (StV.kp (Kp.of sT) h) w', fun G2 t2 => ?_⟩
        refine ⟨_, rfl, iteF (A := True) ?_⟩
        have h2 := StV.kp (Kp.of (sT.trans t2)) h
        refine ⟨_, rfl, _, rfl, _, rfl, b, x', d, q, tk, rfl, h2, w'.wf, l, SqL.of (t2 _ _ hqT), fun G3 t3 => ?_⟩
        rw [c]
        refine ⟨_, rfl, iteT (B := True) ?_⟩
        have s3 := (sT.trans t2).trans t3
        refine ⟨_, rfl, by show 1 ≤ 1000; decide, fun a ha => read_raise (R := fun e H' => E (.ref (A 4)) (some e) H') (fun e H' he s4 e3 => ?_) a ha⟩
        exact k H' e (s3.free he) (s3.trans s4) e3
    · rintro σ H' ⟨d, tk, v5, v6, rfl, si, hqi, hl1, rest⟩
      rw [List.drop_length] at rest
      cases rest
      have qx : q ≠ x := fun z => by rw [z, hx] at hqH; cases hqH
      refine ⟨_, rfl, _, rfl, x, C, dx, [], rfl, si _ _ hx, L.c.cl, L.c.n1, by decide, ?_⟩
      have ba : Bx x H (upd H' x (.ins C dx (putF "_source" (.str s) []))) := (Bx.of si).trans Bx.upd
      have xa : upd H' x (.ins C dx (putF "_source" (.str s) [])) x = some (.ins C dx (putF "_source" (.str s) [])) := upd_same
      have qa : upd H' x (.ins C dx (putF "_source" (.str s) [])) q = some (.lst (tk.map V.str)) := by rw [upd_ne qx]; exact hqi
      generalize upd H' x (.ins C dx (putF "_source" (.str s) [])) = Ha at ba xa qa
      refine ⟨_, rfl, tup_either (ba.sq hx hst) fun ts Hb sb hts => ?_⟩
      refine ⟨_, rfl, x, C, dx, _, rfl, sb _ _ xa, L.c.cl, L.c.n2, Nat.lt_of_le_of_lt (len_put (n := 0) (Nat.le_refl 0)) (by decide), ?_⟩
      have xb := sb _ _ xa
      have qb := sb _ _ qa
      have bb : Bx x H Hb := ba.trans (Bx.of sb)
      have bc : Bx x Hb (upd Hb x (.ins C dx (putF "_stages" (.ref ts) (putF "_source" (.str s) [])))) := Bx.upd
      have xc : upd Hb x (.ins C dx (putF "_stages" (.ref ts) (putF "_source" (.str s) []))) x = some (.ins C dx (putF "_stages" (.ref ts) (putF "_source" (.str s) []))) := upd_same
      generalize upd Hb x (.ins C dx (putF "_stages" (.ref ts) (putF "_source" (.str s) []))) = Hc at bc xc
      refine ⟨_, rfl, tup_either (.inl (SqL.of (bc _ _ qx qb))) fun ss Hd sd hss => ?_⟩
      refine ⟨_, rfl, x, C, dx, _, rfl, sd _ _ xc, L.c.cl, L.c.n3, Nat.lt_of_le_of_lt (len_put (len_put (n := 0) (Nat.le_refl 0))) (by decide), ?_⟩
      have xd := sd _ _ xc
      have be : Bx x Hd (upd Hd x (.ins C dx (putF "_sources" (.ref ss) (putF "_stages" (.ref ts) (putF "_source" (.str s) []))))) := Bx.upd
      have xe : upd Hd x (.ins C dx (putF "_sources" (.ref ss) (putF "_stages" (.ref ts) (putF "_source" (.str s) [])))) x = some (.ins C dx (putF "_sources" (.ref ss) (putF "_stages" (.ref ts) (putF "_source" (.str s) [])))) := upd_same
      generalize upd Hd x (.ins C dx (putF "_sources" (.ref ss) (putF "_stages" (.ref ts) (putF "_source" (.str s) [])))) = He at be xe
      refine ⟨_, rfl, _, rfl, x, C, dx, _, rfl, xe, L.c.cl, L.c.n4, Nat.lt_of_le_of_lt (len_put (len_put (len_put (n := 0) (Nat.le_refl 0)))) (by decide), ?_⟩
      have bf : Bx x He (upd He x (.ins C dx (flds s ts ss d))) := Bx.upd
      have bcf : Bx x Hb (upd He x (.ins C dx (flds s ts ss d))) := bc.trans ((Bx.of sd).trans (be.trans bf))
      have bdf : Bx x Hd (upd He x (.ins C dx (flds s ts ss d))) := be.trans bf
      exact k _ ts ss (bb.trans bcf) upd_same (bcf.tup xb hts) (bdf.tup xd hss)
end
end K80
set_option Elab.async false
set_option linter.all false
set_option maxRecDepth 100000
set_option maxHeartbeats 4000000
/-! len(set(xs)) of any ints -/
namespace VK
open PySem PySem.Spec PyProof.Rows L2
theorem met_len (ns : List Int) : ∀ i, i ≤ ns.length → (firstMet (fun i => ns.getD i 0) i).length ≤ i ∧ ((firstMet (fun i => ns.getD i 0) i).length = i → firstMet (fun i => ns.getD i 0) i = ns.take i ∧ (ns.take i).Nodup)
  | 0, _ => ⟨Nat.le_refl 0, fun _ => ⟨rfl, List.nodup_nil⟩⟩
  | i + 1, hi => by
    have lt : i < ns.length := hi
    obtain ⟨a1, a2⟩ := met_len ns i (Nat.le_of_lt lt)
    have e : ns.getD i 0 = ns[i] := by
      rw [List.getD_eq_getElem?_getD, List.getElem?_eq_getElem lt]
      rfl
    rw [firstMet_succ]
    unfold step_dedup
    by_cases c : (firstMet (fun i => ns.getD i 0) i).any (· == ns.getD i 0) = true
    · rw [if_pos c]
      exact ⟨Nat.le_succ_of_le a1, fun z => absurd z (by omega)⟩
    · rw [if_neg c]
      refine ⟨by rw [List.length_append]; exact Nat.add_le_add_right a1 1, fun z => ?_⟩
      rw [List.length_append] at z
      obtain ⟨b1, b2⟩ := a2 (Nat.add_right_cancel z)
      rw [b1] at c
      have no : ns[i] ∉ ns.take i := fun m => c (List.any_eq_true.mpr ⟨_, m, by rw [e]; exact beq_self_eq_true _⟩)
      have tk : ns.take (i + 1) = ns.take i ++ [ns[i]] := by rw [List.take_succ, List.getElem?_eq_getElem lt]; rfl
      refine ⟨by rw [b1, e, tk], ?_⟩
      rw [tk]
      refine List.nodup_append.mpr ⟨b2, by simp, fun x hx y hy => ?_⟩
      rw [List.mem_singleton.mp hy]
      exact fun z => no (z ▸ hx)
theorem met_iff (ns : List Int) : (firstMet (fun i => ns.getD i 0) ns.length).length = ns.length ↔ ns.Nodup := by
  obtain ⟨_, b⟩ := met_len ns ns.length (Nat.le_refl _)
  rw [List.take_length] at b
  refine ⟨fun z => (b z).2, fun h => ?_⟩
  rw [firstMet_nodup ns h ns.length (Nat.le_refl _), List.take_length]
section
variable {X : Cx}
def tLenSetA (K : PySem.W.Frag) (ta : TE) : TE := fun σ H Q => ta σ H fun x H1 => ∃ (l : Addr) (ns : List Int), x = V.ref l ∧ SqL K H1 l (ns.map V.int) ∧ ns.length < 64 ∧ ∀ m : Nat, (m = ns.length ↔ ns.Nodup) → Q (.int m) H1
theorem pe_lenSetA {a : Expr} {ta : TE} {p p2 q pos : Pos} (hc : X.calm = true) (hg : Gl X "len") (hm : X.mg "len" = none) (hg2 : Gl X "set") (hm2 : X.mg "set" = none) (ha : PE X a ta)
    (na : starEach [a] X.env = (false, eval a X.env) :: starEach [] X.env := by rfl) : PE X (.Call (.Name "len" p) [.Call (.Name "set" p2) [a] [] q] [] pos) (tLenSetA X.K ta) := by
  refine ⟨fun pins s σ H Q I h => Call_ (ld_blt I hg hm PySem.boot_len ?_)⟩
  refine PyProof.Rows.callWith_builtin1 (PyProof.Rows.args_cons (Call_ (ld_blt I hg2 hm2 PyProof.Rows.boot_set ?_)) rfl) rfl rfl
  refine PyProof.Rows.callWith_type1 (PyProof.Rows.args_cons (thn (ha.run pins s σ H _ I h) fun v s1 hh => PyProof.Rows.args_nil ?_) na) na rfl
  obtain ⟨x, H1, I1, r1, l, ns, rfl, hq, h1, q1⟩ := hh
  cases r1
  obtain ⟨its, r, pl, hz⟩ := I1.list hq
  have hl : its.toArray.size = ns.length := by rw [List.size_toArray, ← r.length, List.length_map]
  refine call_set_list (I1.ok.hd hc) pl.isList (ns := ns) (by simpa using r.ints) (by unfold scanBound; omega) fun h' tk hS hk => ?_
  rw [hl] at hS
  refine PyProof.Rows.args_nil ?_
  obtain ⟨o, es, ep, t, ho, hex, hd, _, _, _, hf, hn⟩ := hS
  have le := (met_len ns ns.length (Nat.le_refl _)).1
  have I2 : Inv X pins σ H1 { s1 with heap := h', toks := tk } := I1.kept fun b o e => hk b o (Heap.lt_size e) e
  exact call_len_set ho hex hd hf (by rw [hn]; omega) ⟨.int _, H1, I2.tok _, ⟨_, by rw [hn]⟩, q1 _ (met_iff ns)⟩
end
end VK
namespace K80
open PySem L2 VK
/-! ### positions -/
inductive Itm (K : Fg) (H : Hp) : V → Option Int → Prop where
  | int (i : Int) : Itm K H (.int i) (some i)
  | oth {v : V} {t : String} {b c : Bool} (ty : TyX K H v (.type t)) (kb : kitB t "int" = some b) (kc : kitB t "bool" = some c) (e : (b && !c) = false) : Itm K H v none
def inB (m : Int) : Option Int → Bool
  | some i => decide (0 ≤ i) && decide (i < m)
  | none => false
def spIsPos (K : Fg) : Sp := fun vs H Q _ => ∃ (v : V) (m : Int) (c : Option Int), vs = [v, .int m] ∧ Itm K H v c ∧ Q (.bl (inB m c)) H
def arePos (m : Int) (cs : List (Option Int)) : Bool := cs.all (inB m) && decide cs.Nodup
def spArePos (K : Fg) : Sp := fun vs H Q _ => ∃ (v : V) (m : Int), vs = [v, .int m] ∧
  ((∃ t, TyX K H v t ∧ PySem.W.kitOne K t (.type "list") = some false ∧ Q (.bl false) H) ∨
   ∃ (a : Addr) (xs : List V) (cs : List (Option Int)), v = .ref a ∧ SqL K H a xs ∧ xs.length < 64 ∧ Paired (Itm K H) xs cs ∧ ∀ H', Same H H' → Q (.bl (arePos m cs)) H')
theorem Itm.same {K : Fg} {H H' : Hp} {v : V} {c : Option Int} (h : Itm K H v c) (s : Same H H') : Itm K H' v c := by
  cases h with
  | int i => exact .int i
  | oth ty kb kc e => exact .oth (TyX.same ty s) kb kc e
theorem itms_int {K : Fg} {H : Hp} {m : Int} : ∀ {xs : List V} {cs : List (Option Int)}, Paired (Itm K H) xs cs → cs.all (inB m) = true → ∃ ns : List Int, cs = ns.map some ∧ xs = ns.map V.int
  | _, _, .nil, _ => ⟨[], rfl, rfl⟩
  | _, _, .cons h t, e => by
    rw [List.all_cons, Bool.and_eq_true] at e
    obtain ⟨ns, e1, e2⟩ := itms_int t e.2
    cases h with
    | int i => exact ⟨i :: ns, by rw [e1]; rfl, by rw [e2]; rfl⟩
    | oth ty kb kc z => exact absurd e.1 Bool.false_ne_true
theorem pair_get {α β : Type} {F : α → β → Prop} : ∀ {xs : List α} {ys : List β} {i : Nat} {x : α}, Paired F xs ys → xs[i]? = some x → ∃ y, ys[i]? = some y ∧ F x y
  | _, _, 0, _, .cons h _, e => ⟨_, rfl, by cases e; exact h⟩
  | _, _, i + 1, _, .cons _ t, e => pair_get (i := i) t e
theorem nodup_some (ns : List Int) : (ns.map some).Nodup ↔ ns.Nodup := by
  induction ns with
  | nil => simp
  | cons a r ih =>
    rw [List.map_cons, List.nodup_cons, List.nodup_cons, ih]
    simp
theorem tyL {K : Fg} {H : Hp} {a : Addr} {xs : List V} (h : SqL K H a xs) : TyX K H (.ref a) (.type "list") := by
  rcases h with (h | ⟨o, h⟩) | ⟨o, _, _, e, c, _⟩
  · exact .base (.lst h)
  · exact .base (.frz h)
  · exact .kList e c
section
variable {P : Program} {w : World} {K : Fg} {mg : Str → Option Value} {base : Heap} {A I : Nat → Addr} {D J : Nat → FuncData} {aS a1 a2 C : Addr}
end
end K80
set_option Elab.async false
set_option linter.all false
set_option maxRecDepth 100000
set_option maxHeartbeats 4000000
namespace K80
open PySem L2 VK
/-! ### sources of what is well made: each once, of the four -/
mutual
theorem Sg.fine : ∀ (x : Sg) (d : Int) (tk : List Str), x.ok d tk → tk.Nodup → (tk ++ x.srcs).Nodup ∧ ∀ s ∈ x.srcs, s ∈ K0
  | .nm _ _, _, tk, _, n => ⟨by show (tk ++ []).Nodup; rw [List.append_nil]; exact n, fun _ h => by cases h⟩
  | .num _ _, _, tk, _, n => ⟨by show (tk ++ []).Nodup; rw [List.append_nil]; exact n, fun _ h => by cases h⟩
  | .flat, _, tk, _, n => ⟨by show (tk ++ []).Nodup; rw [List.append_nil]; exact n, fun _ h => by cases h⟩
  | .zip p, _, tk, h, n => by
    have h : p.ok ∧ ∀ s ∈ p.srcs, s ∉ tk := h
    obtain ⟨a, b⟩ := Pg.fine p h.1
    exact ⟨List.nodup_append.mpr ⟨n, a, fun x hx y hy e => h.2 y hy (e ▸ hx)⟩, b⟩
theorem Pg.fine : ∀ p : Pg, p.ok → p.srcs.Nodup ∧ ∀ s ∈ p.srcs, s ∈ K0
  | .mk s l, h => by
    have h : s ∈ K0 ∧ l.len ≤ 6 ∧ l.ok 0 [s] := h
    obtain ⟨a, b⟩ := Sgs.fine l 0 [s] h.2.2 (by simp)
    refine ⟨a, fun z hz => ?_⟩
    rcases List.mem_cons.mp hz with e | e
    · rw [e]; exact h.1
    · exact b z e
theorem Sgs.fine : ∀ (l : Sgs) (d : Int) (tk : List Str), l.ok d tk → tk.Nodup → (tk ++ l.srcs).Nodup ∧ ∀ s ∈ l.srcs, s ∈ K0
  | .nil, _, tk, _, n => ⟨by show (tk ++ []).Nodup; rw [List.append_nil]; exact n, fun _ h => by cases h⟩
  | .cons x r, d, tk, h, n => by
    have h : x.ok d tk ∧ r.ok (x.dep d) (tk ++ x.srcs) := h
    obtain ⟨a, b⟩ := Sg.fine x d tk h.1 n
    obtain ⟨a2, b2⟩ := Sgs.fine r _ _ h.2 a
    refine ⟨by show (tk ++ (x.srcs ++ r.srcs)).Nodup; rw [← List.append_assoc]; exact a2, fun z hz => ?_⟩
    rcases List.mem_append.mp hz with e | e
    · exact b z e
    · exact b2 z e
end
theorem nd_len {α : Type} [DecidableEq α] : ∀ (l m : List α), l.Nodup → (∀ x ∈ l, x ∈ m) → l.length ≤ m.length
  | [], _, _, _ => Nat.zero_le _
  | a :: r, m, n, h => by
    have n' := List.nodup_cons.mp n
    have ha : a ∈ m := h a List.mem_cons_self
    have e := List.length_erase_of_mem ha
    have p := List.length_pos_of_mem ha
    have := nd_len r (m.erase a) n'.2 fun x hx => (List.mem_erase_of_ne (fun z : x = a => n'.1 (by rw [← z]; exact hx))).mpr (h x (List.mem_cons_of_mem _ hx))
    rw [List.length_cons]
    omega
theorem Pg.few {p : Pg} (h : p.ok) : p.srcs.length ≤ 4 := nd_len _ K0 (Pg.fine p h).1 (Pg.fine p h).2
theorem Sg.few {x : Sg} {d : Int} {tk : List Str} (h : x.ok d tk) : x.srcs.length ≤ 1000 := by
  cases x with
  | nm k n => exact Nat.zero_le _
  | num k n => exact Nat.zero_le _
  | flat => exact Nat.zero_le _
  | zip p =>
    have h : p.ok ∧ ∀ s ∈ p.srcs, s ∉ tk := h
    exact Nat.le_trans (Pg.few h.1) (by decide)
theorem Sg.ok.vd {x : Sg} {d : Int} {tk : List Str} (h : x.ok d tk) : x.vd := by
  cases x with
  | nm k n => exact h
  | num k n =>
    have h : k ∈ K2 ∧ 1 ≤ n ∧ n ≤ 4 := h
    refine ⟨h.1, ?_⟩
    unfold okNum
    rw [decide_eq_true h.2.1, decide_eq_true h.2.2]
    rfl
  | flat => trivial
  | zip p => trivial
theorem any_no {l tk : List Str} : (!(l.any fun s => decide (s ∈ tk))) = true ↔ ∀ s ∈ l, s ∉ tk := by
  simp
theorem Sg.ok.can {x : Sg} {d : Int} {tk : List Str} (h : x.ok d tk) : x.can d tk = true := by
  cases x with
  | nm k n => rfl
  | num k n => rfl
  | flat => exact decide_eq_true h
  | zip p =>
    have h : p.ok ∧ ∀ s ∈ p.srcs, s ∉ tk := h
    exact any_no.mpr h.2
theorem Rest.same {K : Fg} {C : Addr} {H H' : Hp} (s : Same H H') {d : Int} {tk : List Str} {i : Nat} {xs : List V} {o : Out} (r : Rest K C H d tk i xs o) : Rest K C H' d tk i xs o := by
  induction r with
  | nil => exact .nil
  | go h w l c _ ih => exact .go (StV.kp (Kp.of s) h) w l c ih
  | bad h => exact .bad (h.same s)
  | cant h w l c => exact .cant (StV.kp (Kp.of s) h) w l c
theorem rest_good {K : Fg} {C : Addr} {H : Hp} : ∀ {xs : List V} {l : Sgs} {d : Int} {tk : List Str} (i : Nat), StAll K C H xs l → l.ok d tk → Rest K C H d tk i xs (.inl (l.dep d, tk ++ l.srcs))
  | _, _, d, tk, i, .nil, _ => by
    show Rest K C H d tk i [] (.inl (d, tk ++ []))
    rw [List.append_nil]
    exact .nil
  | _, _, d, tk, i, .cons (x := x) (r := r) h t, o => by
    have o : x.ok d tk ∧ r.ok (x.dep d) (tk ++ x.srcs) := o
    have z := rest_good (i + 1) t o.2
    rw [List.append_assoc] at z
    exact .go h o.1.vd (Sg.few o.1) o.1.can z
/-! ### Program(source, stages) -/
def MkEnd (K : Fg) (C CB : Addr) (s : Str) (xs : List V) (H1 : Hp) (Q : VK) (E : XK) : Out → Prop
  | .inl (d, tk) => ∀ (p dx ts ss : Addr) (H2 : Hp), Same H1 H2 → H1 p = none → H2 p = some (.ins C dx (flds s ts ss d)) → SqT K H2 ts xs → SqT K H2 ss (tk.map V.str) → Q (.ref p) H2
  | .inr i => ∀ (H' : Hp) (e : Addr), H1 e = none → Same H1 H' → H' e = some (.xd [("position", .int (i : Nat))]) → E (.ref CB) (some e) H'
theorem same_mk {H1 : Hp} {x dx C : Addr} (h1 : H1 x = none) (h2 : H1 dx = none) : Same H1 (upd (upd H1 dx (.own x)) x (.ins C dx [])) := fun b o e => by
  rw [upd_ne (ne_of_none e h1), upd_ne (ne_of_none e h2)]
  exact e
theorem mk_read {K : Fg} {C CB CL : Addr} {s : Str} {st : Addr} {xs : List V} {H1 : Hp} {Q : VK} {E : XK} {o : Out} (hs : s ∈ K0) (hst : SqL K H1 st xs ∨ SqT K H1 st xs) (hl : xs.length ≤ 6) (r : Rest K C H1 0 [s] 0 xs o)
    (k : MkEnd K C CB s xs H1 Q E o) (x dx : Addr) (h1 : H1 x = none) (h2 : H1 dx = none) (hne : dx ≠ x) :
    spInit K C CB CL [.ref x, .str s, .ref st] (upd (upd H1 dx (.own x)) x (.ins C dx [])) (fun v H2 => v = .non ∧ Q (.ref x) H2) E := by
  have sm := same_mk (C := C) h1 h2
  have fr : ∀ {e : Addr}, upd (upd H1 dx (.own x)) x (.ins C dx []) e = none → H1 e = none := fun {e} z => sm.free z
  refine ⟨x, dx, s, st, xs, rfl, upd_same, hs, sq_same sm hst, .inl ⟨hl, o, r.same sm, ?_⟩⟩
  cases o with
  | inl a =>
    obtain ⟨d, tk⟩ := a
    refine fun H' ts ss b e t1 t2 => ⟨rfl, k x dx ts ss H' (fun c u z => ?_) h1 e t1 t2⟩
    exact b c u (ne_of_none z h1) (sm _ _ z)
  | inr i => exact fun H' e he s1 e1 => k H' e (fr he) (sm.trans s1) e1
theorem mk_long {K : Fg} {C CB CL : Addr} {s : Str} {st : Addr} {xs : List V} {H1 : Hp} {Q : VK} {E : XK} (hs : s ∈ K0) (hst : SqL K H1 st xs ∨ SqT K H1 st xs) (hl : 6 < xs.length)
    (k : ∀ (H' : Hp) (e : Addr), H1 e = none → Same H1 H' → H' e = some (.xd [("value", .ref st)]) → E (.ref CL) (some e) H') (x dx : Addr) (h1 : H1 x = none) (h2 : H1 dx = none) (hne : dx ≠ x) :
    spInit K C CB CL [.ref x, .str s, .ref st] (upd (upd H1 dx (.own x)) x (.ins C dx [])) (fun v H2 => v = .non ∧ Q (.ref x) H2) E := by
  have sm := same_mk (C := C) h1 h2
  exact ⟨x, dx, s, st, xs, rfl, upd_same, hs, sq_same sm hst, .inr ⟨hl, fun H' e he s1 e1 => k H' e (sm.free he) (sm.trans s1) e1⟩⟩
/-- a program that is well made -/
theorem mk_good {K : Fg} {C CB CL : Addr} {s : Str} {l : Sgs} {st : Addr} {xs : List V} {H1 : Hp} {Q : VK} {E : XK} (ok : (Pg.mk s l).ok) (hst : SqL K H1 st xs ∨ SqT K H1 st xs) (hx : StAll K C H1 xs l)
    (k : ∀ (p : Addr) (H2 : Hp), Same H1 H2 → H1 p = none → PgAt K C H2 (.ref p) (.mk s l) → Q (.ref p) H2) (x dx : Addr) (h1 : H1 x = none) (h2 : H1 dx = none) (hne : dx ≠ x) :
    spInit K C CB CL [.ref x, .str s, .ref st] (upd (upd H1 dx (.own x)) x (.ins C dx [])) (fun v H2 => v = .non ∧ Q (.ref x) H2) E := by
  have ok : s ∈ K0 ∧ l.len ≤ 6 ∧ l.ok 0 [s] := ok
  refine mk_read ok.1 hst (by rw [StAll.len hx]; exact ok.2.1) (rest_good 0 hx ok.2.2) ?_ x dx h1 h2 hne
  exact fun p dx ts ss H2 s1 hp e t1 t2 => k p H2 s1 hp (.mk e t1 (StAll.kp (Kp.of s1) hx) t2)
end K80
set_option Elab.async false
set_option linter.all false
set_option maxRecDepth 100000
set_option maxHeartbeats 4000000
/-! == and != of tuples, whatever they answer -/
namespace VK
open PySem PySem.SeqAt
open AutoSeq1 (wpAny_loadPart')
section
variable {prog : Program} {w : World} {A : Around} {R : Result → Shared → Prop}
abbrev FinR (prog : Program) (w : World) (A : Around) (R : Result → Shared → Prop) : Fin → Shared → Prop := GQ.FinOf prog w A R
/-- what one turn of the comparison gives -/
def TurnB (Go : Shared → Prop) (Out : Shared → Prop) (r : Bool) (s' : Shared) : Prop := (r = true ∧ Go s') ∨ (r = false ∧ Out s')
theorem tup_eqB {l b : Addr} {xs ys : Array Value} {n n2 : Nat} {dd dd2 : Option Addr} {sl sl2 : Array (Option Value)} {res : Bool} (J : Nat → Shared → Prop) (Out : Shared → Prop)
    (turn : ∀ i (h1 : i < xs.size) (h2 : i < ys.size) s, J i s → wpAny (model prog w) A.in1 (eqBool xs[i] ys[i]) (TurnB (J (i + 1)) fun s' => res = false ∧ Out s') (fun e s' => R (.error e) s') s)
    (fin : ∀ i s, i = min xs.size ys.size → J i s → res = (xs.size == ys.size) ∧ Out s) (out : ∀ s, Out s → R (.ok (.ret (.bool res))) s) {s : Shared}
    (hl : s.heap.get? l = some { cls := .type "tuple", dict := dd, data := .seq xs n, slots := sl }) (hb : s.heap.get? b = some { cls := .type "tuple", dict := dd2, data := .seq ys n2, slots := sl2 }) (h : J 0 s) :
    wpAny (model prog w) A.in1 (Builtin.«tuple.__eq__» ⟨[.ref l, .ref b], []⟩) (FinR prog w A R) (fun e s' => R (.error e) s') s := by
  have g := AutoSeq1.sub_tuple_tuple
  have zl : (xs.toList.zip ys.toList).length = min xs.size ys.size := by rw [List.length_zip, Array.length_toList, Array.length_toList]
  have start := h
  obtain ⟨hp, gs, dr, tk, os⟩ := s
  wp_walk using wpAny_loadPart' hl, wpAny_loadPart' hb, wpAny_forIn_list _ (fun rest acc s' => acc.1 = none ∧ ∃ i, rest = (xs.toList.zip ys.toList).drop i ∧ i ≤ min xs.size ys.size ∧ J i s') _
  case turn =>
    rintro ⟨y, x⟩ rest acc s' ⟨ha, i, hz, hi, hJ⟩
    have lt : i < (xs.toList.zip ys.toList).length := Nat.lt_of_not_le fun le => by
      rw [List.drop_of_length_le le] at hz
      cases hz
    have h1 : i < xs.size := by omega
    have h2 : i < ys.size := by omega
    rw [List.drop_eq_getElem_cons lt] at hz
    injection hz with e1 e2
    have ey : y = xs[i] := by simpa using congrArg Prod.fst e1
    have ex : x = ys[i] := by simpa using congrArg Prod.snd e1
    subst ey ex
    refine wpAny_bind (wpAny_mono (turn i h1 h2 s' hJ) (fun r s2 q => ?_) fun _ _ z => z)
    rcases q with ⟨rfl, q⟩ | ⟨rfl, er, q⟩
    · wp_walk
      exact ⟨rfl, i + 1, e2, by omega, q⟩
    · have q2 := out _ q
      rw [er] at q2
      wp_walk
      exact q2
  case fin =>
    rintro ⟨a1, a2⟩ s' ⟨ha, i, hz, hi, hJ⟩
    simp only at ha
    subst ha
    have ge : min xs.size ys.size ≤ i := Nat.le_of_not_lt fun lt => by
      rw [List.drop_eq_getElem_cons (by omega)] at hz
      cases hz
    obtain ⟨er, o⟩ := fin i s' (by omega) hJ
    have q2 := out _ o
    rw [er] at q2
    wp_walk
    exact q2
  case h => exact ⟨rfl, 0, rfl, Nat.zero_le _, start⟩
theorem tup_neB {l b : Addr} {xs ys : Array Value} {n n2 : Nat} {dd dd2 : Option Addr} {sl sl2 : Array (Option Value)} {res : Bool} (J : Nat → Shared → Prop) (Out : Shared → Prop)
    (turn : ∀ i (h1 : i < xs.size) (h2 : i < ys.size) s, J i s → wpAny (model prog w) A.in1 (eqBool xs[i] ys[i]) (TurnB (J (i + 1)) fun s' => res = false ∧ Out s') (fun e s' => R (.error e) s') s)
    (fin : ∀ i s, i = min xs.size ys.size → J i s → res = (xs.size == ys.size) ∧ Out s) (out : ∀ s, Out s → R (.ok (.ret (.bool (!res)))) s) {s : Shared}
    (hl : s.heap.get? l = some { cls := .type "tuple", dict := dd, data := .seq xs n, slots := sl }) (hb : s.heap.get? b = some { cls := .type "tuple", dict := dd2, data := .seq ys n2, slots := sl2 }) (h : J 0 s) :
    wpAny (model prog w) A.in1 (Builtin.«tuple.__ne__» ⟨[.ref l, .ref b], []⟩) (FinR prog w A R) (fun e s' => R (.error e) s') s := by
  have g := AutoSeq1.sub_tuple_tuple
  have zl : (xs.toList.zip ys.toList).length = min xs.size ys.size := by rw [List.length_zip, Array.length_toList, Array.length_toList]
  have start := h
  obtain ⟨hp, gs, dr, tk, os⟩ := s
  wp_walk using wpAny_loadPart' hl, wpAny_loadPart' hb, wpAny_forIn_list _ (fun rest acc s' => acc.1 = none ∧ ∃ i, rest = (xs.toList.zip ys.toList).drop i ∧ i ≤ min xs.size ys.size ∧ J i s') _
  case turn =>
    rintro ⟨y, x⟩ rest acc s' ⟨ha, i, hz, hi, hJ⟩
    have lt : i < (xs.toList.zip ys.toList).length := Nat.lt_of_not_le fun le => by
      rw [List.drop_of_length_le le] at hz
      cases hz
    have h1 : i < xs.size := by omega
    have h2 : i < ys.size := by omega
    rw [List.drop_eq_getElem_cons lt] at hz
    injection hz with e1 e2
    have ey : y = xs[i] := by simpa using congrArg Prod.fst e1
    have ex : x = ys[i] := by simpa using congrArg Prod.snd e1
    subst ey ex
    refine wpAny_bind (wpAny_mono (turn i h1 h2 s' hJ) (fun r s2 q => ?_) fun _ _ z => z)
    rcases q with ⟨rfl, q⟩ | ⟨rfl, er, q⟩
    · wp_walk
      exact ⟨rfl, i + 1, e2, by omega, q⟩
    · have q2 := out _ q
      rw [er] at q2
      wp_walk
      exact q2
  case fin =>
    rintro ⟨a1, a2⟩ s' ⟨ha, i, hz, hi, hJ⟩
    simp only at ha
    subst ha
    have ge : min xs.size ys.size ≤ i := Nat.le_of_not_lt fun lt => by
      rw [List.drop_eq_getElem_cons (by omega)] at hz
      cases hz
    obtain ⟨er, o⟩ := fin i s' (by omega) hJ
    have q2 := out _ o
    rw [er] at q2
    wp_walk
    exact q2
  case h => exact ⟨rfl, 0, rfl, Nat.zero_le _, start⟩
end
end VK
set_option Elab.async false
set_option linter.all false
set_option maxRecDepth 100000
set_option maxHeartbeats 4000000
namespace VK
open PySem PySem.Spec PyProof.Rows L2
abbrev Eqb := V → V → Bool → Hp → Prop
def MonB (D : Eqb) : Prop := ∀ x y b H H', Ext H H' → D x y b H → D x y b H'
def After (X : Cx) (pins : List (Addr × Obj)) (σ : L2.St) (H : Hp) (s' : Shared) : Prop := ∃ H', Inv X pins σ H' s' ∧ Ext H H'
/-- == within a built-in gives what D says, and only makes objects -/
def EqB (X : Cx) (n : Nat) (D : Eqb) : Prop :=
  ∀ (B : Around) (pins : List (Addr × Obj)) (s : Shared) (σ : L2.St) (H : Hp) (x y : V) (u v : Value) (b : Bool), Sub X n B → Inv X pins σ H s → RelV x u → RelV y v → D x y b H →
    wpAny (model X.prog X.w) B (eqBool u v) (fun r s' => r = b ∧ After X pins σ H s') X.xe s
/-- a rich comparison -/
def RcB (X : Cx) (n : Nat) (op : CmpOp) (f : Bool → Bool) (D : Eqb) : Prop :=
  ∀ (B : Around) (pins : List (Addr × Obj)) (s : Shared) (σ : L2.St) (H : Hp) (x y : V) (u v : Value) (b : Bool), Sub X n B → Inv X pins σ H s → RelV x u → RelV y v → D x y b H →
    wpAny (model X.prog X.w) B (richCompare op u v) (fun r s' => r = .bool (f b) ∧ After X pins σ H s') X.xe s
section
variable {X : Cx} {n m : Nat} {D D' : Eqb} {op : CmpOp} {f : Bool → Bool}
theorem EqB.mono (h : EqB X n D) (hn : n ≤ m) : EqB X m D := fun B pins s σ H x y u v b sb => h B pins s σ H x y u v b (sb.mono hn)
theorem EqB.or (h : EqB X n D) (h' : EqB X n D') : EqB X n (fun x y b H => D x y b H ∨ D' x y b H) := fun B pins s σ H x y u v b sb I rx ry d =>
  d.elim (h B pins s σ H x y u v b sb I rx ry) (h' B pins s σ H x y u v b sb I rx ry)
theorem MonB.or (h : MonB D) (h' : MonB D') : MonB (fun x y b H => D x y b H ∨ D' x y b H) := fun x y b H H' e d => d.elim (fun d => .inl (h x y b H H' e d)) fun d => .inr (h' x y b H H' e d)
def DFlatB : Eqb := fun x y b _ => flatV x = true ∧ flatV y = true ∧ eqV x y = b
theorem mon_flatB : MonB DFlatB := fun _ _ _ _ _ _ d => d
theorem eqB_flat : EqB X 0 DFlatB := by
  intro B pins s σ H x y u v b sb I rx ry d
  obtain ⟨fx, fy, e⟩ := d
  have q := eqAt_V (A := B) (s := s) rx ry fx fy
  rw [e] at q
  exact q X.prog X.w X.xe _ ⟨rfl, H, I, Ext.rfl'⟩
/-- item by item, up to the first that differs -/
inductive PrB (D : Eqb) (H : Hp) : List V → List V → Bool → Prop where
  | nil : PrB D H [] [] true
  | left {y : V} {ys : List V} : PrB D H [] (y :: ys) false
  | right {x : V} {xs : List V} : PrB D H (x :: xs) [] false
  | no {x y : V} {xs ys : List V} (h : D x y false H) : PrB D H (x :: xs) (y :: ys) false
  | yes {x y : V} {xs ys : List V} {b : Bool} (h : D x y true H) (t : PrB D H xs ys b) : PrB D H (x :: xs) (y :: ys) b
theorem PrB.mon (hD : MonB D) {H H' : Hp} (e : Ext H H') {xs ys : List V} {b : Bool} (p : PrB D H xs ys b) : PrB D H' xs ys b := by
  induction p with
  | nil => exact .nil
  | left => exact .left
  | right => exact .right
  | no h => exact .no (hD _ _ _ _ _ e h)
  | yes h _ ih => exact .yes (hD _ _ _ _ _ e h) ih
def DTupB (K : PySem.W.Frag) (D : Eqb) : Eqb := fun x y b H => ∃ a c xs ys, x = .ref a ∧ y = .ref c ∧ SqT K H a xs ∧ SqT K H c ys ∧ PrB D H xs ys b
theorem mon_tupB {K : PySem.W.Frag} (hD : MonB D) : MonB (DTupB K D) := fun x y b H H' e d => by
  obtain ⟨a, c, xs, ys, hx, hy, h1, h2, p⟩ := d
  exact ⟨a, c, xs, ys, hx, hy, h1.ext e, h2.ext e, p.mon hD e⟩
/-- the turns of a comparison of tuples -/
def TupJ (X : Cx) (pins : List (Addr × Obj)) (σ : L2.St) (H : Hp) (D : Eqb) (xs ys : List V) (b : Bool) (i : Nat) (s' : Shared) : Prop := After X pins σ H s' ∧ PrB D H (xs.drop i) (ys.drop i) b
theorem tup_turn (hD : MonB D) (h : EqB X n D) {B : Around} (sb : Sub X (n + 1) B) {pins : List (Addr × Obj)} {σ : L2.St} {H : Hp} {xs ys : List V} {us vs : List Value} {b : Bool} (r : Vals xs us) (r2 : Vals ys vs)
    (i : Nat) (h1 : i < us.toArray.size) (h2 : i < vs.toArray.size) (s' : Shared) (J : TupJ X pins σ H D xs ys b i s') :
    wpAny (model X.prog X.w) B.in1 (eqBool us.toArray[i] vs.toArray[i]) (TurnB (TupJ X pins σ H D xs ys b (i + 1)) fun s2 => b = false ∧ After X pins σ H s2) X.xe s' := by
  obtain ⟨⟨H1, I1, e1⟩, p⟩ := J
  have k1 : i < xs.length := by rw [r.length]; simpa using h1
  have k2 : i < ys.length := by rw [r2.length]; simpa using h2
  have d1 := List.drop_eq_getElem_cons k1
  have d2 := List.drop_eq_getElem_cons k2
  obtain ⟨u, hu, ru⟩ := r.get (List.getElem?_eq_getElem k1)
  obtain ⟨v, hv, rv⟩ := r2.get (List.getElem?_eq_getElem k2)
  have eu : us.toArray[i] = u := by
    have g : us.toArray[i]? = some us.toArray[i] := Array.getElem?_eq_getElem h1
    rw [List.getElem?_toArray, hu] at g
    exact (Option.some.inj g).symm
  have ev : vs.toArray[i] = v := by
    have g : vs.toArray[i]? = some vs.toArray[i] := Array.getElem?_eq_getElem h2
    rw [List.getElem?_toArray, hv] at g
    exact (Option.some.inj g).symm
  rw [eu, ev]
  rw [d1, d2] at p
  cases p with
  | no hd =>
    refine wpAny_mono (h B.in1 pins s' σ H1 _ _ u v false sb.in1 I1 ru rv (hD _ _ _ _ _ e1 hd)) (fun t s2 q => ?_) fun _ _ z => z
    obtain ⟨rfl, H2, I2, e2⟩ := q
    exact .inr ⟨rfl, rfl, H2, I2, e1.trans e2⟩
  | yes hd t =>
    refine wpAny_mono (h B.in1 pins s' σ H1 _ _ u v true sb.in1 I1 ru rv (hD _ _ _ _ _ e1 hd)) (fun w s2 q => ?_) fun _ _ z => z
    obtain ⟨rfl, H2, I2, e2⟩ := q
    exact .inl ⟨rfl, ⟨H2, I2, e1.trans e2⟩, t⟩
theorem tup_fin {pins : List (Addr × Obj)} {σ : L2.St} {H : Hp} {xs ys : List V} {us vs : List Value} {b : Bool} (r : Vals xs us) (r2 : Vals ys vs) (i : Nat) (s' : Shared) (e : i = min us.toArray.size vs.toArray.size)
    (J : TupJ X pins σ H D xs ys b i s') : b = (us.toArray.size == vs.toArray.size) ∧ After X pins σ H s' := by
  obtain ⟨a, p⟩ := J
  have l1 : us.toArray.size = xs.length := by rw [List.size_toArray, r.length]
  have l2 : vs.toArray.size = ys.length := by rw [List.size_toArray, r2.length]
  rw [l1, l2] at e ⊢
  refine ⟨?_, a⟩
  have n1 := List.length_drop (i := i) (l := xs)
  have n2 := List.length_drop (i := i) (l := ys)
  generalize xs.drop i = xs' at n1 p
  generalize ys.drop i = ys' at n2 p
  cases p with
  | nil =>
    have z1 : 0 = xs.length - i := n1
    have z2 : 0 = ys.length - i := n2
    rw [show xs.length = ys.length from by omega]
    exact (beq_self_eq_true _).symm
  | @left y q =>
    have z1 : 0 = xs.length - i := n1
    have z2 : q.length + 1 = ys.length - i := n2
    exact (beq_false_of_ne (by omega)).symm
  | @right x q =>
    have z1 : q.length + 1 = xs.length - i := n1
    have z2 : 0 = ys.length - i := n2
    exact (beq_false_of_ne (by omega)).symm
  | @no x y q1 q2 _ =>
    have z1 : q1.length + 1 = xs.length - i := n1
    have z2 : q2.length + 1 = ys.length - i := n2
    omega
  | @yes x y q1 q2 b _ _ =>
    have z1 : q1.length + 1 = xs.length - i := n1
    have z2 : q2.length + 1 = ys.length - i := n2
    omega
theorem rcB_tup (hD : MonB D) (h : EqB X n D) : RcB X (n + 1) .Eq id (DTupB X.K D) := by
  intro B pins s σ H x y u v b sb I rx ry d
  obtain ⟨a, c, xs, ys, rfl, rfl, ha, hc, p⟩ := d
  cases rx
  cases ry
  obtain ⟨us, r, ⟨⟨cl, dd, dt, sl⟩, ho, ec, k1, ed⟩, z⟩ := I.tuple ha
  obtain ⟨vs, r2, ⟨⟨cl2, dd2, dt2, sl2⟩, ho2, ec2, k2, ed2⟩, z2⟩ := I.tuple hc
  cases (show cl = .type "tuple" from ec)
  cases (show dt = .seq us.toArray k1 from ed)
  cases (show cl2 = .type "tuple" from ec2)
  cases (show dt2 = .seq vs.toArray k2 from ed2)
  refine wpAny_richCompare_same_room (op := .Eq) ⟨_, ho, rfl⟩ ⟨_, ho2, rfl⟩ F.slot_tuple_eq (GQ.call_here F.slot_tuple_eq ⟨_, ho, rfl⟩ F.entry_tuple_eq (F.args_tuple_eq_2 _ _) ?_) sb.room.units0
  exact tup_eqB (R := wants (fun t s' => t ≠ .notImplemented ∧ (t = .bool (id b) ∧ After X pins σ H s')) X.xe) (TupJ X pins σ H D xs ys b) (After X pins σ H) (tup_turn hD h sb r r2) (tup_fin r r2)
    (fun s' q => ⟨(fun e => nomatch e), rfl, q⟩) ho ho2 ⟨⟨H, I, Ext.rfl'⟩, p⟩
theorem rnB_tup (hD : MonB D) (h : EqB X n D) : RcB X (n + 1) .NotEq not (DTupB X.K D) := by
  intro B pins s σ H x y u v b sb I rx ry d
  obtain ⟨a, c, xs, ys, rfl, rfl, ha, hc, p⟩ := d
  cases rx
  cases ry
  obtain ⟨us, r, ⟨⟨cl, dd, dt, sl⟩, ho, ec, k1, ed⟩, z⟩ := I.tuple ha
  obtain ⟨vs, r2, ⟨⟨cl2, dd2, dt2, sl2⟩, ho2, ec2, k2, ed2⟩, z2⟩ := I.tuple hc
  cases (show cl = .type "tuple" from ec)
  cases (show dt = .seq us.toArray k1 from ed)
  cases (show cl2 = .type "tuple" from ec2)
  cases (show dt2 = .seq vs.toArray k2 from ed2)
  refine wpAny_richCompare_same_room (op := .NotEq) ⟨_, ho, rfl⟩ ⟨_, ho2, rfl⟩ F.slot_tuple_ne (GQ.call_here F.slot_tuple_ne ⟨_, ho, rfl⟩ F.entry_tuple_ne (F.args_tuple_ne_2 _ _) ?_) sb.room.units0
  exact tup_neB (R := wants (fun t s' => t ≠ .notImplemented ∧ (t = .bool (!b) ∧ After X pins σ H s')) X.xe) (TupJ X pins σ H D xs ys b) (After X pins σ H) (tup_turn hD h sb r r2) (tup_fin r r2)
    (fun s' q => ⟨(fun e => nomatch e), rfl, q⟩) ho ho2 ⟨⟨H, I, Ext.rfl'⟩, p⟩
/-- a thing is equal to itself -/
def SelfB (X : Cx) (D : Eqb) : Prop := ∀ (pins : List (Addr × Obj)) (σ : L2.St) (H : Hp) (s : Shared) (x : V) (b : Bool), Inv X pins σ H s → D x x b H → b = true
theorem self_flat : SelfB X DFlatB := by
  rintro pins σ H s x b I ⟨f, _, e⟩
  rw [← e]
  cases x with
  | non => rfl
  | bl c => exact beq_self_eq_true c
  | int i => exact beq_self_eq_true i
  | str z => exact beq_self_eq_true z
  | byt _ => cases f
  | flt _ => cases f
  | ref _ => cases f
  | ty _ => cases f
theorem SelfB.or (h : SelfB X D) (h' : SelfB X D') : SelfB X (fun x y b H => D x y b H ∨ D' x y b H) := fun pins σ H s x b I d => d.elim (h pins σ H s x b I) (h' pins σ H s x b I)
theorem PrB.self {pins : List (Addr × Obj)} {σ : L2.St} {H : Hp} {s : Shared} (I : Inv X pins σ H s) (hs : SelfB X D) : ∀ {xs : List V} {b : Bool}, PrB D H xs xs b → b = true
  | [], _, .nil => rfl
  | _ :: _, _, .no h => hs pins σ H s _ _ I h
  | _ :: _, _, .yes _ t => PrB.self I hs t
theorem self_tup (hs : SelfB X D) : SelfB X (DTupB X.K D) := by
  rintro pins σ H s x b I ⟨a, c, xs, ys, rfl, e, h1, h2, p⟩
  cases e
  rw [I.tuple_inj h2 h1] at p
  exact p.self I hs
theorem RcB.imp (h : RcB X n op f D) (hd : ∀ x y b H, D' x y b H → D x y b H) : RcB X n op f D' := fun B pins s σ H x y u v b sb I rx ry d => h B pins s σ H x y u v b sb I rx ry (hd _ _ _ _ d)
/-- from a comparison of references to == within a built-in: a thing is itself -/
theorem RcB.eqB (h : RcB X n .Eq id D) (hr : ∀ x y b H, D x y b H → ∃ a c, x = .ref a ∧ y = .ref c) (hs : SelfB X D) : EqB X n D := by
  intro B pins s σ H x y u v b sb I rx ry d
  obtain ⟨a, c, rfl, rfl⟩ := hr _ _ _ _ d
  cases rx
  cases ry
  by_cases e : a = c
  · subst e
    have eb := hs pins σ H s _ _ I d
    subst eb
    exact SeqAt.EqAt.same (A := B) (s := s) (.ref a) X.prog X.w X.xe _ ⟨rfl, H, I, Ext.rfl'⟩
  · refine GQ.eqBool_refG e (wpAny_mono (h B pins s σ H (.ref a) (.ref c) _ _ b sb I rfl rfl d) (fun r s' q => ?_) fun _ _ z => z)
    obtain ⟨e1, q⟩ := q
    exact ⟨b, e1, rfl, q⟩
/-- as an expression -/
def rB (f : Bool → Bool) (D : Eqb) : R2 := fun x y H Q => ∃ b, D x y b H ∧ ∀ H', Ext H H' → Q (.bl (f b)) H'
theorem op_B (h : RcB X n op f D) (hr : Room n X.A) : OpR X (richCompare op) (rB f D) := by
  intro pins s σ H x y v u Q I rx ry hq
  obtain ⟨b, d, q⟩ := hq
  refine wpAny_mono (h X.A pins s σ H x y v u b ⟨hr, rfl⟩ I rx ry d) (fun r s' z => ?_) fun _ _ e => e
  obtain ⟨rfl, H', I', e⟩ := z
  exact ⟨.bl (f b), H', I', rfl, q H' e⟩
end
end VK
set_option Elab.async false
set_option linter.all false
set_option maxRecDepth 100000
set_option maxHeartbeats 4000000
/-! == and != by a class's own __eq__ -/
namespace VK
open PySem PySem.Spec PyProof.Rows L2
/-- what an own == promises -/
def spEqB (R : Addr → V → Bool → Hp → Prop) : Sp := fun vs H Q _ => ∃ (a : Addr) (y : V) (b : Bool), vs = [.ref a, y] ∧ R a y b H ∧ ∀ H', Ext H H' → Q (.bl b) H'
def DOwnB (K : PySem.W.Frag) (C : Addr) (R : Addr → V → Bool → Hp → Prop) : Eqb := fun x y b H => ∃ (a dx : Addr) (fs : List (Str × V)) (t : Value), x = .ref a ∧ H a = some (.ins C dx fs) ∧
  TyX K H y t ∧ PySem.W.notFirst K C t = true ∧ R a y b H
/-- two of the class -/
def DTwoB (C : Addr) (R : Addr → V → Bool → Hp → Prop) : Eqb := fun x y b H => ∃ (a c dx dy : Addr) (fs gs : List (Str × V)), x = .ref a ∧ y = .ref c ∧ H a = some (.ins C dx fs) ∧ H c = some (.ins C dy gs) ∧ R a (.ref c) b H
section
variable {X : Cx} {CX : CXT} {n : Nat} {C f : Addr} {fd : FuncData} {ps : List Str} {R : Addr → V → Bool → Hp → Prop} {E : XK}
/-- the call of __eq__ -/
theorem eq_call (F : FnOk X.prog X.w X.K X.mg X.base CX n f fd ps (spEqB R)) (hb : Binds X.K fd ps []) (hx : Passes CX X E) {B : Around} {pins : List (Addr × Obj)} {s : Shared} {σ : L2.St} {H : Hp} {a : Addr} {y : V} {v : Value} {b : Bool}
    {Q : Value → Shared → Prop} (sb : Sub X n B) (I : Inv X pins σ H s) (ry : RelV y v) (d : R a y b H) (k : ∀ s', After X pins σ H s' → Q (.bool b) s') : wpAny (model X.prog X.w) B (call (.ref f) [.ref a, v]) Q X.xe s := by
  have e0 : Env0 X.prog X.w X.K X.mg X.base B X.stack s H := by
    have e := I.env0
    exact ⟨by rw [sb.fr]; exact e.frames, e.mod, e.bs, e.bsz, e.funs, e.frf, e.hok, e.bare⟩
  have sp : spEqB R [.ref a, y] H (fun v H' => v = .bl b ∧ Ext H H') E := ⟨a, y, b, rfl, d, fun H' e => ⟨rfl, e⟩⟩
  have hl := F.len _ _ _ _ sp
  have rv : Vals [V.ref a, y] [Value.ref a, v] := .cons rfl (.cons ry .nil)
  have bnd := hb s [.ref a, v] I.kIn (by simpa using hl)
  refine wpAny_call (codeAny_mono (F.run B X.stack s H ⟨[.ref a, v], []⟩ [.ref a, v] [.ref a, y] _ E sb.room e0 (by simpa using bnd) rv sp) fun r s' hq => ?_)
  cases r with
  | error e => exact hx pins σ H s e s' I hq
  | ok fl =>
    cases fl with
    | ret u =>
      obtain ⟨z, H', I', rz, rfl, ex⟩ := I.after hq
      cases rz
      exact k s' ⟨H', I', ex⟩
    | next => exact False.elim hq
    | brk => exact False.elim hq
    | cont => exact False.elim hq
theorem rcB_own (F : FnOk X.prog X.w X.K X.mg X.base CX n f fd ps (spEqB R)) (hs : PySem.W.findIn X.K (.ref C) "__eq__" = some (some (.ref f))) (hf : PySem.W.isFn X.K (.ref f) = true) (hb : Binds X.K fd ps [])
    (hx : Passes CX X E) : RcB X n .Eq id (DOwnB X.K C R) := by
  intro B pins s σ H x y u v b sb I rx ry d
  obtain ⟨a, dx, fs, t, rfl, ha, ty, nf, hr⟩ := d
  cases rx
  obtain ⟨mA, J, _⟩ := ins_get I.hok ha
  obtain ⟨od, J, _⟩ := J.look
  obtain ⟨P, kx, hp, _⟩ := kit_of I ry ty
  obtain ⟨m, hF⟩ := I.fr
  refine PySem.W.cmp_K (op := .Eq) (tb := t) sb.room.units0 hF I.ok.mod.kin J (kx.ty _ _ I.kIn hp) nf hs hf ?_
  exact eq_call F hb hx sb I ry hr fun s' q => ⟨rfl, q⟩
theorem rnB_own (F : FnOk X.prog X.w X.K X.mg X.base CX n f fd ps (spEqB R)) (hne : ∀ (h : Heap) (x : Addr) (o : Obj), X.K.In h → h.get? x = some o → o.cls = .ref C → h.OwnEqNoNe x C f "object" [.type "object"])
    (hb : Binds X.K fd ps []) (hx : Passes CX X E) : RcB X (n + 1) .NotEq not (DTwoB C R) := by
  intro B pins s σ H x y u v b sb I rx ry d
  obtain ⟨a, c, dx, dy, fs, gs, rfl, rfl, ha, hc, hr⟩ := d
  cases rx
  cases ry
  obtain ⟨mA, J, _⟩ := ins_get I.hok ha
  obtain ⟨mB, J', _⟩ := ins_get I.hok hc
  obtain ⟨od, J, _⟩ := J.look
  obtain ⟨od', J', _⟩ := J'.look
  have ow := hne s.heap a _ I.kIn J.at_ J.cls
  have un : B.units + 1 < cLine := by
    have := sb.room.un
    omega
  obtain ⟨hp, g, dr, tk, os⟩ := s
  refine richCompare_ne_ownEq _root_.PySem.F.cmp_object ow J'.at_ J'.cls un ?_
  exact eq_call F hb hx sb.in1 I (show RelV (.ref c) (.ref c) from rfl) hr fun s' q => ⟨b, rfl, rfl, q⟩
theorem op_Beq {D : Eqb} (h : RcB X n .Eq id D) (hr : Room n X.A) : OpR X (compareOp .Eq) (rB id D) := op_B h hr
theorem op_Bne {D : Eqb} (h : RcB X n .NotEq not D) (hr : Room n X.A) : OpR X (compareOp .NotEq) (rB not D) := op_B h hr
end
end VK
set_option Elab.async false
set_option linter.all false
set_option maxRecDepth 100000
set_option maxHeartbeats 4000000
namespace K80
open PySem L2 VK
abbrev sEq : Stmt := inClass (top 24) 8
theorem scEq : FnScope ["self", "other"] ["self", "other"] (defScope sEq) := ⟨rfl, rfl, rfl, by decide +kernel, rfl, by decide +kernel, by decide +kernel⟩
theorem flds_inj {s s' : Str} {ts ts' ss ss' : Addr} {d d' : Int} (e : flds s ts ss d = flds s' ts' ss' d') : s = s' ∧ ts = ts' := by
  have a := get_source s ts ss d
  have b := get_stages s ts ss d
  rw [e] at a b
  rw [get_source] at a
  rw [get_stages] at b
  exact ⟨(V.str.inj (Option.some.inj a)).symm, (V.ref.inj (Option.some.inj b)).symm⟩
/-! ### one address, one program -/
section
variable {X : Cx} {pins : List (Addr × Obj)} {σ : L2.St} {H : Hp} {s : Shared} {C : Addr}
mutual
theorem PgAt.inj (I : Inv X pins σ H s) : ∀ {v : V} {p q : Pg}, PgAt X.K C H v p → PgAt X.K C H v q → p = q
  | _, _, _, .mk (s := s1) (l := l1) h hs hl hr, .mk (s := s2) (l := l2) h' hs' hl' hr' => by
    rw [h] at h'
    have e := Option.some.inj h'
    injection e with e1 e2 e3
    obtain ⟨es, et⟩ := flds_inj e3
    subst es et
    rw [StAll.inj I hl (by rw [I.tuple_inj hs hs']; exact hl')]
theorem StV.inj (I : Inv X pins σ H s) : ∀ {v : V} {x y : Sg}, StV X.K C H v x → StV X.K C H v y → x = y
  | _, _, _, .nm h, .nm h' => by
    have e := I.tuple_inj h h'
    injection e with e1 e2
    injection e2 with e2 _
    rw [V.str.inj e1, V.str.inj e2]
  | _, _, _, .nm h, .num h' => by
    have e := I.tuple_inj h h'
    injection e with e1 e2
    injection e2 with e2 _
    cases e2
  | _, _, _, .nm h, .flat h' => by
    have e := I.tuple_inj h h'
    injection e with e1 e2
    cases e2
  | _, _, _, .nm h, .zip h' hp' => by
    have e := I.tuple_inj h h'
    injection e with e1 e2
    injection e2 with e2 _
    rw [← e2] at hp'
    cases hp'
  | _, _, _, .num h, .nm h' => by
    have e := I.tuple_inj h h'
    injection e with e1 e2
    injection e2 with e2 _
    cases e2
  | _, _, _, .num h, .num h' => by
    have e := I.tuple_inj h h'
    injection e with e1 e2
    injection e2 with e2 _
    rw [V.str.inj e1, V.int.inj e2]
  | _, _, _, .num h, .flat h' => by
    have e := I.tuple_inj h h'
    injection e with e1 e2
    cases e2
  | _, _, _, .num h, .zip h' hp' => by
    have e := I.tuple_inj h h'
    injection e with e1 e2
    injection e2 with e2 _
    rw [← e2] at hp'
    cases hp'
  | _, _, _, .flat h, .nm h' => by
    have e := I.tuple_inj h h'
    injection e with e1 e2
    cases e2
  | _, _, _, .flat h, .num h' => by
    have e := I.tuple_inj h h'
    injection e with e1 e2
    cases e2
  | _, _, _, .flat h, .flat h' => rfl
  | _, _, _, .flat h, .zip h' hp' => by
    have e := I.tuple_inj h h'
    injection e with e1 e2
    cases e2
  | _, _, _, .zip h hp, .nm h' => by
    have e := I.tuple_inj h h'
    injection e with e1 e2
    injection e2 with e2 _
    rw [e2] at hp
    cases hp
  | _, _, _, .zip h hp, .num h' => by
    have e := I.tuple_inj h h'
    injection e with e1 e2
    injection e2 with e2 _
    rw [e2] at hp
    cases hp
  | _, _, _, .zip h hp, .flat h' => by
    have e := I.tuple_inj h h'
    injection e with e1 e2
    cases e2
  | _, _, _, .zip h hp, .zip h' hp' => by
    have e := I.tuple_inj h h'
    injection e with e1 e2
    injection e2 with e2 _
    rw [PgAt.inj I hp (by rw [e2]; exact hp')]
theorem StAll.inj (I : Inv X pins σ H s) : ∀ {vs : List V} {l m : Sgs}, StAll X.K C H vs l → StAll X.K C H vs m → l = m
  | _, _, _, .nil, .nil => rfl
  | _, _, _, .cons h t, .cons h' t' => by rw [StV.inj I h h', StAll.inj I t t']
end
end
end K80
set_option Elab.async false
set_option linter.all false
set_option maxRecDepth 100000
set_option maxHeartbeats 4000000
namespace K80
open PySem L2 VK
/-- what the class says of == -/
structure Le (K : Fg) (C fq : Addr) (dq : FuncData) : Prop where
  F : Fun K "__eq__" "Program.__eq__" sEq fq dq
  hs : PySem.W.findIn K (.ref C) "__eq__" = some (some (.ref fq))
  hf : PySem.W.isFn K (.ref fq) = true
  b : Binds K dq ["self", "other"] []
  ne : ∀ (h : Heap) (x : Addr) (o : Obj), K.In h → h.get? x = some o → o.cls = .ref C → h.OwnEqNoNe x C fq "object" [.type "object"]
/-- what the body of == asks of the two -/
def EqAsk (K : Fg) (C : Addr) (D : Eqb) (a : Addr) (y : V) (b : Bool) (H : Hp) : Prop :=
  (∃ (c dx dy ts ss ts' ss' : Addr) (s s' : Str) (d d' : Int), y = .ref c ∧ H a = some (.ins C dx (flds s ts ss d)) ∧ H c = some (.ins C dy (flds s' ts' ss' d')) ∧ (s ≠ s' → b = false) ∧ (s = s' → D (.ref ts) (.ref ts') b H)) ∨
  (∃ t, TyX K H y t ∧ PySem.W.kitOne K t (.ref C) = some false ∧ b = false)
theorem eqV_str (a b : Str) : eqV (.str a) (.str b) = decide (a = b) := by
  show (a == b) = _
  by_cases h : a = b
  · rw [h, decide_eq_true rfl]; exact beq_self_eq_true b
  · rw [decide_eq_false h]; exact beq_false_of_ne h
section
variable {P : Program} {w : World} {K : Fg} {mg : Str → Option Value} {base : Heap} {A I : Nat → Addr} {D J : Nat → FuncData} {aS a1 a2 C fq : Addr} {dq : FuncData}
theorem ok_eq_of {n : Nat} {Q0 : Eqb} {R : Addr → V → Bool → Hp → Prop} (Z : Le K C fq dq) (L : Lb K mg A I D J aS a1 a2 C) (hop : ∀ X : Cx, X.prog = P → X.w = w → X.K = K → X.mg = mg → X.base = base → RcB X n .Eq id Q0)
    (hR : ∀ a y b H, R a y b H → EqAsk K C Q0 a y b H) : FnOk P w K mg base CX0 (n + 1) fq dq ["self", "other"] (spEqB R) := by
  refine Z.F.ok scEq (fun vs H Q E h => ?_) (fun cdv B outer s H vs Q E hr h => ?_)
  · obtain ⟨a, y, b, rfl, _⟩ := h
    rfl
  · obtain ⟨a, y, b, rfl, r, k⟩ := h
    refine ⟨_, pss_one (ps_ret (pe_and (pe_callB call_isi (by rfl) L.N.isi PyProof.Rows.boot_isinstance (pa_cons (pv 1) (pa_cons (pe_glob (v := .ref C) rfl L.c.g rfl) pa_nil)))
      (pe_and (pe_cmpR op_eq (pe_fld (pv 0) rfl) (pe_fld (pv 1) rfl) (nomark _)) (pe_one (pe_cmpR (op_Beq (hop _ rfl rfl rfl rfl rfl) hr) (pe_fld (pv 0) rfl) (pe_fld (pv 1) rfl) (nomark _)))))), ?_⟩
    rcases hR a y b H r with ⟨c, dx, dy, ts, ss, ts', ss', s1, s2, d, d', rfl, ha, hc, n1, n2⟩ | ⟨t, ty, kt, rfl⟩
    · refine ⟨_, rfl, .ref c, .ref C, .ref C, .ref C, true, rfl, .own C, L.c.ty hc, L.c.kc, _, rfl, ?_⟩
      refine iteT (B := True) ?_
      refine ⟨_, rfl, a, C, dx, _, .str s1, rfl, ha, L.c.cl, L.c.n1, get_source _ _ _ _, _, rfl, c, C, dy, _, .str s2, rfl, hc, L.c.cl, L.c.n1, get_source _ _ _ _, rfl, _, rfl, ?_⟩
      refine dif (fun e => ?_) (fun e => ?_)
      · have e' : s1 = s2 := V.str.inj e
        refine ⟨_, rfl, a, C, dx, _, .ref ts, rfl, ha, L.c.cl, L.c.n2, get_stages _ _ _ _, _, rfl, c, C, dy, _, .ref ts', rfl, hc, L.c.cl, L.c.n2, get_stages _ _ _ _, b, n2 e', fun H' ex => k H' ex⟩
      · have e' : s1 ≠ s2 := fun z => e (congrArg V.str z)
        rw [n1 e'] at k
        exact k H Ext.rfl'
    · exact ⟨_, rfl, y, .ref C, t, .ref C, false, rfl, .own C, ty, kt, _, rfl, iteF (A := True) (k H Ext.rfl')⟩
end
/-! ### two programs, by what they are -/
/-- all stages are of a known kind -/
def Two (K : Fg) (C : Addr) (m : Nat) (a : Addr) (y : V) (b : Bool) (H : Hp) : Prop := ∃ p q : Pg, PgAt K C H (.ref a) p ∧ PgAt K C H y q ∧ p.ok ∧ q.ok ∧ p.nest < m ∧ (b = true ↔ p = q)
def Rq (K : Fg) (C : Addr) (m : Nat) (a : Addr) (y : V) (b : Bool) (H : Hp) : Prop := Two K C m a y b H ∨ ∃ t, TyX K H y t ∧ PySem.W.kitOne K t (.ref C) = some false ∧ b = false
def DItem (K : Fg) (C : Addr) (m : Nat) : Eqb := fun x y b H => DFlatB x y b H ∨ DTwoB C (Two K C m) x y b H
abbrev DStage (K : Fg) (C : Addr) (m : Nat) : Eqb := DTupB K (DItem K C m)
abbrev DStages (K : Fg) (C : Addr) (m : Nat) : Eqb := DTupB K (DStage K C m)
theorem mon_two {K : Fg} {C : Addr} {m : Nat} : MonB (DTwoB C (Two K C m)) := by
  rintro x y b H H' e ⟨a, c, dx, dy, fs, gs, hx, hy, h1, h2, p, q, hp, hq, o1, o2, hn, hb⟩
  have k : Kp H H' := Kp.of e
  exact ⟨a, c, dx, dy, fs, gs, hx, hy, e _ _ h1, e _ _ h2, p, q, PgAt.kp k hp, PgAt.kp k hq, o1, o2, hn, hb⟩
theorem mon_item {K : Fg} {C : Addr} {m : Nat} : MonB (DItem K C m) := mon_flatB.or mon_two
theorem self_item {X : Cx} {C : Addr} {m : Nat} : SelfB X (DItem X.K C m) := by
  refine self_flat.or ?_
  rintro pins σ H s x b I ⟨a, c, dx, dy, fs, gs, rfl, e, h1, h2, p, q, hp, hq, o1, o2, hn, hb⟩
  cases e
  exact hb.mpr (PgAt.inj I hp hq)
def Sg.ty : Sg → Nat
  | .nm _ _ => 0
  | .num _ _ => 1
  | .flat => 2
  | .zip _ => 3
theorem kd_ty {x y : Sg} (hx : x.wf) (hy : y.wf) (e : x.kd = y.kd) : x.ty = y.ty := by
  have a1 : ∀ z ∈ K1, z ∉ K2 := by decide +kernel
  have a2 : ∀ z ∈ K1, z ≠ "flat" := by decide +kernel
  have a3 : ∀ z ∈ K1, z ≠ "zip" := by decide +kernel
  have a4 : ∀ z ∈ K2, z ≠ "flat" := by decide +kernel
  have a5 : ∀ z ∈ K2, z ≠ "zip" := by decide +kernel
  have a6 : ("flat" : Str) ≠ "zip" := by decide +kernel
  cases x with
  | nm k n =>
    cases y with
    | nm k' n' => rfl
    | num k' n' => exact absurd hy (by rw [← show k = k' from e]; exact a1 k hx)
    | flat => exact absurd e (a2 k hx)
    | zip p => exact absurd e (a3 k hx)
  | num k n =>
    cases y with
    | nm k' n' => exact absurd hx (by rw [show k = k' from e]; exact a1 k' hy)
    | num k' n' => rfl
    | flat => exact absurd e (a4 k hx)
    | zip p => exact absurd e (a5 k hx)
  | flat =>
    cases y with
    | nm k' n' => exact absurd e.symm (a2 k' hy)
    | num k' n' => exact absurd e.symm (a4 k' hy)
    | flat => rfl
    | zip p => exact absurd e a6
  | zip p =>
    cases y with
    | nm k' n' => exact absurd e.symm (a3 k' hy)
    | num k' n' => exact absurd e.symm (a5 k' hy)
    | flat => exact absurd e.symm a6
    | zip p => rfl
theorem flat_yes {K : Fg} {C : Addr} {m : Nat} {H : Hp} (z : Str) : DItem K C m (.str z) (.str z) true H := .inl ⟨rfl, rfl, beq_self_eq_true z⟩
theorem st_eq {K : Fg} {C : Addr} {m : Nat} {H : Hp} {v v' : V} {x y : Sg} {d d' : Int} {tk tk' : List Str} (hx : StV K C H v x) (hy : StV K C H v' y) (ox : x.ok d tk) (oy : y.ok d' tk') (hm : x.nest ≤ m) :
    ∃ b : Bool, DStage K C m v v' b H ∧ (b = true ↔ x = y) := by
  by_cases e : x.kd = y.kd
  · have ty := kd_ty ox.vd.wf oy.vd.wf e
    cases hx with
    | @nm a k n h =>
      cases hy with
      | @nm a' k' n' h' =>
        cases (show k = k' from e)
        refine ⟨decide (n = n'), ⟨_, _, _, _, rfl, rfl, h, h', .yes (flat_yes k) ?_⟩, ?_⟩
        · by_cases c : n = n'
          · rw [decide_eq_true c]
            exact .yes (.inl ⟨rfl, rfl, by rw [c]; exact beq_self_eq_true n'⟩) .nil
          · rw [decide_eq_false c]
            exact .no (.inl ⟨rfl, rfl, beq_false_of_ne c⟩)
        · rw [decide_eq_true_eq]
          exact ⟨fun z => by rw [z], fun z => by injection z⟩
      | num h' => exact absurd ty (by simp [Sg.ty])
      | flat h' => exact absurd ty (by simp [Sg.ty])
      | zip h' hp => exact absurd ty (by simp [Sg.ty])
    | @num a k n h =>
      cases hy with
      | nm h' => exact absurd ty (by simp [Sg.ty])
      | @num a' k' n' h' =>
        cases (show k = k' from e)
        refine ⟨decide (n = n'), ⟨_, _, _, _, rfl, rfl, h, h', .yes (flat_yes k) ?_⟩, ?_⟩
        · by_cases c : n = n'
          · rw [decide_eq_true c]
            exact .yes (.inl ⟨rfl, rfl, by rw [c]; exact beq_self_eq_true n'⟩) .nil
          · rw [decide_eq_false c]
            exact .no (.inl ⟨rfl, rfl, beq_false_of_ne c⟩)
        · rw [decide_eq_true_eq]
          exact ⟨fun z => by rw [z], fun z => by injection z⟩
      | flat h' => exact absurd ty (by simp [Sg.ty])
      | zip h' hp => exact absurd ty (by simp [Sg.ty])
    | @flat a h =>
      cases hy with
      | nm h' => exact absurd ty (by simp [Sg.ty])
      | num h' => exact absurd ty (by simp [Sg.ty])
      | flat h' => exact ⟨true, ⟨_, _, _, _, rfl, rfl, h, h', .yes (flat_yes _) .nil⟩, fun _ => rfl, fun _ => rfl⟩
      | zip h' hp => exact absurd ty (by simp [Sg.ty])
    | @zip a v p h hp =>
      cases hy with
      | nm h' => exact absurd ty (by simp [Sg.ty])
      | num h' => exact absurd ty (by simp [Sg.ty])
      | flat h' => exact absurd ty (by simp [Sg.ty])
      | @zip a' v' q h' hq =>
        have op : p.ok ∧ ∀ s ∈ p.srcs, s ∉ tk := ox
        have oq : q.ok ∧ ∀ s ∈ q.srcs, s ∉ tk' := oy
        have lt : p.nest < m := hm
        have hp0 := hp
        have hq0 := hq
        cases hp with
        | @mk c dx ts ss s l xs e1 e2 e3 e4 =>
        cases hq with
        | @mk c' dx' ts' ss' s' l' xs' f1 f2 f3 f4 =>
          have two : ∀ b : Bool, (b = true ↔ Pg.mk s l = Pg.mk s' l') → DItem K C m (.ref c) (.ref c') b H := fun b hb => .inr ⟨c, c', _, _, _, _, rfl, rfl, e1, f1, _, _, hp0, hq0, op.1, oq.1, lt, hb⟩
          by_cases q : Pg.mk s l = Pg.mk s' l'
          · exact ⟨true, ⟨_, _, _, _, rfl, rfl, h, h', .yes (flat_yes _) (.yes (two true ⟨fun _ => q, fun _ => rfl⟩) .nil)⟩, fun _ => by rw [q], fun _ => rfl⟩
          · exact ⟨false, ⟨_, _, _, _, rfl, rfl, h, h', .yes (flat_yes _) (.no (two false ⟨fun z => absurd z Bool.false_ne_true, fun z => absurd z q⟩))⟩, fun z => absurd z Bool.false_ne_true, fun z => by injection z with z; exact absurd z q⟩
  · obtain ⟨a, r, rfl, h⟩ := hx.at0
    obtain ⟨a', r', rfl, h'⟩ := hy.at0
    refine ⟨false, ⟨_, _, _, _, rfl, rfl, h, h', .no (.inl ⟨rfl, rfl, beq_false_of_ne e⟩)⟩, fun z => absurd z Bool.false_ne_true, fun z => absurd (by rw [z]) e⟩
theorem sts_eq {K : Fg} {C : Addr} {m : Nat} {H : Hp} : ∀ {xs ys : List V} {l l' : Sgs} {d d' : Int} {tk tk' : List Str}, StAll K C H xs l → StAll K C H ys l' → l.ok d tk → l'.ok d' tk' → l.nest ≤ m →
    ∃ b : Bool, PrB (DStage K C m) H xs ys b ∧ (b = true ↔ l = l')
  | _, _, _, _, _, _, _, _, .nil, .nil, _, _, _ => ⟨true, .nil, fun _ => rfl, fun _ => rfl⟩
  | _, _, _, _, _, _, _, _, .nil, .cons _ _, _, _, _ => ⟨false, .left, fun z => absurd z Bool.false_ne_true, fun z => by cases z⟩
  | _, _, _, _, _, _, _, _, .cons _ _, .nil, _, _, _ => ⟨false, .right, fun z => absurd z Bool.false_ne_true, fun z => by cases z⟩
  | _, _, _, _, _, _, _, _, .cons (x := x) (r := r) h t, .cons (x := y) (r := q) h' t', o, o', hm => by
    have o : x.ok _ _ ∧ r.ok _ _ := o
    have o' : y.ok _ _ ∧ q.ok _ _ := o'
    have hm : max x.nest r.nest ≤ m := hm
    obtain ⟨b, e, hb⟩ := st_eq h h' o.1 o'.1 (Nat.le_trans (Nat.le_max_left _ _) hm)
    obtain ⟨b2, e2, hb2⟩ := sts_eq t t' o.2 o'.2 (Nat.le_trans (Nat.le_max_right _ _) hm)
    cases b with
    | true =>
      have xy := hb.mp rfl
      refine ⟨b2, .yes e e2, fun z => by rw [xy, hb2.mp z], fun z => ?_⟩
      injection z with _ z
      exact hb2.mpr z
    | false =>
      refine ⟨false, .no e, fun z => absurd z Bool.false_ne_true, fun z => ?_⟩
      injection z with z _
      exact hb.mpr z
end K80
set_option Elab.async false
set_option linter.all false
set_option maxRecDepth 100000
set_option maxHeartbeats 4000000
namespace K80
open PySem L2 VK
theorem bool_iff {a b : Bool} {p : Prop} (h1 : a = true ↔ p) (h2 : b = true ↔ p) : a = b := by
  cases a <;> cases b
  · rfl
  · exact (h1.mpr (h2.mp rfl))
  · exact (h2.mpr (h1.mp rfl)).symm
  · rfl
theorem ask_of {K : Fg} {C : Addr} {m : Nat} {a : Addr} {y : V} {b : Bool} {H : Hp} (h : Rq K C (m + 1) a y b H) : EqAsk K C (DStages K C m) a y b H := by
  rcases h with ⟨p, q, hp, hq, o1, o2, hn, hb⟩ | h
  · cases hp with
    | @mk a dx ts ss s l xs e1 e2 e3 e4 =>
    cases hq with
    | @mk c dx' ts' ss' s' l' xs' f1 f2 f3 f4 =>
      have o1 : s ∈ K0 ∧ l.len ≤ 6 ∧ l.ok 0 [s] := o1
      have o2 : s' ∈ K0 ∧ l'.len ≤ 6 ∧ l'.ok 0 [s'] := o2
      have hn : l.nest ≤ m := Nat.le_of_lt_succ hn
      refine .inl ⟨c, dx, dx', ts, ss, ts', ss', s, s', _, _, rfl, e1, f1, fun ne => ?_, fun e => ?_⟩
      · cases b with
        | false => rfl
        | true =>
          have z := hb.mp rfl
          injection z with z _
          exact absurd z ne
      · subst e
        obtain ⟨b', pr, hb'⟩ := sts_eq e3 f3 o1.2.2 o2.2.2 hn
        have : b' = b := bool_iff (hb'.trans ⟨fun z => by rw [z], fun z => by injection z⟩) hb
        subst this
        exact ⟨ts, ts', xs, xs', rfl, rfl, e2, f2, pr⟩
  · exact .inr h
section
variable {P : Program} {w : World} {K : Fg} {mg : Str → Option Value} {base : Heap} {A I : Nat → Addr} {D J : Nat → FuncData} {aS a1 a2 C fq : Addr} {dq : FuncData}
theorem nf_self {K : Fg} {C : Addr} : PySem.W.notFirst K C (.ref C) = true := by simp [PySem.W.notFirst]
theorem two_own {m : Nat} (L : Lb K mg A I D J aS a1 a2 C) (x y : V) (b : Bool) (H : Hp) (h : DTwoB C (Two K C m) x y b H) : DOwnB K C (Rq K C m) x y b H := by
  obtain ⟨a, c, dx, dy, fs, gs, rfl, rfl, h1, h2, r⟩ := h
  exact ⟨a, dx, fs, .ref C, rfl, h1, L.c.ty h2, nf_self, .inl r⟩
theorem eqB_item {X : Cx} {m : Nat} (L : Lb X.K X.mg A I D J aS a1 a2 C) (Z : Le X.K C fq dq) (F : FnOk X.prog X.w X.K X.mg X.base CX0 (3 * m + 2) fq dq ["self", "other"] (spEqB (Rq X.K C m))) : EqB X (3 * m + 2) (DItem X.K C m) := by
  refine (eqB_flat.mono (Nat.zero_le _)).or (((rcB_own F Z.hs Z.hf Z.b pass0).imp (two_own L)).eqB ?_ ?_)
  · rintro x y b H ⟨a, c, _, _, _, _, rfl, rfl, _⟩
    exact ⟨a, c, rfl, rfl⟩
  · intro pins σ H s x b I d
    exact self_item pins σ H s x b I (.inr d)
theorem rcB_stage {X : Cx} {m : Nat} (L : Lb X.K X.mg A I D J aS a1 a2 C) (Z : Le X.K C fq dq) (F : FnOk X.prog X.w X.K X.mg X.base CX0 (3 * m + 2) fq dq ["self", "other"] (spEqB (Rq X.K C m))) : EqB X (3 * m + 3) (DStage X.K C m) := by
  refine (rcB_tup mon_item (eqB_item L Z F)).eqB ?_ (self_tup self_item)
  rintro x y b H ⟨a, c, _, _, rfl, rfl, _⟩
  exact ⟨a, c, rfl, rfl⟩
theorem rcB_stages {X : Cx} {m : Nat} (L : Lb X.K X.mg A I D J aS a1 a2 C) (Z : Le X.K C fq dq) (F : FnOk X.prog X.w X.K X.mg X.base CX0 (3 * m + 2) fq dq ["self", "other"] (spEqB (Rq X.K C m))) : RcB X (3 * m + 4) .Eq id (DStages X.K C m) :=
  rcB_tup (mon_tupB mon_item) (rcB_stage L Z F)
theorem rnB_stages {X : Cx} {m : Nat} (L : Lb X.K X.mg A I D J aS a1 a2 C) (Z : Le X.K C fq dq) (F : FnOk X.prog X.w X.K X.mg X.base CX0 (3 * m + 2) fq dq ["self", "other"] (spEqB (Rq X.K C m))) : RcB X (3 * m + 4) .NotEq not (DStages X.K C m) :=
  rnB_tup (mon_tupB mon_item) (rcB_stage L Z F)
theorem ok_eq (L : Lb K mg A I D J aS a1 a2 C) (Z : Le K C fq dq) : ∀ m : Nat, FnOk P w K mg base CX0 (3 * m + 2) fq dq ["self", "other"] (spEqB (Rq K C m))
  | 0 => by
    refine ok_eq_of (n := 1) (Q0 := DTupB K DFlatB) Z L (fun X h1 h2 h3 h4 h5 => ?_) (fun a y b H r => ?_)
    · subst h3
      exact rcB_tup mon_flatB eqB_flat
    · rcases r with ⟨p, q, hp, hq, o1, o2, hn, hb⟩ | r
      · exact absurd hn (Nat.not_lt_zero _)
      · exact .inr r
  | m + 1 => by
    have F := ok_eq L Z m
    refine ok_eq_of (n := 3 * m + 4) (Q0 := DStages K C m) Z L (fun X h1 h2 h3 h4 h5 => ?_) (fun a y b H r => ask_of r)
    subst h1 h2 h3 h4 h5
    exact rcB_stages L Z F
end
end K80
set_option Elab.async false
set_option linter.all false
set_option maxRecDepth 100000
set_option maxHeartbeats 4000000
set_option exponentiation.threshold 300
namespace K80
open PySem L2 VK
abbrev sSource : Stmt := top 36
abbrev sDraw : Stmt := top 37
abbrev sPick : Stmt := top 38
/-! ### the stream of draws: a list of two ints at p -/
def Strm (H : Hp) (p : Addr) : Prop := ∃ r m : Int, H p = some (.lst [.int r, .int m]) ∧ 0 ≤ m ∧ m ≤ 2147483647
def But (p : Addr) (H H' : Hp) : Prop := ∀ b, b ≠ p → H' b = H b
theorem But.upd {p : Addr} {H : Hp} {o : HO} : But p H (upd H p o) := fun b hb => upd_ne hb
theorem But.seq {K : Fg} {p : Addr} {H H' : Hp} (k : But p H H') {a : Addr} {xs : List V} (hne : a ≠ p) (h : SqL K H a xs) : SqL K H' a xs := by
  rcases h with (h | ⟨o, h⟩) | h
  · exact .inl (.inl ((k a hne).trans h))
  · exact .inl (.inr ⟨o, (k a hne).trans h⟩)
  · exact .inr h
def spDraw : Sp := fun vs H Q _ => ∃ (p : Addr) (n : Int), vs = [.ref p, .int n] ∧ Strm H p ∧ 0 < n ∧ n < 1000000 ∧
  ∀ (d : Int) (H' : Hp), 0 ≤ d → d < n → Strm H' p → But p H H' → Q (.int d) H'
theorem scDraw : FnScope ["stream", "span", "found"] ["stream", "span"] (defScope sDraw) := ⟨rfl, rfl, rfl, by decide +kernel, rfl, by decide +kernel, by decide +kernel⟩
section
variable {P : Program} {w : World} {K : Fg} {mg : Str → Option Value} {base : Heap}
theorem ok_draw {f : Addr} {fd : FuncData} (F : Fun K "_law_draw" "_law_draw" sDraw f fd) (N : Nm mg) : FnOk P w K mg base CX0 1 f fd ["stream", "span"] spDraw := by
  refine F.ok scDraw (fun vs H Q E h => ?_) (fun cdv A outer s H vs Q E hr h => ?_)
  · obtain ⟨p, n, rfl, _⟩ := h
    rfl
  · obtain ⟨p, n, rfl, ⟨r, m, hp, m0, m1⟩, n0, n1, k⟩ := h
    refine ⟨_, pss_cons (ps_if (pt_cmpR op_ge (pe_ix ix_list (pv 0) pe_int (fun _ _ => rfl)) (pv 1) (nomark _))
        (pss_cons (ps_set (i := 2) scDraw.nd rfl (Or.inl rfl) (pe_op op_mod (pe_callTy call_int1 (by rfl) N.int PyProof.Rows.boot_int (pa_cons (pe_ix ix_list (pv 0) pe_int (fun _ _ => rfl)) pa_nil)) (pv 1)))
        (pss_cons (ps_asg (pe_op op_fdiv (pe_ix ix_list (pv 0) pe_int (fun _ _ => rfl)) (pv 1)) (pg_sub (pv 0) pe_int set_list))
        (pss_one (ps_ret (pv 2))))) pss_nil)
      (pss_cons (ps_asg (pe_op op_mod (pe_callTy call_int1 (by rfl) N.int PyProof.Rows.boot_int
          (pa_cons (pe_op op_add (pe_op op_mul (pe_ix ix_list (pv 0) pe_int (fun _ _ => rfl)) pe_int) pe_int) pa_nil)) pe_int) (pg_sub (pv 0) pe_int set_list))
      (pss_one (ps_ret (pe_op op_mod (pe_callTy call_int1 (by rfl) N.int PyProof.Rows.boot_int
        (pa_cons (pe_op op_fdiv (pe_op op_mod (pe_callTy call_int1 (by rfl) N.int PyProof.Rows.boot_int
          (pa_cons (pe_op op_pow (pe_callTy call_int1 (by rfl) N.int PyProof.Rows.boot_int (pa_cons (pe_ix ix_list (pv 0) pe_int (fun _ _ => rfl)) pa_nil)) pe_int) pa_nil)) pe_int) pe_int) pa_nil)) (pv 1))))), ?_⟩
    refine ⟨_, rfl, p, _, 0, _, rfl, rfl, SqL.of hp, rfl, _, rfl, _, _, rfl, rfl, _, rfl, ?_⟩
    refine ite2 (fun _ => ?_) (fun _ => ?_)
    · refine ⟨_, rfl, p, _, 0, _, rfl, rfl, SqL.of hp, rfl, .inl ⟨_, rfl, _, rfl, _, _, rfl, rfl, n0, ?_⟩⟩
      refine ⟨_, rfl, p, _, 0, _, rfl, rfl, SqL.of hp, rfl, _, rfl, _, _, rfl, rfl, ⟨n0, by omega⟩, ?_⟩
      refine ⟨_, rfl, p, _, 0, 0, rfl, rfl, hp, rfl, _, rfl, ?_⟩
      exact k _ _ (Int.emod_nonneg _ (by omega)) (Int.emod_lt_of_pos _ n0) ⟨_, m, upd_same, m0, m1⟩ But.upd
    · refine ⟨_, rfl, p, _, 1, _, rfl, rfl, SqL.of hp, rfl, _, _, rfl, rfl, .inl ⟨by omega, by omega⟩, _, _, rfl, rfl, .inl ⟨_, rfl, _, _, rfl, rfl, by show (0 : Int) < 2147483647; decide, ?_⟩⟩
      refine ⟨_, rfl, p, _, 1, 1, rfl, rfl, hp, rfl, ?_⟩
      have b0 : 0 ≤ (m * 69621 + 3571) % 2147483647 := Int.emod_nonneg _ (by decide)
      have b1 : (m * 69621 + 3571) % 2147483647 < 2147483647 := Int.emod_lt_of_pos _ (by decide)
      refine ⟨_, rfl, p, _, 1, _, rfl, rfl, SqL.of upd_same, rfl, .inl ⟨_, rfl, _, _, rfl, rfl, ⟨by decide, by decide, by omega⟩, .inl ⟨_, rfl, _, _, rfl, rfl, (by show (0 : Int) < 1000000007; decide), _, _, rfl, rfl, ⟨by decide, by decide⟩, .inl ⟨_, rfl, _, rfl, _, _, rfl, rfl, n0, ?_⟩⟩⟩⟩
      exact k _ _ (Int.emod_nonneg _ (by omega)) (Int.emod_lt_of_pos _ n0) ⟨r, _, upd_same, b0, by show (m * 69621 + 3571) % 2147483647 ≤ 2147483647; omega⟩ But.upd
end
def spPick (K : Fg) : Sp := fun vs H Q _ => ∃ (p q : Addr) (xs : List V), vs = [.ref p, .ref q] ∧ Strm H p ∧ SqL K H q xs ∧ q ≠ p ∧ xs ≠ [] ∧ xs.length < 1000 ∧
  ∀ (x : V) (H' : Hp), x ∈ xs → Strm H' p → But p H H' → Q x H'
theorem scPick : FnScope ["stream", "things"] ["stream", "things"] (defScope sPick) := ⟨rfl, rfl, rfl, by decide +kernel, rfl, by decide +kernel, by decide +kernel⟩
theorem scSource : FnScope ["script", "start", "mixed", "cell", "rest"] ["script", "start"] (defScope sSource) := ⟨rfl, rfl, rfl, by decide +kernel, rfl, by decide +kernel, by decide +kernel⟩
/-- a place that is drawn lies in the list -/
theorem at_drawn {xs : List V} {d : Int} (h0 : 0 ≤ d) (h1 : d < xs.length) : ∃ v, atI xs d = some v ∧ v ∈ xs := by
  have hl : d.toNat < xs.length := by omega
  refine ⟨xs[d.toNat], ?_, List.getElem_mem hl⟩
  have e : d = (d.toNat : Int) := by omega
  exact at_of e (List.getElem?_eq_getElem hl)
/-- the script's ints: at most so many bits each -/
def Bits (ns : List Int) : Prop := ∀ z ∈ ns, Builtin.Int.intBits z ≤ 1048576
def spSource (K : Fg) : Sp := fun vs H Q _ => ∃ (a : Addr) (ns : List Int) (st : Int), vs = [.ref a, .int st] ∧ SqL K H a (ns.map V.int) ∧ ns.length ≤ 63 ∧ Bits ns ∧ 0 ≤ st ∧ st ≤ 100 ∧
  ∀ (p : Addr) (H' : Hp), H p = none → Strm H' p → But p H H' → Q (.ref p) H'
theorem log2_le {x : Int} {n : Nat} (h : x.natAbs < 2 ^ n) (h0 : 0 < n) : Builtin.Int.intBits x ≤ n := by
  have h1 := PySem.Flt.log2_lt_of h0 h
  unfold Builtin.Int.intBits
  split <;> omega
theorem abs_lt {x : Int} {n : Nat} (h : Builtin.Int.intBits x ≤ n) : x.natAbs < 2 ^ n := by
  unfold Builtin.Int.intBits at h
  split at h
  · rename_i e
    have e' : x = 0 := by simpa using e
    rw [e']
    exact Nat.two_pow_pos n
  · rename_i e
    have e' : x ≠ 0 := by simpa using e
    have h2 : x.natAbs ≠ 0 := by omega
    exact (Nat.log2_lt h2).mp (by omega)
theorem pow_le {n : Nat} (h : 50 ≤ n) : (1125899906842624 : Nat) ≤ 2 ^ n := by
  have e : (1125899906842624 : Nat) = 2 ^ 50 := by decide
  rw [e]
  exact Nat.pow_le_pow_right (by decide) h
/-- what is cubed has few enough bits -/
theorem cubed_ok {m z : Int} (h0 : 0 ≤ m) (h1 : m ≤ 2147483647) (hz : Builtin.Int.intBits z ≤ 1048576) : PowOk (m * 40009 + z) 3 := by
  refine ⟨by decide, ?_⟩
  have a := abs_lt hz
  have b := pow_le (n := 1048576) (by decide)
  have c : (m * 40009 + z).natAbs < 2 ^ 1048576 + 2 ^ 1048576 := by
    generalize (2 : Nat) ^ 1048576 = W at a b ⊢
    omega
  have e : (2 : Nat) ^ 1048577 = 2 ^ 1048576 + 2 ^ 1048576 := by rw [Nat.pow_succ]; exact Nat.mul_two _
  have d : Builtin.Int.intBits (m * 40009 + z) ≤ 1048577 := log2_le (by rw [e]; exact c) (by decide)
  omega
section
variable {P : Program} {w : World} {K : Fg} {mg : Str → Option Value} {base : Heap}
theorem ok_pick {f fD : Addr} {fd fdD : FuncData} (F : Fun K "_law_pick" "_law_pick" sPick f fd) (N : Nm mg) (gD : mg "_law_draw" = some (.ref fD))
    (FD : Fun K "_law_draw" "_law_draw" sDraw fD fdD) (bD : Binds K fdD ["stream", "span"] []) : FnOk P w K mg base CX0 2 f fd ["stream", "things"] (spPick K) := by
  have GD : FnOk P w K mg base CX0 1 fD fdD ["stream", "span"] spDraw := ok_draw FD N
  refine F.ok scPick (fun vs H Q E h => ?_) (fun cdv A outer s H vs Q E hr h => ?_)
  · obtain ⟨p, q, xs, rfl, _⟩ := h
    rfl
  · obtain ⟨p, q, xs, rfl, hp, hq, hne, hx, hl, k⟩ := h
    refine ⟨_, pss_one (ps_ret (pe_ix ix_list (pv 1) (pe_call GD hr rfl gD FD.kp bD .nil pass0 (pa_cons (pv 0) (pa_cons (pe_callB call_len_seq (by rfl) N.len PySem.boot_len (pa_cons (pv 1) pa_nil)) pa_nil))) (fun _ _ => rfl))), ?_⟩
    refine ⟨_, rfl, _, rfl, _, rfl, q, xs, rfl, .inl hq, p, _, rfl, hp, ?_, ?_, fun d H' d0 d1 hs hb => ?_⟩
    · have := List.length_pos_iff.mpr hx
      omega
    · omega
    · obtain ⟨v, e1, e2⟩ := at_drawn (xs := xs) d0 d1
      exact ⟨q, xs, d, v, rfl, rfl, hb.seq hne hq, e1, k v H' e2 hs hb⟩
theorem ok_source {f : Addr} {fd : FuncData} (F : Fun K "_law_source" "_law_source" sSource f fd) (N : Nm mg) : FnOk P w K mg base CX0 1 f fd ["script", "start"] (spSource K) := by
  refine F.ok scSource (fun vs H Q E h => ?_) (fun cdv A outer s H vs Q E hr h => ?_)
  · obtain ⟨a, ns, st, rfl, _⟩ := h
    rfl
  · obtain ⟨a, ns, st, rfl, hS, hl, hB, s0, s1, k⟩ := h
    refine ⟨_, pss_cons (ps_set (i := 2) scSource.nd rfl (Or.inl rfl) (pe_op op_add pe_int (pv 1)))
      (pss_cons (ps_for PassesOwn.never rfl (pi_list (pv 0)) (pg_name (i := 3) scSource.nd rfl (Or.inl rfl))
        (pss_one (ps_set (i := 2) scSource.nd rfl (Or.inl rfl) (pe_op op_add (pe_op op_mod (pe_callTy call_int1 (by rfl) N.int PyProof.Rows.boot_int
          (pa_cons (pe_op op_powB (pe_callTy call_int1 (by rfl) N.int PyProof.Rows.boot_int
            (pa_cons (pe_op op_add (pe_op op_mul (pv 2) pe_int) (pe_callTy call_int1 (by rfl) N.int PyProof.Rows.boot_int (pa_cons (pv 3) pa_nil))) pa_nil)) pe_int) pa_nil)) pe_int) pe_int))))
      (pss_cons (ps_set (i := 4) scSource.nd rfl (Or.inl rfl) pe_int)
      (pss_cons (ps_if (PW.pt (pw_and (pt_cmpR op_lt (pv 1) (pe_callB call_len_seq (by rfl) N.len PySem.boot_len (pa_cons (pv 0) pa_nil)) (nomark _))
          (pw_and1 (pt_cmpR op_ge (pe_ix ix_list (pv 0) (pv 1) (fun _ _ => rfl)) (pe_op op_pow pe_int pe_int) (nomark _)))))
        (pss_one (ps_set (i := 4) scSource.nd rfl (Or.inl rfl) (pe_op op_sub (pe_ix ix_list (pv 0) (pv 1) (fun _ _ => rfl)) (pe_op op_pow pe_int pe_int)))) pss_nil)
      (pss_one (ps_ret (pe_lst (pa_cons (pv 4) (pa_cons (pv 2) pa_nil)))))))), ?_⟩
    have ret : ∀ (m r : Int), 0 ≤ m → m ≤ 2147483647 → ∀ x : Addr, H x = none → Q (.ref x) (upd H x (.lst [.int r, .int m])) :=
      fun m r m0 m1 x hx => k x _ hx ⟨r, m, upd_same, m0, m1⟩ But.upd
    refine ⟨_, rfl, _, _, rfl, rfl, _, rfl, a, rfl, ⟨_, hS⟩, for_list (K := K) (a := a) (xs := ns.map V.int)
      (fun i σ H' => H' = H ∧ ∃ (v : Option V) (m : Int), σ = [some (.ref a), some (.int st), some (.int m), v, none] ∧ 0 ≤ m ∧ m ≤ 2147483647)
      ⟨rfl, none, _, rfl, by show 0 ≤ 59 + st; omega, by show 59 + st ≤ 2147483647; omega⟩ (fun i σ H' _ q => by rw [q.1]; exact hS) ?_ ?_⟩
    · rintro i y σ H' hi ⟨rfl, v, m, rfl, m0, m1⟩
      obtain ⟨z, hz, rfl⟩ : ∃ z, z ∈ ns ∧ y = V.int z := by
        rw [List.getElem?_map] at hi
        cases e : ns[i]? with
        | none =>
          rw [e] at hi
          cases hi
        | some z =>
          rw [e] at hi
          exact ⟨z, List.mem_of_getElem? e, (Option.some.inj hi).symm⟩
      refine ⟨_, rfl, _, _, rfl, rfl, .inl ⟨by omega, by omega⟩, _, rfl, .inl ⟨_, rfl, _, _, rfl, rfl, .inl ⟨_, rfl, _, _, rfl, rfl, cubed_ok m0 m1 (hB z hz), .inl ⟨_, rfl, _, _, rfl, rfl, (by show (0 : Int) < 2147483563; decide), _, _, rfl, rfl, ?_⟩⟩⟩⟩
      have b0 := Int.emod_nonneg ((m * 40009 + z) ^ (3 : Int).toNat) (show (2147483563 : Int) ≠ 0 by decide)
      have b1 := Int.emod_lt_of_pos ((m * 40009 + z) ^ (3 : Int).toNat) (show (0 : Int) < 2147483563 by decide)
      generalize hw : (m * 40009 + z) ^ (3 : Int).toNat % 2147483563 = u at b0 b1
      refine ⟨rfl, some (.int z), u + 1, rfl, by omega, by omega⟩
    · rintro σ H' ⟨rfl, v, m, rfl, m0, m1⟩
      refine ⟨_, rfl, _, rfl, a, _, rfl, .inl hS, _, _, rfl, rfl, _, rfl, ?_⟩
      refine ite2 (fun c => ?_) (fun c => ?_)
      · have c1 : st < (ns.map V.int).length := of_decide_eq_true c
        rw [List.length_map] at c1
        obtain ⟨z, hz⟩ : ∃ z, ns[st.toNat]? = some z := ⟨_, List.getElem?_eq_getElem (by omega)⟩
        have hat : atI (ns.map V.int) st = some (.int z) := at_of (j := st.toNat) (by omega) (by rw [List.getElem?_map, hz]; rfl)
        refine ⟨_, rfl, _, rfl, a, _, _, _, rfl, rfl, hS, hat, _, _, rfl, rfl, ⟨by decide, by decide, by decide⟩, _, _, rfl, rfl, _, rfl, ?_⟩
        refine ite2 (fun _ => ?_) (fun _ => ?_)
        · refine ⟨_, rfl, _, rfl, a, _, _, _, rfl, rfl, hS, hat, _, _, rfl, rfl, ⟨by decide, by decide, by decide⟩, _, _, rfl, rfl, ?_⟩
          exact ⟨_, rfl, _, rfl, by show 2 ≤ sizeLine; decide, fun x hx => ret _ _ m0 m1 x hx⟩
        · exact ⟨_, rfl, _, rfl, by show 2 ≤ sizeLine; decide, fun x hx => ret _ _ m0 m1 x hx⟩
      · exact ⟨_, rfl, _, rfl, by show 2 ≤ sizeLine; decide, fun x hx => ret _ _ m0 m1 x hx⟩
end
end K80
set_option Elab.async false
set_option linter.all false
set_option maxRecDepth 100000
set_option maxHeartbeats 4000000
namespace K80
open PySem L2 VK
abbrev sMixed : Stmt := top 39
theorem scMixed : FnScope ["stream", "things", "lot", "found"] ["stream", "things"] (defScope sMixed) := ⟨rfl, rfl, rfl, by decide +kernel, rfl, by decide +kernel, by decide +kernel⟩
/-! ### lists of ints and texts -/
inductive Pln : V → PyData → Prop where
  | int (i : Int) : Pln (.int i) (.int i)
  | str {z : Str} (h : PyData.strOk z = true) : Pln (.str z) (.str z)
def Plns (xs : List V) : Prop := ∀ x ∈ xs, ∃ d, Pln x d
theorem pln_dp {K : Fg} {H : Hp} : ∀ {xs : List V}, Plns xs → ∃ ds, DpAll K H xs ds ∧ ds.length = xs.length ∧ PyData.canLayAll0 ds = true ∧ PyData.depthAll ds = 0
  | [], _ => ⟨[], .nil, rfl, rfl, rfl⟩
  | x :: r, h => by
    obtain ⟨ds, a, b, c, e⟩ := pln_dp (K := K) (H := H) (xs := r) fun y hy => h y (List.mem_cons_of_mem _ hy)
    obtain ⟨d, hd⟩ := h x List.mem_cons_self
    cases hd with
    | int i => exact ⟨.int i :: ds, .cons (.int i) a, by rw [List.length_cons, List.length_cons, b], by simp [PyData.canLayAll0, PyData.canLay0, c], by simp [PyData.depthAll, PyData.depth, e]⟩
    | @str z hz => exact ⟨.str z :: ds, .cons (.str z) a, by rw [List.length_cons, List.length_cons, b], by simp [PyData.canLayAll0, PyData.canLay0, c, hz], by simp [PyData.depthAll, PyData.depth, e]⟩
theorem shaped_l {ds : List PyData} (c : PyData.canLayAll0 ds = true) (e : PyData.depthAll ds = 0) : SeqAt.shaped (.list ds) = true := by
  unfold SeqAt.shaped
  simp [PyData.canLay0, PyData.depth, c, e]
/-- xs != [] -/
theorem ne_nil {K : Fg} {H : Hp} {a b : Addr} {xs : List V} {Q : VK} (h : SqL K H a xs) (p : Plns xs) (hb : SqL K H b []) (k : Q (.bl (!xs.isEmpty)) H) : rNeD K (.ref a) (.ref b) H Q := by
  obtain ⟨ds, d1, d2, d3, d4⟩ := pln_dp (K := K) (H := H) p
  refine ⟨.list ds, .list [], .lst h d1, .lst hb .nil, shaped_l d3 d4, by decide, ?_⟩
  have e : (!PyData.eqv (.list ds) (.list [])) = !xs.isEmpty := by
    cases xs with
    | nil =>
      cases d1
      rfl
    | cons x r =>
      cases d1 with
      | cons _ _ => rfl
  rw [e]
  exact k
def spMixed (K : Fg) : Sp := fun vs H Q _ => ∃ (p q : Addr) (xs : List V), vs = [.ref p, .ref q] ∧ Strm H p ∧ SqL K H q xs ∧ q ≠ p ∧ xs.length ≤ 60 ∧ Plns xs ∧
  ∀ (r : Addr) (ys : List V) (H' : Hp), ys.Perm xs → H r = none → H' r = some (.lst ys) → Strm H' p → Bx p H H' → Q (.ref r) H'
theorem idx_nat {n k : Nat} (h : k < n) : seqIndex? (k : Int) n = some k := by
  unfold seqIndex?
  simp
  omega
theorem perm_erase {α : Type} : ∀ (l : List α) (i : Nat) (h : i < l.length), ([l[i]] ++ l.eraseIdx i).Perm l
  | [], i, h => absurd h (Nat.not_lt_zero _)
  | a :: r, 0, h => List.Perm.refl _
  | a :: r, i + 1, h => by
    have h' := Nat.lt_of_succ_lt_succ h
    have ih := perm_erase r i h'
    show (r[i] :: a :: r.eraseIdx i).Perm (a :: r)
    exact (List.Perm.swap a _ _).trans (List.Perm.cons a ih)
section
variable {P : Program} {w : World} {K : Fg} {mg : Str → Option Value} {base : Heap}
theorem strm_ne {H : Hp} {p a : Addr} (h : Strm H p) (n : H a = none) : a ≠ p := by
  obtain ⟨r, m, e, _⟩ := h
  exact fun z => by rw [z, e] at n; cases n
theorem Strm.bx {H H' : Hp} {p : Addr} (h : Strm H p) (e : H' p = H p) : Strm H' p := by
  obtain ⟨r, m, h, hm⟩ := h
  exact ⟨r, m, e.trans h, hm⟩
theorem Strm.same {H H' : Hp} {p : Addr} (h : Strm H p) (e : Same H H') : Strm H' p := by
  obtain ⟨r, m, h, hm⟩ := h
  exact ⟨r, m, e _ _ h, hm⟩
theorem But.bx {p : Addr} {H H' : Hp} (b : But p H H') : Bx p H H' := fun c o n e => (b c n).trans e
theorem ok_mixed {f fD : Addr} {fd fdD : FuncData} (F : Fun K "_law_mixed" "_law_mixed" sMixed f fd) (N : Nm mg) (gD : mg "_law_draw" = some (.ref fD))
    (FD : Fun K "_law_draw" "_law_draw" sDraw fD fdD) (bD : Binds K fdD ["stream", "span"] []) : FnOk P w K mg base CX0 2 f fd ["stream", "things"] (spMixed K) := by
  have GD : FnOk P w K mg base CX0 1 fD fdD ["stream", "span"] spDraw := ok_draw FD N
  refine F.ok scMixed (fun vs H Q E h => ?_) (fun cdv B outer s H vs Q E hr h => ?_)
  · obtain ⟨p, q, xs, rfl, _⟩ := h
    rfl
  · obtain ⟨p, q, xs, rfl, hp, hq, hqp, hl, pl, k⟩ := h
    refine ⟨_, pss_cons (ps_par (by rfl) scMixed.nd rfl rfl (show 2 ≠ 3 by decide) rfl rfl (pa_cons (pe_callTy call_list_of (by rfl) N.lst PyProof.Rows.boot_list (pa_cons (pv 1) pa_nil)) (pa_cons (pe_lst pa_nil) pa_nil)) (by rfl))
      (pss_cons (ps_while PassesOwn.never (pt_cmpR (op_neD hr.units) (pv 2) (pe_lst pa_nil) (nomark _))
        (pss_one (ps_expr (pe_bm PySem.F.plainAttrs_list PySem.F.slot_list_append PySem.F.type_list_append mt_append (pv 3) (pa_cons
          (pe_bm PySem.F.plainAttrs_list PySem.F.slot_list_pop PySem.F.type_list_pop mt_popAt (pv 2) (pa_cons (pe_call GD hr rfl gD FD.kp bD .nil pass0 (pa_cons (pv 0) (pa_cons (pe_callB call_len_seq (by rfl) N.len PySem.boot_len (pa_cons (pv 2) pa_nil)) pa_nil))) pa_nil)) pa_nil)))))
      (pss_one (ps_ret (pv 3)))), ?_⟩
    refine ⟨_, rfl, q, xs, rfl, .inl hq, fun a ha => ?_⟩
    have s1 : Same H (upd H a (.lst xs)) := same_new ha
    have e1 : upd H a (.lst xs) a = some (.lst xs) := upd_same
    generalize upd H a (.lst xs) = H1 at s1 e1
    refine ⟨by show 0 ≤ sizeLine; decide, fun b hb => ?_⟩
    have s2 : Same H1 (upd H1 b (.lst [])) := same_new hb
    have e2 : upd H1 b (.lst []) b = some (.lst []) := upd_same
    generalize upd H1 b (.lst []) = H2 at s2 e2
    have hb0 := s1.free hb
    have nab : a ≠ b := ne_of_none e1 hb
    have nap := strm_ne hp ha
    have nbp := strm_ne hp hb0
    refine ⟨_, _, rfl, ?_⟩
    refine while_by (fun σ H' => ∃ r1 r2 : List V, σ = [some (.ref p), some (.ref q), some (.ref a), some (.ref b)] ∧ Strm H' p ∧ H' a = some (.lst r1) ∧ H' b = some (.lst r2) ∧ (r2 ++ r1).Perm xs ∧ Bx p H H')
      (fun σ H' => match H' a with | some (.lst r) => r.length | _ => 0) ⟨xs, [], rfl, hp.same (s1.trans s2), s2 _ _ e1, e2, List.Perm.refl _, Bx.of (s1.trans s2)⟩ ?_ ?_
    · rintro σ H' ⟨r1, r2, rfl, hs, ea, eb, pm, bx⟩
      have len : r2.length + r1.length = xs.length := by rw [← pm.length_eq, List.length_append]
      have pl1 : Plns r1 := fun x hx => pl x (pm.mem_iff.mp (List.mem_append_right _ hx))
      refine ⟨_, rfl, by show 0 ≤ sizeLine; decide, fun c hc => ?_⟩
      have s3 : Same H' (upd H' c (.lst [])) := same_new hc
      have e3 : upd H' c (.lst []) c = some (.lst []) := upd_same
      generalize upd H' c (.lst []) = H3 at s3 e3
      refine ne_nil (SqL.of (s3 _ _ ea)) pl1 (SqL.of e3) ⟨_, rfl, ?_⟩
      cases r1 with
      | nil =>
        refine iteF (A := True) ⟨_, rfl, ?_⟩
        rw [List.append_nil] at pm
        exact k b r2 H3 pm hb0 (s3 _ _ eb) (hs.same s3) (bx.trans (Bx.of s3))
      | cons x0 r1 =>
        refine iteT (B := True) ?_
        refine ⟨_, rfl, .inl ⟨rfl, _, SqL.of (s3 _ _ eb)⟩, _, rfl, .inl ⟨rfl, _, SqL.of (s3 _ _ ea)⟩, _, rfl, _, rfl, a, _, rfl, .inl (SqL.of (s3 _ _ ea)), ?_⟩
        rw [List.length_cons] at len
        refine ⟨p, _, rfl, hs.same s3, by rw [List.length_cons]; omega, by rw [List.length_cons]; omega, fun d H4 d0 d1 hs4 bt => ?_⟩
        have ea4 : H4 a = some (.lst (x0 :: r1)) := (bt a nap).trans (s3 _ _ ea)
        have eb4 : H4 b = some (.lst r2) := (bt b nbp).trans (s3 _ _ eb)
        rw [List.length_cons] at d1
        have lt : d.toNat < (x0 :: r1).length := by rw [List.length_cons]; omega
        have ed : d = (d.toNat : Int) := by omega
        refine ⟨a, _, d, d.toNat, (x0 :: r1)[d.toNat], rfl, rfl, ea4, by omega, by omega, by rw [ed]; exact idx_nat lt, List.getElem?_eq_getElem lt, ?_⟩
        have eb5 : upd H4 a (.lst ((x0 :: r1).eraseIdx d.toNat)) b = some (.lst r2) := by rw [upd_ne (Ne.symm nab)]; exact eb4
        refine ⟨b, r2, _, rfl, rfl, eb5, small1000 (by omega), ?_⟩
        have ea6 : upd (upd H4 a (.lst ((x0 :: r1).eraseIdx d.toNat))) b (.lst (r2 ++ [(x0 :: r1)[d.toNat]])) a = some (.lst ((x0 :: r1).eraseIdx d.toNat)) := by rw [upd_ne nab, upd_same]
        refine ⟨⟨_, _, rfl, ?_, ea6, upd_same, ?_, ?_⟩, ?_⟩
        · refine hs4.bx ?_
          rw [upd_ne (Ne.symm nbp), upd_ne (Ne.symm nap)]
        · rw [List.append_assoc]
          refine (List.Perm.append_left r2 ?_).trans pm
          exact perm_erase _ _ lt
        · intro c' o n e
          rw [upd_ne (ne_of_none e hb0), upd_ne (ne_of_none e ha), bt c' n]
          exact s3 _ _ (bx _ _ n e)
        · show (match (upd (upd H4 a (.lst ((x0 :: r1).eraseIdx d.toNat))) b (.lst (r2 ++ [(x0 :: r1)[d.toNat]]))) a with | some (.lst r) => r.length | _ => 0) < (match H' a with | some (.lst r) => r.length | _ => 0)
          rw [ea6, ea]
          show ((x0 :: r1).eraseIdx d.toNat).length < (x0 :: r1).length
          rw [List.length_eraseIdx_of_lt lt]
          omega
    · rintro σ H' Q1 Q2 h ⟨v, ev, hl, q⟩
      refine ⟨v, ev, hl, fun c hc => ?_⟩
      obtain ⟨d, e, h1, h2, h3, h4, c', ec, q2⟩ := q c hc
      exact ⟨d, e, h1, h2, h3, h4, c', ec, h _ _ q2⟩
end
end K80
set_option Elab.async false
set_option linter.all false
set_option maxRecDepth 100000
set_option maxHeartbeats 4000000
namespace K80
open PySem L2 VK
abbrev sHeight : Stmt := top 40
abbrev sDepth : Stmt := top 41
theorem scHeight : FnScope ["height", "stage"] ["height", "stage"] (defScope sHeight) := ⟨rfl, rfl, rfl, by decide +kernel, rfl, by decide +kernel, by decide +kernel⟩
theorem scDepth : FnScope ["plan", "height", "stage"] ["plan"] (defScope sDepth) := ⟨rfl, rfl, rfl, by decide +kernel, rfl, by decide +kernel, by decide +kernel⟩
/-- a stage that is sound by itself -/
def Sg.sd : Sg → Prop
  | .nm k n => k ∈ K1 ∧ isNm n = true
  | .num k n => k ∈ K2 ∧ 1 ≤ n ∧ n ≤ 4
  | .flat => True
  | .zip p => p.ok
theorem Sg.ok.sd {x : Sg} {d : Int} {tk : List Str} (h : x.ok d tk) : x.sd := by
  cases x with
  | nm k n => exact h
  | num k n => exact h
  | flat => trivial
  | zip p =>
    have h : p.ok ∧ ∀ s ∈ p.srcs, s ∉ tk := h
    exact h.1
theorem Sg.sd.wf {x : Sg} (h : x.sd) : x.wf := by
  cases x with
  | nm k n => exact h.1
  | num k n => exact h.1
  | flat => trivial
  | zip p => trivial
def Sgs.sd : Sgs → Prop
  | .nil => True
  | .cons x r => x.sd ∧ r.sd
theorem Sgs.ok.sd : ∀ {l : Sgs} {d : Int} {tk : List Str}, l.ok d tk → l.sd
  | .nil, _, _, _ => trivial
  | .cons x r, _, _, h => by
    have h : x.ok _ _ ∧ r.ok _ _ := h
    exact ⟨h.1.sd, Sgs.ok.sd h.2⟩
theorem PsV.at0 {K : Fg} {H : Hp} {v : V} {x : Sg} (h : PsV K H v x) : ∃ a r, v = .ref a ∧ SqT K H a (.str x.kd :: r) := by
  cases h with
  | nm h => exact ⟨_, _, rfl, h⟩
  | num h => exact ⟨_, _, rfl, h⟩
  | flat h => exact ⟨_, _, rfl, h⟩
  | zip h _ => exact ⟨_, _, rfl, h⟩
def spHeight (K : Fg) (m : Nat) : Sp := fun vs H Q _ => ∃ (v : V) (x : Sg) (d : Int), vs = [.int d, v] ∧ PsV K H v x ∧ x.sd ∧ x.nest < m ∧ ∀ H', Same H H' → Q (.int (x.dep d)) H'
def spDepth (K : Fg) (m : Nat) : Sp := fun vs H Q _ => ∃ (v : V) (p : Pg), vs = [v] ∧ PlAt K H v p ∧ p.ok ∧ p.nest < m ∧ ∀ H', Same H H' → Q (.int p.dep) H'
def rowK : List (L2.Key × V) := [(.inr "lots", .int 1), (.inr "flat", .int (0 - 1))]
theorem getRow : mergeK [] rowK = rowK := by decide +kernel
theorem row_val {k : Str} : valV rowK (Sum.inr k) = if k = "lots" then some (.int 1) else if k = "flat" then some (.int (0 - 1)) else none := by
  unfold valV rowK
  by_cases a : k = "lots"
  · subst a
    rw [if_pos rfl]
    simp
  · by_cases b : k = "flat"
    · subst b
      rw [if_neg (by decide +kernel), if_pos rfl]
      have : ¬ (("lots" : Str) = "flat") := by decide +kernel
      simp [this]
    · rw [if_neg a, if_neg b]
      have a' : ¬ (("lots" : Str) = k) := fun z => a z.symm
      have b' : ¬ (("flat" : Str) = k) := fun z => b z.symm
      simp [a', b']
section
variable {P : Program} {w : World} {K : Fg} {mg : Str → Option Value} {base : Heap} {fH fD : Addr} {dH dD : FuncData}
theorem ok_height {m : Nat} (N : Nm mg) (FH : Fun K "_law_height" "_law_height" sHeight fH dH) (gD : mg "_law_depth" = some (.ref fD)) (FD : Fun K "_law_depth" "_law_depth" sDepth fD dD) (bD : Binds K dD ["plan"] [])
    (G : FnOk P w K mg base CX0 (2 * m + 2) fD dD ["plan"] (spDepth K m)) : FnOk P w K mg base CX0 (2 * m + 3) fH dH ["height", "stage"] (spHeight K (m + 1)) := by
  refine FH.ok scHeight (fun vs H Q E h => ?_) (fun cdv B outer s H vs Q E hr h => ?_)
  · obtain ⟨v, x, d, rfl, _⟩ := h
    rfl
  · obtain ⟨v, x, d, rfl, hv, hs, hn, k⟩ := h
    have hu : (B.deeper (PyProof.Rows.envOfC "_law_height" (defScope sHeight) s.heap.objs.size fH cdv)).units + 1 < cLine := by
      have := hr.units
      omega
    refine ⟨_, pss_cons (ps_if (pt_cmpR op_eq (pe_ix ix_tup (pv 1) pe_int (fun _ _ => rfl)) pe_str (nomark _)) (pss_one (ps_ret pe_int)) pss_nil)
      (pss_cons (ps_if (pt_cmpR op_eq (pe_ix ix_tup (pv 1) pe_int (fun _ _ => rfl)) pe_str (nomark _)) (pss_one (ps_ret (pe_op op_add pe_int (pe_callB (call_min2 rfl) (by rfl) N.min boot_min' (pa_cons (pv 0) (pa_cons
          (pe_call G hr rfl gD FD.kp bD .nil pass0 (pa_cons (pe_ix ix_tup (pv 1) pe_int (fun _ _ => rfl)) pa_nil)) pa_nil)))))) pss_nil)
      (pss_one (ps_ret (pe_op op_add (pv 0) (pe_dget2 hu (pe_disp (pps_cons pe_str pe_int (pps_cons pe_str (pe_op op_sub pe_int pe_int) pps_nil)) rfl rfl (fun z => by cases z) (by decide))
        (pe_ix ix_tup (pv 1) pe_int (fun _ _ => rfl)) pe_int ⟨rfl, rfl, rfl, rfl⟩))))), ?_⟩
    have sk : ∀ {a b : Str}, V.str a = V.str b → a = b := fun h => V.str.inj h
    have wf := hs.wf
    obtain ⟨a, r, rfl, ha⟩ := hv.at0
    refine ⟨_, rfl, a, _, _, .str x.kd, rfl, rfl, ha, at_of (j := 0) rfl rfl, rfl, _, rfl, ?_⟩
    refine dif (fun e0 => ?_) (fun e0 => ?_)
    · cases x with
      | nm z n =>
        have : (Sg.nm z n).dep d = 0 := if_pos (sk e0)
        rw [this] at k
        exact k _ (Same.refl H)
      | num z n => exact absurd (sk e0) ((by decide +kernel : ∀ z ∈ K2, ¬ (z = "map")) _ wf)
      | flat => exact absurd (sk e0) (by decide +kernel : ¬ (("flat" : Str) = "map"))
      | zip p => exact absurd (sk e0) (by decide +kernel : ¬ (("zip" : Str) = "map"))
    refine ⟨_, rfl, a, _, _, .str x.kd, rfl, rfl, ha, at_of (j := 0) rfl rfl, rfl, _, rfl, ?_⟩
    refine dif (fun e3 => ?_) (fun e3 => ?_)
    · cases hv with
      | nm h => exact absurd (sk e3) ((by decide +kernel : ∀ z ∈ K1, ¬ (z = "zip")) _ wf)
      | num h => exact absurd (sk e3) ((by decide +kernel : ∀ z ∈ K2, ¬ (z = "zip")) _ wf)
      | flat h => exact absurd (sk e3) (by decide +kernel : ¬ (("flat" : Str) = "zip"))
      | @zip _ v p h hp =>
        refine ⟨_, rfl, _, rfl, _, _, _, _, rfl, rfl, h, rfl, v, p, rfl, hp, hs, Nat.lt_of_succ_lt_succ hn, fun H' s1 => ?_⟩
        refine ⟨_, _, rfl, _, _, rfl, rfl, ?_⟩
        have k1 := k H' s1
        rw [show (Sg.zip p).dep d = (if p.dep < d then p.dep else d) + 1 from rfl, Int.add_comm] at k1
        exact k1
    · refine ⟨_, rfl, fun q hq => ⟨_, _, rfl, rfl, upd_same, rowK, rfl, by decide, ?_⟩⟩
      have s1 : Same H (upd (upd H q (.dK [])) q (.dK (mergeK [] rowK))) := fun b o e => by
        have n := ne_of_none e hq
        rw [upd_ne n, upd_ne n]
        exact e
      have eq : upd (upd H q (.dK [])) q (.dK (mergeK [] rowK)) q = some (.dK rowK) := by
        rw [upd_same, getRow]
      generalize upd (upd H q (.dK [])) q (.dK (mergeK [] rowK)) = H1 at s1 eq
      refine ⟨q, rfl, .inl ⟨_, .inl eq⟩, _, rfl, a, _, _, .str x.kd, rfl, rfl, (Kp.of s1).tup ha, at_of (j := 0) rfl rfl, _, DGet.k (k := Sum.inr x.kd) eq, ?_⟩
      have k1 := k H1 s1
      rw [row_val]
      cases x with
      | nm z n =>
        have : (Sg.nm z n).dep d = d := if_neg (fun e => e0 (congrArg V.str e))
        rw [this] at k1
        rw [show (Sg.nm z n).kd = z from rfl, if_neg (fun e : z = "lots" => (by decide +kernel : ∀ z ∈ K1, ¬ (z = "lots")) _ wf e), if_neg (fun e : z = "flat" => (by decide +kernel : ∀ z ∈ K1, ¬ (z = "flat")) _ wf e)]
        exact ⟨d, 0, rfl, rfl, (by rw [Int.add_zero]; exact k1 : Q (.int (d + 0)) H1)⟩
      | num z n =>
        by_cases c : z = "lots"
        · have : (Sg.num z n).dep d = d + 1 := if_pos c
          rw [this] at k1
          rw [show (Sg.num z n).kd = "lots" from c, if_pos rfl]
          exact ⟨d, 1, rfl, rfl, k1⟩
        · have : (Sg.num z n).dep d = d := if_neg c
          rw [this] at k1
          rw [show (Sg.num z n).kd = z from rfl, if_neg (fun e : z = "lots" => c e), if_neg (fun e : z = "flat" => (by decide +kernel : ∀ z ∈ K2, ¬ (z = "flat")) _ wf e)]
          exact ⟨d, 0, rfl, rfl, (by rw [Int.add_zero]; exact k1 : Q (.int (d + 0)) H1)⟩
      | flat =>
        rw [show Sg.flat.kd = "flat" from rfl, if_neg (by decide +kernel : ¬ (("flat" : Str) = "lots")), if_pos rfl]
        exact ⟨d, _, rfl, rfl, k1⟩
      | zip p => exact absurd rfl e3
theorem ok_depth {m : Nat} (FD : Fun K "_law_depth" "_law_depth" sDepth fD dD) (gH : mg "_law_height" = some (.ref fH)) (FH : Fun K "_law_height" "_law_height" sHeight fH dH) (bH : Binds K dH ["height", "stage"] [])
    (G : FnOk P w K mg base CX0 (2 * m + 1) fH dH ["height", "stage"] (spHeight K m)) : FnOk P w K mg base CX0 (2 * m + 2) fD dD ["plan"] (spDepth K m) := by
  refine FD.ok scDepth (fun vs H Q E h => ?_) (fun cdv B outer s H vs Q E hr h => ?_)
  · obtain ⟨v, p, rfl, _⟩ := h
    rfl
  · obtain ⟨v, p, rfl, hv, ho, hn, k⟩ := h
    refine ⟨_, pss_cons (ps_set (i := 1) scDepth.nd rfl (Or.inl rfl) pe_int)
      (pss_cons (ps_for PassesOwn.never rfl (pi_tup (pe_ix ix_tup (pv 0) pe_int (fun _ _ => rfl))) (pg_name (i := 2) scDepth.nd rfl (Or.inl rfl))
        (pss_one (ps_set (i := 1) scDepth.nd rfl (Or.inl rfl) (pe_call G hr rfl gH FH.kp bH .nil pass0 (pa_cons (pv 1) (pa_cons (pv 2) pa_nil))))))
      (pss_one (ps_ret (pv 1)))), ?_⟩
    cases hv with
    | @mk a b s l xs h hs hl =>
      have ho : s ∈ K0 ∧ l.len ≤ 6 ∧ l.ok 0 [s] := ho
      have hn : l.nest < m := hn
      refine ⟨_, rfl, a, _, _, _, rfl, rfl, h, rfl, b, rfl, ⟨_, hs⟩, ?_⟩
      refine for_it (walk_tup (xs := xs)) (fun i σ H' => ∃ (d : Int) (v2 : Option V) (r : Sgs), σ = [some (.ref a), some (.int d), v2] ∧ Same H H' ∧ PsAll K H (xs.drop i) r ∧ r.sd ∧ r.nest < m ∧ r.dep d = l.dep 0)
        ⟨0, none, l, rfl, Same.refl H, hl, ho.2.2.sd, hn, rfl⟩ (fun i σ H' _ q => ?_) ?_ ?_
      · obtain ⟨d, v2, r, _, z, _⟩ := q
        exact (Kp.of z).tup hs
      · rintro i y σ H1 H2 hi ⟨d, v2, r, rfl, s1, hr2, sd, nn, ed⟩ ⟨rfl, hy⟩
        have hd : xs.drop i = y :: xs.drop (i + 1) := by
          rw [List.drop_eq_getElem_cons hi]
          rw [List.getElem?_eq_getElem hi] at hy
          rw [Option.some.inj hy]
        rw [hd] at hr2
        cases hr2 with
        | @cons _ _ x r h1 h2 =>
          have sd : x.sd ∧ r.sd := sd
          have nn : max x.nest r.nest < m := nn
          refine ⟨_, rfl, _, rfl, y, x, d, rfl, PsV.kp (Kp.of s1) h1, sd.1, Nat.lt_of_le_of_lt (Nat.le_max_left _ _) nn, fun H3 s3 => ?_⟩
          exact ⟨x.dep d, _, r, rfl, s1.trans s3, h2, sd.2, Nat.lt_of_le_of_lt (Nat.le_max_right _ _) nn, ed⟩
      · rintro σ H1 ⟨d, v2, r, rfl, s1, hr2, sd, nn, ed⟩
        rw [List.drop_length] at hr2
        cases hr2
        have ed : d = l.dep 0 := ed
        subst ed
        exact ⟨_, rfl, k H1 s1⟩
theorem ok_hd (N : Nm mg) (gH : mg "_law_height" = some (.ref fH)) (FH : Fun K "_law_height" "_law_height" sHeight fH dH) (bH : Binds K dH ["height", "stage"] []) (gD : mg "_law_depth" = some (.ref fD)) (FD : Fun K "_law_depth" "_law_depth" sDepth fD dD)
    (bD : Binds K dD ["plan"] []) : ∀ m : Nat, FnOk P w K mg base CX0 (2 * m + 1) fH dH ["height", "stage"] (spHeight K m) ∧ FnOk P w K mg base CX0 (2 * m + 2) fD dD ["plan"] (spDepth K m)
  | 0 => by
    have h : FnOk P w K mg base CX0 1 fH dH ["height", "stage"] (spHeight K 0) := by
      refine FH.ok scHeight (fun vs H Q E h => ?_) (fun cdv B outer s H vs Q E hr h => ?_)
      · obtain ⟨v, x, d, rfl, _⟩ := h
        rfl
      · obtain ⟨v, x, d, rfl, hv, hs, hn, k⟩ := h
        exact absurd hn (Nat.not_lt_zero _)
    exact ⟨h, ok_depth FD gH FH bH h⟩
  | m + 1 => by
    have h := ok_height N FH gD FD bD (ok_hd N gH FH bH gD FD bD m).2
    exact ⟨h, ok_depth (m := m + 1) FD gH FH bH h⟩
end
end K80
set_option Elab.async false
set_option linter.all false
set_option maxRecDepth 100000
set_option maxHeartbeats 4000000
namespace K80
open PySem L2 VK
abbrev sName : Stmt := top 42
theorem scName0 : FnScope ["stream", "word", "turn"] ["stream"] (defScope sName) := ⟨rfl, rfl, rfl, by decide +kernel, rfl, by decide +kernel, by decide +kernel⟩
def spPickT : Sp := fun vs H Q _ => ∃ (p : Addr) (z : Str), vs = [.ref p, .str z] ∧ Strm H p ∧ 0 < z.length ∧ z.length < 1000 ∧ ∀ (c : Nat) (H' : Hp), c ∈ z.cps.toList → Strm H' p → But p H H' → Q (.str ⟨#[c]⟩) H'
def spName : Sp := fun vs H Q _ => ∃ p : Addr, vs = [.ref p] ∧ Strm H p ∧ ∀ (z : Str) (H' : Hp), isNm z = true → Strm H' p → Bx p H H' → Q (.str z) H'
theorem ixN_of {n i : Nat} (h : i < n) : ixN n (i : Nat) = some i := by
  unfold ixN
  rw [if_pos (by omega), if_pos (by omega)]
  rfl
/-- the letters alone -/
def letters (z : Str) : Bool := z.cps.toList.all okSign
section
variable {P : Program} {w : World} {K : Fg} {mg : Str → Option Value} {base : Heap}
theorem ok_pickT {f fD : Addr} {fd fdD : FuncData} (F : Fun K "_law_pick" "_law_pick" sPick f fd) (N : Nm mg) (gD : mg "_law_draw" = some (.ref fD))
    (FD : Fun K "_law_draw" "_law_draw" sDraw fD fdD) (bD : Binds K fdD ["stream", "span"] []) : FnOk P w K mg base CX0 2 f fd ["stream", "things"] spPickT := by
  have GD : FnOk P w K mg base CX0 1 fD fdD ["stream", "span"] spDraw := ok_draw FD N
  refine F.ok scPick (fun vs H Q E h => ?_) (fun cdv B outer s H vs Q E hr h => ?_)
  · obtain ⟨p, z, rfl, _⟩ := h
    rfl
  · obtain ⟨p, z, rfl, hp, h0, h1, k⟩ := h
    refine ⟨_, pss_one (ps_ret (pe_ix ix_str (pv 1) (pe_call GD hr rfl gD FD.kp bD .nil pass0 (pa_cons (pv 0) (pa_cons (pe_callB call_len_str (by rfl) N.len PySem.boot_len (pa_cons (pv 1) pa_nil)) pa_nil))) (fun _ _ => rfl))), ?_⟩
    have zl : z.length ≤ sizeLine := Nat.le_of_lt (small1000 (Nat.le_of_lt h1))
    refine ⟨_, rfl, _, rfl, _, rfl, z, rfl, zl, p, _, rfl, hp, by omega, by omega, fun d H' d0 d1 hs hb => ?_⟩
    obtain ⟨n, rfl⟩ := Int.eq_ofNat_of_zero_le d0
    have lt : n < z.cps.toList.length := by
      rw [Array.length_toList]
      show n < z.length
      omega
    refine ⟨z, (n : Int), z.cps.toList[n], rfl, rfl, zl, ?_, k _ H' (List.getElem_mem lt) hs hb⟩
    unfold atI
    rw [ixN_of lt]
    exact List.getElem?_eq_getElem lt
theorem ok_name {f fP fD : Addr} {fd dP dD : FuncData} (F : Fun K "_law_name" "_law_name" sName f fd) (N : Nm mg) (gP : mg "_law_pick" = some (.ref fP)) (FP : Fun K "_law_pick" "_law_pick" sPick fP dP) (bP : Binds K dP ["stream", "things"] [])
    (gD : mg "_law_draw" = some (.ref fD)) (FD : Fun K "_law_draw" "_law_draw" sDraw fD dD) (bD : Binds K dD ["stream", "span"] []) : FnOk P w K mg base CX0 3 f fd ["stream"] spName := by
  have GD : FnOk P w K mg base CX0 1 fD dD ["stream", "span"] spDraw := ok_draw FD N
  have GP : FnOk P w K mg base CX0 2 fP dP ["stream", "things"] (spPick K) := ok_pick FP N gD FD bD
  have GT : FnOk P w K mg base CX0 2 fP dP ["stream", "things"] spPickT := ok_pickT FP N gD FD bD
  refine F.ok scName0 (fun vs H Q E h => ?_) (fun cdv B outer s H vs Q E hr h => ?_)
  · obtain ⟨p, rfl, _⟩ := h
    rfl
  · obtain ⟨p, rfl, hp, k⟩ := h
    have hr1 := hr.mono (show 1 ≤ 2 by decide)
    refine ⟨_, pss_cons (ps_set (i := 1) scName0.nd rfl (Or.inl rfl) (pe_call GP hr rfl gP FP.kp bP .nil pass0 (pa_cons (pv 0) (pa_cons (pe_lst (pa_cons pe_str (pa_cons pe_str (pa_cons pe_str pa_nil)))) pa_nil))))
      (pss_cons (ps_for PassesOwn.never rfl (pi_range1 (by rfl) N.range (pa_cons (pe_op op_add pe_int (pe_call GD hr1 rfl gD FD.kp bD .nil pass0 (pa_cons (pv 0) (pa_cons pe_int pa_nil)))) pa_nil)) (pg_name (i := 2) scName0.nd rfl (Or.inl rfl))
        (pss_one (ps_set (i := 1) scName0.nd rfl (Or.inl rfl) (pe_op op_add_str (pv 1) (pe_call GT hr rfl gP FP.kp bP .nil pass0 (pa_cons (pv 0) (pa_cons pe_str pa_nil)))))))
      (pss_one (ps_ret (pe_call GP hr rfl gP FP.kp bP .nil pass0 (pa_cons (pv 0) (pa_cons (pe_lst (pa_cons (pv 1) (pa_cons (pv 1) (pa_cons pe_str (pa_cons pe_str (pa_cons pe_str (pa_cons pe_str (pa_cons pe_str (pa_cons pe_str (pa_cons pe_str (pa_cons pe_str (pa_cons pe_str pa_nil)))))))))))) pa_nil)))))), ?_⟩
    refine ⟨_, rfl, by show 3 ≤ sizeLine; decide, fun q hq => ?_⟩
    have nq := strm_ne hp hq
    have e0 : upd H q (.lst [.str "", .str "un", .str "to"]) q = some (.lst [.str "", .str "un", .str "to"]) := upd_same
    have s0 : Same H (upd H q (.lst [.str "", .str "un", .str "to"])) := same_new hq
    generalize upd H q (.lst [.str "", .str "un", .str "to"]) = H0 at e0 s0
    refine ⟨p, q, _, rfl, hp.same s0, SqL.of e0, nq, (fun z => by cases z), by show 3 < 1000; decide, fun w0 H1 hw hs1 b1 => ?_⟩
    have word : ∃ z : Str, w0 = .str z ∧ z.length ≤ 2 ∧ letters z = true := by
      rcases List.mem_cons.mp hw with rfl | hw
      · exact ⟨_, rfl, by decide, by decide +kernel⟩
      rcases List.mem_cons.mp hw with rfl | hw
      · exact ⟨_, rfl, by decide, by decide +kernel⟩
      rcases List.mem_cons.mp hw with rfl | hw
      · exact ⟨_, rfl, by decide, by decide +kernel⟩
      · cases hw
    obtain ⟨z0, rfl, l0, t0⟩ := word
    have bx1 : Bx p H H1 := (Bx.of s0).trans b1.bx
    refine ⟨_, rfl, p, 4, rfl, hs1, by decide, by decide, fun d H2 d0 d1 hs2 b2 => ?_⟩
    refine ⟨_, _, rfl, rfl, 1 + d, rfl, by omega, by omega, ?_⟩
    have alpha : ∀ c ∈ ("abcdefghijklmnopqrstuvwxyz" : Str).cps.toList, okSign c = true := by decide +kernel
    refine for_range (lo := 0) (n := (1 + d).toNat) (fun i σ H' => ∃ (z : Str) (v2 : Option V), σ = [some (.ref p), some (.str z), v2] ∧ Strm H' p ∧ Bx p H H' ∧ z.length ≤ 2 + i ∧ i ≤ z.length ∧ letters z = true)
      ⟨z0, none, rfl, hs2, bx1.trans b2.bx, l0, Nat.zero_le _, t0⟩ ?_ ?_
    · rintro i σ H3 hi ⟨z, v2, rfl, hs3, bx3, l1, l2, t3⟩
      refine ⟨_, rfl, _, rfl, p, _, rfl, hs3, by decide +kernel, by decide +kernel, fun c H4 hc hs4 b4 => ?_⟩
      have one : (⟨#[c]⟩ : Str).length = 1 := rfl
      have add : (z ++ (⟨#[c]⟩ : Str)).length = z.length + 1 := by rw [strLen_append, one]
      refine ⟨z, _, rfl, rfl, ?_, z ++ ⟨#[c]⟩, _, rfl, hs4, bx3.trans b4.bx, by omega, by omega, ?_⟩
      · rw [one, sizeLine_eq]
        omega
      · show (z.cps ++ #[c]).toList.all okSign = true
        rw [Array.toList_append, List.all_append, show z.cps.toList.all okSign = true from t3]
        show ([c].all okSign) = true
        rw [List.all_cons, alpha c hc]
        rfl
    · rintro σ H3 ⟨z, v2, rfl, hs3, bx3, l1, l2, t3⟩
      have nz : isNm z = true := by
        unfold isNm
        rw [decide_eq_true (show 1 ≤ z.length by omega), decide_eq_true (show z.length ≤ 8 by omega)]
        exact t3
      refine ⟨_, rfl, _, rfl, _, rfl, by show 11 ≤ sizeLine; decide, fun r hr3 => ?_⟩
      refine ⟨p, r, _, rfl, hs3.same (same_new hr3), SqL.of upd_same, strm_ne hs3 hr3, (fun z => by cases z), by show 11 < 1000; decide, fun x H4 hx hs4 b4 => ?_⟩
      have bx4 : Bx p H H4 := (bx3.trans (Bx.of (same_new hr3))).trans b4.bx
      have fin : ∃ t : Str, x = .str t ∧ isNm t = true := by
        rcases List.mem_cons.mp hx with rfl | hx
        · exact ⟨_, rfl, nz⟩
        rcases List.mem_cons.mp hx with rfl | hx
        · exact ⟨_, rfl, nz⟩
        have all : ∀ x ∈ [V.str "zip", .str "unzip", .str "flat", .str "from", .str "take", .str "map", .str "end", .str "a", .str "b"], ∃ t : Str, x = .str t ∧ isNm t = true := by
          intro x hx
          rw [show [V.str "zip", .str "unzip", .str "flat", .str "from", .str "take", .str "map", .str "end", .str "a", .str "b"] = (["zip", "unzip", "flat", "from", "take", "map", "end", "a", "b"] : List Str).map V.str from rfl] at hx
          obtain ⟨t, ht, rfl⟩ := List.mem_map.mp hx
          exact ⟨t, rfl, (by decide +kernel : ∀ t ∈ (["zip", "unzip", "flat", "from", "take", "map", "end", "a", "b"] : List Str), isNm t = true) t ht⟩
        exact all x hx
      obtain ⟨t, rfl, ht⟩ := fin
      exact k t H4 ht hs4 bx4
end
end K80
set_option Elab.async false
set_option linter.all false
set_option maxRecDepth 100000
set_option maxHeartbeats 4000000
namespace K80
open PySem L2 VK
abbrev sStg : Stmt := top 43
abbrev sPlan : Stmt := top 44
theorem scStg : FnScope ["stream", "height", "pool", "most", "some", "word", "name"] ["stream", "height", "pool", "most"] (defScope sStg) := ⟨rfl, rfl, rfl, by decide +kernel, rfl, by decide +kernel, by decide +kernel⟩
theorem scPlan : FnScope ["stream", "pool", "most", "first", "stages", "height", "turn", "stage"] ["stream", "pool", "most"] (defScope sPlan) := ⟨rfl, rfl, rfl, by decide +kernel, rfl, by decide +kernel, by decide +kernel⟩
/-- all but the stream and the pool stays -/
def Bxx (p q : Addr) (H H' : Hp) : Prop := ∀ b o, b ≠ p → b ≠ q → H b = some o → H' b = some o
theorem Bxx.trans {p q : Addr} {H H1 H2 : Hp} (a : Bxx p q H H1) (b : Bxx p q H1 H2) : Bxx p q H H2 := fun c o n m e => b c o n m (a c o n m e)
theorem Bx.xx {p q : Addr} {H H' : Hp} (b : Bx p H H') : Bxx p q H H' := fun c o n _ e => b c o n e
theorem Same.xx {p q : Addr} {H H' : Hp} (s : Same H H') : Bxx p q H H' := fun c o _ _ e => s c o e
/-- the pool -/
structure Pool (H : Hp) (q : Addr) (pl : List Str) : Prop where
  at_ : H q = some (.lst (pl.map V.str))
  nd : pl.Nodup
  sub : ∀ s ∈ pl, s ∈ K0
mutual
/-- every zip's program has at most two stages -/
def Sg.zl : Sg → Prop
  | .nm _ _ => True
  | .num _ _ => True
  | .flat => True
  | .zip p => p.z2
def Pg.z2 : Pg → Prop
  | .mk _ l => l.len ≤ 2 ∧ l.zl
def Sgs.zl : Sgs → Prop
  | .nil => True
  | .cons x r => x.zl ∧ r.zl
end
def Pg.zm (m : Int) : Pg → Prop
  | .mk _ l => (l.len : Int) ≤ m ∧ l.zl
theorem Pg.zm2 {g : Pg} (h : g.zm 2) : g.z2 := by
  obtain ⟨s, l⟩ := g
  have h : (l.len : Int) ≤ 2 ∧ l.zl := h
  exact ⟨by omega, h.2⟩
def spStg (K : Fg) (n : Nat) : Sp := fun vs H Q _ => ∃ (p q : Addr) (h : Int) (pl : List Str), vs = [.ref p, .int h, .ref q, .int 3] ∧ Strm H p ∧ q ≠ p ∧ Pool H q pl ∧ pl.length ≤ n ∧
  ∀ (v : V) (x : Sg) (pl' : List Str) (H' : Hp), PsV K H' v x → x.sd → (x = .flat → 0 < h) → x.srcs ++ pl' = pl → H' q = some (.lst (pl'.map V.str)) → Strm H' p → Bxx p q H H' → x.zl → Q v H'
def spPlan (K : Fg) (n : Nat) : Sp := fun vs H Q _ => ∃ (p q : Addr) (m : Int) (pl : List Str), vs = [.ref p, .ref q, .int m] ∧ 0 ≤ m ∧ m ≤ 6 ∧ Strm H p ∧ q ≠ p ∧ Pool H q pl ∧ pl ≠ [] ∧ pl.length ≤ n ∧
  ∀ (v : V) (g : Pg) (pl' : List Str) (H' : Hp), PlAt K H' v g → g.ok → g.srcs ++ pl' = pl → H' q = some (.lst (pl'.map V.str)) → Strm H' p → Bxx p q H H' → g.zm m → Q v H'
theorem pl_plns {pl : List Str} (h : ∀ s ∈ pl, s ∈ K0) : Plns (pl.map V.str) := by
  intro x hx
  obtain ⟨s, hs, rfl⟩ := List.mem_map.mp hx
  exact ⟨_, .str ((by decide +kernel : ∀ s ∈ K0, PyData.strOk s = true) s (h s hs))⟩
/-- the words that are drawn -/
def KW : List Str := ["map", "keep", "while", "after", "take", "skip", "lots", "gather", "flat", "keep", "zip"]
def KN : List Str := ["p", "p", "q", "f", "p", "g", "f"]
/-- the name, and what is returned -/
theorem stg_tail {K : Fg} {p : Addr} {v1 v2 v3 v4 v6 : Option V} {k : Str} {Hc : Hp} {D : Ends} (hs : Strm Hc p)
    (kk : ∀ (v : V) (k' n : Str) (H' : Hp), k' ∈ K1 → isNm n = true → PsV K H' v (.nm k' n) → Strm H' p → Bx p Hc H' → D.rt v H') :
    tSeq (tAsg (tCall (spPick K) [] E0 (tCons (tVar 0) (tCons (tLst (tCons (tC (.str "p")) (tCons (tC (.str "p")) (tCons (tC (.str "q")) (tCons (tC (.str "f")) (tCons (tC (.str "p")) (tCons (tC (.str "g")) (tCons (tC (.str "f")) (tCons (tCall spName [] E0 (tCons (tVar 0) tNil)) tNil))))))))) tNil))) (gName 6)) (tRet (tTup (tCons (tIf (tTest (tOp (rIn K false) (tVar 5) (tTup (tCons (tC (.str "map")) (tCons (tC (.str "while")) (tCons (tC (.str "after")) tNil)))))) (tVar 5) (tC (.str "keep"))) (tCons (tVar 6) tNil)))) D [some (.ref p), v1, v2, v3, v4, some (.str k), v6] Hc := by
  refine ⟨_, rfl, _, rfl, p, rfl, hs, fun nm H1 hn hs1 b1 => ?_⟩
  refine ⟨by show 8 ≤ sizeLine; decide, fun c hc => ?_⟩
  refine ⟨p, c, (KN ++ [nm]).map V.str, rfl, hs1.same (same_new hc), SqL.of upd_same, strm_ne hs1 hc, (fun z => by cases z), by show 8 < 1000; decide, fun w0 H2 hw hs2 b2 => ?_⟩
  obtain ⟨n, hn2, rfl⟩ := List.mem_map.mp hw
  have okn : isNm n = true := by
    rcases List.mem_append.mp hn2 with h | h
    · exact (by decide +kernel : ∀ n ∈ KN, isNm n = true) n h
    · rw [List.mem_singleton.mp h]; exact hn
  have bx : Bx p Hc H2 := (b1.trans (Bx.of (same_new hc))).trans b2.bx
  refine ⟨_, rfl, by show 3 ≤ sizeLine; decide, fun t ht => ?_⟩
  have st : Same H2 (upd H2 t (.tup [.str "map", .str "while", .str "after"])) := same_new ht
  have et : upd H2 t (.tup [.str "map", .str "while", .str "after"]) t = some (.tup [.str "map", .str "while", .str "after"]) := upd_same
  generalize upd H2 t (.tup [.str "map", .str "while", .str "after"]) = H3 at st et
  refine ⟨t, _, rfl, .inr (.inl (.inl et)), rfl, rfl, _, rfl, ?_⟩
  rw [show inV (.str k) [.str "map", .str "while", .str "after"] = decide (k ∈ (["map", "while", "after"] : List Str)) from in_dec k ["map", "while", "after"]]
  refine dif (fun c1 => ?_) (fun c1 => ?_)
  · refine ⟨_, rfl, _, rfl, by show 2 ≤ sizeLine; decide, fun u hu => ?_⟩
    exact kk _ k n _ ((by decide +kernel : ∀ z ∈ (["map", "while", "after"] : List Str), z ∈ K1) k c1) okn (.nm (.inl (.inl upd_same))) ((hs2.same st).same (same_new hu)) (bx.trans (Bx.of (st.trans (same_new hu))))
  · refine ⟨_, rfl, by show 2 ≤ sizeLine; decide, fun u hu => ?_⟩
    exact kk _ "keep" n _ (by decide +kernel) okn (.nm (.inl (.inl upd_same))) ((hs2.same st).same (same_new hu)) (bx.trans (Bx.of (st.trans (same_new hu))))
section
variable {P : Program} {w : World} {K : Fg} {mg : Str → Option Value} {base : Heap} {fS fL fN fP fD : Addr} {dS dL dN dP dD : FuncData}
theorem ok_stg {n : Nat} (F : Fun K "_law_stage" "_law_stage" sStg fS dS) (N : Nm mg) (gL : mg "_law_plan" = some (.ref fL)) (FL : Fun K "_law_plan" "_law_plan" sPlan fL dL) (bL : Binds K dL ["stream", "pool", "most"] [])
    (gN : mg "_law_name" = some (.ref fN)) (FN : Fun K "_law_name" "_law_name" sName fN dN) (bN : Binds K dN ["stream"] []) (gP : mg "_law_pick" = some (.ref fP)) (FP : Fun K "_law_pick" "_law_pick" sPick fP dP) (bP : Binds K dP ["stream", "things"] [])
    (gD : mg "_law_draw" = some (.ref fD)) (FD : Fun K "_law_draw" "_law_draw" sDraw fD dD) (bD : Binds K dD ["stream", "span"] [])
    (GL : FnOk P w K mg base CX0 (2 * n + 12) fL dL ["stream", "pool", "most"] (spPlan K n)) : FnOk P w K mg base CX0 (2 * n + 13) fS dS ["stream", "height", "pool", "most"] (spStg K n) := by
  have GD : FnOk P w K mg base CX0 1 fD dD ["stream", "span"] spDraw := ok_draw FD N
  have GP : FnOk P w K mg base CX0 2 fP dP ["stream", "things"] (spPick K) := ok_pick FP N gD FD bD
  have GN : FnOk P w K mg base CX0 3 fN dN ["stream"] spName := ok_name FN N gP FP bP gD FD bD
  refine F.ok scStg (fun vs H Q E h => ?_) (fun cdv B outer s H vs Q E hr h => ?_)
  · obtain ⟨p, q, h, pl, rfl, _⟩ := h
    rfl
  · obtain ⟨p, q, h, pl, rfl, hp, hqp, hq, hn, k⟩ := h
    have hr1 := hr.mono (show 1 ≤ 2 * n + 12 by omega)
    have hr2 := hr.mono (show 2 ≤ 2 * n + 12 by omega)
    have hr3 := hr.mono (show 3 ≤ 2 * n + 12 by omega)
    refine ⟨_, pss_cons (ps_set (i := 4) scStg.nd rfl (Or.inl rfl) (pe_lst (pa_cons pe_str (pa_cons pe_str (pa_cons pe_str (pa_cons pe_str (pa_cons pe_str (pa_cons pe_str (pa_cons pe_str (pa_cons pe_str (pa_cons pe_str (pa_cons pe_str (pa_cons pe_str pa_nil)))))))))))))
      (pss_cons (ps_set (i := 5) scStg.nd rfl (Or.inl rfl) (pe_call GP hr2 rfl gP FP.kp bP .nil pass0 (pa_cons (pv 0) (pa_cons (pv 4) pa_nil))))
      (pss_cons (ps_if (PW.pt (pw_and (pt_cmpR op_eq (pv 5) pe_str (nomark _)) (pw_and1 (pt_cmpR (op_neD hr.units) (pv 2) (pe_lst pa_nil) (nomark _)))))
        (pss_one (ps_ret (pe_tup (pa_cons pe_str (pa_cons (pe_call GL hr rfl gL FL.kp bL .nil pass0 (pa_cons (pv 0) (pa_cons (pv 2) (pa_cons pe_int pa_nil)))) pa_nil))))) pss_nil)
      (pss_cons (ps_if (PW.pt (pw_and (pt_cmpR op_eq (pv 5) pe_str (nomark _)) (pw_and1 (pt_cmpR op_gt (pv 1) pe_int (nomark _)))))
        (pss_one (ps_ret (pe_tup (pa_cons pe_str pa_nil)))) pss_nil)
      (pss_cons (ps_if (pt_cmpR op_in_seq (pv 5) (pe_tup (pa_cons pe_str (pa_cons pe_str (pa_cons pe_str (pa_cons pe_str pa_nil))))) rfl)
        (pss_one (ps_ret (pe_tup (pa_cons (pv 5) (pa_cons (pe_op op_add pe_int (pe_call GD hr1 rfl gD FD.kp bD .nil pass0 (pa_cons (pv 0) (pa_cons (pv 3) pa_nil)))) pa_nil))))) pss_nil)
      (pss_cons (ps_set (i := 6) scStg.nd rfl (Or.inl rfl) (pe_call GP hr2 rfl gP FP.kp bP .nil pass0 (pa_cons (pv 0) (pa_cons (pe_lst (pa_cons pe_str (pa_cons pe_str (pa_cons pe_str (pa_cons pe_str (pa_cons pe_str (pa_cons pe_str (pa_cons pe_str (pa_cons (pe_call GN hr3 rfl gN FN.kp bN .nil pass0 (pa_cons (pv 0) pa_nil)) pa_nil))))))))) pa_nil))))
      (pss_one (ps_ret (pe_tup (pa_cons (pe_ifExp (pt_cmpR op_in_seq (pv 5) (pe_tup (pa_cons pe_str (pa_cons pe_str (pa_cons pe_str pa_nil)))) rfl) (pv 5) pe_str) (pa_cons (pv 6) pa_nil)))))))))), ?_⟩
    refine ⟨by show 11 ≤ sizeLine; decide, fun c hc => ?_⟩
    have nc := strm_ne hp hc
    refine ⟨_, rfl, _, rfl, p, c, KW.map V.str, rfl, hp.same (same_new hc), SqL.of upd_same, nc, (fun z => by cases z), by show 11 < 1000; decide, fun w0 H1 hw hs1 b1 => ?_⟩
    obtain ⟨wd, hwd, rfl⟩ := List.mem_map.mp hw
    have bx1 : Bx p H H1 := (Bx.of (same_new hc)).trans b1.bx
    have q1 := bx1 _ _ hqp hq.at_
    -- a stage with a name
    have named : ∀ (Hc : Hp), Bx p H Hc → ∀ (v : V) (k' n : Str) (H' : Hp), k' ∈ K1 → isNm n = true → PsV K H' v (.nm k' n) → Strm H' p → Bx p Hc H' → Q v H' := fun Hc bc v k' n H' h1 h2 h3 h4 h5 =>
      k v (.nm k' n) pl H' h3 ⟨h1, h2⟩ (fun z => by cases z) rfl ((bc.trans h5) _ _ hqp hq.at_) h4 (bc.trans h5).xx trivial
    refine ⟨_, rfl, rfl, _, rfl, ?_⟩
    refine dif (fun ez => ?_) (fun ez => ?_)
    · have ew : wd = "zip" := V.str.inj ez
      subst ew
      refine ⟨_, rfl, by show 0 ≤ sizeLine; decide, fun t ht => ?_⟩
      have st : Same H1 (upd H1 t (.lst [])) := same_new ht
      have et : upd H1 t (.lst []) t = some (.lst []) := upd_same
      generalize upd H1 t (.lst []) = H2 at st et
      refine ne_nil (SqL.of (st _ _ q1)) (pl_plns hq.sub) (SqL.of et) ⟨_, rfl, ?_⟩
      have bx2 : Bx p H H2 := bx1.trans (Bx.of st)
      cases pl with
      | cons s0 pl0 =>
        refine iteT (B := True) ?_
        refine ⟨_, rfl, _, rfl, p, q, 2, s0 :: pl0, rfl, by decide, by decide, hs1.same st, hqp, ⟨st _ _ q1, hq.nd, hq.sub⟩, (fun z => by cases z), hn, fun v g pl' H' hv hg hsr hq' hs' bx' hzm => ?_⟩
        refine ⟨by show 2 ≤ sizeLine; decide, fun u hu => ?_⟩
        have su : Same H' (upd H' u (.tup [.str "zip", v])) := same_new hu
        exact k _ (.zip g) pl' _ (.zip (.inl (.inl upd_same)) (PlAt.kp (Kp.of su) hv)) hg (fun z => by cases z) hsr (su _ _ hq') (hs'.same su) ((bx2.xx.trans bx').trans (Same.xx su)) (Pg.zm2 hzm)
      | nil =>
        refine iteF (A := True) ?_
        refine ⟨_, rfl, rfl, _, rfl, ?_⟩
        refine iteF (A := True) ?_
        refine ⟨_, rfl, by show 4 ≤ sizeLine; decide, fun r hr4 => ⟨r, _, rfl, .inr (.inl (.inl upd_same)), rfl, rfl, _, rfl, ?_⟩⟩
        refine iteF (A := True) ?_
        exact stg_tail ((hs1.same st).same (same_new hr4)) (named _ (bx2.trans (Bx.of (same_new hr4))))
    · refine ⟨_, rfl, rfl, _, rfl, ?_⟩
      refine dif (fun ef => ?_) (fun ef => ?_)
      · have ew : wd = "flat" := V.str.inj ef
        subst ew
        refine ⟨_, rfl, _, _, rfl, rfl, _, rfl, ?_⟩
        refine dif (fun hh => ?_) (fun hh => ?_)
        · refine ⟨by show 1 ≤ sizeLine; decide, fun u hu => ?_⟩
          exact k _ .flat pl _ (.flat (.inl (.inl upd_same))) trivial (fun _ => hh) rfl (same_new hu _ _ q1) (hs1.same (same_new hu)) (bx1.trans (Bx.of (same_new hu))).xx trivial
        · refine ⟨_, rfl, by show 4 ≤ sizeLine; decide, fun r hr4 => ⟨r, _, rfl, .inr (.inl (.inl upd_same)), rfl, rfl, _, rfl, ?_⟩⟩
          refine iteF (A := True) ?_
          exact stg_tail (hs1.same (same_new hr4)) (named _ (bx1.trans (Bx.of (same_new hr4))))
      · refine ⟨_, rfl, by show 4 ≤ sizeLine; decide, fun r hr4 => ⟨r, _, rfl, .inr (.inl (.inl upd_same)), rfl, rfl, _, rfl, ?_⟩⟩
        have s4 : Same H1 (upd H1 r (.tup [.str "take", .str "skip", .str "lots", .str "gather"])) := same_new hr4
        generalize upd H1 r (.tup [.str "take", .str "skip", .str "lots", .str "gather"]) = H4 at s4
        rw [show inV (.str wd) [.str "take", .str "skip", .str "lots", .str "gather"] = decide (wd ∈ K2) from in_dec wd K2]
        have bx4 := bx1.trans (Bx.of s4)
        refine dif (fun c2 => ?_) (fun c2 => ?_)
        · refine ⟨_, rfl, _, rfl, _, rfl, p, 3, rfl, hs1.same s4, by decide, by decide, fun d H5 d0 d1 hs5 b5 => ⟨_, _, rfl, rfl, by show 2 ≤ sizeLine; decide, fun u hu => ?_⟩⟩
          have bx6 := (bx4.trans b5.bx).trans (Bx.of (same_new (o := .tup [.str wd, .int (1 + d)]) hu))
          exact k _ (.num wd (1 + d)) pl _ (.num (.inl (.inl upd_same))) ⟨c2, by omega, by omega⟩ (fun z => by cases z) rfl (bx6 _ _ hqp hq.at_) (hs5.same (same_new hu)) bx6.xx trivial
        · exact stg_tail (hs1.same s4) (named _ bx4)
end
end K80
set_option Elab.async false
set_option linter.all false
set_option maxRecDepth 100000
set_option maxHeartbeats 4000000
namespace K80
open PySem L2 VK
/-! ### one stage more -/
def Sgs.snoc : Sgs → Sg → Sgs
  | .nil, x => .cons x .nil
  | .cons y r, x => .cons y (r.snoc x)
theorem dep_snoc : ∀ (l : Sgs) (x : Sg) (d : Int), (l.snoc x).dep d = x.dep (l.dep d)
  | .nil, _, _ => rfl
  | .cons y r, x, d => dep_snoc r x (y.dep d)
theorem srcs_snoc : ∀ (l : Sgs) (x : Sg), (l.snoc x).srcs = l.srcs ++ x.srcs
  | .nil, x => by
    show x.srcs ++ [] = [] ++ x.srcs
    rw [List.append_nil]
    rfl
  | .cons y r, x => by
    show y.srcs ++ (r.snoc x).srcs = (y.srcs ++ r.srcs) ++ x.srcs
    rw [srcs_snoc r x, List.append_assoc]
theorem len_snoc : ∀ (l : Sgs) (x : Sg), (l.snoc x).len = l.len + 1
  | .nil, _ => rfl
  | .cons y r, x => by
    show (r.snoc x).len + 1 = r.len + 1 + 1
    rw [len_snoc r x]
theorem zl_snoc : ∀ {l : Sgs} {x : Sg}, l.zl → x.zl → (l.snoc x).zl
  | .nil, _, _, h => ⟨h, trivial⟩
  | .cons _ _, _, a, h => ⟨a.1, zl_snoc a.2 h⟩
theorem ok_snoc : ∀ {l : Sgs} {x : Sg} {d : Int} {tk : List Str}, l.ok d tk → x.ok (l.dep d) (tk ++ l.srcs) → (l.snoc x).ok d tk
  | .nil, x, d, tk, _, h => by
    have h : x.ok d (tk ++ []) := h
    rw [List.append_nil] at h
    exact ⟨h, trivial⟩
  | .cons y r, x, d, tk, o, h => by
    have o : y.ok d tk ∧ r.ok (y.dep d) (tk ++ y.srcs) := o
    have h : x.ok (r.dep (y.dep d)) (tk ++ (y.srcs ++ r.srcs)) := h
    rw [← List.append_assoc] at h
    exact ⟨o.1, ok_snoc o.2 h⟩
theorem PsAll.snoc {K : Fg} {H : Hp} {v : V} {x : Sg} (hv : PsV K H v x) : ∀ {vs : List V} {l : Sgs}, PsAll K H vs l → PsAll K H (vs ++ [v]) (l.snoc x)
  | _, _, .nil => .cons hv .nil
  | _, _, .cons h t => .cons h (PsAll.snoc hv t)
mutual
theorem Sg.nest_le : ∀ x : Sg, x.nest ≤ x.srcs.length
  | .nm _ _ => Nat.le_refl 0
  | .num _ _ => Nat.le_refl 0
  | .flat => Nat.le_refl 0
  | .zip p => Pg.nest_lt p
theorem Pg.nest_lt : ∀ p : Pg, p.nest < p.srcs.length
  | .mk s l => by
    show l.nest < (s :: l.srcs).length
    rw [List.length_cons]
    exact Nat.lt_succ_of_le (Sgs.nest_le l)
theorem Sgs.nest_le : ∀ l : Sgs, l.nest ≤ l.srcs.length
  | .nil => Nat.le_refl 0
  | .cons x r => by
    show max x.nest r.nest ≤ (x.srcs ++ r.srcs).length
    rw [List.length_append]
    have a := Sg.nest_le x
    have b := Sgs.nest_le r
    omega
end
theorem Pg.nest4 {p : Pg} (h : p.ok) : p.nest < 4 := Nat.lt_of_lt_of_le (Pg.nest_lt p) (Pg.few h)
theorem Sg.nest5 {x : Sg} (h : x.sd) : x.nest < 5 := by
  cases x with
  | nm k n => exact Nat.succ_pos 4
  | num k n => exact Nat.succ_pos 4
  | flat => exact Nat.succ_pos 4
  | zip p => exact Nat.succ_lt_succ (Pg.nest4 h)
theorem Sg.sd.ok {x : Sg} {d : Int} {tk : List Str} (h : x.sd) (hf : x = .flat → 0 < d) (ht : ∀ s ∈ x.srcs, s ∉ tk) : x.ok d tk := by
  cases x with
  | nm k n => exact h
  | num k n => exact h
  | flat => exact hf rfl
  | zip p => exact ⟨h, ht⟩
theorem Bxx.kp {p q : Addr} {H H' : Hp} {xs ys : List V} (b : Bxx p q H H') (hp : H p = some (.lst xs)) (hq : H q = some (.lst ys)) : Kp H H' := fun c o e f => by
  refine b c o (fun z => ?_) (fun z => ?_) e
  · rw [z, hp] at e
    cases e
    cases f
  · rw [z, hq] at e
    cases e
    cases f
theorem kp_upd {H : Hp} {a : Addr} {xs : List V} {o : HO} (ha : H a = some (.lst xs)) : Kp H (upd H a o) := fun c u e f => by
  rw [upd_ne (fun z => ?_)]
  · exact e
  · rw [z, ha] at e
    cases e
    cases f
section
variable {P : Program} {w : World} {K : Fg} {mg : Str → Option Value} {base : Heap} {fS fL fH fD : Addr} {dS dL dH dD : FuncData}
theorem ok_plan {n : Nat} (F : Fun K "_law_plan" "_law_plan" sPlan fL dL) (N : Nm mg) (gS : mg "_law_stage" = some (.ref fS)) (FS : Fun K "_law_stage" "_law_stage" sStg fS dS) (bS : Binds K dS ["stream", "height", "pool", "most"] [])
    (gH : mg "_law_height" = some (.ref fH)) (FH : Fun K "_law_height" "_law_height" sHeight fH dH) (bH : Binds K dH ["height", "stage"] []) (gD : mg "_law_draw" = some (.ref fD)) (FD : Fun K "_law_draw" "_law_draw" sDraw fD dD) (bD : Binds K dD ["stream", "span"] [])
    (GH : FnOk P w K mg base CX0 11 fH dH ["height", "stage"] (spHeight K 5)) (GS : FnOk P w K mg base CX0 (2 * n + 13) fS dS ["stream", "height", "pool", "most"] (spStg K n)) :
    FnOk P w K mg base CX0 (2 * n + 14) fL dL ["stream", "pool", "most"] (spPlan K (n + 1)) := by
  have GD : FnOk P w K mg base CX0 1 fD dD ["stream", "span"] spDraw := ok_draw FD N
  refine F.ok scPlan (fun vs H Q E h => ?_) (fun cdv B outer s H vs Q E hr h => ?_)
  · obtain ⟨p, q, m, pl, rfl, _⟩ := h
    rfl
  · obtain ⟨p, q, m, pl, rfl, m0, m6, hp, hqp, hq, ne, hn, k⟩ := h
    have hr1 := hr.mono (show 1 ≤ 2 * n + 13 by omega)
    have hr11 := hr.mono (show 11 ≤ 2 * n + 13 by omega)
    refine ⟨_, pss_cons (ps_par3 rfl scPlan.nd rfl rfl rfl (show 3 ≠ 4 by decide) (show 3 ≠ 5 by decide) (show 4 ≠ 5 by decide) rfl rfl rfl
        (pa_cons (pe_bm PySem.F.plainAttrs_list PySem.F.slot_list_pop PySem.F.type_list_pop mt_popAt (pv 1) (pa_cons pe_int pa_nil)) (pa_cons (pe_lst pa_nil) (pa_cons pe_int pa_nil))) (by rfl))
      (pss_cons (ps_for PassesOwn.never rfl (pi_range1 (by rfl) N.range (pa_cons (pe_call GD hr1 rfl gD FD.kp bD .nil pass0 (pa_cons (pv 0) (pa_cons (pe_op op_add (pv 2) pe_int) pa_nil))) pa_nil)) (pg_name (i := 6) scPlan.nd rfl (Or.inl rfl))
        (pss_cons (ps_set (i := 7) scPlan.nd rfl (Or.inl rfl) (pe_call GS hr rfl gS FS.kp bS .nil pass0 (pa_cons (pv 0) (pa_cons (pv 5) (pa_cons (pv 1) (pa_cons pe_int pa_nil))))))
        (pss_cons (ps_expr (pe_bm PySem.F.plainAttrs_list PySem.F.slot_list_append PySem.F.type_list_append mt_append (pv 4) (pa_cons (pv 7) pa_nil)))
        (pss_one (ps_set (i := 5) scPlan.nd rfl (Or.inl rfl) (pe_call GH hr11 rfl gH FH.kp bH .nil pass0 (pa_cons (pv 5) (pa_cons (pv 7) pa_nil))))))))
      (pss_one (ps_ret (pe_tup (pa_cons (pv 3) (pa_cons (pe_tupleOf (by rfl) N.tup (pv 4)) pa_nil)))))), ?_⟩
    cases pl with
    | nil => exact absurd rfl ne
    | cons s0 pl0 =>
      refine ⟨_, rfl, .inl ⟨rfl, _, SqL.of hq.at_⟩, q, _, 0, 0, .str s0, rfl, rfl, hq.at_, by decide, by decide, idx_nat (by rw [List.length_map]; exact Nat.succ_pos _), rfl, ?_⟩
      have h1q : upd H q (.lst (((s0 :: pl0).map V.str).eraseIdx 0)) q = some (.lst (pl0.map V.str)) := upd_same
      have h1p : Strm (upd H q (.lst (((s0 :: pl0).map V.str).eraseIdx 0))) p := hp.bx (upd_ne (Ne.symm hqp))
      have h1x : Bxx p q H (upd H q (.lst (((s0 :: pl0).map V.str).eraseIdx 0))) := fun b o _ n e => by rw [upd_ne n]; exact e
      generalize upd H q (.lst (((s0 :: pl0).map V.str).eraseIdx 0)) = H1 at h1q h1p h1x
      refine ⟨by show 0 ≤ sizeLine; decide, fun a ha => ?_⟩
      have naq : a ≠ q := fun z => by rw [z, h1q] at ha; cases ha
      have nap := strm_ne h1p ha
      have haH : H a = none := by
        cases e : H a with
        | none => rfl
        | some o =>
          have := h1x a o nap naq e
          rw [ha] at this
          cases this
      have s2 : Same H1 (upd H1 a (.lst [])) := same_new ha
      have e2 : upd H1 a (.lst []) a = some (.lst []) := upd_same
      generalize upd H1 a (.lst []) = H2 at s2 e2
      refine ⟨_, _, _, rfl, ?_⟩
      refine ⟨_, rfl, _, rfl, _, _, rfl, rfl, p, m + 1, rfl, h1p.same s2, by omega, by omega, fun d H3 d0 d1 hs3 b3 => ?_⟩
      refine ⟨d, rfl, by omega, by omega, ?_⟩
      have lenp : pl0.length ≤ n := by
        rw [List.length_cons] at hn
        omega
      refine for_range (lo := 0) (n := d.toNat) (fun i σ H' => ∃ (l : Sgs) (vs : List V) (pl' : List Str) (v6 v7 : Option V), σ = [some (.ref p), some (.ref q), some (.int m), some (.str s0), some (.ref a), some (.int (l.dep 0)), v6, v7] ∧
          Strm H' p ∧ H' q = some (.lst (pl'.map V.str)) ∧ (s0 :: l.srcs) ++ pl' = s0 :: pl0 ∧ H' a = some (.lst vs) ∧ PsAll K H' vs l ∧ l.ok 0 [s0] ∧ l.len ≤ i ∧ vs.length ≤ i ∧ Bxx p q H H' ∧ l.zl)
        ⟨.nil, [], pl0, none, none, rfl, hs3, (b3 q hqp).trans (s2 _ _ h1q), rfl, (b3 a nap).trans e2, .nil, trivial, Nat.zero_le _, Nat.zero_le _, (h1x.trans (Same.xx s2)).trans b3.bx.xx, trivial⟩ ?_ ?_
      · rintro i σ H4 hi ⟨l, vs, pl', v6, v7, rfl, hs4, hq4, epl, ea4, ps4, ok4, len4, vlen, bx4, zl4⟩
        have nd := hq.nd
        rw [← epl] at nd
        have nd2 := List.nodup_append.mp nd
        have plen : pl'.length ≤ n := by
          have := congrArg List.length epl
          rw [List.length_append, List.length_cons, List.length_cons] at this
          omega
        have sub' : ∀ s ∈ pl', s ∈ K0 := fun s h => hq.sub s (by rw [← epl]; exact List.mem_append_right _ h)
        refine ⟨_, rfl, _, rfl, _, rfl, p, q, _, pl', rfl, hs4, hqp, ⟨hq4, nd2.2.1, sub'⟩, plen, fun v x pl2 H5 hv sd hf hsr hq5 hs5 bx5 zx => ?_⟩
        have ea5 : H5 a = some (.lst vs) := bx5 _ _ nap naq ea4
        obtain ⟨sr, sm, spq, _⟩ := id hs4
        have kp5 : Kp H4 H5 := bx5.kp spq hq4
        refine ⟨_, rfl, .inl ⟨rfl, _, SqL.of ea5⟩, _, rfl, a, vs, v, rfl, rfl, ea5, small1000 (by omega), ?_⟩
        have kp6 : Kp H5 (upd H5 a (.lst (vs ++ [v]))) := kp_upd ea5
        have ea6 : upd H5 a (.lst (vs ++ [v])) a = some (.lst (vs ++ [v])) := upd_same
        have hq6 : upd H5 a (.lst (vs ++ [v])) q = some (.lst (pl2.map V.str)) := by rw [upd_ne (Ne.symm naq)]; exact hq5
        have hs6 : Strm (upd H5 a (.lst (vs ++ [v]))) p := hs5.bx (upd_ne (Ne.symm nap))
        have bx6 : Bxx p q H (upd H5 a (.lst (vs ++ [v]))) := fun b o n1 n2 e => by
          rw [upd_ne (ne_of_none e haH)]
          exact bx5 _ _ n1 n2 (bx4 _ _ n1 n2 e)
        generalize upd H5 a (.lst (vs ++ [v])) = H6 at kp6 ea6 hq6 hs6 bx6
        refine ⟨_, rfl, _, rfl, v, x, l.dep 0, rfl, PsV.kp kp6 hv, sd, Sg.nest5 sd, fun H7 s7 => ?_⟩
        have dis : ∀ s ∈ x.srcs, s ∉ [s0] ++ l.srcs := fun s h hm => nd2.2.2 s hm s (by rw [← hsr]; exact List.mem_append_left _ h) rfl
        refine ⟨l.snoc x, vs ++ [v], pl2, some (.int (0 + (i : Nat))), some v, ?_, hs6.same s7, s7 _ _ hq6, ?_, s7 _ _ ea6, PsAll.snoc (PsV.kp (kp6.trans (Kp.of s7)) hv) (PsAll.kp ((kp5.trans kp6).trans (Kp.of s7)) ps4), ok_snoc ok4 (sd.ok hf dis), ?_, ?_, bx6.trans (Same.xx s7), zl_snoc zl4 zx⟩
        · rw [dep_snoc]
          rfl
        · rw [srcs_snoc, ← List.cons_append, List.append_assoc, hsr]
          exact epl
        · rw [len_snoc]
          omega
        · rw [List.length_append]
          show vs.length + 1 ≤ i + 1
          omega
      · rintro σ H4 ⟨l, vs, pl', v6, v7, rfl, hs4, hq4, epl, ea4, ps4, ok4, len4, vlen, bx4, zl4⟩
        refine ⟨_, rfl, _, rfl, tup_either (.inl (SqL.of ea4)) fun t H5 s5 ht => ?_⟩
        refine ⟨by show 2 ≤ sizeLine; decide, fun u hu => ?_⟩
        have s6 : Same H4 (upd H5 u (.tup [.str s0, .ref t])) := s5.trans (same_new hu)
        have okp : (Pg.mk s0 l).ok := ⟨hq.sub s0 List.mem_cons_self, by omega, ok4⟩
        exact k _ (.mk s0 l) pl' _ (.mk (.inl (.inl upd_same)) ((Kp.of (same_new hu)).tup ht) (PsAll.kp (Kp.of s6) ps4)) okp epl (s6 _ _ hq4) (hs4.same s6) (bx4.trans (Same.xx s6)) ⟨by omega, zl4⟩
end
end K80
set_option Elab.async false
set_option linter.all false
set_option maxRecDepth 100000
set_option maxHeartbeats 4000000
namespace K80
open PySem L2 VK
abbrev sProg : Stmt := top 45
theorem scProg : FnScope ["plan", "found", "stage"] ["plan"] (defScope sProg) := ⟨rfl, rfl, rfl, by decide +kernel, rfl, by decide +kernel, by decide +kernel⟩
/-- the class, as it is called -/
structure Lp (K : Fg) (mg : Str → Option Value) (A I : Nat → Addr) (D J : Nat → FuncData) (aS a1 a2 C e0 : Addr) : Prop where
  L : Lb K mg A I D J aS a1 a2 C
  m : Mk K C (A 22)
  F : FunD K "__init__" "Program.__init__" sInit (A 22) (D 22)
  b : Binds K (D 22) ["self", "source", "stages"] []
  b0 : Binds K (D 22) ["self", "source", "stages"] [.ref e0]
  h0 : ∀ H : Hp, SqT K H e0 []
/-- a program's object -/
def ObjP (K : Fg) (C : Addr) (H : Hp) (a : Addr) (s : Str) (ts : Addr) (xs : List V) : Prop := ∃ (dx ss : Addr) (d : Int), H a = some (.ins C dx (flds s ts ss d)) ∧ s ∈ K0 ∧ SqT K H ts xs ∧ xs.length ≤ 6
theorem ObjP.same {K : Fg} {C : Addr} {H H' : Hp} {a ts : Addr} {s : Str} {xs : List V} (h : ObjP K C H a s ts xs) (z : Same H H') : ObjP K C H' a s ts xs := by
  obtain ⟨dx, ss, d, e, hs, ht, hl⟩ := h
  exact ⟨dx, ss, d, z _ _ e, hs, (Kp.of z).tup ht, hl⟩
theorem MkEnd.up {K : Fg} {C CB : Addr} {s : Str} {xs : List V} {H H1 : Hp} {Q : VK} {E : XK} {o : Out} (z : Same H H1) (h : MkEnd K C CB s xs H Q E o) : MkEnd K C CB s xs H1 Q E o := by
  cases o with
  | inl a =>
    obtain ⟨d, tk⟩ := a
    exact fun p dx ts ss H2 s1 hp e t1 t2 => h p dx ts ss H2 (z.trans s1) (z.free hp) e t1 t2
  | inr i => exact fun H' e he s1 e1 => h H' e (z.free he) (z.trans s1) e1
section
variable {P : Program} {w : World} {K : Fg} {mg : Str → Option Value} {base : Heap} {A I : Nat → Addr} {D J : Nat → FuncData} {aS a1 a2 C e0 : Addr}
theorem Lp.o22 (Z : Lp K mg A I D J aS a1 a2 C e0) : FnOk P w K mg base (L2.CX P w) 5 (A 22) (D 22) ["self", "source", "stages"] (spInit K C (A 4) (A 3)) := ok_init Z.F Z.L
end
def Sgs.app : Sgs → Sgs → Sgs
  | .nil, m => m
  | .cons x r, m => .cons x (r.app m)
theorem app_nil : ∀ l : Sgs, l.app .nil = l
  | .nil => rfl
  | .cons x r => by
    show Sgs.cons x (r.app .nil) = _
    rw [app_nil r]
theorem snoc_app : ∀ (l : Sgs) (x : Sg) (m : Sgs), (l.snoc x).app m = l.app (.cons x m)
  | .nil, _, _ => rfl
  | .cons y r, x, m => by
    show Sgs.cons y ((r.snoc x).app m) = Sgs.cons y (r.app (.cons x m))
    rw [snoc_app r x m]
theorem StAll.snoc {K : Fg} {C : Addr} {H : Hp} {v : V} {x : Sg} (hv : StV K C H v x) : ∀ {vs : List V} {l : Sgs}, StAll K C H vs l → StAll K C H (vs ++ [v]) (l.snoc x)
  | _, _, .nil => .cons hv .nil
  | _, _, .cons h t => .cons h (StAll.snoc hv t)
def spProg (K : Fg) (C : Addr) (m : Nat) : Sp := fun vs H Q _ => ∃ (v : V) (g : Pg), vs = [v] ∧ PlAt K H v g ∧ g.ok ∧ g.nest < m ∧ ∀ (a : Addr) (H' : Hp), H a = none → Same H H' → PgAt K C H' (.ref a) g → Q (.ref a) H'
section
variable {P : Program} {w : World} {K : Fg} {mg : Str → Option Value} {base : Heap} {A I : Nat → Addr} {D J : Nat → FuncData} {aS a1 a2 C e0 f : Addr} {fd : FuncData}
theorem ok_prog (F : Fun K "_law_program" "_law_program" sProg f fd) (b : Binds K fd ["plan"] []) (g0 : mg "_law_program" = some (.ref f)) (Z : Lp K mg A I D J aS a1 a2 C e0) :
    ∀ m : Nat, FnOk P w K mg base CX0 (m + 7) f fd ["plan"] (spProg K C m)
  | 0 => by
    refine F.ok scProg (fun vs H Q E h => ?_) (fun cdv B outer s H vs Q E hr h => ?_)
    · obtain ⟨v, g, rfl, _⟩ := h
      rfl
    · obtain ⟨v, g, rfl, hv, ho, hn, k⟩ := h
      exact absurd hn (Nat.not_lt_zero _)
  | m + 1 => by
    have G : FnOk P w K mg base CX0 (m + 7) f fd ["plan"] (spProg K C m) := ok_prog F b g0 Z m
    refine F.ok scProg (fun vs H Q E h => ?_) (fun cdv B outer s H vs Q E hr h => ?_)
    · obtain ⟨v, g, rfl, _⟩ := h
      rfl
    · obtain ⟨v, g, rfl, hv, ho, hn, k⟩ := h
      have hr6 := hr.mono (show 6 ≤ m + 7 by omega)
      refine ⟨_, pss_cons (ps_set (i := 1) scProg.nd rfl (Or.inl rfl) (pe_lst pa_nil))
        (pss_cons (ps_for PassesOwn.never rfl (pi_tup (pe_ix ix_tup (pv 0) pe_int (fun _ _ => rfl))) (pg_name (i := 2) scProg.nd rfl (Or.inl rfl))
          (pss_one (ps_expr (pe_bm PySem.F.plainAttrs_list PySem.F.slot_list_append PySem.F.type_list_append mt_append (pv 1) (pa_cons
            (pe_ifExp (pt_cmpR op_eq (pe_ix ix_tup (pv 2) pe_int (fun _ _ => rfl)) pe_str (nomark _)) (pe_tup (pa_cons pe_str (pa_cons (pe_call G hr rfl g0 F.kp b .nil pass0 (pa_cons (pe_ix ix_tup (pv 2) pe_int (fun _ _ => rfl)) pa_nil)) pa_nil))) (pv 2)) pa_nil)))))
        (pss_one (ps_ret (pe_make Z.m Z.o22 hr6 rfl Z.L.c.g Z.b .nil (E := E0) passL (pa_cons (pe_ix ix_tup (pv 0) pe_int (fun _ _ => rfl)) (pa_cons (pv 1) pa_nil)))))), ?_⟩
      cases hv with
      | @mk a t s0 l xs h hs hl =>
        have ok : s0 ∈ K0 ∧ l.len ≤ 6 ∧ l.ok 0 [s0] := ho
        have hn : l.nest < m + 1 := hn
        refine ⟨by show 0 ≤ sizeLine; decide, fun q hq => ?_⟩
        have s1 : Same H (upd H q (.lst [])) := same_new hq
        have e1 : upd H q (.lst []) q = some (.lst []) := upd_same
        generalize upd H q (.lst []) = H1 at s1 e1
        refine ⟨_, rfl, a, _, _, _, rfl, rfl, (Kp.of s1).tup h, rfl, t, rfl, ⟨_, (Kp.of s1).tup hs⟩, ?_⟩
        have xl : xs.length ≤ 6 := by rw [PsAll.len hl]; exact ok.2.1
        refine for_it (walk_tup (xs := xs)) (fun i σ H' => ∃ (l1 r : Sgs) (vs : List V) (v2 : Option V), σ = [some (.ref a), some (.ref q), v2] ∧ Same H H' ∧ H' q = some (.lst vs) ∧ StAll K C H' vs l1 ∧ vs.length ≤ i ∧ PsAll K H (xs.drop i) r ∧ r.sd ∧ r.nest < m + 1 ∧ l1.app r = l)
          ⟨.nil, l, [], none, rfl, s1, e1, .nil, Nat.zero_le _, hl, ok.2.2.sd, hn, rfl⟩ (fun i σ H' _ z => ?_) ?_ ?_
        · obtain ⟨_, _, _, _, _, z, _⟩ := z
          exact (Kp.of z).tup hs
        · rintro i y σ H2 H3 hi ⟨l1, r, vs, v2, rfl, s2, e2, st, vl, pr, sd, rn, el⟩ ⟨rfl, hy⟩
          have hd : xs.drop i = y :: xs.drop (i + 1) := by
            rw [List.drop_eq_getElem_cons hi]
            rw [List.getElem?_eq_getElem hi] at hy
            rw [Option.some.inj hy]
          rw [hd] at pr
          cases pr with
          | @cons _ _ x r h1 h2 =>
            have sd : x.sd ∧ r.sd := sd
            have rn : max x.nest r.nest < m + 1 := rn
            have hy2 := PsV.kp (Kp.of s2) h1
            refine ⟨_, rfl, .inl ⟨rfl, _, SqL.of e2⟩, ?_⟩
            obtain ⟨b0, rr, rfl, hb0⟩ := hy2.at0
            refine ⟨_, rfl, b0, _, _, .str x.kd, rfl, rfl, hb0, at_of (j := 0) rfl rfl, rfl, _, rfl, ?_⟩
            have fin : ∀ (v : V) (H4 : Hp), Same H3 H4 → StV K C H4 v x → ∃ (l0 : Addr) (ys : List V) (y0 : V), V.ref q = V.ref l0 ∧ [v] = [y0] ∧ H4 l0 = some (.lst ys) ∧ ys.length < sizeLine ∧
                ∃ (l1' r' : Sgs) (vs' : List V) (v2' : Option V), [some (V.ref a), some (V.ref q), some (V.ref b0)] = [some (.ref a), some (.ref q), v2'] ∧ Same H (upd H4 l0 (.lst (ys ++ [y0]))) ∧ upd H4 l0 (.lst (ys ++ [y0])) q = some (.lst vs') ∧
                  StAll K C (upd H4 l0 (.lst (ys ++ [y0]))) vs' l1' ∧ vs'.length ≤ i + 1 ∧ PsAll K H (xs.drop (i + 1)) r' ∧ r'.sd ∧ r'.nest < m + 1 ∧ l1'.app r' = l := by
              intro v H4 s4 hv
              have e4 := s4 _ _ e2
              have kp := kp_upd (o := .lst (vs ++ [v])) e4
              refine ⟨q, vs, v, rfl, rfl, e4, small1000 (by omega), l1.snoc x, r, vs ++ [v], some (.ref b0), rfl, ?_, upd_same, StAll.snoc (StV.kp kp hv) (StAll.kp ((Kp.of s4).trans kp) st), ?_, h2, sd.2, Nat.lt_of_le_of_lt (Nat.le_max_right _ _) rn, ?_⟩
              · intro b o e
                rw [upd_ne (ne_of_none e hq)]
                exact s4 _ _ (s2 _ _ e)
              · rw [List.length_append]
                show vs.length + 1 ≤ i + 1
                omega
              · rw [snoc_app]
                exact el
            refine dif (fun ez => ?_) (fun ez => ?_)
            · cases hy2 with
              | nm h => exact absurd (V.str.inj ez) ((by decide +kernel : ∀ z ∈ K1, ¬ (z = "zip")) _ sd.1.wf)
              | num h => exact absurd (V.str.inj ez) ((by decide +kernel : ∀ z ∈ K2, ¬ (z = "zip")) _ sd.1.wf)
              | flat h => exact absurd (V.str.inj ez) (by decide +kernel : ¬ (("flat" : Str) = "zip"))
              | @zip _ v p h hp =>
                have pn : p.nest < m := Nat.lt_of_succ_lt_succ (Nat.lt_of_le_of_lt (Nat.le_max_left _ _) rn)
                refine ⟨_, rfl, _, _, _, _, rfl, rfl, h, rfl, v, p, rfl, hp, sd.1, pn, fun a' H4 hn4 s4 pg => ?_⟩
                refine ⟨by show 2 ≤ sizeLine; decide, fun u hu => ?_⟩
                exact fin _ _ (s4.trans (same_new hu)) (.zip (.inl (.inl upd_same)) (PgAt.kp (Kp.of (same_new hu)) pg))
            · refine ⟨_, rfl, fin _ H3 (Same.refl H3) ?_⟩
              cases hy2 with
              | nm h => exact .nm h
              | num h => exact .num h
              | flat h => exact .flat h
              | zip h hp => exact absurd rfl ez
        · rintro σ H2 ⟨l1, r, vs, v2, rfl, s2, e2, st, vl, pr, sd, rn, el⟩
          rw [List.drop_length] at pr
          cases pr
          rw [app_nil] at el
          subst el
          refine ⟨_, rfl, a, _, _, _, rfl, rfl, (Kp.of s2).tup h, rfl, _, rfl, ?_⟩
          exact mk_good ho (.inl (SqL.of e2)) st fun p H3 s3 hp pg => k p H3 (s2.free hp) (s2.trans s3) pg
end
end K80
set_option Elab.async false
set_option linter.all false
set_option maxRecDepth 100000
set_option maxHeartbeats 4000000
namespace K80
open PySem L2 VK
abbrev sThen : Stmt := inClass (top 24) 5
abbrev sWithout : Stmt := inClass (top 24) 6
abbrev sExch : Stmt := inClass (top 24) 7
theorem scThen : FnScope ["self", "stage"] ["self", "stage"] (defScope sThen) := ⟨rfl, rfl, rfl, by decide +kernel, rfl, by decide +kernel, by decide +kernel⟩
theorem scWithout : FnScope ["self", "positions", "left", "position", "stage"] ["self", "positions"] (defScope sWithout) := ⟨rfl, rfl, rfl, by decide +kernel, rfl, by decide +kernel, by decide +kernel⟩
theorem scExch : FnScope ["self", "position", "stages"] ["self", "position"] (defScope sExch) := ⟨rfl, rfl, rfl, by decide +kernel, rfl, by decide +kernel, by decide +kernel⟩
def ErrP (CP : Addr) (f : Str) (H : Hp) (v : V) (E : XK) : Prop := ∀ (H' : Hp) (e : Addr), H e = none → Same H H' → H' e = some (.xd [(f, v)]) → E (.ref CP) (some e) H'
def spThen (K : Fg) (C CB CL : Addr) : Sp := fun vs H Q E => ∃ (a ts : Addr) (s : Str) (xs : List V) (v : V), vs = [.ref a, v] ∧ ObjP K C H a s ts xs ∧
  ((xs.length < 6 ∧ ∃ o, Rest K C H 0 [s] 0 (xs ++ [v]) o ∧ MkEnd K C CB s (xs ++ [v]) H Q E o) ∨
   (xs.length = 6 ∧ ∀ (H' : Hp) (e st : Addr), H e = none → Same H H' → H' e = some (.xd [("value", .ref st)]) → H' st = some (.lst (xs ++ [v])) → E (.ref CL) (some e) H'))
section
variable {P : Program} {w : World} {K : Fg} {mg : Str → Option Value} {base : Heap} {A I : Nat → Addr} {D J : Nat → FuncData} {aS a1 a2 C e0 : Addr}
theorem ok_then {f : Addr} {fd : FuncData} (F : Fun K "then" "Program.then" sThen f fd) (Z : Lp K mg A I D J aS a1 a2 C e0) : FnOk P w K mg base (L2.CX P w) 7 f fd ["self", "stage"] (spThen K C (A 4) (A 3)) := by
  refine F.okX scThen (fun vs H Q E h => ?_) (fun cdv B outer s H vs Q E hr h => ?_)
  · obtain ⟨a, ts, s, xs, v, rfl, _⟩ := h
    rfl
  · obtain ⟨a, ts, s, xs, v, rfl, hO, k⟩ := h
    obtain ⟨dx, ss, d, ha, hs, ht, hl⟩ := hO
    refine ⟨_, pss_one (ps_ret (pe_make Z.m Z.o22 hr rfl Z.L.c.g Z.b .nil (E := E) (passes_call (takes_of rfl rfl rfl rfl) fun _ _ _ _ z => z)
      (pa_cons (pe_fld (pv 0) rfl) (pa_cons (pe_op op_cat (pe_callTy call_list_of (by rfl) Z.L.N.lst PyProof.Rows.boot_list (pa_cons (pe_fld (pv 0) rfl) pa_nil)) (pe_lst (pa_cons (pv 1) pa_nil))) pa_nil)))), ?_⟩
    refine ⟨_, rfl, a, C, dx, _, .str s, rfl, ha, Z.L.c.cl, Z.L.c.n1, get_source _ _ _ _, ?_⟩
    refine ⟨_, rfl, a, C, dx, _, .ref ts, rfl, ha, Z.L.c.cl, Z.L.c.n2, get_stages _ _ _ _, ?_⟩
    refine ⟨ts, xs, rfl, .inr ht, fun p hp => ?_⟩
    have s1 : Same H (upd H p (.lst xs)) := same_new hp
    have e1 : upd H p (.lst xs) p = some (.lst xs) := upd_same
    generalize upd H p (.lst xs) = H1 at s1 e1
    refine ⟨_, rfl, by show 1 ≤ sizeLine; decide, fun q hq => ?_⟩
    have s2 : Same H1 (upd H1 q (.lst [v])) := same_new hq
    have e2 : upd H1 q (.lst [v]) q = some (.lst [v]) := upd_same
    generalize upd H1 q (.lst [v]) = H2 at s2 e2
    refine ⟨p, q, xs, [v], rfl, rfl, s2 _ _ e1, e2, ?_, fun r hr3 => ?_⟩
    · rw [sizeLine_eq]
      show xs.length + 1 ≤ _
      omega
    have s3 : Same H2 (upd H2 r (.lst (xs ++ [v]))) := same_new hr3
    have e3 : upd H2 r (.lst (xs ++ [v])) r = some (.lst (xs ++ [v])) := upd_same
    generalize upd H2 r (.lst (xs ++ [v])) = H3 at s3 e3
    have s03 := s1.trans (s2.trans s3)
    have len : (xs ++ [v]).length = xs.length + 1 := by rw [List.length_append]; rfl
    rcases k with ⟨h6, o, rest, k⟩ | ⟨h6, k⟩
    · exact mk_read hs (.inl (SqL.of e3)) (by omega) (rest.same s03) (k.up s03)
    · exact mk_long hs (.inl (SqL.of e3)) (by omega) fun H' e he z e9 => k H' e r (s03.free he) (s03.trans z) e9 (z _ _ e3)
end
end K80
set_option Elab.async false
set_option linter.all false
set_option maxRecDepth 100000
set_option maxHeartbeats 4000000
/-! a def that is run at the caller's own place alone: there no repr runs (the guards are known) -/
namespace VK
open PySem PySem.Spec PyProof.Rows L2
/-- a def's run at one place -/
def RunAt (P : Program) (w : World) (K : PySem.W.Frag) (mg : Str → Option Value) (base : Heap) (A : Around) (f : Addr) (fd : FuncData) (ps : List Str) (sp : Sp) : Prop :=
  ∀ (outer : List Env) (s : Shared) (H : Hp) (args : Args) (us : List Value) (vs : List V) (Q : VK) (E : XK), Env0 P w K mg base A outer s H → BindsTo s fd args (ps.zip us) → Vals vs us → sp vs H Q E →
    codeAny (model P w) A (.call (.ref f) args) (CR CX0 outer P w H s Q E) s
section
variable {P : Program} {w : World} {K : PySem.W.Frag} {mg : Str → Option Value} {base : Heap}
theorem runAt_of {x qual : Str} {st : Stmt} {f : Addr} {fd : FuncData} {N ps : List Str} {k : Nat} {sp : Sp} {A : Around}
    (F : Fun K x qual st f fd) (S : FnScope N ps (defScope st)) (len : ∀ vs H Q E, sp vs H Q E → vs.length = ps.length) (hr : Room (k + 1) A)
    (hbody : ∀ (cdv : Value) (outer : List Env) (s : Shared) (H : Hp) (vs : List V) (Q : VK) (E : XK), Room k (A.deeper (envOfC qual (defScope st) s.heap.objs.size f cdv)) → sp vs H Q E →
      ∃ t, PSs (cxOf CX0 P w K mg base N qual (defScope st) f cdv A outer s H E).nox (defBody st) t ∧ t { nx := fun _ H' => Q .non H', rt := Q } (start N vs) H) :
    RunAt P w K mg base A f fd ps sp := by
  obtain ⟨oc, od, kV, doc, pm, an, cdv, ct, osl, rfl, lk, hcd⟩ := F.ex
  intro outer s H args us vs Q E e0 hb r hsp
  have hl := len _ _ _ _ hsp
  have stay : ∀ b o, base.get? b = some o → s.heap.get? b = some o := fun b o e => (e0.bs b o e).1
  have KX : K.In s.heap := e0.mod.kin.keeps stay
  have lim : s.heap.NoLimit := e0.mod.nolimit.keeps stay
  have places : ∀ y ∈ ps.zip us, (defScope st).names.lookup y.1 = some .local ∨
      ((defScope st).names.lookup y.1 = some .cell ∧ ((cellsFrom (s.heap.objs.size + 1) (defScope st).names []).lookup y.1).isSome = true) := by
    rintro ⟨n, v⟩ hy
    rcases S.par n (List.of_mem_zip hy).1 with q | q
    · exact .inl q
    · exact .inr ⟨q, PySem.W.cellsFrom_some _ _ _ (.inl q)⟩
  refine codeAny_call_function hr.depth (KX _ _ lk) rfl S.co S.gen rfl (PySem.W.codeRec_of KX hcd) (hb _ _ _ _ ?_)
  refine wpAny_newFunctionEnv_cells S.kind places fun env he s1 x => ?_
  subst he
  refine ⟨lim.keeps x.toInCall.keep, codeAny_func ?_⟩
  obtain ⟨t, ht, hq⟩ := hbody cdv outer s H vs Q E (hr.deeper _) hsp
  have I : Inv (cxOf CX0 P w K mg base N qual (defScope st) f cdv A outer s H E) [] (start N vs) H s1 := inv_start S hr.hd e0 hl r x
  refine wpAny_mono (ht.nox.run [] s1 (start N vs) H _ I hq) (fun fl s' hs => ?_) fun e s' hs => hs
  cases fl with
  | ret u =>
    obtain ⟨v, σ', H', J, rv, q⟩ := hs
    exact ⟨v, H', J.os, J.bare, J.base, J.hok, rv, q⟩
  | next =>
    obtain ⟨σ', H', J, q⟩ := hs
    exact ⟨.non, H', J.os, J.bare, J.base, J.hok, rfl, q⟩
  | brk =>
    obtain ⟨_, _, _, q⟩ := hs
    exact q.elim
  | cont =>
    obtain ⟨_, _, _, q⟩ := hs
    exact q.elim
/-- the law's call -/
theorem law_at {mb : Str → Option Value} {fa a : Addr} {fd : FuncData} {x : Str} {sp : Sp} {s₁ : Shared} {vs : List Value} {ns : List Int}
    (KX : K.In s₁.heap) (hns : s₁.heap.Ns mainGlobals mg) (hb : s₁.heap.Ns builtinsNs mb) (hbb : ∀ x : Str, x ≠ "__name__" → mb x = bootBuiltins x) (hlim : s₁.heap.NoLimit) (hg : s₁.gens = #[])
    (ha : s₁.heap.get? a = some { cls := .type "list", data := .seq vs.toArray }) (hi : IntsAre vs ns) (hl : ns.length ≤ sizeLine)
    (F : ∀ base : Heap, K.In base → base.Ns mainGlobals mg → RunAt P w K mg base callerA fa fd [x] sp) (hbind : ∀ (s : Shared) (u : Value), BindsTo s fd ⟨[u], []⟩ [(x, u)])
    (hsp : ∀ H : Hp, Only H → SqL K H a (ns.map V.int) → sp [.ref a] H (fun v _ => v = .bl true) fun _ _ _ => False) :
    codeAny (model P w) callerA (.call (.ref fa) ⟨[.ref a], []⟩) (fun r s' => r = .ok (.ret (.bool true)) ∧ OldK s₁.heap s'.heap ∧ s'.os = s₁.os ∧ AllBare s'.gens) s₁ := by
  have rv := vals_ints hi
  have same := hi.length
  have core : ∀ H : Hp, Only H → SqL K H a (ns.map V.int) → HOk P w H s₁.heap → (∀ b, H b ≠ none → b = a) → (H a ≠ none → K.lookup a = none) →
      codeAny (model P w) callerA (.call (.ref fa) ⟨[.ref a], []⟩) (fun r s' => r = .ok (.ret (.bool true)) ∧ OldK s₁.heap s'.heap ∧ s'.os = s₁.os ∧ AllBare s'.gens) s₁ := by
    intro H only seq hok alone own
    have isDict : ∀ {b : Addr} {o : Obj} {es : Array DictEntry} {ep : Nat}, s₁.heap.get? b = some o → o.data = .dict es ep → H b = none := by
      intro b o es ep e d
      cases q : H b with
      | none => rfl
      | some u =>
        have e2 : b = a := alone b (by rw [q]; exact fun z => nomatch z)
        subst e2
        rw [ha] at e
        cases e
        cases (show Data.seq vs.toArray _ = Data.dict es ep from d)
    have nsK : ∀ {b : Addr} {m : Str → Option Value}, s₁.heap.Ns b m → (hidT s₁.heap H).Ns b m := by
      rintro b m ⟨o, es, ep, e, d, r⟩
      exact ⟨o, es, ep, hidT_get e (isDict e d), d, r⟩
    have kin : K.In (hidT s₁.heap H) := by
      intro b o e
      refine hidT_get (KX b o e) ?_
      cases q : H b with
      | none => rfl
      | some u =>
        have some2 : H b ≠ none := by rw [q]; exact fun z => nomatch z
        have e2 : b = a := alone b some2
        subst e2
        rw [own some2] at e
        cases e
    obtain ⟨mc, l1, l2⟩ := hlim
    have hM : Mod K mg (hidT s₁.heap H) := ⟨kin, nsK hns, ⟨mb, nsK hb, hbb⟩, mc, nsK l1, l2⟩
    have noEnv : frs ([] : List Env) = [] := rfl
    have e0 : Env0 P w K mg (hidT s₁.heap H) callerA [] s₁ H :=
      ⟨rfl, hM, fun b o e => of_hidT e, Nat.le_of_eq (hidT_size _ _), trivial, fun b hb => (by rw [noEnv] at hb; cases hb), hok, .of_eq hg⟩
    refine codeAny_mono (F _ kin (nsK hns) [] s₁ H ⟨[.ref a], []⟩ [.ref a] [.ref a] _ _ e0 (hbind s₁ (.ref a)) (.cons rfl .nil) (hsp H only seq)) fun r s' h => ?_
    cases r with
    | error e => exact False.elim h
    | ok fl =>
      cases fl with
      | next => exact False.elim h
      | brk => exact False.elim h
      | cont => exact False.elim h
      | ret u =>
        obtain ⟨v, H', os, bare, un, hok2, r2, q⟩ := h
        have q2 : v = .bl true := q
        subst q2
        obtain rfl : u = Value.bool true := r2
        refine ⟨rfl, OldK.of_keep fun b o e => ?_, os, bare⟩
        cases q : H b with
        | none => exact un.keep b o e q (by rw [noEnv]; exact fun z => nomatch z) (fun z => nomatch z)
        | some u =>
          rcases only b with z | ⟨ob, xs, z⟩
          · rw [q] at z
            cases z
          · obtain ⟨e1, _⟩ := hok b _ z
            obtain ⟨e2, _⟩ := hok2 b _ (un.frzs b ob _ z)
            rw [e] at e1
            cases e1
            exact e2
  cases hk : K.lookup a with
  | some o =>
    have e := KX a o hk
    rw [ha] at e
    cases e
    refine core (fun _ => none) (fun _ => .inl rfl) (.inr ⟨_, vs.toArray, _, hk, rfl, rfl, rfl, ?_, ?_⟩) (fun b u z => ?_) (fun b z => absurd rfl z) fun z => absurd rfl z
    · rw [List.size_toArray, same]
      exact hl
    · simpa using rv
    · cases (show (none : Option HO) = some u from z)
  | none =>
    refine core (fun b => if b = a then some (.frz { cls := .type "list", data := .seq vs.toArray } (.lst (ns.map V.int))) else none) (fun b => ?_) (.inl (.inr ⟨_, if_pos rfl⟩)) (fun b u z => ?_) (fun b z => ?_) fun _ => hk
    · by_cases hb : b = a
      · exact .inr ⟨_, _, if_pos hb⟩
      · exact .inl (if_neg hb)
    · by_cases hb : b = a
      · cases ((if_pos hb).symm.trans z)
        subst hb
        exact ⟨ha, by rw [List.length_map]; exact hl, vs, _, rv, ha⟩
      · cases ((if_neg hb).symm.trans z)
    · by_cases hb : b = a
      · exact hb
      · exact absurd (if_neg hb) z
end
/-- the goal that the head leaves, with the script's bits -/
theorem walk_at {l : PySem.W.OpenLaw} {n : Nat} {q : Program} {loose : List Str} {XP : (Str → Option Value) → Heap → Prop} {YP : World → Heap → Prop} {d : DefRec} {K : Params → PySem.W.Frag} {sp : World → Sp} {x : Str}
    (hn : l.most = some n) (hn2 : n ≤ sizeLine) (hdf : d.params.defaults = [])
    (hY : ∀ (w : World) (h : Heap), YP w h → (K w.params).In h)
    (F : ∀ (w : World) (mg : Str → Option Value) (fa : Addr) (h : Heap), (K w.params).In h → h.Ns mainGlobals mg → mg d.name = some (.ref fa) →
      ∃ fd : FuncData, (∀ (s : Shared) (u : Value), BindsTo s fd ⟨[u], []⟩ [(x, u)]) ∧
        ∀ base : Heap, (K w.params).In base → base.Ns mainGlobals mg → RunAt l.prog w (K w.params) mg base callerA fa fd [x] (sp w))
    (hsp : ∀ (w : World) (H : Hp) (a : Addr) (ns : List Int), ns.length ≤ n → (∀ z ∈ ns, Builtin.Int.intBits z ≤ 1048576) → Only H → SqL (K w.params) H a (ns.map V.int) → sp w [.ref a] H (fun v _ => v = .bl true) fun _ _ _ => False) :
    PySem.W.WalkO q loose XP YP l.row.toRowW d [] (fun f vs => PySem.call f vs) := by
  refine Att.attach_callB hn hdf fun w s₀ s₁ mg mb fa o pm cd doc a vs ns G Y ho hd hcd hmg hobj hints hlen hbits hg => ?_
  have KX := hY w _ Y
  obtain ⟨fd, hb, hF⟩ := F w mg fa _ KX G.T.g hmg
  exact law_at KX G.T.g G.T.b G.T.builtins G.T.nolimit hg hobj hints (Nat.le_trans hlen hn2) hF hb fun H hO hS => hsp w H a ns hlen hbits hO hS
end VK
set_option Elab.async false
set_option linter.all false
set_option maxRecDepth 100000
set_option maxHeartbeats 4000000
/-! a def called where the guards are known -/
namespace VK
open PySem PySem.Spec PyProof.Rows L2
/-- a def's promise wherever no repr runs -/
def RunG (P : Program) (w : World) (K : PySem.W.Frag) (mg : Str → Option Value) (base : Heap) (k : Nat) (f : Addr) (fd : FuncData) (ps : List Str) (sp : Sp) : Prop :=
  (∀ vs H Q E, sp vs H Q E → vs.length = ps.length) ∧ ∀ A : Around, A.guards = some [] → Room k A → RunAt P w K mg base A f fd ps sp
section
variable {X : Cx} {k : Nat} {f : Addr} {fd : FuncData} {ps : List Str} {sp : Sp} {x : Str} {p pos : Pos} {e : Expr} {es : List Expr} {t : TA}
def tCallG (sp : Sp) (t : TA) : TE := fun σ H Q => t σ H fun vs H1 => sp vs H1 Q E0
theorem pe_callG (F : RunG X.prog X.w X.K X.mg X.base k f fd ps sp) (hg : X.A.guards = some []) (hr : Room k X.A) (gl : Gl X x) (hm : X.mg x = some (.ref f)) (hk : PySem.W.keepIn X.K (.ref f) = true) (hb : Binds X.K fd ps []) (ha : PA X (e :: es) t)
    (hdb : (x == ("__debug__" : Str)) = false := by decide) (h1 : starEach (e :: es) X.env = (false, eval e X.env) :: starEach es X.env := by rfl) (h2 : (backTo pos (starEach es X.env)).any (·.1) = false := by rfl) :
    PE X (.Call (.Name x p) (e :: es) [] pos) (tCallG sp t) := by
  refine ⟨fun pins s σ H Q I h => wpAny_Call_Name_kw (ld_glob I gl hm (PySem.W.callWith_K (h₀ := X.base) I.ok.mod.kin hk (thn (ha.run pos pins s σ H _ I h) fun us s1 hh => ?_) h1 h2) hdb)⟩
  obtain ⟨vs, H1, I1, r, q⟩ := hh
  refine ⟨I1.kIn, ?_⟩
  have hl : us.length = ps.length := by rw [← r.length]; exact F.1 _ _ _ _ q
  have b := hb s1 us I1.kIn (by rw [List.append_nil]; exact hl)
  rw [List.append_nil] at b
  refine wpAny_call (codeAny_mono (F.2 X.A hg hr X.stack s1 H1 ⟨us, []⟩ us vs Q E0 I1.env0 b r q) fun res s' hq => ?_)
  cases res with
  | error er => exact False.elim hq
  | ok fl =>
    cases fl with
    | ret u => exact I1.after hq
    | next => exact False.elim hq
    | brk => exact False.elim hq
    | cont => exact False.elim hq
end
section
variable {P : Program} {w : World} {K : PySem.W.Frag} {mg : Str → Option Value} {base : Heap}
theorem runG_of {x qual : Str} {st : Stmt} {f : Addr} {fd : FuncData} {N ps : List Str} {k : Nat} {sp : Sp} (F : Fun K x qual st f fd) (S : FnScope N ps (defScope st)) (len : ∀ vs H Q E, sp vs H Q E → vs.length = ps.length)
    (hbody : ∀ (A : Around) (cdv : Value) (outer : List Env) (s : Shared) (H : Hp) (vs : List V) (Q : VK) (E : XK), A.guards = some [] → Room k (A.deeper (envOfC qual (defScope st) s.heap.objs.size f cdv)) → sp vs H Q E →
      ∃ t, PSs (cxOf CX0 P w K mg base N qual (defScope st) f cdv A outer s H E).nox (defBody st) t ∧ t { nx := fun _ H' => Q .non H', rt := Q } (start N vs) H) : RunG P w K mg base (k + 1) f fd ps sp :=
  ⟨len, fun A hg hr => runAt_of F S len hr fun cdv outer s H vs Q E hr2 h => hbody A cdv outer s H vs Q E hg hr2 h⟩
end
end VK
set_option Elab.async false
set_option linter.all false
set_option maxRecDepth 100000
set_option maxHeartbeats 4000000
/-! repr of any plain value, where the guards are known -/
namespace VK
open PySem PySem.Spec PyProof.Rows L2
def rShowV (K : PySem.W.Frag) : List V → Hp → VK → Prop := fun vs H Q => ∃ (v : V) (d : PyData), vs = [v] ∧ ShwV K H v d ∧ d.showable = true ∧ d.shown.length ≤ sizeLine ∧ d.depth ≤ 40 ∧ Q (.str d.shown) H
theorem call_showV {X : Cx} (hg : X.A.guards = some []) (hu : X.A.units + 64 < cLine) : CallR X (.builtin "repr") (rShowV X.K) := by
  intro pins s σ H vs us Q I r h
  obtain ⟨v, d, rfl, hp, sh, hz, hd, q⟩ := h
  obtain ⟨u, rfl, ru⟩ := vals1 r
  obtain ⟨as, rd, sys⟩ := hp.reads I ru
  have ref : ∀ a : Addr, u = .ref a → wpAny (model X.prog X.w) X.A (call (.builtin "repr") [u]) (EP X pins σ Q) X.xe s := by
    rintro a rfl
    exact repr_of_reads' rd sh sys hg (by omega) (fun _ _ e => e) (fun h' t tk k => ⟨.str _, H, I.kept k, ⟨t, rfl⟩, q⟩) hz
  cases hp with
  | dct e _ =>
    cases ru
    exact ref _ rfl
  | data h n =>
    cases h with
    | non =>
      cases ru
      exact PySem.P.repr_of_none ⟨.str _, H, I.tok _, ⟨_, rfl⟩, q⟩
    | bl b =>
      cases ru
      exact PySem.P.repr_of_bool ⟨.str _, H, I.tok _, ⟨_, rfl⟩, q⟩
    | int i =>
      obtain ⟨t, rfl⟩ := ru
      exact PySem.P.repr_of_int (of_decide_eq_true sh) ⟨.str _, H, I.tok _, ⟨_, rfl⟩, q⟩
    | str z =>
      obtain ⟨t, rfl⟩ := ru
      exact PySem.P.repr_of_str ⟨.str _, H, I.tok _, ⟨_, rfl⟩, q⟩ hz
    | lst _ _ =>
      cases ru
      exact ref _ rfl
    | tup _ _ =>
      cases ru
      exact ref _ rfl
end VK
set_option Elab.async false
set_option linter.all false
set_option maxRecDepth 100000
set_option maxHeartbeats 4000000
/-! d.get(k) of a written dict with text keys -/
namespace VK
open PySem PySem.Spec PyProof.Rows L2
def tKGet (K : PySem.W.Frag) (w : World) (td ty : TE) : TE := fun σ H Q => td σ H fun x H1 => ∃ a, x = .ref a ∧ (∃ es n, KDict K w a es n) ∧ ty σ H1 fun y H2 => ∃ (z : Str) (r : Option Value) (v : V), y = .str z ∧ PySem.W.nsIn K a z = some r ∧ RelV v (r.getD .none) ∧ Q v H2
section
variable {X : Cx} {o e : Expr} {apos cpos : Pos} {td ty : TE}
theorem pe_kget (ho : PE X o td) (he : PE X e ty) (m : M1 X o "get" apos e cpos) : PE X (.Call (.Attribute o "get" apos) [e] [] cpos) (tKGet X.K X.w td ty) := by
  refine ⟨fun pins s σ H Q I h => ?_⟩
  refine wpAny_Call_method m.base m.few m.line PySem.F.plainAttrs_dict PySem.F.slot_dict_get PySem.F.type_dict_get (thn (ho.run pins s σ H _ I h) fun u s1 hh => ?_)
  obtain ⟨x, H1, I1, rx, a, ex, ⟨es, n, D⟩, q1⟩ := hh
  subst ex
  obtain rfl : u = Value.ref a := rx
  have mp := PySem.W.mapOf_K (prog := X.prog) (w := X.w) I1.kIn D.at_ D.lit
  refine ⟨mp.typeIs, fun b q => (by cases q; exact ⟨_, I1.kIn _ _ D.at_, rfl⟩), ?_⟩
  rw [m.trees]
  refine Calls.callWith_builtin rfl (Calls.evalArgs_plain (Calls.spliced_cons (thn (he.run pins s1 σ H1 _ I1 q1) fun iv s2 hh => Calls.spliced_nil ?_)))
  obtain ⟨y, H2, I2, ry, z, r, v, ey, er, rv, q2⟩ := hh
  subst ey
  obtain ⟨t, rfl⟩ := ry
  have mp2 := PySem.W.mapOf_K (prog := X.prog) (w := X.w) I2.kIn D.at_ D.lit
  refine call_meetsIn PySem.F.slot_dict_get mp2.typeIs PySem.F.entry_dict_get (PySem.F.args_dict_get_2 _ _) (meets_dict_get (strKind X.prog X.w) a (PySem.strKind_is X.prog X.w z t) D.low) ⟨_, mp2, ?_⟩
  rw [PySem.W.find_K D.at_ er]
  exact ⟨v, H2, I2.tok _, rv, q2⟩
end
end VK
set_option Elab.async false
set_option linter.all false
set_option maxRecDepth 100000
set_option maxHeartbeats 4000000
namespace K80
open PySem L2 VK
open TL (tl)
/-! ### lines of texts -/
def numS (n : Int) : Str := Str.ofString (toString n)
def Sg.words : Sg → List Str
  | .nm k n => [k, n]
  | .num k n => [k, numS n]
  | .flat => ["flat"]
  | .zip _ => ["zip"]
mutual
def Sg.lines : Sg → List Str
  | .nm k n => [Txt.join " " [k, n]]
  | .num k n => [Txt.join " " [k, numS n]]
  | .flat => [Txt.join " " ["flat"]]
  | .zip p => "zip" :: p.lines.map fun l => ("  " : Str) ++ l
def Pg.lines : Pg → List Str
  | .mk s l => (("from " : Str) ++ s) :: l.lines
def Sgs.lines : Sgs → List Str
  | .nil => []
  | .cons x r => x.lines ++ r.lines
end
/-- indented so often -/
def ind : Nat → Str → Str
  | 0, x => x
  | d + 1, x => ind d (("  " : Str) ++ x)
theorem ind_map (d : Nat) (ls : List Str) : (ls.map fun l => ("  " : Str) ++ l).map (ind d) = ls.map (ind (d + 1)) := by
  rw [List.map_map]
  rfl
theorem tl_two : tl ("  " : Str) = [32, 32] := by decide +kernel
theorem tl_one : tl (" " : Str) = [32] := by decide +kernel
theorem tl_nl : tl ("\n" : Str) = [10] := by decide +kernel
theorem rep_mid : ∀ n : Nat, List.replicate n 32 ++ [32, 32] = List.replicate (n + 2) (32 : Nat)
  | 0 => rfl
  | n + 1 => by
    show 32 :: (List.replicate n 32 ++ [32, 32]) = 32 :: List.replicate (n + 2) 32
    rw [rep_mid n]
theorem tl_ind : ∀ (d : Nat) (x : Str), tl (ind d x) = List.replicate (2 * d) 32 ++ tl x
  | 0, x => rfl
  | d + 1, x => by
    show tl (ind d (("  " : Str) ++ x)) = _
    rw [tl_ind d, TL.tl_append, tl_two, ← List.append_assoc, rep_mid]
    rfl
theorem len_ind (d : Nat) (x : Str) : (ind d x).length = 2 * d + x.length := by
  rw [TL.len_tl, tl_ind, List.length_append, List.length_replicate, ← TL.len_tl]
/-- words in a line -/
structure Wd (ws : List Str) : Prop where
  ne : ws ≠ []
  free : ∀ w ∈ ws, 32 ∉ tl w
  first : ∃ w r, ws = w :: r ∧ tl w ≠ []
theorem Wd.head {ws : List Str} (h : Wd ws) : ∃ c r, tl (Txt.join " " ws) = c :: r ∧ c ≠ 32 := by
  obtain ⟨w, r, rfl, ne⟩ := h.first
  have fr := h.free w List.mem_cons_self
  cases e : tl w with
  | nil => exact absurd e ne
  | cons c q =>
    rw [e] at fr
    have nc : c ≠ 32 := fun z => fr (by rw [z]; exact List.mem_cons_self)
    rw [TL.join_eq, TL.tl_join]
    cases r with
    | nil => exact ⟨c, q, e, nc⟩
    | cons z r => exact ⟨c, _, by show tl w ++ _ = _; rw [e]; rfl, nc⟩
theorem take_rep : ∀ (n : Nat) {p : Nat → Bool} {l : List Nat}, p 32 = true → (∀ c r, l = c :: r → p c = false) → ((List.replicate n 32 ++ l).takeWhile p).length = n
  | 0, p, l, _, h => by
    show (l.takeWhile p).length = 0
    cases l with
    | nil => rfl
    | cons c r => rw [List.takeWhile_cons, h c r rfl]; rfl
  | n + 1, p, l, h1, h2 => by
    show ((32 :: (List.replicate n 32 ++ l)).takeWhile p).length = n + 1
    rw [List.takeWhile_cons, h1]
    show (List.takeWhile p (List.replicate n 32 ++ l)).length + 1 = n + 1
    rw [take_rep n h1 h2]
theorem lstrip_ind {ws : List Str} (h : Wd ws) (d : Nat) : Txt.lstripChars (ind d (Txt.join " " ws)) " " = Txt.join " " ws := by
  obtain ⟨c, r, e, nc⟩ := h.head
  unfold Txt.lstripChars
  rw [PyProof.Rows.stripBy_eq]
  have p1 : (Array.contains (" " : Str).cps) 32 = true := by decide +kernel
  have p2 : ∀ c, c ≠ 32 → (Array.contains (" " : Str).cps) c = false := fun c h => by
    have q : (" " : Str).cps = #[32] := by decide +kernel
    rw [q]
    simp [h]
  have lo : PySem.stripLo (Array.contains (" " : Str).cps) true (ind d (Txt.join " " ws)) = 2 * d := by
    unfold PySem.stripLo
    rw [if_pos rfl]
    show ((tl (ind d (Txt.join " " ws))).takeWhile _).length = _
    rw [tl_ind, take_rep (2 * d) p1 fun c' r' e' => by rw [e] at e'; injection e' with e1 _; rw [← e1]; exact p2 c nc]
  rw [lo]
  have hi : PySem.stripHi (Array.contains (" " : Str).cps) false (ind d (Txt.join " " ws)) (2 * d) = (ind d (Txt.join " " ws)).length := rfl
  rw [hi]
  refine TL.ext_tl ?_
  rw [TL.tl_strSub_end, tl_ind, List.drop_left' (by rw [List.length_replicate])]
theorem split_words {ws : List Str} (h : Wd ws) : Txt.split (Txt.join " " ws) " " = ws := TL.split_join tl_one (by decide +kernel) h.ne h.free
theorem split_lines {ls : List Str} (ne : ls ≠ []) (h : ∀ l ∈ ls, 10 ∉ tl l) : Txt.split (Txt.join "\n" ls) "\n" = ls := TL.split_join tl_nl (by decide +kernel) ne h
/-! ### names and numbers -/
theorem num_cases {n : Int} (h1 : 1 ≤ n) (h2 : n ≤ 4) : n = 1 ∨ n = 2 ∨ n = 3 ∨ n = 4 := by omega
theorem numS_cases {n : Int} (h1 : 1 ≤ n) (h2 : n ≤ 4) : (n = 1 ∧ numS n = "1") ∨ (n = 2 ∧ numS n = "2") ∨ (n = 3 ∧ numS n = "3") ∨ (n = 4 ∧ numS n = "4") := by
  rcases num_cases h1 h2 with rfl | rfl | rfl | rfl
  · exact .inl ⟨rfl, by decide +kernel⟩
  · exact .inr (.inl ⟨rfl, by decide +kernel⟩)
  · exact .inr (.inr (.inl ⟨rfl, by decide +kernel⟩))
  · exact .inr (.inr (.inr ⟨rfl, by decide +kernel⟩))
theorem nm_parts {n : Str} (h : isNm n = true) : 1 ≤ n.length ∧ n.length ≤ 8 ∧ ∀ c ∈ tl n, 97 ≤ c ∧ c ≤ 122 := by
  unfold isNm at h
  rw [Bool.and_eq_true, Bool.and_eq_true, decide_eq_true_eq, decide_eq_true_eq, List.all_eq_true] at h
  refine ⟨h.1, h.2.1, fun c hc => ?_⟩
  have := h.2.2 c hc
  unfold okSign at this
  rw [Bool.and_eq_true, decide_eq_true_eq, decide_eq_true_eq] at this
  exact this
/-- a word without blanks and line feeds, of one to eight signs -/
def Fr (w : Str) : Prop := 1 ≤ w.length ∧ w.length ≤ 8 ∧ 32 ∉ tl w ∧ 10 ∉ tl w
theorem fr_nm {n : Str} (h : isNm n = true) : Fr n := by
  obtain ⟨a, b, c⟩ := nm_parts h
  exact ⟨a, b, fun z => by have := c _ z; omega, fun z => by have := c _ z; omega⟩
instance (w : Str) : Decidable (Fr w) := by unfold Fr; exact inferInstance
theorem fr_k1 : ∀ k ∈ K1, Fr k := by decide +kernel
theorem fr_k2 : ∀ k ∈ K2, Fr k := by decide +kernel
theorem fr_k0 : ∀ k ∈ K0, Fr k := by decide +kernel
theorem fr_num {n : Int} (h1 : 1 ≤ n) (h2 : n ≤ 4) : Fr (numS n) := by
  rcases numS_cases h1 h2 with ⟨_, e⟩ | ⟨_, e⟩ | ⟨_, e⟩ | ⟨_, e⟩ <;> rw [e] <;> decide +kernel
theorem wd_two {a b : Str} (ha : Fr a) (hb : Fr b) : Wd [a, b] := by
  refine ⟨by simp, fun w hw => ?_, a, [b], rfl, fun e => ?_⟩
  · rcases List.mem_cons.mp hw with rfl | hw
    · exact ha.2.2.1
    · rw [List.mem_singleton.mp hw]; exact hb.2.2.1
  · have := ha.1
    rw [TL.len_tl, e] at this
    exact absurd this (by decide)
theorem wd_one {a : Str} (ha : Fr a) : Wd [a] := by
  refine ⟨by simp, fun w hw => ?_, a, [], rfl, fun e => ?_⟩
  · rw [List.mem_singleton.mp hw]; exact ha.2.2.1
  · have := ha.1
    rw [TL.len_tl, e] at this
    exact absurd this (by decide)
theorem join_one (a : Str) : Txt.join " " [a] = a := by
  rw [TL.join_eq]
  rfl
theorem tl_join2 (a b : Str) : tl (Txt.join " " [a, b]) = tl a ++ (32 :: tl b) := by
  rw [TL.join_eq, TL.tl_join, tl_one]
  rfl
theorem join_two (a b : Str) : Txt.join " " [a, b] = a ++ " " ++ b := by
  refine TL.ext_tl ?_
  rw [tl_join2, TL.tl_append, TL.tl_append, tl_one, List.append_assoc]
  rfl
theorem fr_ten {a b : Str} (ha : Fr a) (hb : Fr b) : 10 ∉ tl (Txt.join " " [a, b]) := by
  rw [tl_join2]
  intro z
  rcases List.mem_append.mp z with z | z
  · exact ha.2.2.2 z
  · rcases List.mem_cons.mp z with z | z
    · exact absurd z (by decide)
    · exact hb.2.2.2 z
theorem fr_len {a b : Str} (ha : Fr a) (hb : Fr b) : (Txt.join " " [a, b]).length ≤ 17 := by
  rw [TL.len_tl, tl_join2, List.length_append, List.length_cons, ← TL.len_tl, ← TL.len_tl]
  have := ha.2.1
  have := hb.2.1
  omega
theorem fr_from : Fr "from" := by decide +kernel
theorem fr_flat : Fr "flat" := by decide +kernel
theorem fr_zip : Fr "zip" := by decide +kernel
theorem from_eq (s : Str) : ("from " : Str) ++ s = Txt.join " " ["from", s] := by
  rw [join_two]
  have : ("from" : Str) ++ " " = "from " := by decide +kernel
  rw [this]
end K80
set_option Elab.async false
set_option linter.all false
set_option maxRecDepth 100000
set_option maxHeartbeats 4000000
namespace K80
open PySem L2 VK
open TL (tl)
abbrev sText : Stmt := top 28
abbrev sPL : Stmt := top 29
abbrev sSL : Stmt := top 30
theorem scText : FnScope ["program"] ["program"] (defScope sText) := ⟨rfl, rfl, rfl, by decide +kernel, rfl, by decide +kernel, by decide +kernel⟩
theorem scPL : FnScope ["program", "lines", "stage"] ["program"] (defScope sPL) := ⟨rfl, rfl, rfl, by decide +kernel, rfl, by decide +kernel, by decide +kernel⟩
theorem scSL : FnScope ["stage", "line", "part"] ["stage"] (defScope sSL) := ⟨rfl, rfl, rfl, by decide +kernel, rfl, by decide +kernel, by decide +kernel⟩
/-! ### how long the lines are, and how many -/
mutual
theorem Sg.line_ok : ∀ (x : Sg) (d : Int) (tk : List Str), x.ok d tk → ∀ l ∈ x.lines, l.length ≤ 17 + 2 * x.nest ∧ 10 ∉ tl l
  | .nm k n, _, _, h => fun l hl => by
    have h : k ∈ K1 ∧ isNm n = true := h
    rw [List.mem_singleton.mp hl]
    exact ⟨Nat.le_trans (fr_len (fr_k1 _ h.1) (fr_nm h.2)) (by omega), fr_ten (fr_k1 _ h.1) (fr_nm h.2)⟩
  | .num k n, _, _, h => fun l hl => by
    have h : k ∈ K2 ∧ 1 ≤ n ∧ n ≤ 4 := h
    rw [List.mem_singleton.mp hl]
    exact ⟨Nat.le_trans (fr_len (fr_k2 _ h.1) (fr_num h.2.1 h.2.2)) (by omega), fr_ten (fr_k2 _ h.1) (fr_num h.2.1 h.2.2)⟩
  | .flat, _, _, h => fun l hl => by
    rw [List.mem_singleton.mp hl, join_one]
    exact ⟨Nat.le_trans (by decide +kernel : ("flat" : Str).length ≤ 17) (by omega), by decide +kernel⟩
  | .zip p, d, tk, h => fun l hl => by
    have h : p.ok ∧ ∀ s ∈ p.srcs, s ∉ tk := h
    show l.length ≤ 17 + 2 * (p.nest + 1) ∧ _
    rcases List.mem_cons.mp hl with e | hl
    · rw [e]
      exact ⟨Nat.le_trans (by decide +kernel : ("zip" : Str).length ≤ 17) (by omega), by decide +kernel⟩
    · obtain ⟨m, hm, rfl⟩ := List.mem_map.mp hl
      obtain ⟨a, b⟩ := Pg.line_ok p h.1 m hm
      refine ⟨?_, ?_⟩
      · have e : ("  " : Str).length = 2 := by decide +kernel
        rw [TL.len_tl, TL.tl_append, List.length_append, ← TL.len_tl, ← TL.len_tl, e]
        omega
      · rw [TL.tl_append, tl_two]
        intro z
        rcases List.mem_append.mp z with z | z
        · exact absurd z (by decide)
        · exact b z
theorem Pg.line_ok : ∀ g : Pg, g.ok → ∀ l ∈ g.lines, l.length ≤ 17 + 2 * g.nest ∧ 10 ∉ tl l
  | .mk s r, h => fun l hl => by
    have h : s ∈ K0 ∧ r.len ≤ 6 ∧ r.ok 0 [s] := h
    show l.length ≤ 17 + 2 * r.nest ∧ _
    rcases List.mem_cons.mp hl with e | hl
    · rw [e, from_eq]
      exact ⟨Nat.le_trans (fr_len fr_from (fr_k0 _ h.1)) (by omega), fr_ten fr_from (fr_k0 _ h.1)⟩
    · exact Sgs.line_ok r 0 [s] h.2.2 l hl
theorem Sgs.line_ok : ∀ (r : Sgs) (d : Int) (tk : List Str), r.ok d tk → ∀ l ∈ r.lines, l.length ≤ 17 + 2 * r.nest ∧ 10 ∉ tl l
  | .nil, _, _, _ => fun _ h => by cases h
  | .cons x r, d, tk, h => fun l hl => by
    have h : x.ok d tk ∧ r.ok (x.dep d) (tk ++ x.srcs) := h
    show l.length ≤ 17 + 2 * max x.nest r.nest ∧ _
    have m1 := Nat.le_max_left x.nest r.nest
    have m2 := Nat.le_max_right x.nest r.nest
    rcases List.mem_append.mp hl with hl | hl
    · obtain ⟨a, b⟩ := Sg.line_ok x d tk h.1 l hl
      exact ⟨by omega, b⟩
    · obtain ⟨a, b⟩ := Sgs.line_ok r _ _ h.2 l hl
      exact ⟨by omega, b⟩
end
mutual
theorem Sg.many : ∀ (x : Sg) (d : Int) (tk : List Str), x.ok d tk → x.lines.length ≤ 1 + 7 * x.srcs.length
  | .nm k n, _, _, _ => by show 1 ≤ 1 + 7 * 0; omega
  | .num k n, _, _, _ => by show 1 ≤ 1 + 7 * 0; omega
  | .flat, _, _, _ => by show 1 ≤ 1 + 7 * 0; omega
  | .zip p, _, tk, h => by
    have h : p.ok ∧ ∀ s ∈ p.srcs, s ∉ tk := h
    have := Pg.many p h.1
    show (p.lines.map _).length + 1 ≤ 1 + 7 * p.srcs.length
    rw [List.length_map]
    omega
theorem Pg.many : ∀ g : Pg, g.ok → g.lines.length ≤ 7 * g.srcs.length
  | .mk s r, h => by
    have h : s ∈ K0 ∧ r.len ≤ 6 ∧ r.ok 0 [s] := h
    have := Sgs.many r 0 [s] h.2.2
    show r.lines.length + 1 ≤ 7 * (r.srcs.length + 1)
    omega
theorem Sgs.many : ∀ (r : Sgs) (d : Int) (tk : List Str), r.ok d tk → r.lines.length ≤ r.len + 7 * r.srcs.length
  | .nil, _, _, _ => Nat.zero_le _
  | .cons x r, d, tk, h => by
    have h : x.ok d tk ∧ r.ok (x.dep d) (tk ++ x.srcs) := h
    have a := Sg.many x d tk h.1
    have b := Sgs.many r _ _ h.2
    show (x.lines ++ r.lines).length ≤ (r.len + 1) + 7 * (x.srcs ++ r.srcs).length
    rw [List.length_append, List.length_append]
    omega
end
theorem Pg.many28 {g : Pg} (h : g.ok) : g.lines.length ≤ 28 := by
  have a := Pg.many g h
  have b := Pg.few h
  omega
theorem nest_srcs {g : Pg} (h : g.ok) : g.nest ≤ 3 := Nat.le_of_lt_succ (Pg.nest4 h)
def spPL (K : Fg) (C : Addr) (m : Nat) : Sp := fun vs H Q _ => ∃ (v : V) (g : Pg), vs = [v] ∧ PgAt K C H v g ∧ g.ok ∧ g.nest < m ∧ ∀ (q : Addr) (H' : Hp), H q = none → Same H H' → H' q = some (.lst (g.lines.map V.str)) → Q (.ref q) H'
def spSL (K : Fg) (C : Addr) (m : Nat) : Sp := fun vs H Q _ => ∃ (v : V) (x : Sg) (d : Int) (tk : List Str), vs = [v] ∧ StV K C H v x ∧ x.ok d tk ∧ x.nest < m ∧ ∀ (q : Addr) (H' : Hp), H q = none → Same H H' → H' q = some (.lst (x.lines.map V.str)) → Q (.ref q) H'
end K80
set_option Elab.async false
set_option linter.all false
set_option maxRecDepth 100000
set_option maxHeartbeats 4000000
namespace K80
open PySem L2 VK
open TL (tl)
/-- a def of the module -/
structure Df (K : Fg) (mg : Str → Option Value) (name : Str) (st : Stmt) (ps : List Str) (f : Addr) (fd : FuncData) : Prop where
  g : mg name = some (.ref f)
  F : Fun K name name st f fd
  b : Binds K fd ps []
theorem sl_len {l : Str} (h : l.length ≤ 1000) : (("  " : Str) ++ l).length ≤ sizeLine := by
  have e : ("  " : Str).length = 2 := by decide +kernel
  rw [TL.len_tl, TL.tl_append, List.length_append, ← TL.len_tl, ← TL.len_tl, e, sizeLine_eq]
  omega
theorem map_get {α β : Type} {f : α → β} {l : List α} {i : Nat} {y : β} (h : (l.map f)[i]? = some y) : ∃ x, l[i]? = some x ∧ y = f x := by
  rw [List.getElem?_map] at h
  obtain ⟨x, hx, e⟩ := Option.map_eq_some_iff.mp h
  exact ⟨x, hx, e.symm⟩
section
variable {P : Program} {w : World} {K : Fg} {mg : Str → Option Value} {base : Heap} {C fP fS : Addr} {dP dS : FuncData}
theorem ok_sl {n m : Nat} (c : Cl K mg C) (ti : ∃ t, mg "INDENT" = some (.str "  " t)) (DS : Df K mg "stage_lines" sSL ["stage"] fS dS) (DP : Df K mg "program_lines" sPL ["program"] fP dP)
    (G : FnOk P w K mg base CX0 n fP dP ["program"] (spPL K C m)) : FnOk P w K mg base CX0 (n + 1) fS dS ["stage"] (spSL K C (m + 1)) := by
  refine DS.F.ok scSL (fun vs H Q E h => ?_) (fun cdv B outer s H vs Q E hr h => ?_)
  · obtain ⟨v, x, d, tk, rfl, _⟩ := h
    rfl
  · obtain ⟨v, x, d, tk, rfl, hv, ok, hn, k⟩ := h
    obtain ⟨tI, gI⟩ := ti
    refine ⟨_, pss_cons (ps_if (pt_cmpR op_eq (pe_ix ix_tup (pv 0) pe_int (fun _ _ => rfl)) pe_str (nomark _))
        (pss_one (ps_ret (pe_op op_cat (pe_lst (pa_cons pe_str pa_nil)) (pe_lc (own := [("line", 1)]) (g := gName 1) (tt := tYes) rfl scSL.nd
          (pi_list (pe_call G hr rfl DP.g DP.F.kp DP.b .nil pass0 (pa_cons (pe_ix ix_tup (pv 0) pe_int (fun _ _ => rfl)) pa_nil)))
          (blkOk_by (N := ["stage", "line", "part"]) (sc := defScope sSL) (by decide +kernel)) (fun _ _ _ _ _ => pg_name (i := 1) scSL.nd rfl (Or.inl rfl)) (fun _ _ _ _ _ => pts_nil)
          (fun _ _ _ _ _ => by exact pe_op op_add_str (pe_glob (v := .str "  ") rfl gI ⟨_, rfl⟩) (pv 1)))))) pss_nil)
      (pss_one (ps_ret (pe_lst (pa_cons (pe_join pe_str (pe_lc (own := [("part", 2)]) (g := gName 2) (tt := tYes) rfl scSL.nd (pi_tup (pv 0))
          (blkOk_by (N := ["stage", "line", "part"]) (sc := defScope sSL) (by decide +kernel)) (fun _ _ _ _ _ => pg_name (i := 2) scSL.nd rfl (Or.inl rfl)) (fun _ _ _ _ _ => pts_nil)
          (fun _ _ _ _ _ => by exact pe_fs1 (pe_fmt (pv 2))))) pa_nil)))), ?_⟩
    obtain ⟨a, r, rfl, ha⟩ := hv.at0
    refine ⟨_, rfl, a, _, _, .str x.kd, rfl, rfl, ha, at_of (j := 0) rfl rfl, rfl, _, rfl, ?_⟩
    refine dif (fun ez => ?_) (fun ez => ?_)
    · cases hv with
      | @nm _ k1 n1 h => exact absurd (V.str.inj ez) ((by decide +kernel : ∀ z ∈ K1, ¬ (z = "zip")) _ (show k1 ∈ K1 ∧ _ from ok).1)
      | @num _ k1 n1 h => exact absurd (V.str.inj ez) ((by decide +kernel : ∀ z ∈ K2, ¬ (z = "zip")) _ (show k1 ∈ K2 ∧ _ from ok).1)
      | flat h => exact absurd (V.str.inj ez) (by decide +kernel : ¬ (("flat" : Str) = "zip"))
      | @zip _ v p h hp =>
        have ok : p.ok ∧ ∀ s ∈ p.srcs, s ∉ tk := ok
        have hn : p.nest + 1 < m + 1 := hn
        refine ⟨by show 1 ≤ sizeLine; decide, fun l hl => ?_⟩
        have s1 : Same H (upd H l (.lst [.str "zip"])) := same_new hl
        have e1 : upd H l (.lst [.str "zip"]) l = some (.lst [.str "zip"]) := upd_same
        generalize upd H l (.lst [.str "zip"]) = H1 at s1 e1
        refine ⟨_, rfl, _, _, _, _, rfl, rfl, (Kp.of s1).tup h, rfl, v, p, rfl, PgAt.kp (Kp.of s1) hp, ok.1, Nat.lt_of_succ_lt_succ hn, fun q H2 nq s2 e2 => ?_⟩
        refine ⟨q, rfl, ⟨_, SqL.of e2⟩, fun D hD => ?_⟩
        have many := Pg.many28 ok.1
        refine lc_it (walk_list (xs := p.lines.map V.str)) (lcI H2 D ((p.lines.map fun l => ("  " : Str) ++ l).map V.str)) (lcI0 hD) (fun i H' _ z => z.1.seq (SqL.of e2)) ?_ ?_
        · rintro i y H3 H4 hi z ⟨rfl, hy⟩
          obtain ⟨s, hs, rfl⟩ := map_get hy
          have sm := List.mem_of_getElem? hs
          have len := (Pg.line_ok p ok.1 s sm).1
          have n3 := nest_srcs ok.1
          refine ⟨rfl, iteT (B := True) ⟨_, rfl, _, _, rfl, rfl, ?_, ?_⟩⟩
          · have e : ("  " : Str).length = 2 := by decide +kernel
            rw [e, sizeLine_eq]
            omega
          · refine lc_step hD z.1 z.2 ?_ (by rw [List.length_map, List.length_map]; exact small1000 (by omega))
            rw [List.getElem?_map, List.getElem?_map, hs]
            rfl
        · intro H3 z
          obtain ⟨z1, z2⟩ := z.done (by rw [List.length_map, List.length_map, List.length_map])
          refine ⟨l, D, _, _, rfl, rfl, z1 _ _ (s2 _ _ e1), z2, ?_, fun r hr3 => ?_⟩
          · rw [List.length_map, List.length_map, sizeLine_eq]
            show 1 + _ ≤ _
            omega
          · have s03 := (s1.trans s2).trans z1
            exact k r _ (s03.free hr3) (s03.trans (same_new hr3)) upd_same
    · have data : ∃ (ys : List V) (ws : List Str), SqT K H a ys ∧ ws.length ≤ 2 ∧ (∀ w ∈ ws, w.length ≤ 8) ∧ ys.length = ws.length ∧
          (∀ (i : Nat) (y : V), ys[i]? = some y → ∃ w : Str, ws[i]? = some w ∧ w.length ≤ 8 ∧ (y = .str w ∨ ∃ n : Int, y = .int n ∧ n.natAbs.log2 < 1920 ∧ numS n = w)) ∧ x.lines = [Txt.join " " ws] := by
        cases hv with
        | @nm _ k1 n1 h =>
          have ok : k1 ∈ K1 ∧ isNm n1 = true := ok
          have f1 := (fr_k1 _ ok.1).2.1
          have f2 := (fr_nm ok.2).2.1
          refine ⟨_, [k1, n1], h, Nat.le_refl 2, fun w hw => ?_, rfl, fun i y hy => ?_, rfl⟩
          · rcases List.mem_cons.mp hw with rfl | hw
            · exact f1
            · rw [List.mem_singleton.mp hw]; exact f2
          · match i with
            | 0 => cases hy; exact ⟨_, rfl, f1, .inl rfl⟩
            | 1 => cases hy; exact ⟨_, rfl, f2, .inl rfl⟩
            | i + 2 => cases hy
        | @num _ k1 n1 h =>
          have ok : k1 ∈ K2 ∧ 1 ≤ n1 ∧ n1 ≤ 4 := ok
          have f1 := (fr_k2 _ ok.1).2.1
          have f2 := (fr_num ok.2.1 ok.2.2).2.1
          have f3 : n1.natAbs.log2 < 1920 := by
            rcases num_cases ok.2.1 ok.2.2 with rfl | rfl | rfl | rfl <;> decide +kernel
          refine ⟨_, [k1, numS n1], h, Nat.le_refl 2, fun w hw => ?_, rfl, fun i y hy => ?_, rfl⟩
          · rcases List.mem_cons.mp hw with rfl | hw
            · exact f1
            · rw [List.mem_singleton.mp hw]; exact f2
          · match i with
            | 0 => cases hy; exact ⟨_, rfl, f1, .inl rfl⟩
            | 1 => cases hy; exact ⟨_, rfl, f2, .inr ⟨_, rfl, f3, rfl⟩⟩
            | i + 2 => cases hy
        | flat h =>
          refine ⟨_, ["flat"], h, by decide, fun w hw => ?_, rfl, fun i y hy => ?_, rfl⟩
          · rw [List.mem_singleton.mp hw]; decide +kernel
          · match i with
            | 0 => cases hy; exact ⟨_, rfl, by decide +kernel, .inl rfl⟩
            | i + 1 => cases hy
        | zip h hp => exact absurd rfl ez
      obtain ⟨ys, ws, hy, l2, w8, ly, each, el⟩ := data
      refine ⟨⟨_, rfl⟩, _, rfl, a, rfl, ⟨_, hy⟩, fun D hD => ?_⟩
      refine lc_it (walk_tup (xs := ys)) (lcI H D (ws.map V.str)) (lcI0 hD) (fun i H' _ z => (Kp.of z.1).tup hy) ?_ ?_
      · rintro i y H3 H4 hi z ⟨rfl, hyi⟩
        obtain ⟨w, hw, len, kind⟩ := each i y hyi
        have stp : ∃ acc, H4 D = some (.lst acc) ∧ acc.length < sizeLine ∧ lcI H D (ws.map V.str) (i + 1) (upd H4 D (.lst (acc ++ [.str w]))) :=
          lc_step hD z.1 z.2 (by rw [List.getElem?_map, hw]; rfl) (by rw [List.length_map]; exact small1000 (by omega))
        rcases kind with rfl | ⟨n, rfl, lg, rfl⟩
        · exact ⟨rfl, iteT (B := True) ⟨_, rfl, .inl ⟨_, rfl, Nat.le_of_lt (small1000 (by omega)), stp⟩⟩⟩
        · exact ⟨rfl, iteT (B := True) ⟨_, rfl, .inr ⟨_, rfl, lg, stp⟩⟩⟩
      · intro H3 z
        obtain ⟨z1, z2⟩ := z.done (by rw [List.length_map, ly])
        have sum : (ws.map (·.length)).sum + ws.length * (" " : Str).length ≤ 16777216 := by
          have e : (" " : Str).length = 1 := by decide +kernel
          rw [e]
          match ws, l2, w8 with
          | [], _, _ => decide
          | [u], _, w8 =>
            have := w8 u List.mem_cons_self
            show u.length + 0 + 1 * 1 ≤ _
            omega
          | [u, u2], _, w8 =>
            have := w8 u List.mem_cons_self
            have := w8 u2 (List.mem_cons_of_mem _ List.mem_cons_self)
            show u.length + (u2.length + 0) + 2 * 1 ≤ _
            omega
          | _ :: _ :: _ :: _, l2, _ => exact absurd l2 (by simp)
        refine ⟨" ", D, ws, rfl, rfl, .inl (SqL.of z2), sum, by show 1 ≤ sizeLine; decide, fun q hq => ?_⟩
        rw [el] at k
        exact k q _ (z1.free hq) (z1.trans (same_new hq)) upd_same
end
end K80
set_option Elab.async false
set_option linter.all false
set_option maxRecDepth 100000
set_option maxHeartbeats 4000000
namespace K80
open PySem L2 VK
open TL (tl)
/-! ### program_lines, program_text -/
theorem StAll.drop_cons {K : Fg} {C : Addr} {H : Hp} {y : V} {r : List V} {l : Sgs} (h : StAll K C H (y :: r) l) : ∃ (x : Sg) (l' : Sgs), l = .cons x l' ∧ StV K C H y x ∧ StAll K C H r l' := by
  cases h with
  | cons h t => exact ⟨_, _, rfl, h, t⟩
section
variable {P : Program} {w : World} {K : Fg} {mg : Str → Option Value} {base : Heap} {C fP fS fT : Addr} {dP dS dT : FuncData}
theorem ok_pl1 {n m : Nat} (hn1 : 2 ≤ n) (c : Cl K mg C) (p1 : Prp P w K mg base C "source" "_source") (p2 : Prp P w K mg base C "stages" "_stages") (DP : Df K mg "program_lines" sPL ["program"] fP dP) (DS : Df K mg "stage_lines" sSL ["stage"] fS dS)
    (G : FnOk P w K mg base CX0 n fS dS ["stage"] (spSL K C m)) : FnOk P w K mg base CX0 (n + 1) fP dP ["program"] (spPL K C m) := by
  obtain ⟨p1, ga1, gd1, po1, G1, gb1⟩ := p1
  obtain ⟨p2, ga2, gd2, po2, G2, gb2⟩ := p2
  refine DP.F.ok scPL (fun vs H Q E h => ?_) (fun cdv B outer s H vs Q E hr h => ?_)
  · obtain ⟨v, g, rfl, _⟩ := h
    rfl
  · obtain ⟨v, g, rfl, hv, ok, hn, k⟩ := h
    have hr1 := hr.mono hn1
    refine ⟨_, pss_cons (ps_set (i := 1) scPL.nd rfl (Or.inl rfl) (pe_lst (pa_cons (pe_op op_add_str pe_str (pe_prop (pv 0) c.cl po1 G1 hr1 gb1 .nil pass0 rfl)) pa_nil)))
      (pss_cons (ps_for PassesOwn.never rfl (pi_tup (pe_prop (pv 0) c.cl po2 G2 hr1 gb2 .nil pass0 rfl)) (pg_name (i := 2) scPL.nd rfl (Or.inl rfl))
        (pss_one (ps_expr (pe_bm PySem.F.plainAttrs_list PySem.F.slot_list_extend PySem.F.type_list_extend mt_extend (pv 1) (pa_cons (pe_call G hr rfl DS.g DS.F.kp DS.b .nil pass0 (pa_cons (pv 2) pa_nil)) pa_nil)))))
      (pss_one (ps_ret (pv 1)))), ?_⟩
    have many := Pg.many28 ok
    cases hv with
    | @mk a dx ts ss s l xs h hs hl hss =>
      have okp : s ∈ K0 ∧ l.len ≤ 6 ∧ l.ok 0 [s] := ok
      have hn : l.nest < m := hn
      refine ⟨_, rfl, _, _, _, rfl, h, _, _, _, _, rfl, h, get_source _ _ _ _, _, _, rfl, rfl, ?_, by show 1 ≤ sizeLine; decide, fun q hq => ?_⟩
      · have e : ("from " : Str).length = 5 := by decide +kernel
        have := (fr_k0 _ okp.1).2.1
        rw [e, sizeLine_eq]
        omega
      have s1 : Same H (upd H q (.lst [.str (("from " : Str) ++ s)])) := same_new hq
      have e1 : upd H q (.lst [.str (("from " : Str) ++ s)]) q = some (.lst [.str (("from " : Str) ++ s)]) := upd_same
      generalize upd H q (.lst [.str (("from " : Str) ++ s)]) = H1 at s1 e1
      refine ⟨_, rfl, _, _, _, rfl, s1 _ _ h, _, _, _, _, rfl, s1 _ _ h, get_stages _ _ _ _, ts, rfl, ⟨_, (Kp.of s1).tup hs⟩, ?_⟩
      refine for_it (walk_tup (xs := xs)) (fun i σ H' => ∃ (ls : List Str) (r : Sgs) (d : Int) (tk : List Str) (v2 : Option V), σ = [some (.ref a), some (.ref q), v2] ∧ Same H H' ∧ H' q = some (.lst (ls.map V.str)) ∧
          StAll K C H (xs.drop i) r ∧ r.ok d tk ∧ r.nest < m ∧ ls ++ r.lines = (Pg.mk s l).lines)
        ⟨[("from " : Str) ++ s], l, 0, [s], none, rfl, s1, e1, hl, okp.2.2, hn, rfl⟩ (fun i σ H' _ z => ?_) ?_ ?_
      · obtain ⟨_, _, _, _, _, _, z, _⟩ := z
        exact (Kp.of z).tup hs
      · rintro i y σ H2 H3 hi ⟨ls, r, d, tk, v2, rfl, s2, e2, st, okr, rn, el⟩ ⟨rfl, hy⟩
        have hd : xs.drop i = y :: xs.drop (i + 1) := by
          rw [List.drop_eq_getElem_cons hi]
          rw [List.getElem?_eq_getElem hi] at hy
          rw [Option.some.inj hy]
        rw [hd] at st
        obtain ⟨x, r', rfl, sx, sr⟩ := st.drop_cons
        have okr : x.ok d tk ∧ r'.ok (x.dep d) (tk ++ x.srcs) := okr
        have rn : max x.nest r'.nest < m := rn
        have m1 := Nat.le_max_left x.nest r'.nest
        have m2 := Nat.le_max_right x.nest r'.nest
        refine ⟨_, rfl, .inl ⟨rfl, _, SqL.of e2⟩, _, rfl, y, x, d, tk, rfl, StV.kp (Kp.of s2) sx, okr.1, by omega, fun b H4 nb s4 e4 => ?_⟩
        have total : (ls ++ (x.lines ++ r'.lines)).length ≤ 28 := by
          rw [show ls ++ (x.lines ++ r'.lines) = (Pg.mk s l).lines from el]
          exact many
        rw [List.length_append, List.length_append] at total
        refine ⟨q, b, _, _, rfl, rfl, s4 _ _ e2, e4, ?_, ?_⟩
        · rw [List.length_map, List.length_map, sizeLine_eq]
          omega
        · refine ⟨ls ++ x.lines, r', _, _, some y, rfl, fun p o e => ?_, ?_, sr, okr.2, by omega, ?_⟩
          · rw [upd_ne (ne_of_none e hq)]
            exact s4 _ _ (s2 _ _ e)
          · rw [upd_same, List.map_append]
          · rw [List.append_assoc]
            exact el
      · rintro σ H2 ⟨ls, r, d, tk, v2, rfl, s2, e2, st, okr, rn, el⟩
        rw [List.drop_length] at st
        cases st
        have el : ls ++ [] = (Pg.mk s l).lines := el
        rw [List.append_nil] at el
        rw [el] at e2
        exact ⟨_, rfl, k q _ hq s2 e2⟩
theorem ok_pl (c : Cl K mg C) (p1 : Prp P w K mg base C "source" "_source") (p2 : Prp P w K mg base C "stages" "_stages") (ti : ∃ t, mg "INDENT" = some (.str "  " t)) (DP : Df K mg "program_lines" sPL ["program"] fP dP) (DS : Df K mg "stage_lines" sSL ["stage"] fS dS) :
    ∀ m : Nat, FnOk P w K mg base CX0 (2 * m + 2) fP dP ["program"] (spPL K C m)
  | 0 => by
    refine DP.F.ok scPL (fun vs H Q E h => ?_) (fun cdv B outer s H vs Q E hr h => ?_)
    · obtain ⟨v, g, rfl, _⟩ := h
      rfl
    · obtain ⟨v, g, rfl, hv, ho, hn, k⟩ := h
      exact absurd hn (Nat.not_lt_zero _)
  | m + 1 => ok_pl1 (by omega) c p1 p2 DP DS (ok_sl c ti DS DP (ok_pl c p1 p2 ti DP DS m))
/-- program_text -/
def Pg.text (g : Pg) : Str := Txt.join "\n" g.lines
def spText (K : Fg) (C : Addr) : Sp := fun vs H Q _ => ∃ (v : V) (g : Pg), vs = [v] ∧ PgAt K C H v g ∧ g.ok ∧ ∀ H', Same H H' → Q (.str g.text) H'
theorem sum_le {n : Nat} : ∀ (ls : List Str), (∀ l ∈ ls, l.length ≤ n) → (ls.map (·.length)).sum ≤ ls.length * n
  | [], _ => Nat.zero_le _
  | l :: r, h => by
    have a := h l List.mem_cons_self
    have b := sum_le r fun x hx => h x (List.mem_cons_of_mem _ hx)
    rw [List.map_cons, List.sum_cons, List.length_cons, Nat.add_mul]
    omega
theorem text_sum {g : Pg} (h : g.ok) : (g.lines.map (·.length)).sum + g.lines.length * ("\n" : Str).length ≤ 16777216 := by
  have n3 := nest_srcs h
  have a := sum_le g.lines (n := 23) fun l hl => by
    have := (Pg.line_ok g h l hl).1
    omega
  have b := Pg.many28 h
  have e : ("\n" : Str).length = 1 := by decide +kernel
  rw [e]
  omega
theorem ok_text (c : Cl K mg C) (p1 : Prp P w K mg base C "source" "_source") (p2 : Prp P w K mg base C "stages" "_stages") (ti : ∃ t, mg "INDENT" = some (.str "  " t)) (DP : Df K mg "program_lines" sPL ["program"] fP dP) (DS : Df K mg "stage_lines" sSL ["stage"] fS dS)
    (DT : Df K mg "program_text" sText ["program"] fT dT) : FnOk P w K mg base CX0 11 fT dT ["program"] (spText K C) := by
  have G : FnOk P w K mg base CX0 10 fP dP ["program"] (spPL K C 4) := ok_pl c p1 p2 ti DP DS 4
  refine DT.F.ok scText (fun vs H Q E h => ?_) (fun cdv B outer s H vs Q E hr h => ?_)
  · obtain ⟨v, g, rfl, _⟩ := h
    rfl
  · obtain ⟨v, g, rfl, hv, ok, k⟩ := h
    refine ⟨_, pss_one (ps_ret (pe_join pe_str (pe_call G hr rfl DP.g DP.F.kp DP.b .nil pass0 (pa_cons (pv 0) pa_nil)))), ?_⟩
    refine ⟨⟨_, rfl⟩, _, rfl, v, g, rfl, hv, ok, Pg.nest4 ok, fun q H' nq s1 e1 => ⟨"\n", q, g.lines, rfl, rfl, .inl (SqL.of e1), text_sum ok, k H' s1⟩⟩
end
end K80
set_option Elab.async false
set_option linter.all false
set_option maxRecDepth 100000
set_option maxHeartbeats 4000000
/-! a walk whatever is done in its turns (comprehensions of two clauses) -/
namespace VK
open PySem PySem.Spec PyProof.Rows L2
theorem it_gen {J : It} {n : Nat} {G : Hp → Prop} {Y : Nat → Hp → V → Hp → Prop} (w : Walk J n G Y) {H0 : Hp} {B : (Hp → Prop) → V → Hp → Prop} {Qd : Hp → Prop} (Pv : Nat → Hp → Prop) (h0 : Pv 0 H0) (hG : ∀ i H, i ≤ n → Pv i H → G H)
    (hs : ∀ i x H H', i < n → Pv i H → Y i H x H' → B (Pv (i + 1)) x H') (hd : ∀ H, Pv n H → Qd H) :
    ∃ W : Nat → Nat → Hp → Prop, (∃ m, W 0 m H0) ∧ ∀ i m H, W i m H →
      (J.stop i H ∧ Qd H) ∨ (J.go i H ∧ ∃ Nx : Hp → Prop, (∀ H', Nx H' → ∃ m', m' < m ∧ W (i + 1) m' H') ∧ ∀ x H', J.yld i H x H' → B Nx x H') := by
  refine ⟨fun i m H => m = n - i ∧ i ≤ n ∧ Pv i H, ⟨n, by simp, Nat.zero_le _, h0⟩, ?_⟩
  rintro i m H ⟨rfl, hi, p⟩
  have q := hG i H hi p
  by_cases hlt : i < n
  · exact .inr ⟨w.goes i H hlt q, Pv (i + 1), fun H' p' => ⟨n - (i + 1), by omega, rfl, hlt, p'⟩, fun x H' y => hs i x H H' hlt p (w.yields i H x H' hlt q y)⟩
  · have e : i = n := by omega
    subst e
    exact .inl ⟨w.stops H q, hd H p⟩
end VK
set_option Elab.async false
set_option linter.all false
set_option maxRecDepth 100000
set_option maxHeartbeats 4000000
namespace K80
open PySem L2 VK
open TL (tl)
/-! ### the reader -/
abbrev sRInit : Stmt := inClass (top 32) 0
abbrev sFree : Stmt := inClass (top 32) 1
abbrev sRLine : Stmt := inClass (top 32) 2
abbrev sRSrc : Stmt := inClass (top 32) 3
abbrev sRStg : Stmt := inClass (top 32) 4
abbrev sRZip : Stmt := inClass (top 32) 5
abbrev sClose : Stmt := inClass (top 32) 6
abbrev sAll : Stmt := inClass (top 32) 7
abbrev sWords : Stmt := top 31
abbrev sFollow : Stmt := top 33
abbrev sRead : Stmt := top 34
theorem scRInit : FnScope ["self"] ["self"] (defScope sRInit) := ⟨rfl, rfl, rfl, by decide +kernel, rfl, by decide +kernel, by decide +kernel⟩
theorem scFree : FnScope ["self", "taken", "program", "source"] ["self"] (defScope sFree) := ⟨rfl, rfl, rfl, by decide +kernel, rfl, by decide +kernel, by decide +kernel⟩
theorem scRLine : FnScope ["self", "line", "words", "blanks", "depth"] ["self", "line"] (defScope sRLine) := ⟨rfl, rfl, rfl, by decide +kernel, rfl, by decide +kernel, by decide +kernel⟩
theorem scRSrc : FnScope ["self", "words"] ["self", "words"] (defScope sRSrc) := ⟨rfl, rfl, rfl, by decide +kernel, rfl, by decide +kernel, by decide +kernel⟩
theorem scRStg : FnScope ["self", "words", "stage"] ["self", "words"] (defScope sRStg) := ⟨rfl, rfl, rfl, by decide +kernel, rfl, by decide +kernel, by decide +kernel⟩
theorem scRZip : FnScope ["self", "free"] ["self"] (defScope sRZip) := ⟨rfl, rfl, rfl, by decide +kernel, rfl, by decide +kernel, by decide +kernel⟩
theorem scClose : FnScope ["self", "inner"] ["self"] (defScope sClose) := ⟨rfl, rfl, rfl, by decide +kernel, rfl, by decide +kernel, by decide +kernel⟩
theorem scAll : FnScope ["self"] ["self"] (defScope sAll) := ⟨rfl, rfl, rfl, by decide +kernel, rfl, by decide +kernel, by decide +kernel⟩
theorem scWords : FnScope ["words"] ["words"] (defScope sWords) := ⟨rfl, rfl, rfl, by decide +kernel, rfl, by decide +kernel, by decide +kernel⟩
theorem scFollow : FnScope ["program", "stage"] ["program", "stage"] (defScope sFollow) := ⟨rfl, rfl, rfl, by decide +kernel, rfl, by decide +kernel, by decide +kernel⟩
theorem scRead : FnScope ["text", "reader", "lines", "at", "line"] ["text"] (defScope sRead) := ⟨rfl, rfl, rfl, by decide +kernel, rfl, by decide +kernel, by decide +kernel⟩
/-- a method -/
structure Mt (K : Fg) (CR : Addr) (name qual : Str) (st : Stmt) (ps : List Str) (f : Addr) (fd : FuncData) : Prop where
  m : Meth K CR name f
  F : Fun K name qual st f fd
  b : Binds K fd ps []
/-- the class -/
structure Rc (K : Fg) (mg : Str → Option Value) (CR : Addr) (R : Nat → Addr) (S : Nat → FuncData) : Prop where
  g : mg "Reader" = some (.ref CR)
  ky : Mk K CR (R 0)
  F0 : Fun K "__init__" "Reader.__init__" sRInit (R 0) (S 0)
  b0 : Binds K (S 0) ["self"] []
  cl : Cls K CR
  n1 : NoAttr K CR "programs"
  n2 : NoAttr K CR "opens"
  m1 : Mt K CR "free_sources" "Reader.free_sources" sFree ["self"] (R 1) (S 1)
  m2 : Mt K CR "read_line" "Reader.read_line" sRLine ["self", "line"] (R 2) (S 2)
  m3 : Mt K CR "read_source" "Reader.read_source" sRSrc ["self", "words"] (R 3) (S 3)
  m4 : Mt K CR "read_stage" "Reader.read_stage" sRStg ["self", "words"] (R 4) (S 4)
  m5 : Mt K CR "read_zip" "Reader.read_zip" sRZip ["self"] (R 5) (S 5)
  m6 : Mt K CR "close" "Reader.close" sClose ["self"] (R 6) (S 6)
  m7 : Mt K CR "all_read" "Reader.all_read" sAll ["self"] (R 7) (S 7)
/-- its fields -/
def rf (l : Addr) (b : Bool) : List (Str × V) := putF "opens" (.bl b) (putF "programs" (.ref l) [])
theorem r1 : ¬ (("opens" : Str) = "programs") := by decide +kernel
theorem r2 : ¬ (("programs" : Str) = "opens") := by decide +kernel
theorem rf_eq (l : Addr) (b : Bool) : rf l b = [(("programs" : Str), V.ref l), (("opens" : Str), V.bl b)] := by
  unfold rf putF
  show putF _ _ [(("programs" : Str), V.ref l)] = _
  unfold putF
  rw [if_neg r2]
  rfl
theorem get_p (l : Addr) (b : Bool) : (rf l b).lookup ("programs" : Str) = some (.ref l) := by
  unfold rf
  rw [lookup_putF, if_neg r2, lookup_putF, if_pos rfl]
theorem get_o (l : Addr) (b : Bool) : (rf l b).lookup ("opens" : Str) = some (.bl b) := by
  unfold rf
  rw [lookup_putF, if_pos rfl]
theorem put_o (l : Addr) (b c : Bool) : putF "opens" (.bl c) (rf l b) = rf l c := by
  rw [rf_eq, rf_eq]
  unfold putF
  rw [if_neg r2]
  unfold putF
  rw [if_pos rfl]
theorem rf_len (l : Addr) (b : Bool) : (rf l b).length < 1000 := by
  rw [rf_eq]
  show 2 < 1000
  decide
theorem rf_no {l : Addr} {b : Bool} {m : Str} (h1 : m ≠ "programs") (h2 : m ≠ "opens") : (rf l b).lookup m = none := by
  unfold rf
  rw [lookup_putF, if_neg h2, lookup_putF, if_neg h1]
  rfl
inductive PgAll (K : Fg) (C : Addr) (H : Hp) : List V → List Pg → Prop where
  | nil : PgAll K C H [] []
  | cons {v : V} {vs : List V} {p : Pg} {ps : List Pg} (h : PgAt K C H v p) (t : PgAll K C H vs ps) : PgAll K C H (v :: vs) (p :: ps)
theorem PgAll.kp {K : Fg} {C : Addr} {H H' : Hp} {vs : List V} {ps : List Pg} (h : PgAll K C H vs ps) (k : Kp H H') : PgAll K C H' vs ps := by
  induction h with
  | nil => exact .nil
  | cons h _ ih => exact .cons (PgAt.kp k h) ih
theorem PgAll.len {K : Fg} {C : Addr} {H : Hp} {vs : List V} {ps : List Pg} (h : PgAll K C H vs ps) : vs.length = ps.length := by
  induction h with
  | nil => rfl
  | cons h _ ih => rw [List.length_cons, List.length_cons, ih]
theorem PgAll.app {K : Fg} {C : Addr} {H : Hp} {vs vs' : List V} {ps ps' : List Pg} (h : PgAll K C H vs ps) (h' : PgAll K C H vs' ps') : PgAll K C H (vs ++ vs') (ps ++ ps') := by
  induction h with
  | nil => exact h'
  | cons h _ ih => exact .cons h ih
theorem PgAll.rev {K : Fg} {C : Addr} {H : Hp} {vs : List V} {ps : List Pg} (h : PgAll K C H vs ps) : PgAll K C H vs.reverse ps.reverse := by
  induction h with
  | nil => exact .nil
  | cons h _ ih =>
    rw [List.reverse_cons, List.reverse_cons]
    exact ih.app (.cons h .nil)
theorem PgAll.get {K : Fg} {C : Addr} {H : Hp} {vs : List V} {ps : List Pg} (h : PgAll K C H vs ps) : ∀ {i : Nat} {v : V}, vs[i]? = some v → ∃ p, ps[i]? = some p ∧ PgAt K C H v p := by
  induction h with
  | nil =>
    intro i v e
    simp at e
  | @cons v0 vs p ps h _ ih =>
    intro i v e
    cases i with
    | zero =>
      rw [List.getElem?_cons_zero] at e
      cases e
      exact ⟨p, rfl, h⟩
    | succ i =>
      rw [List.getElem?_cons_succ] at e
      obtain ⟨q, hq, hv⟩ := ih e
      exact ⟨q, by rw [List.getElem?_cons_succ]; exact hq, hv⟩
/-- a reader: innermost program first -/
structure Rd8 (K : Fg) (C CR : Addr) (H : Hp) (a l : Addr) (vs : List V) (ps : List Pg) (b : Bool) : Prop where
  at_ : ∃ dx, H a = some (.ins CR dx (rf l b))
  ls : H l = some (.lst vs.reverse)
  pg : PgAll K C H vs ps
  few : ps.length ≤ 4
  ok : ∀ p ∈ ps, p.ok
theorem Rd8.same {K : Fg} {C CR : Addr} {H H' : Hp} {a l : Addr} {vs : List V} {ps : List Pg} {b : Bool} (h : Rd8 K C CR H a l vs ps b) (s : Same H H') : Rd8 K C CR H' a l vs ps b := by
  obtain ⟨⟨dx, e⟩, l1, pg, few, ok⟩ := h
  exact ⟨⟨dx, s _ _ e⟩, s _ _ l1, pg.kp (Kp.of s), few, ok⟩
theorem Rd8.ne {K : Fg} {C CR : Addr} {H : Hp} {a l : Addr} {vs : List V} {ps : List Pg} {b : Bool} (h : Rd8 K C CR H a l vs ps b) : a ≠ l := fun z => by
  obtain ⟨dx, e⟩ := h.at_
  rw [z, h.ls] at e
  cases e
/-- the sources that are free -/
def free (ps : List Pg) : List Str := K0.filter fun s => decide (∀ p ∈ ps, s ∉ p.srcs)
theorem mem_free {ps : List Pg} {s : Str} : s ∈ free ps ↔ s ∈ K0 ∧ ∀ p ∈ ps, s ∉ p.srcs := by
  unfold free
  rw [List.mem_filter, decide_eq_true_eq]
theorem free_len (ps : List Pg) : (free ps).length ≤ 4 := List.length_filter_le _ _
def spFree (K : Fg) (C CR : Addr) : Sp := fun vs H Q _ => ∃ (a l : Addr) (ws : List V) (ps : List Pg) (b : Bool), vs = [.ref a] ∧ Rd8 K C CR H a l ws ps b ∧
  ∀ (q : Addr) (H' : Hp), H q = none → Same H H' → H' q = some (.lst ((free ps).map V.str)) → Q (.ref q) H'
end K80
set_option Elab.async false
set_option linter.all false
set_option maxRecDepth 100000
set_option maxHeartbeats 4000000
namespace K80
open PySem L2 VK
open TL (tl)
def spRInit (CR : Addr) : Sp := fun vs H Q _ => ∃ (a dx : Addr), vs = [.ref a] ∧ H a = some (.ins CR dx []) ∧
  ∀ (l : Addr) (H' : Hp), H l = none → Bx a H H' → H' a = some (.ins CR dx (rf l true)) → H' l = some (.lst []) → Q .non H'
/-- sources met so far -/
def srcsTo (qs : List Pg) (i : Nat) : List Str := ((qs.take i).map Pg.srcs).flatten
theorem srcsTo_succ {qs : List Pg} {i : Nat} {p : Pg} (h : qs[i]? = some p) : srcsTo qs (i + 1) = srcsTo qs i ++ p.srcs := by
  unfold srcsTo
  rw [List.take_add_one, h]
  simp
theorem srcsTo_len {qs : List Pg} (ok : ∀ p ∈ qs, p.ok) (i : Nat) : (srcsTo qs i).length ≤ 4 * qs.length := by
  unfold srcsTo
  have h : ∀ ps : List Pg, (∀ p ∈ ps, p.ok) → ((ps.map Pg.srcs).flatten).length ≤ 4 * ps.length := by
    intro ps
    induction ps with
    | nil => intro _; exact Nat.zero_le _
    | cons p ps ih =>
      intro h
      have a := Pg.few (h p List.mem_cons_self)
      have b := ih fun q hq => h q (List.mem_cons_of_mem _ hq)
      rw [List.map_cons, List.flatten_cons, List.length_append, List.length_cons]
      omega
  refine Nat.le_trans (h _ fun p hp => ok p (List.mem_of_mem_take hp)) ?_
  rw [List.length_take]
  omega
theorem mem_srcsAll {ps : List Pg} {s : Str} : s ∈ srcsTo ps.reverse ps.length ↔ ∃ p ∈ ps, s ∈ p.srcs := by
  unfold srcsTo
  rw [List.take_of_length_le (by rw [List.length_reverse]; exact Nat.le_refl _), List.mem_flatten]
  constructor
  · rintro ⟨l, hl, hs⟩
    obtain ⟨p, hp, rfl⟩ := List.mem_map.mp hl
    exact ⟨p, List.mem_reverse.mp hp, hs⟩
  · rintro ⟨p, hp, hs⟩
    exact ⟨_, List.mem_map.mpr ⟨p, List.mem_reverse.mpr hp, rfl⟩, hs⟩
theorem free_eq (ps : List Pg) : free ps = K0.filter fun s => !decide (s ∈ srcsTo ps.reverse ps.length) := by
  unfold free
  refine List.filter_congr fun s _ => ?_
  have : (∀ p ∈ ps, s ∉ p.srcs) ↔ ¬ s ∈ srcsTo ps.reverse ps.length := by
    rw [mem_srcsAll]
    constructor
    · rintro h ⟨p, hp, hs⟩
      exact h p hp hs
    · exact fun h p hp hs => h ⟨p, hp, hs⟩
  by_cases h : s ∈ srcsTo ps.reverse ps.length
  · rw [decide_eq_false (fun z => this.mp z h), decide_eq_true h]
    rfl
  · rw [decide_eq_true (this.mpr h), decide_eq_false h]
    rfl
section
variable {P : Program} {w : World} {K : Fg} {mg : Str → Option Value} {base : Heap} {C CR : Addr} {R : Nat → Addr} {S : Nat → FuncData}
theorem ok_rinit (Y : Rc K mg CR R S) : FnOk P w K mg base CX0 1 (R 0) (S 0) ["self"] (spRInit CR) := by
  refine Y.F0.ok scRInit (fun vs H Q E h => ?_) (fun cdv B outer s H vs Q E hr h => ?_)
  · obtain ⟨a, dx, rfl, _⟩ := h
    rfl
  · obtain ⟨a, dx, rfl, ha, k⟩ := h
    refine ⟨_, pss_cons (ps_fld (pv 0) (pe_lst pa_nil) rfl) (pss_one (ps_fld (pv 0) pe_bl rfl)), ?_⟩
    refine ⟨by show 0 ≤ sizeLine; decide, fun l hl => ?_⟩
    have s1 : Same H (upd H l (.lst [])) := same_new hl
    have e1 : upd H l (.lst []) l = some (.lst []) := upd_same
    generalize upd H l (.lst []) = H1 at s1 e1
    have la : l ≠ a := fun z => by rw [z, ha] at hl; cases hl
    refine ⟨_, rfl, a, CR, dx, _, rfl, s1 _ _ ha, Y.cl, Y.n1, by decide, ?_⟩
    have b2 : Bx a H1 (upd H1 a (.ins CR dx (putF "programs" (.ref l) []))) := Bx.upd
    have e2 : upd H1 a (.ins CR dx (putF "programs" (.ref l) [])) a = some (.ins CR dx (putF "programs" (.ref l) [])) := upd_same
    generalize upd H1 a (.ins CR dx (putF "programs" (.ref l) [])) = H2 at b2 e2
    refine ⟨_, rfl, a, CR, dx, _, rfl, e2, Y.cl, Y.n2, Nat.lt_of_le_of_lt (len_put (n := 0) (Nat.le_refl 0)) (by decide), ?_⟩
    exact k l _ hl (((Bx.of s1).trans b2).trans Bx.upd) upd_same (by rw [upd_ne la]; exact b2 _ _ la e1)
theorem ok_free {aS a1 a2 : Addr} (Y : Rc K mg CR R S) (c : Cl K mg C) (Z : Cst K mg aS a1 a2) (p3 : Prp P w K mg base C "sources" "_sources") : FnOk P w K mg base CX0 3 (R 1) (S 1) ["self"] (spFree K C CR) := by
  obtain ⟨p3, ga3, gd3, po3, G3, gb3⟩ := p3
  refine Y.m1.F.ok scFree (fun vs H Q E h => ?_) (fun cdv B outer s H vs Q E hr h => ?_)
  · obtain ⟨a, l, ws, ps, b, rfl, _⟩ := h
    rfl
  · obtain ⟨a, l, ws, ps, b, rfl, hR, k⟩ := h
    have hr2 := hr
    refine ⟨_, pss_cons (ps_set (i := 1) scFree.nd rfl (Or.inr rfl) (pe_lc2 (own := [("program", 2), ("source", 3)]) (vs1 := [3]) (g := gName 2) (tt := tYes) (g1 := gName 3) (tt1 := tYes) (wi1 := iTup K (tProp C (getSp C "_sources") [] E0 (tVar 2))) (te := tVar 3) rfl scFree.nd
        (pi_list (pe_fld (pv 0) rfl)) (blkOk_by (N := ["self", "taken", "program", "source"]) (sc := defScope sFree) (by decide +kernel)) (by decide)
        (fun _ _ _ _ _ => pg_name (i := 2) scFree.nd rfl (Or.inl rfl)) (fun _ _ _ _ _ => pts_nil)
        (fun _ _ _ _ _ => by exact pi_tup (pe_prop (pv 2) c.cl po3 G3 hr2 gb3 .nil pass0 rfl)) (fun _ _ _ _ _ => pg_name (i := 3) scFree.nd rfl (Or.inl rfl)) (fun _ _ _ _ _ => pts_nil) (fun _ _ _ _ _ => by exact pv 3)))
      (pss_one (ps_ret (pe_lc (own := [("source", 3)]) (g := gName 3) (tt := tTest (tOp (rIn K true) (tVar 3) (tVar 1))) (te := tVar 3) rfl scFree.nd (pi_tup (pe_glob (v := .ref aS) rfl Z.gS rfl)) (blkOk_by (N := ["self", "taken", "program", "source"]) (sc := defScope sFree) (by decide +kernel))
        (fun _ _ _ _ _ => pg_name (i := 3) scFree.nd rfl (Or.inl rfl)) (fun _ _ _ _ _ => by exact pts_one (pt_cmpR op_notIn_seq (pv 3) (pv 1) rfl)) (fun _ _ _ _ _ => by exact pv 3)))), ?_⟩
    obtain ⟨⟨dx, ha⟩, hl, pg, few, okp⟩ := hR
    refine ⟨_, rfl, a, CR, dx, _, _, rfl, ha, Y.cl, Y.n1, get_p _ _, l, rfl, ⟨_, SqL.of hl⟩, fun D hD => ?_⟩
    have pgr := pg.rev
    have lenr : ps.reverse.length ≤ 4 := by rw [List.length_reverse]; exact few
    have okr : ∀ p ∈ ps.reverse, p.ok := fun p hp => okp p (List.mem_reverse.mp hp)
    have lw := pg.len
    refine it_gen (walk_list (xs := ws.reverse)) (fun i H' => Same H H' ∧ H' D = some (.lst ((srcsTo ps.reverse i).map V.str))) ⟨same_new hD, upd_same⟩ (fun i H' _ z => z.1.seq (SqL.of hl)) ?_ ?_
    · rintro i y H2 H3 hi ⟨s2, e2⟩ ⟨rfl, hy⟩
      obtain ⟨p, hp, hv⟩ := pgr.get hy
      have pk := PgAt.kp (Kp.of s2) hv
      have hpm : p ∈ ps.reverse := List.mem_of_getElem? hp
      refine ⟨rfl, iteT (B := True) ?_⟩
      cases hv with
      | @mk pa dx ts ss s0 sl xs h1 h2 h3 h4 =>
        refine ⟨_, rfl, _, _, _, rfl, s2 _ _ h1, _, _, _, _, rfl, s2 _ _ h1, get_sources _ _ _ _, ss, rfl, ⟨_, (Kp.of s2).tup h4⟩, ?_⟩
        refine it_gen (walk_tup (xs := (s0 :: sl.srcs).map V.str)) (fun j H' => Same H H' ∧ H' D = some (.lst ((srcsTo ps.reverse i ++ (s0 :: sl.srcs).take j).map V.str))) ⟨s2, by rw [List.take_zero, List.append_nil]; exact e2⟩ (fun j H' _ z => (Kp.of z.1).tup h4) ?_ ?_
        · rintro j x H4 H5 hj ⟨s4, e4⟩ ⟨rfl, hx⟩
          obtain ⟨z, hz, rfl⟩ := map_get hx
          refine ⟨rfl, iteT (B := True) ⟨_, rfl, _, e4, ?_, ?_, ?_⟩⟩
          · have a1 := srcsTo_len okr i
            have a2 := Pg.few (okr _ hpm)
            have a2 : (s0 :: sl.srcs).length ≤ 4 := a2
            rw [List.length_map, List.length_append, List.length_take]
            exact small1000 (by omega)
          · intro b o e
            rw [upd_ne (ne_of_none e hD)]
            exact s4 _ _ e
          · rw [upd_same, List.take_add_one, hz]
            simp
        · rintro H4 ⟨s4, e4⟩
          refine ⟨s4, ?_⟩
          rw [srcsTo_succ hp, e4, List.length_map, List.take_length]
          rfl
    rintro H2 ⟨s2, e2⟩
    rw [List.length_reverse, lw] at e2
    generalize hT : srcsTo ps.reverse ps.length = T at e2
    refine ⟨_, rfl, ⟨_, Z.hS _⟩, fun D2 hD2 => ?_⟩
    refine lc_it (walk_tup (xs := K0.map V.str)) (fun i H' => Same H2 H' ∧ H' D2 = some (.lst (((K0.take i).filter fun s => !decide (s ∈ T)).map V.str))) ⟨same_new hD2, upd_same⟩ (fun i H' _ z => Z.hS _) ?_ ?_
    · rintro i y H3 H4 hi ⟨s3, e3⟩ ⟨rfl, hy⟩
      obtain ⟨z, hz, rfl⟩ := map_get hy
      have stp : (K0.take (i + 1)).filter (fun s => !decide (s ∈ T)) = (K0.take i).filter (fun s => !decide (s ∈ T)) ++ (if (!decide (z ∈ T)) = true then [z] else []) := by
        rw [List.take_add_one, hz, List.filter_append]
        congr 1
        show List.filter _ [z] = _
        rw [List.filter_cons, List.filter_nil]
      refine ⟨rfl, _, rfl, _, rfl, D, _, rfl, .inl (SqL.of (s3 _ _ e2)), rfl, all_flat _, _, rfl, ?_⟩
      rw [show inV (.str z) (T.map V.str) = decide (z ∈ T) from in_dec z T]
      by_cases hm : z ∈ T
      · rw [decide_eq_true hm] at stp ⊢
        refine iteF (A := True) ⟨s3, ?_⟩
        rw [e3, stp]
        show _ = some (HO.lst ((_ ++ []).map V.str))
        rw [List.append_nil]
      · rw [decide_eq_false hm] at stp ⊢
        refine iteT (B := True) ⟨_, rfl, _, e3, ?_, ?_, ?_⟩
        · rw [List.length_map]
          refine small1000 (Nat.le_trans (List.length_filter_le _ _) ?_)
          rw [List.length_take]
          have : K0.length = 4 := rfl
          omega
        · intro b o e
          rw [upd_ne (ne_of_none e hD2)]
          exact s3 _ _ e
        · rw [upd_same, stp, List.map_append]
          rfl
    · rintro H3 ⟨s3, e3⟩
      have e3 : H3 D2 = some (.lst ((K0.filter fun s => !decide (s ∈ T)).map V.str)) := e3
      refine k D2 H3 (s2.free hD2) (s2.trans s3) ?_
      rw [free_eq, hT]
      exact e3
end
end K80
set_option Elab.async false
set_option linter.all false
set_option maxRecDepth 100000
set_option maxHeartbeats 4000000
/-! several clauses, each with a name for the error -/
namespace VK
open PySem PySem.Spec PyProof.Rows L2
abbrev Cls1 := Value × (Addr → Value → Option Addr → TS)
def wEach (K : PySem.W.Frag) (Wo : WX) (i : Nat) (D : Ends) : List Cls1 → WX
  | [] => Wo
  | h :: r => wAs K h.1 i h.2 (wEach K Wo i D r) D
inductive Clauses (X : Cx) (n : Str) : List ExceptHandler → List Cls1 → Prop
  | nil : Clauses X n [] []
  | cons {x : Str} {c : Value} {ts : Addr → Value → Option Addr → TS} {b0 : Stmt} {bs : List Stmt} {p1 p2 : Pos} {hs : List ExceptHandler} {l : List Cls1} (hc : Names X x c)
      (hb : ∀ (a : Addr) (oe : Obj) (cls : Value) (d : Option Addr) (pn : List (Addr × Obj)), Zc cls d oe → (∃ vs, oe.data = .fields vs) → PSs (X.suite a ((a, oe) :: pn)) (b0 :: bs) (ts a cls d)) (r : Clauses X n hs l) :
      Clauses X n (.ExceptHandler (some (.Name x p1)) (some n) (b0 :: bs) p2 :: hs) ((c, ts) :: l)
section
variable {X : Cx} {n : Str} {i : Nat} {body : List Stmt} {e1 : ExceptHandler} {es : List ExceptHandler} {l : List Cls1} {pos : Pos} {tb : WX → TS} {Wo : WX}
/-- an error that has been met: what is known of its object -/
structure Met (X : Cx) (a : Addr) (cls : Value) (d : Option Addr) (s : Shared) (B : Heap) (σ : L2.St) (H : Hp) (pins : List (Addr × Obj)) (sI : Shared) : Prop where
  inv : Inv X pins σ H sI
  nb : ∀ b o, sI.heap.get? b = some o → b ∉ frs X.stack → B.get? b = some o
  os : s.os = sI.os
  ag : AllBare s.gens
  na : H a = none
  nL : a ≠ X.env.locals
  nF : a ∉ X.fs
theorem each_step (hs : X.stack = X.env :: X.outer) (hf : X.env.frame = some X.env.locals) (hN : X.N.Nodup) (hi : X.N[i]? = some n) (hl : X.env.kindOf n = some .local) (tk : Takes X Wo) {D : Ends} {a : Addr} {cls : Value} {d : Option Addr} {s : Shared} {B : Heap} {σ : L2.St} {H : Hp}
    {pins : List (Addr × Obj)} {sI : Shared} (M : Met X a cls d s B σ H pins sI) (up : sI.heap.UpToSlots s.heap) (fl : HandSPX.FlyingZ B (X.env :: X.outer) a (Zc cls d) s.heap) :
    ∀ {es : List ExceptHandler} {l : List Cls1}, Clauses X n es l → wEach X.K Wo i D l cls d σ H → wpAny (model X.prog X.w) X.A (handleBy (.ref a) X.env es) (SP X pins D) X.xe s := by
  intro es l hk
  have J := M.inv.landed M.nb fl.1 up M.os M.ag
  obtain ⟨oe, vs, he, hz, hd⟩ := fl.there
  have S := J.suite he hd M.na M.nL M.nF
  induction hk with
  | nil =>
    intro w
    obtain ⟨k1, k2, k3, o2, v2, T, oT, t2, he2, hz2, hd2, h1, hr⟩ := id fl
    have out : wpAny (model X.prog X.w) X.A (setFlight (.ref a) X.env.frame) (fun _ s4 => wpAny (model X.prog X.w) X.A (throw (.ref a) : Sem Flow) (SP X pins D) X.xe s4) X.xe s := by
      rw [hf]
      refine HandSPX.setFlight_upZ fl fun h4 hh4 up4 => ?_
      refine wpAny_throw (tk _ _ ?_)
      exact ⟨a, B, sI, pins, σ, H, cls, d, rfl, M.inv, M.nb, up.trans up4, .inr (.inr (by rw [hs]; exact hh4)), M.na, M.os, M.ag, w⟩
    refine wpAny_handleBy_nil (wpAny_bind (wpAny_field he2 hd2 h1 ?_))
    rw [if_neg (by simp : ¬ ((Value.ref T == Value.none) = true))]
    first
      | exact wpAny_bind (wpAny_pure (wpAny_bind out))
      | exact wpAny_bind out
  | @cons x c ts b0 bs p1 p2 hs2 l2 hc hb r ih =>
    rintro ⟨b, hm, yes, no⟩
    have ty : PySem.W.Looks (model X.prog X.w) s.heap (typeOf (.ref a)) cls := fun A Q E s k q => wpAny_typeOf_ref (k _ _ he) (by rw [hz.1]; exact q)
    have lm := PySem.W.exm_one (M := model X.prog X.w) J.kIn ty hm
    have named : ∀ {Q : Value → Shared → Prop} {E : Value → Shared → Prop}, Q c s → wpAny (model X.prog X.w) (X.A.mark (some (.ref a))) (eval (.Name x p1) X.env) Q E s := fun {Q E} q => by
      obtain ⟨hg, db, g | ⟨g, hv, nn⟩⟩ := hc
      · exact ld_glob (X := X.suite a ((a, oe) :: (X.pn ++ pins))) S hg g q db
      · exact ld_blt (X := X.suite a ((a, oe) :: (X.pn ++ pins))) S hg g hv q nn db
    refine wpAny_handleBy_cons (codeAny_handlers_test (named (lm.here ?_))) (by intro q; cases q)
    cases b with
    | false => exact ih (no rfl)
    | true =>
      refine codeAny_handlers_suite_as (HandSPX.lands_againZ fl fun h4 fl4 up4 => ?_)
      have J4 : Inv X pins σ H { s with heap := h4 } := M.inv.landed M.nb fl4.1 (up.trans up4) M.os M.ag
      obtain ⟨o4, v4, he4, hz4, hd4⟩ := fl4.there
      have S4 := J4.suite he4 hd4 M.na M.nL M.nF
      refine store_ok (X := X.suite a ((a, o4) :: (X.pn ++ pins))) (v := .ref a) S4 hN hi (.inl hl) rfl (fun s5 S5 => ?_) (.inr hl)
      refine wpAny_mono ((hb a o4 cls d (X.pn ++ pins) hz4 ⟨_, hd4⟩).run [] s5 _ H _ S5 (yes rfl a M.na)) (fun f s6 sp => ?_) (fun _ _ z => False.elim z)
      have gone : ∀ {σ6 : L2.St} {H6 : Hp} {Q : Shared → Prop}, Inv (X.suite a ((a, o4) :: (X.pn ++ pins))) [] σ6 H6 s6 → (∀ s7, Inv X pins (σ6.set i none) H6 s7 → Q s7) →
          wpAny (model X.prog X.w) X.A (do bindName X.env n .none; unbindBehindTheSuite X.env n p2) (fun _ s7 => Q s7) X.xe s6 := fun {σ6 H6 Q} S6 hq => gone_ok (S6.unsuite M.inv.ok) hN hi hl hq
      cases f with
      | ret u =>
        obtain ⟨v6, σ6, H6, S6, r6, q6⟩ := sp
        exact gone S6 fun s7 J7 => ⟨_, _, _, J7, r6, q6⟩
      | next =>
        obtain ⟨σ6, H6, S6, q6⟩ := sp
        exact gone S6 fun s7 J7 => ⟨_, _, J7, q6⟩
      | brk =>
        obtain ⟨σ6, H6, S6, q6⟩ := sp
        exact gone S6 fun s7 J7 => ⟨_, _, J7, q6⟩
      | cont =>
        obtain ⟨σ6, H6, S6, q6⟩ := sp
        exact gone S6 fun s7 J7 => ⟨_, _, J7, q6⟩
theorem ps_try_each (hs : X.stack = X.env :: X.outer) (hf : X.env.frame = some X.env.locals) (hN : X.N.Nodup) (hi : X.N[i]? = some n) (hl : X.env.kindOf n = some .local) (tk : Takes X Wo)
    (hb : ∀ (W : WX) (pn : List (Addr × Obj)) (xe : Value → Shared → Prop), Takes (X.tr pn xe) W → PassesOwn (model X.prog X.w) X.A X.env xe → PSs (X.tr pn xe) body (tb W))
    (hc : Clauses X n (e1 :: es) l) : PS X (.Try body (e1 :: es) [] [] pos) (fun D σ H => tb (wEach X.K Wo i D l) D σ H) := by
  refine ⟨fun pins s σ H D I h => wpAny_Try_except ?_⟩
  have ok := I.ok
  have fr : X.A.frames = some (X.env :: X.outer) := ok.frames.trans (by rw [hs])
  refine wpAny_mono ((hb (wEach X.K Wo i D l) (X.pn ++ pins) (fun e s₁ => wpAny (model X.prog X.w) X.A (noteFrame e X.env) (fun _ s₂ => wpAny (model X.prog X.w) X.A (setFlight e none) (fun _ s₃ =>
    wpAny (model X.prog X.w) X.A (handleBy e X.env (e1 :: es)) (SP X pins D) X.xe s₃) X.xe s₂) X.xe s₁) (fun u s' xx => ?_) PassesOwn.looking).run [] s σ H D (I.toTry _) h) (fun f s1 sp => ?_) (fun e s1 he => he)
  · obtain ⟨a, B, sI, pins', σ', H', cls, d, rfl, J', nb, up, sky, na, os, ag, w⟩ := xx
    have J : Inv X pins σ' H' sI := J'.ofTry ok
    have sk : Sky B (X.env :: X.outer) a (Zc cls d) X.env.locals s'.heap := by rw [← hs]; exact sky
    show wpAny (model X.prog X.w) X.A (noteFrame (.ref a) X.env) _ _ _
    refine Sky.land Zc.steady fr hf sk fun h3 fl up3 => ?_
    obtain ⟨oe, vs, he, hz, hd⟩ := fl.there
    have nfr : a ∉ frs (X.env :: X.outer) := fun hm => by
      obtain ⟨_, o', e', nf⟩ := fl.2.2.1.mem hm
      rw [he] at e'
      cases e'
      exact nf _ hd
    have nL : a ≠ X.env.locals := fun z => nfr (List.mem_filterMap.mpr ⟨X.env, List.mem_cons_self, by rw [hf, z]⟩)
    have nF : a ∉ X.fs := fun hm => by
      obtain ⟨e, he', q⟩ := List.mem_filterMap.mp hm
      exact nfr (List.mem_filterMap.mpr ⟨e, List.mem_cons_of_mem _ he', q⟩)
    exact each_step (s := { s' with heap := h3 }) hs hf hN hi hl tk ⟨J, nb, os, ag, na, nL, nF⟩ (up.trans up3) fl hc w
  · cases f with
    | ret u =>
      obtain ⟨v, σ', H', J', r, q⟩ := sp
      exact ⟨v, σ', H', J'.ofTry ok, r, q⟩
    | next =>
      obtain ⟨σ', H', J', q⟩ := sp
      exact wpAny_execs_nil ⟨σ', H', J'.ofTry ok, q⟩
    | brk =>
      obtain ⟨σ', H', J', q⟩ := sp
      exact ⟨σ', H', J'.ofTry ok, q⟩
    | cont =>
      obtain ⟨σ', H', J', q⟩ := sp
      exact ⟨σ', H', J'.ofTry ok, q⟩
end
end VK
set_option Elab.async false
set_option linter.all false
set_option maxRecDepth 100000
set_option maxHeartbeats 4000000
/-! a method that may raise, called in a try -/
namespace VK
open PySem PySem.Spec PyProof.Rows L2
section
variable {X : Cx} {CX : CXT} {k : Nat} {f C : Addr} {fd : FuncData} {ps : List Str} {sp : Sp} {E : L2.St → XK} {m : Str} {pos apos : Pos} {e o : Expr} {es : List Expr} {ta : TE} {t : TA}
def tMethX (C : Addr) (m : Str) (sp : Sp) (E : L2.St → XK) (ta : TE) (t : TA) : TE := fun σ H Q => ta σ H fun x H1 => ∃ (a dx : Addr) (fs : List (Str × V)), x = .ref a ∧ H1 a = some (.ins C dx fs) ∧ fs.lookup m = none ∧
  t σ H1 fun vs H2 => sp (.ref a :: vs) H2 Q (E σ)
theorem pe_methX {pl : Sem Bool} (he : PE X o ta) (c : Cls X.K C) (hm : Meth X.K C m f) (F : FnOk X.prog X.w X.K X.mg X.base CX k f fd ps sp) (hr : Room k X.A) (hb : Binds X.K fd ps []) (hx : ∀ σ, PassesAt CX X σ (E σ)) (ha : PA X (e :: es) t)
    (h1 : starEach (e :: es) X.env = (false, eval e X.env) :: starEach es X.env := by rfl) (h2 : (backTo pos (starEach es X.env)).any (·.1) = false := by rfl)
    (h3 : eval (.Call (.Attribute o m apos) (e :: es) [] pos) X.env = (do
      let ov ← eval o X.env; standAt apos.atName; let (f, first) ← holding [ov] (getMethod ov m pl); callWith pos f first (backTo pos (starEach (e :: es) X.env)) (backToKw pos (keywordEach [] X.env))) := by rfl) :
    PE X (.Call (.Attribute o m apos) (e :: es) [] pos) (tMethX C m sp E ta t) := by
  refine ⟨fun pins s σ H Q I h => PySem.W.methodCall_KW (pl := pl) (thn (he.run pins s σ H _ I h) fun u s1 hh => ?_) h3⟩
  obtain ⟨x, H1, I1, rx, a, dx, fs, rfl, ea, l, q⟩ := hh
  obtain rfl : u = Value.ref a := rx
  refine getmeth_ok I1 ea c hm l (PySem.W.callWith_K (first := [.ref a]) (h₀ := X.base) I.ok.mod.kin hm.kp (thn (ha.run pos pins s1 σ H1 _ I1 q) fun us s2 hh => ?_) h1 h2)
  obtain ⟨vs, H2, I2, r, q2⟩ := hh
  exact ⟨I2.kIn, run_fnS (us := .ref a :: us) (vs := .ref a :: vs) F hr hb (hx σ) I2 (.cons rfl r) q2⟩
end
end VK
set_option Elab.async false
set_option linter.all false
set_option maxRecDepth 100000
set_option maxHeartbeats 4000000
namespace K80
open PySem L2 VK
open TL (tl)
/-- a stage behind a program that may stand there -/
theorem then_good {K : Fg} {C CB CL : Addr} {v : V} {a : Addr} {s : Str} {l : Sgs} {x : Sg} {H : Hp} {Q : VK} {E : XK} (hv : PgAt K C H (.ref a) (.mk s l)) (hx : StV K C H v x) (ok : (Pg.mk s (l.snoc x)).ok)
    (k : ∀ (p : Addr) (H2 : Hp), Same H H2 → H p = none → PgAt K C H2 (.ref p) (.mk s (l.snoc x)) → Q (.ref p) H2) : spThen K C CB CL [.ref a, v] H Q E := by
  have okp : s ∈ K0 ∧ (l.snoc x).len ≤ 6 ∧ (l.snoc x).ok 0 [s] := ok
  have len := okp.2.1
  rw [len_snoc] at len
  cases hv with
  | @mk _ dx ts ss _ _ xs h hs hl hss =>
    have lx := StAll.len hl
    refine ⟨a, ts, s, xs, v, rfl, ⟨dx, ss, _, h, okp.1, hs, by omega⟩, .inl ⟨by omega, _, rest_good 0 (StAll.snoc hx hl) okp.2.2, ?_⟩⟩
    exact fun p dx ts ss H2 s1 hp e t1 t2 => k p H2 s1 hp (.mk e t1 (StAll.kp (Kp.of s1) (StAll.snoc hx hl)) t2)
theorem no_then {s : Str} {ts ss : Addr} {d : Int} : (flds s ts ss d).lookup ("then" : Str) = none := by
  have n : ("then" : Str) ≠ "_depth" ∧ ("then" : Str) ≠ "_sources" ∧ ("then" : Str) ≠ "_stages" ∧ ("then" : Str) ≠ "_source" := by decide +kernel
  obtain ⟨n1, n2, n3, n4⟩ := n
  unfold flds
  rw [lookup_putF, if_neg n1, lookup_putF, if_neg n2, lookup_putF, if_neg n3, lookup_putF, if_neg n4]
  rfl
theorem PgAt.ins {K : Fg} {C : Addr} {H : Hp} {v : V} {g : Pg} (h : PgAt K C H v g) : ∃ (a dx ts ss : Addr) (s : Str) (d : Int), v = .ref a ∧ H a = some (.ins C dx (flds s ts ss d)) := by
  cases h with
  | mk h => exact ⟨_, _, _, _, _, _, rfl, h⟩
def Pg.then : Pg → Sg → Pg
  | .mk s l, x => .mk s (l.snoc x)
def spFollow (K : Fg) (C : Addr) : Sp := fun vs H Q _ => ∃ (v y : V) (g : Pg) (x : Sg), vs = [v, y] ∧ PgAt K C H v g ∧ StV K C H y x ∧ (g.then x).ok ∧ ∀ H', Same H H' → Q (.bl true) H'
section
variable {P : Program} {w : World} {K : Fg} {mg : Str → Option Value} {base : Heap} {A I : Nat → Addr} {D J : Nat → FuncData} {aS a1 a2 C e0 CR CE f fT : Addr} {fd dT : FuncData} {R : Nat → Addr} {S : Nat → FuncData}
theorem ok_follow (DF : Df K mg "can_follow" sFollow ["program", "stage"] f fd) (Z : Lp K mg A I D J aS a1 a2 C e0) (M : Mt K C "then" "Program.then" sThen ["self", "stage"] fT dT) (gE : mg "StreamError" = some (.ref CE)) : FnOk P w K mg base CX0 8 f fd ["program", "stage"] (spFollow K C) := by
  refine DF.F.ok scFollow (fun vs H Q E h => ?_) (fun cdv B outer s H vs Q E hr h => ?_)
  · obtain ⟨v, y, g, x, rfl, _⟩ := h
    rfl
  · obtain ⟨v, y, g, x, rfl, hv, hy, ok, k⟩ := h
    refine ⟨_, pss_cons (ps_try_only (Wout := fun _ _ _ _ => False) (tb := fun W => tDrop (tMethX C "then" (spThen K C (A 4) (A 3)) (WE W) (tVar 0) (tCons (tVar 1) tNil))) rfl rfl ⟨rfl, by decide, .inl gE⟩ takes0
        (fun W pn xe tk _ => by exact pss_one (ps_expr (pe_methX (pv 0) Z.L.c.cl M.m (ok_then M.F Z) hr M.b (fun σ => passAt tk σ) (pa_cons (pv 1) pa_nil)))) (fun a oe cls d pn _ _ => by exact pss_never))
      (pss_one (ps_ret pe_bl)), ?_⟩
    obtain ⟨s0, l⟩ := g
    obtain ⟨a, dx, ts, ss, s1, d, rfl, ha⟩ := hv.ins
    refine ⟨_, rfl, a, dx, _, rfl, ha, no_then, _, rfl, then_good hv hy ok fun p H2 s2 _ _ => ?_⟩
    exact k H2 s2
end
end K80
set_option Elab.async false
set_option linter.all false
set_option maxRecDepth 100000
set_option maxHeartbeats 4000000
namespace K80
open PySem L2 VK
open TL (tl)
theorem rev_last {v : V} {ws : List V} : (v :: ws).reverse[(v :: ws).reverse.length - 1]? = some v := by
  rw [List.reverse_cons, List.length_append]
  show (ws.reverse ++ [v])[ws.reverse.length + 1 - 1]? = _
  rw [Nat.add_sub_cancel, List.getElem?_append_right (Nat.le_refl _), Nat.sub_self]
  rfl
theorem rev_drop {v : V} {ws : List V} : (v :: ws).reverse.dropLast = ws.reverse := by
  rw [List.reverse_cons, List.dropLast_concat]
/-- the list of programs alone changes -/
theorem Rd8.put {K : Fg} {C CR : Addr} {H H' : Hp} {a l : Addr} {vs vs' : List V} {ps ps' : List Pg} {b : Bool} (h : Rd8 K C CR H a l vs ps b) (s : Bx l H H') (e : H' l = some (.lst vs'.reverse)) (pg : PgAll K C H' vs' ps') (few : ps'.length ≤ 4) (ok : ∀ p ∈ ps', p.ok) :
    Rd8 K C CR H' a l vs' ps' b := by
  have ne := h.ne
  obtain ⟨⟨dx, ha⟩, _, _, _, _⟩ := h
  exact ⟨⟨dx, s _ _ ne ha⟩, e, pg, few, ok⟩
theorem Bx.kpl {l : Addr} {H H' : Hp} {xs : List V} (b : Bx l H H') (h : H l = some (.lst xs)) : Kp H H' := fun c o e f => b c o (fun z => by rw [z, h] at e; cases e; cases f) e
def spClose (K : Fg) (C CR : Addr) : Sp := fun vs H Q _ => ∃ (a l : Addr) (v1 v2 : V) (ws : List V) (p q : Pg) (ps : List Pg) (b : Bool), vs = [.ref a] ∧ Rd8 K C CR H a l (v1 :: v2 :: ws) (p :: q :: ps) b ∧ (q.then (.zip p)).ok ∧
  ∀ (v : V) (H' : Hp), Bx l H H' → Rd8 K C CR H' a l (v :: ws) (q.then (.zip p) :: ps) b → Q .non H'
section
variable {P : Program} {w : World} {K : Fg} {mg : Str → Option Value} {base : Heap} {A I : Nat → Addr} {D J : Nat → FuncData} {aS a1 a2 C e0 CR fT : Addr} {dT : FuncData} {R : Nat → Addr} {S : Nat → FuncData}
theorem ok_close (Y : Rc K mg CR R S) (Z : Lp K mg A I D J aS a1 a2 C e0) (M : Mt K C "then" "Program.then" sThen ["self", "stage"] fT dT) : FnOk P w K mg base CX0 8 (R 6) (S 6) ["self"] (spClose K C CR) := by
  refine Y.m6.F.ok scClose (fun vs H Q E h => ?_) (fun cdv B outer s H vs Q E hr h => ?_)
  · obtain ⟨a, l, v1, v2, ws, p, q, ps, b, rfl, _⟩ := h
    rfl
  · obtain ⟨a, l, v1, v2, ws, p, q, ps, b, rfl, hR, ok, k⟩ := h
    refine ⟨_, pss_cons (ps_set (i := 1) scClose.nd rfl (Or.inl rfl) (pe_bm0 PySem.F.plainAttrs_list PySem.F.slot_list_pop PySem.F.type_list_pop mt_pop (pe_fld (pv 0) rfl)))
      (pss_one (ps_expr (pe_bm PySem.F.plainAttrs_list PySem.F.slot_list_append PySem.F.type_list_append mt_append (pe_fld (pv 0) rfl) (pa_cons
        (pe_meth (pe_bm0 PySem.F.plainAttrs_list PySem.F.slot_list_pop PySem.F.type_list_pop mt_pop (pe_fld (pv 0) rfl)) Z.L.c.cl M.m (ok_then M.F Z) hr M.b .nil (E := E0) passL (pa_cons (pe_tup (pa_cons pe_str (pa_cons (pv 1) pa_nil))) pa_nil)) pa_nil)))), ?_⟩
    have ne := hR.ne
    obtain ⟨⟨dx, ha⟩, hl, pg, few, okp⟩ := id hR
    have few' : ps.length + 2 ≤ 4 := few
    cases pg with
    | cons hp pg =>
    cases pg with
    | cons hq pg =>
    have lw := pg.len
    refine ⟨_, rfl, a, CR, dx, _, _, rfl, ha, Y.cl, Y.n1, get_p _ _, .inl ⟨rfl, _, SqL.of hl⟩, l, _, v1, rfl, rfl, hl, rev_last, ?_⟩
    rw [rev_drop]
    have b1 : Bx l H (upd H l (.lst (v2 :: ws).reverse)) := Bx.upd
    have e1 : upd H l (.lst (v2 :: ws).reverse) l = some (.lst (v2 :: ws).reverse) := upd_same
    generalize upd H l (.lst (v2 :: ws).reverse) = H1 at b1 e1
    have a1 := b1 _ _ ne ha
    refine ⟨_, rfl, a, CR, dx, _, _, rfl, a1, Y.cl, Y.n1, get_p _ _, .inl ⟨rfl, _, SqL.of e1⟩, ?_⟩
    refine ⟨_, rfl, a, CR, dx, _, _, rfl, a1, Y.cl, Y.n1, get_p _ _, .inl ⟨rfl, _, SqL.of e1⟩, l, _, v2, rfl, rfl, e1, rev_last, ?_⟩
    rw [rev_drop]
    have b2 : Bx l H1 (upd H1 l (.lst ws.reverse)) := Bx.upd
    have e2 : upd H1 l (.lst ws.reverse) l = some (.lst ws.reverse) := upd_same
    generalize upd H1 l (.lst ws.reverse) = H2 at b2 e2
    have b02 := b1.trans b2
    have kp02 : Kp H H2 := b02.kpl hl
    obtain ⟨q0, dq, ts, ss, s1, d, rfl, hq0⟩ := hq.ins
    refine ⟨q0, dq, _, rfl, kp02 _ _ hq0 rfl, no_then, _, rfl, by show 2 ≤ sizeLine; decide, fun u hu => ?_⟩
    have s3 : Same H2 (upd H2 u (.tup [.str "zip", v1])) := same_new hu
    have e3 : upd H2 u (.tup [.str "zip", v1]) u = some (.tup [.str "zip", v1]) := upd_same
    generalize upd H2 u (.tup [.str "zip", v1]) = H3 at s3 e3
    have kp03 := kp02.trans (Kp.of s3)
    obtain ⟨sq, lq⟩ := q
    refine then_good (x := .zip p) (PgAt.kp kp03 hq) (.zip (.inl (.inl e3)) (PgAt.kp kp03 hp)) ok fun r H4 s4 nr pr => ?_
    have b04 : Bx l H H4 := b02.trans (Bx.of (s3.trans s4))
    have e4 := s4 _ _ (s3 _ _ e2)
    refine ⟨l, _, .ref r, rfl, rfl, e4, by rw [List.length_reverse]; exact small1000 (by omega), ?_⟩
    have b5 : Bx l H4 (upd H4 l (.lst (ws.reverse ++ [.ref r]))) := Bx.upd
    have kp5 : Kp H4 (upd H4 l (.lst (ws.reverse ++ [.ref r]))) := b5.kpl e4
    have b05 := b04.trans b5
    refine k (.ref r) _ b05 (hR.put b05 ?_ (.cons (PgAt.kp kp5 pr) (pg.kp (b05.kpl hl))) ?_ ?_)
    · rw [upd_same, List.reverse_cons]
    · show ps.length + 1 ≤ 4
      omega
    · intro x hx
      rcases List.mem_cons.mp hx with rfl | hx
      · exact ok
      · exact okp x (List.mem_cons_of_mem _ (List.mem_cons_of_mem _ hx))
end
end K80
set_option Elab.async false
set_option linter.all false
set_option maxRecDepth 100000
set_option maxHeartbeats 4000000
namespace K80
open PySem L2 VK
open TL (tl)
/-- NUMBERS -/
structure Nu (K : Fg) (mg : Str → Option Value) (w : World) (aN : Addr) : Prop where
  g : mg "NUMBERS" = some (.ref aN)
  kd : ∃ es n, KDict K w aN es n
  n1 : ∃ t, PySem.W.nsIn K aN "1" = some (some (.int 1 t))
  n2 : ∃ t, PySem.W.nsIn K aN "2" = some (some (.int 2 t))
  n3 : ∃ t, PySem.W.nsIn K aN "3" = some (some (.int 3 t))
  n4 : ∃ t, PySem.W.nsIn K aN "4" = some (some (.int 4 t))
theorem Nu.at_ {K : Fg} {mg : Str → Option Value} {w : World} {aN : Addr} (h : Nu K mg w aN) {n : Int} (h1 : 1 ≤ n) (h2 : n ≤ 4) : ∃ t, PySem.W.nsIn K aN (numS n) = some (some (.int n t)) := by
  rcases numS_cases h1 h2 with ⟨rfl, e⟩ | ⟨rfl, e⟩ | ⟨rfl, e⟩ | ⟨rfl, e⟩ <;> rw [e]
  · exact h.n1
  · exact h.n2
  · exact h.n3
  · exact h.n4
def Sg.plain : Sg → Prop
  | .zip _ => False
  | _ => True
def spWords (K : Fg) (C : Addr) : Sp := fun vs H Q _ => ∃ (wl : Addr) (x : Sg) (d : Int) (tk : List Str), vs = [.ref wl] ∧ H wl = some (.lst (x.words.map V.str)) ∧ x.ok d tk ∧ x.plain ∧ ∀ (v : V) (H' : Hp), Same H H' → StV K C H' v x → Q v H'
section
variable {P : Program} {w : World} {K : Fg} {mg : Str → Option Value} {base : Heap} {C f aS a1 a2 aN : Addr} {fd : FuncData}
theorem ok_words (DW : Df K mg "stage_of_words" sWords ["words"] f fd) (N : Nm mg) (Z : Cst K mg aS a1 a2) (U : Nu K mg w aN) : FnOk P w K mg base CX0 1 f fd ["words"] (spWords K C) := by
  refine DW.F.ok scWords (fun vs H Q E h => ?_) (fun cdv B outer s H vs Q E hr h => ?_)
  · obtain ⟨wl, x, d, tk, rfl, _⟩ := h
    rfl
  · obtain ⟨wl, x, d, tk, rfl, hw, ok, pl, k⟩ := h
    refine ⟨_, pss_cons (ps_if (PW.pt (pw_and (pt_cmpR op_eq (pe_callB call_len_seq (by rfl) N.len PySem.boot_len (pa_cons (pv 0) pa_nil)) pe_int (nomark _)) (pw_and1 (pt_cmpR op_in_seq (pe_ix ix_list (pv 0) pe_int (fun _ _ => rfl)) (pe_glob (v := .ref a2) rfl Z.g2 rfl) rfl))))
        (pss_one (ps_ret (pe_tup (pa_cons (pe_ix ix_list (pv 0) pe_int (fun _ _ => rfl)) (pa_cons (pe_kget (pe_glob (v := .ref aN) rfl U.g rfl) (pe_ix ix_list (pv 0) pe_int (fun _ _ => rfl)) ⟨rfl, rfl, rfl, rfl⟩) pa_nil))))) pss_nil)
      (pss_one (ps_ret (pe_tupleOf (by rfl) N.tup (pv 0)))), ?_⟩
    refine ⟨_, rfl, wl, _, rfl, .inl (SqL.of hw), rfl, _, rfl, ?_⟩
    cases x with
    | nm k1 n1 =>
      have ok : k1 ∈ K1 ∧ isNm n1 = true := ok
      have hw : H wl = some (.lst [.str k1, .str n1]) := hw
      refine iteT (B := True) ⟨_, rfl, wl, _, _, .str k1, rfl, rfl, SqL.of hw, atI_nat (j := 0) rfl, a2, _, rfl, .inr (Z.h2 _), rfl, rfl, _, rfl, ?_⟩
      rw [show inV (.str k1) [.str "take", .str "skip", .str "lots", .str "gather"] = decide (k1 ∈ K2) from in_dec k1 K2]
      rw [decide_eq_false ((by decide +kernel : ∀ z ∈ K1, z ∉ K2) _ ok.1)]
      refine iteF (A := True) ⟨_, rfl, tup_either (.inl (SqL.of hw)) fun t H' s1 ht => ?_⟩
      exact k _ H' s1 (.nm ht)
    | num k1 n1 =>
      have ok : k1 ∈ K2 ∧ 1 ≤ n1 ∧ n1 ≤ 4 := ok
      have hw : H wl = some (.lst [.str k1, .str (numS n1)]) := hw
      refine iteT (B := True) ⟨_, rfl, wl, _, _, .str k1, rfl, rfl, SqL.of hw, atI_nat (j := 0) rfl, a2, _, rfl, .inr (Z.h2 _), rfl, rfl, _, rfl, ?_⟩
      rw [show inV (.str k1) [.str "take", .str "skip", .str "lots", .str "gather"] = decide (k1 ∈ K2) from in_dec k1 K2]
      rw [decide_eq_true ok.1]
      obtain ⟨t, ht⟩ := U.at_ ok.2.1 ok.2.2
      refine iteT (B := True) ⟨_, rfl, wl, _, _, .str k1, rfl, rfl, SqL.of hw, atI_nat (j := 0) rfl, _, rfl, U.kd, _, rfl, wl, _, _, .str (numS n1), rfl, rfl, SqL.of hw, atI_nat (j := 1) rfl, numS n1, _, .int n1, rfl, ht, ⟨_, rfl⟩, by show 2 ≤ sizeLine; decide, fun u hu => ?_⟩
      exact k _ _ (same_new hu) (.num (.inl (.inl upd_same)))
    | flat =>
      have hw : H wl = some (.lst [.str "flat"]) := hw
      refine iteF (A := True) ⟨_, rfl, tup_either (.inl (SqL.of hw)) fun t H' s1 ht => ?_⟩
      exact k _ H' s1 (.flat ht)
    | zip p => exact pl.elim
end
end K80
set_option Elab.async false
set_option linter.all false
set_option maxRecDepth 100000
set_option maxHeartbeats 4000000
namespace K80
open PySem L2 VK
open TL (tl)
theorem atI_rev {v : V} {ws : List V} : atI (v :: ws).reverse (-1) = some v := by
  rw [List.reverse_cons]
  exact atI_last _ _
/-- all that stays but readers -/
def Kq (CR : Addr) (H H' : Hp) : Prop := ∀ b o, H b = some o → fixd o = true → (∀ dx fs, o ≠ .ins CR dx fs) → H' b = some o
theorem Kq.tup {K : Fg} {CR : Addr} {H H' : Hp} (k : Kq CR H H') {a : Addr} {xs : List V} (h : SqT K H a xs) : SqT K H' a xs := by
  rcases h with (h | ⟨o, h⟩) | h
  · exact .inl (.inl (k _ _ h rfl (fun _ _ z => by cases z)))
  · exact .inl (.inr ⟨o, k _ _ h rfl (fun _ _ z => by cases z)⟩)
  · exact .inr h
section
variable {K : Fg} {C CR : Addr} {H H' : Hp}
mutual
theorem PgAt.kq (k : Kq CR H H') (n : CR ≠ C) : ∀ {v : V} {p : Pg}, PgAt K C H v p → PgAt K C H' v p
  | _, _, .mk h hs hl hr => .mk (k _ _ h rfl (fun _ _ z => n (by injection z with z _ _; exact z.symm))) (k.tup hs) (StAll.kq k n hl) (k.tup hr)
theorem StV.kq (k : Kq CR H H') (n : CR ≠ C) : ∀ {v : V} {x : Sg}, StV K C H v x → StV K C H' v x
  | _, _, .nm h => .nm (k.tup h)
  | _, _, .num h => .num (k.tup h)
  | _, _, .flat h => .flat (k.tup h)
  | _, _, .zip h hp => .zip (k.tup h) (PgAt.kq k n hp)
theorem StAll.kq (k : Kq CR H H') (n : CR ≠ C) : ∀ {vs : List V} {l : Sgs}, StAll K C H vs l → StAll K C H' vs l
  | _, _, .nil => .nil
  | _, _, .cons h t => .cons (StV.kq k n h) (StAll.kq k n t)
end
theorem PgAll.kq (k : Kq CR H H') (n : CR ≠ C) {vs : List V} {ps : List Pg} (h : PgAll K C H vs ps) : PgAll K C H' vs ps := by
  induction h with
  | nil => exact .nil
  | cons h _ ih => exact .cons (PgAt.kq k n h) ih
end
theorem Bx.kqa {K : Fg} {C CR a l : Addr} {H H' : Hp} {vs : List V} {ps : List Pg} {b : Bool} (s : Bx a H H') (h : Rd8 K C CR H a l vs ps b) : Kq CR H H' := by
  obtain ⟨⟨dx, ha⟩, _⟩ := h
  exact fun c o e f n => s c o (fun z => by rw [z, ha] at e; exact n _ _ (Option.some.inj e).symm) e
theorem Rd8.flip {K : Fg} {C CR : Addr} {H H' : Hp} {a l : Addr} {vs : List V} {ps : List Pg} {b c : Bool} (h : Rd8 K C CR H a l vs ps b) (n : CR ≠ C) (s : Bx a H H') (e : ∃ dx, H' a = some (.ins CR dx (rf l c))) : Rd8 K C CR H' a l vs ps c :=
  ⟨e, s _ _ (Ne.symm h.ne) h.ls, PgAll.kq (s.kqa h) n h.pg, h.few, h.ok⟩
/-! ### words that are compared -/
theorem ok_small {z : Str} (h : ∀ c ∈ tl z, c < 1000) : PyData.strOk z = true := by
  unfold PyData.strOk
  rw [← Array.all_toList, List.all_eq_true]
  intro c hc
  have := h c hc
  exact decide_eq_true (by omega)
def wordsOk (ws : List Str) : Prop := ∀ z ∈ ws, ∀ c ∈ tl z, c < 1000
theorem nm_small {n : Str} (h : isNm n = true) : ∀ c ∈ tl n, c < 1000 := fun c hc => by
  have := (nm_parts h).2.2 c hc
  omega
theorem k_small : ∀ z ∈ K1 ++ K2 ++ K0 ++ (["flat", "zip", "from", "1", "2", "3", "4"] : List Str), ∀ c ∈ tl z, c < 1000 := by decide +kernel
theorem num_small {n : Int} (h1 : 1 ≤ n) (h2 : n ≤ 4) : ∀ c ∈ tl (numS n), c < 1000 := by
  rcases numS_cases h1 h2 with ⟨_, e⟩ | ⟨_, e⟩ | ⟨_, e⟩ | ⟨_, e⟩ <;> rw [e] <;> exact k_small _ (by decide +kernel)
theorem words_ok {x : Sg} {d : Int} {tk : List Str} (ok : x.ok d tk) : wordsOk x.words := by
  cases x with
  | nm k n =>
    have ok : k ∈ K1 ∧ isNm n = true := ok
    intro z hz
    rcases List.mem_cons.mp hz with rfl | hz
    · exact k_small _ (by simp [ok.1])
    · rw [List.mem_singleton.mp hz]; exact nm_small ok.2
  | num k n =>
    have ok : k ∈ K2 ∧ 1 ≤ n ∧ n ≤ 4 := ok
    intro z hz
    rcases List.mem_cons.mp hz with rfl | hz
    · exact k_small _ (by simp [ok.1])
    · rw [List.mem_singleton.mp hz]; exact num_small ok.2.1 ok.2.2
  | flat =>
    intro z hz
    rw [List.mem_singleton.mp hz]
    exact k_small _ (by decide +kernel)
  | zip p =>
    intro z hz
    rw [List.mem_singleton.mp hz]
    exact k_small _ (by decide +kernel)
theorem strs_dp {K : Fg} {H : Hp} : ∀ {ws : List Str}, DpAll K H (ws.map V.str) (ws.map PyData.str)
  | [] => .nil
  | z :: r => .cons (.str z) strs_dp
theorem strs_shaped {ws : List Str} (h : wordsOk ws) : SeqAt.shaped (.list (ws.map PyData.str)) = true := by
  have a : PyData.canLayAll0 (ws.map PyData.str) = true ∧ PyData.depthAll (ws.map PyData.str) = 0 := by
    induction ws with
    | nil => exact ⟨rfl, rfl⟩
    | cons z r ih =>
      obtain ⟨i1, i2⟩ := ih fun x hx => h x (List.mem_cons_of_mem _ hx)
      have sz := ok_small (h z List.mem_cons_self)
      exact ⟨by simp [PyData.canLayAll0, PyData.canLay0, i1, sz], by simp [PyData.depthAll, PyData.depth, i2]⟩
  exact shaped_l a.1 a.2
theorem eq_words {K : Fg} {H : Hp} {a b : Addr} {ws us : List Str} {Q : VK} (h : SqL K H a (ws.map V.str)) (o : wordsOk ws) (h' : SqL K H b (us.map V.str)) (o' : wordsOk us)
    (k : Q (.bl (PyData.eqv (.list (ws.map PyData.str)) (.list (us.map PyData.str)))) H) : rEqD K (.ref a) (.ref b) H Q :=
  ⟨.list (ws.map PyData.str), .list (us.map PyData.str), .lst h strs_dp, .lst h' strs_dp, strs_shaped o, strs_shaped o', k⟩
theorem eqv_plain {x : Sg} (h : x.plain) : PyData.eqv (.list (x.words.map PyData.str)) (.list ((["zip"] : List Str).map PyData.str)) = false := by
  cases x with
  | nm k n => exact Bool.and_false _
  | num k n => exact Bool.and_false _
  | flat => decide +kernel
  | zip p => exact h.elim
theorem eqv_zip : PyData.eqv (.list ((["zip"] : List Str).map PyData.str)) (.list ((["zip"] : List Str).map PyData.str)) = true := by decide +kernel
theorem zip_ok : wordsOk ["zip"] := fun z hz => by
  rw [List.mem_singleton.mp hz]
  exact k_small _ (by decide +kernel)
theorem mk_goodR {K : Fg} {C CB CL : Addr} {s : Str} {l : Sgs} {st : Addr} {xs : List V} {H1 : Hp} {R : Addr → Hp → Prop} {E : XK} (ok : (Pg.mk s l).ok) (hst : SqL K H1 st xs ∨ SqT K H1 st xs) (hx : StAll K C H1 xs l)
    (k : ∀ (p : Addr) (H2 : Hp), Same H1 H2 → H1 p = none → PgAt K C H2 (.ref p) (.mk s l) → R p H2) (x dx : Addr) (h1 : H1 x = none) (h2 : H1 dx = none) (hne : dx ≠ x) :
    spInit K C CB CL [.ref x, .str s, .ref st] (upd (upd H1 dx (.own x)) x (.ins C dx [])) (fun v H2 => v = .non ∧ R x H2) E := by
  have ok : s ∈ K0 ∧ l.len ≤ 6 ∧ l.ok 0 [s] := ok
  have sm := same_mk (C := C) h1 h2
  refine ⟨x, dx, s, st, xs, rfl, upd_same, ok.1, sq_same sm hst, .inl ⟨by rw [StAll.len hx]; exact ok.2.1, _, (rest_good 0 hx ok.2.2).same sm, ?_⟩⟩
  refine fun H' ts ss b e t1 t2 => ⟨rfl, k x H' (fun c u z => ?_) h1 (.mk e t1 (StAll.kp (fun c u z fx => ?_) hx) t2)⟩
  · exact b c u (ne_of_none z h1) (sm _ _ z)
  · exact b c u (ne_of_none z h1) (sm _ _ z)
end K80
set_option Elab.async false
set_option linter.all false
set_option maxRecDepth 100000
set_option maxHeartbeats 4000000
namespace K80
open PySem L2 VK
open TL (tl)
def spRSrc (K : Fg) (C CR : Addr) : Sp := fun vs H Q _ => ∃ (a l wl : Addr) (ws : List V) (s : Str) (ps : List Pg), vs = [.ref a, .ref wl] ∧ Rd8 K C CR H a l ws ps true ∧ H wl = some (.lst [.str "from", .str s]) ∧ s ∈ free ps ∧ ps.length ≤ 3 ∧
  ∀ (v : V) (H' : Hp), Bxx a l H H' → Rd8 K C CR H' a l (v :: ws) (.mk s .nil :: ps) false → Q (.bl true) H'
def spRZip (K : Fg) (C CR : Addr) : Sp := fun vs H Q _ => ∃ (a l : Addr) (v : V) (ws : List V) (g : Pg) (ps : List Pg) (b : Bool), vs = [.ref a] ∧ Rd8 K C CR H a l (v :: ws) (g :: ps) b ∧ free (g :: ps) ≠ [] ∧ (∀ s ∈ free (g :: ps), (g.then (.zip (.mk s .nil))).ok) ∧
  ∀ (H' : Hp), Bxx a l H H' → Rd8 K C CR H' a l (v :: ws) (g :: ps) true → Q (.bl true) H'
def spRStg (K : Fg) (C CR : Addr) : Sp := fun vs H Q E => ∃ (a l wl : Addr) (v : V) (ws : List V) (x : Sg) (d : Int) (tk : List Str) (g : Pg) (ps : List Pg), vs = [.ref a, .ref wl] ∧ Rd8 K C CR H a l (v :: ws) (g :: ps) false ∧ H wl = some (.lst (x.words.map V.str)) ∧
  ((x.plain ∧ x.ok d tk ∧ (g.then x).ok ∧ ∀ (v : V) (H' : Hp), Bxx a l H H' → Rd8 K C CR H' a l (v :: ws) (g.then x :: ps) false → Q (.bl true) H') ∨
   ((∃ p, x = .zip p) ∧ spRZip K C CR [.ref a] H Q E))
theorem nil_ok {s : Str} (h : s ∈ K0) : (Pg.mk s .nil).ok := ⟨h, Nat.zero_le _, trivial⟩
theorem Bx.l {a l : Addr} {H H' : Hp} (b : Bx l H H') : Bxx a l H H' := fun c o _ m e => b c o m e
section
variable {P : Program} {w : World} {K : Fg} {mg : Str → Option Value} {base : Heap} {A I : Nat → Addr} {D J : Nat → FuncData} {aS a1 a2 C e0 CR CE fT fF fW aN : Addr} {dT dF dW : FuncData} {R : Nat → Addr} {S : Nat → FuncData}
theorem ok_rsrc (Y : Rc K mg CR R S) (Z : Lp K mg A I D J aS a1 a2 C e0) (hne : CR ≠ C) : FnOk P w K mg base CX0 7 (R 3) (S 3) ["self", "words"] (spRSrc K C CR) := by
  have GF : FnOk P w K mg base CX0 3 (R 1) (S 1) ["self"] (spFree K C CR) := ok_free Y Z.L.c Z.L.Z (Z.L.p3 _ _ _)
  refine Y.m3.F.ok scRSrc (fun vs H Q E h => ?_) (fun cdv B outer s H vs Q E hr h => ?_)
  · obtain ⟨a, l, wl, ws, s, ps, rfl, _⟩ := h
    rfl
  · obtain ⟨a, l, wl, ws, s0, ps, rfl, hR, hw, hs, few3, k⟩ := h
    have hr3 := hr.mono (show 3 ≤ 6 by decide)
    refine ⟨_, pss_cons (ps_if (PW.pt (pw_or (pt_cmpR op_ne (pe_callB call_len_seq (by rfl) Z.L.N.len PySem.boot_len (pa_cons (pv 1) pa_nil)) pe_int (nomark _)) (pw_or (pt_cmpR op_ne (pe_ix ix_list (pv 1) pe_int (fun _ _ => rfl)) pe_str (nomark _))
          (pw_or1 (pt_cmpR op_notIn_seq (pe_ix ix_list (pv 1) pe_int (fun _ _ => rfl)) (pe_meth0 (pv 0) Y.cl Y.m1.m GF hr3 Y.m1.b .nil pass0) rfl))))) pss_never pss_nil)
      (pss_cons (ps_expr (pe_bm PySem.F.plainAttrs_list PySem.F.slot_list_append PySem.F.type_list_append mt_append (pe_fld (pv 0) rfl) (pa_cons
        (pe_make Z.m Z.o22 hr rfl Z.L.c.g Z.b0 (show Vals [V.ref e0] [Value.ref e0] from .cons rfl .nil) (E := E0) passL (pa_cons (pe_ix ix_list (pv 1) pe_int (fun _ _ => rfl)) pa_nil)) pa_nil)))
      (pss_cons (ps_fld (pv 0) pe_bl rfl) (pss_one (ps_ret pe_bl)))), ?_⟩
    have ne := hR.ne
    obtain ⟨dx, ha⟩ := hR.at_
    have hl := hR.ls
    refine ⟨_, rfl, wl, _, rfl, .inl (SqL.of hw), rfl, _, rfl, iteF (A := True) ?_⟩
    refine ⟨_, rfl, wl, _, _, .str "from", rfl, rfl, SqL.of hw, atI_nat (j := 0) rfl, rfl, _, rfl, iteF (A := True) ?_⟩
    refine ⟨_, rfl, wl, _, _, .str s0, rfl, rfl, SqL.of hw, atI_nat (j := 1) rfl, _, rfl, a, dx, _, rfl, ha, rf_no (by decide +kernel) (by decide +kernel), a, l, ws, ps, true, rfl, hR, fun q H1 nq s1 e1 => ?_⟩
    refine ⟨q, _, rfl, .inl (SqL.of e1), rfl, all_flat _, _, rfl, ?_⟩
    rw [show inV (.str s0) ((free ps).map V.str) = decide (s0 ∈ free ps) from in_dec s0 _, decide_eq_true hs]
    refine iteF (A := True) ?_
    have hR1 := hR.same s1
    have w1 := s1 _ _ hw
    have a1 := s1 _ _ ha
    have l1 := s1 _ _ hl
    have k0 : s0 ∈ K0 := (mem_free.mp hs).1
    refine ⟨_, rfl, a, CR, dx, _, _, rfl, a1, Y.cl, Y.n1, get_p _ _, .inl ⟨rfl, _, SqL.of l1⟩, ?_⟩
    refine ⟨_, rfl, wl, _, _, .str s0, rfl, rfl, SqL.of w1, atI_nat (j := 1) rfl, ?_⟩
    dsimp only [tNil]
    refine mk_goodR (l := .nil) (nil_ok k0) (.inr (Z.h0 _)) .nil fun p H2 s2 np pp => ?_
    have l2 := s2 _ _ l1
    have b3 : Bx l H2 (upd H2 l (.lst (ws.reverse ++ [.ref p]))) := Bx.upd
    have e3 : upd H2 l (.lst (ws.reverse ++ [.ref p])) l = some (.lst (V.ref p :: ws).reverse) := by rw [upd_same, List.reverse_cons]
    have lw := hR.pg.len
    refine ⟨l, _, .ref p, rfl, rfl, l2, by rw [List.length_reverse]; exact small1000 (by omega), ?_⟩
    generalize upd H2 l (.lst (ws.reverse ++ [.ref p])) = H3 at b3 e3
    have hR2 := hR1.same s2
    have kp3 := b3.kpl l2
    have hR3 : Rd8 K C CR H3 a l (V.ref p :: ws) (.mk s0 .nil :: ps) true := hR2.put b3 e3 (.cons (PgAt.kp kp3 pp) (hR2.pg.kp kp3)) (by show ps.length + 1 ≤ 4; omega) fun x hx => by
      rcases List.mem_cons.mp hx with rfl | hx
      · exact nil_ok k0
      · exact hR.ok x hx
    have a3 := b3 _ _ ne (s2 _ _ a1)
    refine ⟨_, rfl, a, CR, dx, _, rfl, a3, Y.cl, Y.n2, rf_len _ _, ?_⟩
    rw [put_o]
    have b4 : Bx a H3 (upd H3 a (.ins CR dx (rf l false))) := Bx.upd
    exact k _ _ (((Same.xx (s1.trans s2)).trans b3.l).trans b4.xx) (hR3.flip hne b4 ⟨dx, upd_same⟩)
theorem ok_rzip (Y : Rc K mg CR R S) (Z : Lp K mg A I D J aS a1 a2 C e0) (hne : CR ≠ C) (M : Mt K C "then" "Program.then" sThen ["self", "stage"] fT dT) (DF : Df K mg "can_follow" sFollow ["program", "stage"] fF dF) (gE : mg "StreamError" = some (.ref CE)) :
    FnOk P w K mg base CX0 9 (R 5) (S 5) ["self"] (spRZip K C CR) := by
  have GF : FnOk P w K mg base CX0 3 (R 1) (S 1) ["self"] (spFree K C CR) := ok_free Y Z.L.c Z.L.Z (Z.L.p3 _ _ _)
  have GO : FnOk P w K mg base CX0 8 fF dF ["program", "stage"] (spFollow K C) := ok_follow DF Z M gE
  refine Y.m5.F.ok scRZip (fun vs H Q E h => ?_) (fun cdv B outer s H vs Q E hr h => ?_)
  · obtain ⟨a, l, v, ws, g, ps, b, rfl, _⟩ := h
    rfl
  · obtain ⟨a, l, v, ws, g, ps, b, rfl, hR, nf, ok, k⟩ := h
    have hr3 := hr.mono (show 3 ≤ 8 by decide)
    have hr6 := hr.mono (show 6 ≤ 8 by decide)
    refine ⟨_, pss_cons (ps_set (i := 1) scRZip.nd rfl (Or.inl rfl) (pe_meth0 (pv 0) Y.cl Y.m1.m GF hr3 Y.m1.b .nil pass0))
      (pss_cons (ps_fld (pv 0) (pe_and (pe_cmpR op_gt (pe_callB call_len_seq (by rfl) Z.L.N.len PySem.boot_len (pa_cons (pv 1) pa_nil)) pe_int (nomark _)) (pe_one (pe_call GO hr rfl DF.g DF.F.kp DF.b .nil pass0
          (pa_cons (pe_ix ix_list (pe_fld (pv 0) rfl) (pe_un un_neg pe_int) (fun _ _ => rfl)) (pa_cons (pe_tup (pa_cons pe_str (pa_cons (pe_make Z.m Z.o22 hr6 rfl Z.L.c.g Z.b0 (show Vals [V.ref e0] [Value.ref e0] from .cons rfl .nil) (E := E0) passL (pa_cons (pe_ix ix_list (pv 1) pe_int (fun _ _ => rfl)) pa_nil)) pa_nil))) pa_nil))))) rfl)
      (pss_one (ps_ret (pe_fld (pv 0) rfl)))), ?_⟩
    have ne := hR.ne
    obtain ⟨dx, ha⟩ := hR.at_
    have hl := hR.ls
    refine ⟨_, rfl, a, dx, _, rfl, ha, rf_no (by decide +kernel) (by decide +kernel), a, l, v :: ws, g :: ps, b, rfl, hR, fun q H1 nq s1 e1 => ?_⟩
    obtain ⟨f0, fr, ef⟩ : ∃ f0 fr, free (g :: ps) = f0 :: fr := by
      cases h : free (g :: ps) with
      | nil => exact absurd h nf
      | cons f0 fr => exact ⟨f0, fr, rfl⟩
    have f0m : f0 ∈ free (g :: ps) := by rw [ef]; exact List.mem_cons_self
    have ok0 := ok f0 f0m
    have k0 : f0 ∈ K0 := (mem_free.mp f0m).1
    rw [ef] at e1
    have e1 : H1 q = some (.lst (.str f0 :: fr.map V.str)) := e1
    have hR1 := hR.same s1
    have a1 := s1 _ _ ha
    have l1 := s1 _ _ hl
    refine ⟨_, rfl, q, _, rfl, .inl (SqL.of e1), _, _, rfl, rfl, _, rfl, ?_⟩
    refine dif (fun _ => ?_) (fun z => absurd z ?_)
    · refine ⟨_, rfl, a, CR, dx, _, _, rfl, a1, Y.cl, Y.n1, get_p _ _, _, rfl, l, _, _, v, rfl, rfl, SqL.of l1, atI_rev, ?_⟩
      refine ⟨_, rfl, q, _, _, .str f0, rfl, rfl, SqL.of e1, atI_nat (j := 0) rfl, ?_⟩
      dsimp only [tNil]
      refine mk_goodR (l := .nil) (nil_ok k0) (.inr (Z.h0 _)) .nil fun p H2 s2 np pp => ?_
      refine ⟨by show 2 ≤ sizeLine; decide, fun u hu => ?_⟩
      have s3 : Same H2 (upd H2 u (.tup [.str "zip", .ref p])) := same_new hu
      have e3 : upd H2 u (.tup [.str "zip", .ref p]) u = some (.tup [.str "zip", .ref p]) := upd_same
      generalize upd H2 u (.tup [.str "zip", .ref p]) = H3 at s3 e3
      have s13 := s2.trans s3
      have hv : PgAt K C H3 v g := by
        have z := (hR1.same s13).pg
        cases z with
        | cons h _ => exact h
      refine ⟨v, .ref u, g, .zip (.mk f0 .nil), rfl, hv, .zip (.inl (.inl e3)) (PgAt.kp (Kp.of s3) pp), ok0, fun H4 s4 => ?_⟩
      have s04 := s1.trans (s13.trans s4)
      have hR4 := hR.same s04
      have a4 := s04 _ _ ha
      refine ⟨_, rfl, a, CR, dx, _, rfl, a4, Y.cl, Y.n2, rf_len _ _, ?_⟩
      rw [put_o]
      have b5 : Bx a H4 (upd H4 a (.ins CR dx (rf l true))) := Bx.upd
      have e5 : upd H4 a (.ins CR dx (rf l true)) a = some (.ins CR dx (rf l true)) := upd_same
      generalize upd H4 a (.ins CR dx (rf l true)) = H5 at b5 e5
      exact ⟨_, rfl, a, CR, dx, _, _, rfl, e5, Y.cl, Y.n2, get_o _ _, k _ ((Same.xx s04).trans b5.xx) (hR4.flip hne b5 ⟨dx, e5⟩)⟩
    · intro z
      apply z
      show (0 : Int) < ((V.str f0 :: fr.map V.str).length : Int)
      rw [List.length_cons]
      omega
theorem ok_rstg (Y : Rc K mg CR R S) (Z : Lp K mg A I D J aS a1 a2 C e0) (hne : CR ≠ C) (M : Mt K C "then" "Program.then" sThen ["self", "stage"] fT dT) (DF : Df K mg "can_follow" sFollow ["program", "stage"] fF dF) (DW : Df K mg "stage_of_words" sWords ["words"] fW dW) (gE : mg "StreamError" = some (.ref CE)) (U : Nu K mg w aN) :
    FnOk P w K mg base CX0 10 (R 4) (S 4) ["self", "words"] (spRStg K C CR) := by
  have GZ : FnOk P w K mg base CX0 9 (R 5) (S 5) ["self"] (spRZip K C CR) := ok_rzip Y Z hne M DF gE
  have GO : FnOk P w K mg base CX0 8 fF dF ["program", "stage"] (spFollow K C) := ok_follow DF Z M gE
  have GW : FnOk P w K mg base CX0 1 fW dW ["words"] (spWords K C) := ok_words DW Z.L.N Z.L.Z U
  refine Y.m4.F.ok scRStg (fun vs H Q E h => ?_) (fun cdv B outer s H vs Q E hr h => ?_)
  · obtain ⟨a, l, wl, v, ws, x, d, tk, g, ps, rfl, _⟩ := h
    rfl
  · obtain ⟨a, l, wl, v, ws, x, d, tk, g, ps, rfl, hR, hw, k⟩ := h
    have hr1 := hr.mono (show 1 ≤ 9 by decide)
    have hr7 := hr.mono (show 7 ≤ 9 by decide)
    have hr8 := hr.mono (show 8 ≤ 9 by decide)
    refine ⟨_, pss_cons (ps_if (pt_cmpR (op_eqD hr.units) (pv 1) (pe_lst (pa_cons pe_str pa_nil)) (nomark _)) (pss_one (ps_ret (pe_meth0 (pv 0) Y.cl Y.m5.m GZ hr Y.m5.b .nil pass0))) pss_nil)
      (pss_cons (ps_set (i := 2) scRStg.nd rfl (Or.inl rfl) (pe_call GW hr1 rfl DW.g DW.F.kp DW.b .nil pass0 (pa_cons (pv 1) pa_nil)))
      (pss_cons (ps_if (pt_not (pt_val (pe_call GO hr8 rfl DF.g DF.F.kp DF.b .nil pass0 (pa_cons (pe_ix ix_list (pe_fld (pv 0) rfl) (pe_un un_neg pe_int) (fun _ _ => rfl)) (pa_cons (pv 2) pa_nil))))) pss_never pss_nil)
      (pss_cons (ps_expr (pe_bm PySem.F.plainAttrs_list PySem.F.slot_list_append PySem.F.type_list_append mt_append (pe_fld (pv 0) rfl) (pa_cons
        (pe_meth (pe_bm0 PySem.F.plainAttrs_list PySem.F.slot_list_pop PySem.F.type_list_pop mt_pop (pe_fld (pv 0) rfl)) Z.L.c.cl M.m (ok_then M.F Z) hr7 M.b .nil (E := E0) passL (pa_cons (pv 2) pa_nil)) pa_nil)))
      (pss_one (ps_ret pe_bl))))), ?_⟩
    have ne := hR.ne
    obtain ⟨dx, ha⟩ := hR.at_
    have hl := hR.ls
    refine ⟨_, rfl, by show 1 ≤ sizeLine; decide, fun u hu => ?_⟩
    have s1 : Same H (upd H u (.lst [.str "zip"])) := same_new hu
    have e1 : upd H u (.lst [.str "zip"]) u = some (.lst [.str "zip"]) := upd_same
    generalize upd H u (.lst [.str "zip"]) = H1 at s1 e1
    have hR1 := hR.same s1
    have w1 := s1 _ _ hw
    have a1 := s1 _ _ ha
    have l1 := s1 _ _ hl
    rcases k with ⟨pl, okx, okg, k⟩ | ⟨⟨p, rfl⟩, k⟩
    · refine eq_words (us := ["zip"]) (SqL.of w1) (words_ok okx) (SqL.of e1) zip_ok ⟨_, rfl, ?_⟩
      rw [eqv_plain pl]
      refine iteF (A := True) ?_
      refine ⟨_, rfl, wl, x, d, tk, rfl, w1, okx, pl, fun y H2 s2 hy => ?_⟩
      have hR2 := hR1.same s2
      have a2 := s2 _ _ a1
      have l2 := s2 _ _ l1
      have hv : PgAt K C H2 v g := by
        have z := hR2.pg
        cases z with
        | cons h _ => exact h
      refine ⟨_, rfl, a, CR, dx, _, _, rfl, a2, Y.cl, Y.n1, get_p _ _, _, rfl, l, _, _, v, rfl, rfl, SqL.of l2, atI_rev, _, rfl, v, y, g, x, rfl, hv, hy, okg, fun H3 s3 => ⟨_, rfl, iteF (A := True) ?_⟩⟩
      have hR3 := hR2.same s3
      have a3 := s3 _ _ a2
      have l3 := s3 _ _ l2
      have hv3 := PgAt.kp (Kp.of s3) hv
      have hy3 := StV.kp (Kp.of s3) hy
      refine ⟨_, rfl, a, CR, dx, _, _, rfl, a3, Y.cl, Y.n1, get_p _ _, .inl ⟨rfl, _, SqL.of l3⟩, ?_⟩
      refine ⟨_, rfl, a, CR, dx, _, _, rfl, a3, Y.cl, Y.n1, get_p _ _, .inl ⟨rfl, _, SqL.of l3⟩, l, _, v, rfl, rfl, l3, rev_last, ?_⟩
      rw [rev_drop]
      have b4 : Bx l H3 (upd H3 l (.lst ws.reverse)) := Bx.upd
      have e4 : upd H3 l (.lst ws.reverse) l = some (.lst ws.reverse) := upd_same
      generalize upd H3 l (.lst ws.reverse) = H4 at b4 e4
      have kp4 : Kp H3 H4 := b4.kpl l3
      obtain ⟨q0, dq, ts, ss, sq, dq2, rfl, hq0⟩ := hv3.ins
      refine ⟨q0, dq, _, rfl, kp4 _ _ hq0 rfl, no_then, _, rfl, ?_⟩
      obtain ⟨sg, lg⟩ := g
      refine then_good (PgAt.kp kp4 hv3) (StV.kp kp4 hy3) okg fun r H5 s5 nr pr => ?_
      have l5 := s5 _ _ e4
      have few := hR.few
      have few : ps.length + 1 ≤ 4 := few
      have pg3 : PgAll K C H3 ws ps := by
        have z := hR3.pg
        cases z with
        | cons _ h => exact h
      have lw := pg3.len
      refine ⟨l, _, .ref r, rfl, rfl, l5, by rw [List.length_reverse]; exact small1000 (by omega), ?_⟩
      have b6 : Bx l H5 (upd H5 l (.lst (ws.reverse ++ [.ref r]))) := Bx.upd
      have e6 : upd H5 l (.lst (ws.reverse ++ [.ref r])) l = some (.lst (V.ref r :: ws).reverse) := by rw [upd_same, List.reverse_cons]
      generalize upd H5 l (.lst (ws.reverse ++ [.ref r])) = H6 at b6 e6
      have kp6 := b6.kpl l5
      have b36 : Bx l H3 H6 := b4.trans ((Bx.of s5).trans b6)
      have hR6 : Rd8 K C CR H6 a l (V.ref r :: ws) ((Pg.mk sg lg).then x :: ps) false := hR3.put b36 e6 (.cons (PgAt.kp kp6 pr) (pg3.kp (b36.kpl l3))) few fun z hz => by
        rcases List.mem_cons.mp hz with rfl | hz
        · exact okg
        · exact hR.ok z (List.mem_cons_of_mem _ hz)
      exact k _ _ ((Same.xx (s1.trans (s2.trans s3))).trans b36.l) hR6
    · refine eq_words (ws := ["zip"]) (us := ["zip"]) (SqL.of w1) zip_ok (SqL.of e1) zip_ok ⟨_, rfl, ?_⟩
      rw [eqv_zip]
      refine iteT (B := True) ?_
      refine ⟨_, rfl, a, dx, _, rfl, a1, rf_no (by decide +kernel) (by decide +kernel), ?_⟩
      obtain ⟨a', l', v', ws', g', ps', b', e', hR', nf, okf, kz⟩ := k
      cases e'
      exact ⟨a, l', v', ws', g', ps', b', rfl, hR'.same s1, nf, okf, fun H' bx r => kz H' ((Same.xx s1).trans bx) r⟩
end
end K80
set_option Elab.async false
set_option linter.all false
set_option maxRecDepth 100000
set_option maxHeartbeats 4000000
namespace K80
open PySem L2 VK
open TL (tl)
/-- the programs that are open, closed down -/
def fin : Pg → List Pg → Pg
  | p, [] => p
  | p, q :: r => fin (q.then (.zip p)) r
def okc : Pg → List Pg → Prop
  | p, [] => True
  | p, q :: r => (q.then (.zip p)).ok ∧ okc (q.then (.zip p)) r
/-- what is done with a line of a program that is open -/
def Does (K : Fg) (C CR : Addr) (a l : Addr) (us : List Str) (g : Pg) (ps : List Pg) (H : Hp) (Q : VK) : Prop :=
  (∃ (x : Sg) (d : Int) (tk : List Str), us = x.words ∧ x.plain ∧ x.ok d tk ∧ (g.then x).ok ∧ ∀ (ws : List V) (H' : Hp), Bxx a l H H' → Rd8 K C CR H' a l ws (g.then x :: ps) false → Q (.bl true) H') ∨
  (us = [("zip" : Str)] ∧ free (g :: ps) ≠ [] ∧ (∀ s ∈ free (g :: ps), (g.then (.zip (.mk s .nil))).ok) ∧ ∀ (ws : List V) (H' : Hp), Bxx a l H H' → Rd8 K C CR H' a l ws (g :: ps) true → Q (.bl true) H')
def spRLine (K : Fg) (C CR : Addr) : Sp := fun vs H Q _ => ∃ (a l : Addr) (ws : List V) (d : Nat) (us : List Str), vs = [.ref a, .str (ind d (Txt.join " " us))] ∧ Wd us ∧ (Txt.join " " us).length ≤ 100 ∧ d ≤ 3 ∧
  ((∃ (s : Str) (ps : List Pg), us = [("from" : Str), s] ∧ Rd8 K C CR H a l ws ps true ∧ ps.length = d ∧ s ∈ free ps ∧
      ∀ (ws : List V) (H' : Hp), Bxx a l H H' → Rd8 K C CR H' a l ws (.mk s .nil :: ps) false → Q (.bl true) H') ∨
   (∃ (p : Pg) (r1 ps : List Pg), Rd8 K C CR H a l ws (p :: (r1 ++ ps)) false ∧ ps.length = d ∧ okc p r1 ∧ Does K C CR a l us (fin p r1) ps H Q))
theorem Does.up {K : Fg} {C CR : Addr} {a l : Addr} {us : List Str} {g : Pg} {ps : List Pg} {H H1 : Hp} {Q : VK} (b : Bxx a l H H1) (h : Does K C CR a l us g ps H Q) : Does K C CR a l us g ps H1 Q := by
  rcases h with ⟨x, d, tk, h1, h2, h3, h4, k⟩ | ⟨h1, h2, h3, k⟩
  · exact .inl ⟨x, d, tk, h1, h2, h3, h4, fun ws H' b' r => k ws H' (b.trans b') r⟩
  · exact .inr ⟨h1, h2, h3, fun ws H' b' r => k ws H' (b.trans b') r⟩
theorem two_len : ("  " : Str).length = 2 := by decide +kernel
section
variable {P : Program} {w : World} {K : Fg} {mg : Str → Option Value} {base : Heap} {A I : Nat → Addr} {D J : Nat → FuncData} {aS a1 a2 C e0 CR CE fT fF fW aN : Addr} {dT dF dW : FuncData} {R : Nat → Addr} {S : Nat → FuncData}
theorem ok_rline (Y : Rc K mg CR R S) (Z : Lp K mg A I D J aS a1 a2 C e0) (hne : CR ≠ C) (M : Mt K C "then" "Program.then" sThen ["self", "stage"] fT dT) (DF : Df K mg "can_follow" sFollow ["program", "stage"] fF dF) (DW : Df K mg "stage_of_words" sWords ["words"] fW dW) (gE : mg "StreamError" = some (.ref CE)) (U : Nu K mg w aN)
    (ti : ∃ t, mg "INDENT" = some (.str "  " t)) : FnOk P w K mg base CX0 11 (R 2) (S 2) ["self", "line"] (spRLine K C CR) := by
  have G3 : FnOk P w K mg base CX0 7 (R 3) (S 3) ["self", "words"] (spRSrc K C CR) := ok_rsrc Y Z hne
  have G4 : FnOk P w K mg base CX0 10 (R 4) (S 4) ["self", "words"] (spRStg K C CR) := ok_rstg Y Z hne M DF DW gE U
  have G6 : FnOk P w K mg base CX0 8 (R 6) (S 6) ["self"] (spClose K C CR) := ok_close Y Z M
  refine Y.m2.F.ok scRLine (fun vs H Q E h => ?_) (fun cdv B outer s H vs Q E hr h => ?_)
  · obtain ⟨a, l, ws, d, us, rfl, _⟩ := h
    rfl
  · obtain ⟨a, l, ws, d, us, rfl, hwd, hlen, hd3, k⟩ := h
    have hr7 := hr.mono (show 7 ≤ 10 by decide)
    have hr8 := hr.mono (show 8 ≤ 10 by decide)
    obtain ⟨tI, gI⟩ := ti
    refine ⟨_, pss_cons (ps_set (i := 2) scRLine.nd rfl (Or.inl rfl) (pe_split (pe_m1 PySem.F.slot_str_lstrip PySem.F.type_str_lstrip mt_lstripChars (pv 1) pe_str) pe_str))
      (pss_cons (ps_set (i := 3) scRLine.nd rfl (Or.inl rfl) (pe_op op_sub (pe_callB call_len_str (by rfl) Z.L.N.len PySem.boot_len (pa_cons (pv 1) pa_nil)) (pe_callB call_len_str (by rfl) Z.L.N.len PySem.boot_len (pa_cons (pe_m1 PySem.F.slot_str_lstrip PySem.F.type_str_lstrip mt_lstripChars (pv 1) pe_str) pa_nil))))
      (pss_cons (ps_set (i := 4) scRLine.nd rfl (Or.inl rfl) (pe_op op_fdiv (pv 3) (pe_callB call_len_str (by rfl) Z.L.N.len PySem.boot_len (pa_cons (pe_glob (v := .str "  ") rfl gI ⟨_, rfl⟩) pa_nil))))
      (pss_cons (ps_if (pt_cmpR op_ne (pe_op op_mul (pv 4) (pe_callB call_len_str (by rfl) Z.L.N.len PySem.boot_len (pa_cons (pe_glob (v := .str "  ") rfl gI ⟨_, rfl⟩) pa_nil))) (pv 3) (nomark _)) pss_never pss_nil)
      (pss_cons (ps_if (pt_val (pe_fld (pv 0) rfl)) (pss_one (ps_ret (pe_and (pe_cmpR op_eq (pv 4) (pe_callB call_len_seq (by rfl) Z.L.N.len PySem.boot_len (pa_cons (pe_fld (pv 0) rfl) pa_nil)) (nomark _)) (pe_one (pe_meth (pv 0) Y.cl Y.m3.m G3 hr7 Y.m3.b .nil pass0 (pa_cons (pv 2) pa_nil)))))) pss_nil)
      (pss_cons (ps_if (pt_cmpR op_ge (pv 4) (pe_callB call_len_seq (by rfl) Z.L.N.len PySem.boot_len (pa_cons (pe_fld (pv 0) rfl) pa_nil)) (nomark _)) pss_never pss_nil)
      (pss_cons (ps_while PassesOwn.never (pt_cmpR op_lt (pv 4) (pe_op op_sub (pe_callB call_len_seq (by rfl) Z.L.N.len PySem.boot_len (pa_cons (pe_fld (pv 0) rfl) pa_nil)) pe_int) (nomark _)) (pss_one (ps_expr (pe_meth0 (pv 0) Y.cl Y.m6.m G6 hr8 Y.m6.b .nil pass0))))
      (pss_one (ps_ret (pe_meth (pv 0) Y.cl Y.m4.m G4 hr Y.m4.b .nil pass0 (pa_cons (pv 2) pa_nil)))))))))), ?_⟩
    have lenL : (ind d (Txt.join " " us)).length ≤ 106 := by rw [len_ind]; omega
    have len1 : (ind d (Txt.join " " us)).length ≤ sizeLine := by rw [sizeLine_eq]; omega
    refine ⟨_, rfl, ⟨_, rfl⟩, _, _, rfl, rfl, len1, ⟨_, rfl⟩, _, _, rfl, rfl, by decide +kernel, ?_, ?_⟩
    · rw [lstrip_ind hwd, sizeLine_eq]
      omega
    rw [lstrip_ind hwd, split_words hwd]
    intro q hq
    have s1 : Same H (upd H q (.lst (us.map V.str))) := same_new hq
    have e1 : upd H q (.lst (us.map V.str)) q = some (.lst (us.map V.str)) := upd_same
    generalize upd H q (.lst (us.map V.str)) = H1 at s1 e1
    refine ⟨_, rfl, _, rfl, len1, _, rfl, ⟨_, rfl⟩, _, _, rfl, rfl, len1, _, rfl, ?_, _, _, rfl, rfl, ?_⟩
    · rw [lstrip_ind hwd, sizeLine_eq]
      omega
    rw [lstrip_ind hwd, len_ind]
    have eb : ((2 * d + (Txt.join " " us).length : Nat) : Int) - ((Txt.join " " us).length : Nat) = ((2 * d : Nat) : Int) := by omega
    dsimp only
    rw [eb]
    refine ⟨_, rfl, _, rfl, by rw [two_len]; decide, _, _, rfl, rfl, by rw [two_len]; exact ⟨by decide, by decide⟩, ?_⟩
    rw [two_len]
    have ed : (((2 * d : Nat) : Int) / ((2 : Nat) : Int)) = (d : Nat) := by omega
    dsimp only
    rw [ed]
    refine ⟨_, rfl, _, rfl, by rw [two_len]; decide, _, _, rfl, rfl, .inl ⟨by omega, by omega⟩, ?_⟩
    rw [two_len]
    have em : ((d : Nat) : Int) * ((2 : Nat) : Int) = ((2 * d : Nat) : Int) := by omega
    dsimp only
    rw [em]
    refine ⟨_, rfl, rfl, _, rfl, ?_⟩
    rw [decide_eq_true rfl]
    refine iteF (A := True) ?_
    rcases k with ⟨s0, ps, rfl, hR, hps, hs, k⟩ | ⟨p, r1, ps, hR, hps, okr, k⟩
    · have hR1 := hR.same s1
      obtain ⟨dx, a1⟩ := hR1.at_
      have l1 := hR1.ls
      have lw := hR1.pg.len
      refine ⟨_, rfl, a, CR, dx, _, _, rfl, a1, Y.cl, Y.n2, get_o _ _, _, rfl, iteT (B := True) ?_⟩
      refine ⟨_, rfl, _, rfl, a, CR, dx, _, _, rfl, a1, Y.cl, Y.n1, get_p _ _, l, _, rfl, .inl (SqL.of l1), rfl, _, rfl, ?_⟩
      refine dif (fun _ => ?_) (fun z => absurd ?_ z)
      · refine ⟨_, rfl, a, dx, _, rfl, a1, rf_no (by decide +kernel) (by decide +kernel), _, rfl, ?_⟩
        exact ⟨a, l, q, ws, s0, ps, rfl, hR1, e1, hs, by omega, fun v H' bx r => k (v :: ws) H' ((Same.xx s1).trans bx) r⟩
      · rw [List.length_reverse, lw, hps]
    · have hR1 := hR.same s1
      obtain ⟨dx, a1⟩ := hR1.at_
      have l1 := hR1.ls
      have lw := hR1.pg.len
      have lw2 : ws.length = r1.length + d + 1 := by rw [lw, List.length_cons, List.length_append, hps]
      refine ⟨_, rfl, a, CR, dx, _, _, rfl, a1, Y.cl, Y.n2, get_o _ _, _, rfl, iteF (A := True) ?_⟩
      refine ⟨_, rfl, _, rfl, a, CR, dx, _, _, rfl, a1, Y.cl, Y.n1, get_p _ _, l, _, rfl, .inl (SqL.of l1), _, _, rfl, rfl, _, rfl, ?_⟩
      refine dif (fun z => ?_) (fun _ => ?_)
      · rw [List.length_reverse, lw2] at z
        exact absurd z (by omega)
      have k := k.up (Same.xx s1)
      have hqa : q ≠ a := fun z => by rw [z, a1] at e1; cases e1
      have hql : q ≠ l := fun z => by
        have hp := hR.ls
        rw [← z, hq] at hp
        cases hp
      refine ⟨fun m σ H' => ∃ (ws : List V) (p' : Pg) (r : List Pg), σ = [some (.ref a), some (.str (ind d (Txt.join " " us))), some (.ref q), some (.int ((2 * d : Nat) : Int)), some (.int (d : Nat))] ∧ m = r.length ∧ Bxx a l H1 H' ∧ Rd8 K C CR H' a l ws (p' :: (r ++ ps)) false ∧ okc p' r ∧ fin p' r = fin p r1,
        ⟨_, ws, p, r1, rfl, rfl, fun _ _ _ _ e => e, hR1, okr, rfl⟩, ?_⟩
      rintro m σ H2 ⟨ws2, p', r, rfl, rfl, bx2, hR2, ok2, ef⟩
      obtain ⟨dx2, a2⟩ := hR2.at_
      have l2 := hR2.ls
      have lw3 := hR2.pg.len
      have lw4 : ws2.length = r.length + d + 1 := by rw [lw3, List.length_cons, List.length_append, hps]
      refine ⟨_, rfl, _, rfl, a, CR, dx2, _, _, rfl, a2, Y.cl, Y.n1, get_p _ _, l, _, rfl, .inl (SqL.of l2), _, _, rfl, rfl, _, _, rfl, rfl, _, rfl, ?_⟩
      refine dif (fun z => ?_) (fun z => ?_)
      · rw [List.length_reverse, lw4] at z
        cases r with
        | nil =>
          exact absurd z (by simp <;> omega)
        | cons q1 r =>
          have ok2 : (q1.then (.zip p')).ok ∧ okc (q1.then (.zip p')) r := ok2
          refine ⟨fun σ' H' => ∃ m', m' < (q1 :: r).length ∧ ∃ (ws : List V) (p' : Pg) (r : List Pg), σ' = [some (.ref a), some (.str (ind d (Txt.join " " us))), some (.ref q), some (.int ((2 * d : Nat) : Int)), some (.int (d : Nat))] ∧ m' = r.length ∧ Bxx a l H1 H' ∧ Rd8 K C CR H' a l ws (p' :: (r ++ ps)) false ∧ okc p' r ∧ fin p' r = fin p r1, fun σ' H' h => h, ?_⟩
          cases ws2 with
          | nil => cases lw4
          | cons v1 ws2 =>
          cases ws2 with
          | nil =>
            rw [List.length_cons, List.length_cons] at lw4
            exact absurd lw4 (by simp <;> omega)
          | cons v2 ws2 =>
          refine ⟨_, rfl, a, dx2, _, rfl, a2, rf_no (by decide +kernel) (by decide +kernel), a, l, v1, v2, ws2, p', q1, r ++ ps, false, rfl, hR2, ok2.1, fun v H' b' hR' => ?_⟩
          exact ⟨r.length, Nat.lt_succ_self _, v :: ws2, q1.then (.zip p'), r, rfl, rfl, bx2.trans b'.l, hR', ok2.2, ef⟩
      · rw [List.length_reverse, lw4] at z
        cases r with
        | cons q1 r => exact absurd (by simp <;> omega) z
        | nil =>
        have ef : p' = fin p r1 := ef
        subst ef
        have eq2 := bx2 q _ hqa hql e1
        have k := k.up bx2
        cases ws2 with
        | nil => cases lw4
        | cons v1 ws2 =>
        refine ⟨_, rfl, a, dx2, _, rfl, a2, rf_no (by decide +kernel) (by decide +kernel), _, rfl, ?_⟩
        rcases k with ⟨x, dd, tk, rfl, pl, okx, okg, k⟩ | ⟨rfl, nf, okz, k⟩
        · exact ⟨a, l, q, v1, ws2, x, dd, tk, _, ps, rfl, hR2, eq2, .inl ⟨pl, okx, okg, fun v H' bx r => k _ H' bx r⟩⟩
        · exact ⟨a, l, q, v1, ws2, .zip (.mk "a" .nil), 0, [], _, ps, rfl, hR2, eq2, .inr ⟨⟨_, rfl⟩, a, l, v1, ws2, _, ps, false, rfl, hR2, nf, okz, fun H' bx r => k _ H' bx r⟩⟩
end
end K80
set_option Elab.async false
set_option linter.all false
set_option maxRecDepth 100000
set_option maxHeartbeats 4000000
namespace K80
open PySem L2 VK
open TL (tl)
/-! ### a program's lines, one by one -/
mutual
def Sg.toks (d : Nat) : Sg → List (Nat × List Str)
  | .nm k n => [(d, [k, n])]
  | .num k n => [(d, [k, numS n])]
  | .flat => [(d, ["flat"])]
  | .zip p => (d, ["zip"]) :: p.toks (d + 1)
def Pg.toks (d : Nat) : Pg → List (Nat × List Str)
  | .mk s l => (d, ["from", s]) :: l.toks d
def Sgs.toks (d : Nat) : Sgs → List (Nat × List Str)
  | .nil => []
  | .cons x r => x.toks d ++ r.toks d
end
def lineOf (t : Nat × List Str) : Str := ind t.1 (Txt.join " " t.2)
mutual
theorem Sg.toks_eq : ∀ (x : Sg) (d : Nat), x.lines.map (ind d) = (x.toks d).map lineOf
  | .nm _ _, _ => rfl
  | .num _ _, _ => rfl
  | .flat, _ => rfl
  | .zip p, d => by
    show ind d "zip" :: (p.lines.map fun l => ("  " : Str) ++ l).map (ind d) = ind d (Txt.join " " ["zip"]) :: (p.toks (d + 1)).map lineOf
    rw [ind_map, Pg.toks_eq p (d + 1), join_one]
theorem Pg.toks_eq : ∀ (g : Pg) (d : Nat), g.lines.map (ind d) = (g.toks d).map lineOf
  | .mk s l, d => by
    show ind d (("from " : Str) ++ s) :: l.lines.map (ind d) = ind d (Txt.join " " ["from", s]) :: (l.toks d).map lineOf
    rw [from_eq, Sgs.toks_eq l d]
theorem Sgs.toks_eq : ∀ (l : Sgs) (d : Nat), l.lines.map (ind d) = (l.toks d).map lineOf
  | .nil, _ => rfl
  | .cons x r, d => by
    show (x.lines ++ r.lines).map (ind d) = (x.toks d ++ r.toks d).map lineOf
    rw [List.map_append, List.map_append, Sg.toks_eq x d, Sgs.toks_eq r d]
end
abbrev Stt := List Pg × Bool
/-- what a line does -/
inductive Step : Nat → List Str → Stt → Stt → Prop where
  | from {d : Nat} {s : Str} {ps : List Pg} (h : ps.length = d) (hs : s ∈ free ps) : Step d ["from", s] (ps, true) (.mk s .nil :: ps, false)
  | stg {d : Nat} {p : Pg} {r ps : List Pg} {x : Sg} {e : Int} {tk : List Str} (h : ps.length = d) (ok : okc p r) (pl : x.plain) (okx : x.ok e tk) (okg : ((fin p r).then x).ok) : Step d x.words (p :: (r ++ ps), false) ((fin p r).then x :: ps, false)
  | zip {d : Nat} {p : Pg} {r ps : List Pg} (h : ps.length = d) (ok : okc p r) (nf : free (fin p r :: ps) ≠ []) (okz : ∀ s ∈ free (fin p r :: ps), ((fin p r).then (.zip (.mk s .nil))).ok) : Step d ["zip"] (p :: (r ++ ps), false) (fin p r :: ps, true)
inductive Runs : List (Nat × List Str) → Stt → Stt → Prop where
  | nil {a : Stt} : Runs [] a a
  | cons {d : Nat} {us : List Str} {ts : List (Nat × List Str)} {a b c : Stt} (h : Step d us a b) (t : Runs ts b c) : Runs ((d, us) :: ts) a c
theorem Runs.app {ts us : List (Nat × List Str)} {a b c : Stt} (h : Runs ts a b) (h' : Runs us b c) : Runs (ts ++ us) a c := by
  induction h with
  | nil => exact h'
  | cons h _ ih => exact .cons h (ih h')
theorem fin_snoc : ∀ (p : Pg) (r : List Pg) (q : Pg), fin p (r ++ [q]) = q.then (.zip (fin p r))
  | p, [], q => rfl
  | p, q1 :: r, q => fin_snoc (q1.then (.zip p)) r q
theorem okc_snoc : ∀ {p : Pg} {r : List Pg} {q : Pg}, okc p r → (q.then (.zip (fin p r))).ok → okc p (r ++ [q])
  | p, [], q, _, h => ⟨h, trivial⟩
  | p, q1 :: r, q, h, h' => ⟨h.1, okc_snoc (r := r) h.2 h'⟩
theorem app_len : ∀ a b : Sgs, (a.app b).len = a.len + b.len
  | .nil, b => by show b.len = 0 + b.len; omega
  | .cons x r, b => by
    show (r.app b).len + 1 = r.len + 1 + b.len
    rw [app_len r b]
    omega
theorem app_ok : ∀ {a b : Sgs} {d : Int} {tk : List Str}, (a.app b).ok d tk → a.ok d tk ∧ b.ok (a.dep d) (tk ++ a.srcs)
  | .nil, b, d, tk, h => ⟨trivial, by show b.ok d (tk ++ []); rw [List.append_nil]; exact h⟩
  | .cons x r, b, d, tk, h => by
    have h : x.ok d tk ∧ (r.app b).ok (x.dep d) (tk ++ x.srcs) := h
    obtain ⟨h1, h2⟩ := app_ok h.2
    refine ⟨⟨h.1, h1⟩, ?_⟩
    show b.ok (r.dep (x.dep d)) (tk ++ (x.srcs ++ r.srcs))
    rw [← List.append_assoc]
    exact h2
theorem snoc_ok {l : Sgs} {x : Sg} {d : Int} {tk : List Str} (h : (l.snoc x).ok d tk) : l.ok d tk ∧ x.ok (l.dep d) (tk ++ l.srcs) := by
  rw [← app_nil (l.snoc x), snoc_app] at h
  obtain ⟨a, b⟩ := app_ok h
  exact ⟨a, (show x.ok _ _ ∧ _ from b).1⟩
/-- one stage more, of those that come -/
theorem then_ok {s : Str} {a r : Sgs} {x : Sg} (h : (Pg.mk s (a.app (.cons x r))).ok) : ((Pg.mk s a).then x).ok := by
  have h : s ∈ K0 ∧ (a.app (.cons x r)).len ≤ 6 ∧ (a.app (.cons x r)).ok 0 [s] := h
  obtain ⟨h0, h1, h2⟩ := h
  rw [app_len] at h1
  have h1 : a.len + (r.len + 1) ≤ 6 := h1
  obtain ⟨h3, h4⟩ := app_ok h2
  have h4 : x.ok (a.dep 0) ([s] ++ a.srcs) ∧ _ := h4
  exact ⟨h0, by rw [len_snoc]; omega, ok_snoc h3 h4.1⟩
def disj (ss : List Str) (ps : List Pg) : Prop := ∀ s ∈ ss, ∀ p ∈ ps, s ∉ p.srcs
mutual
theorem Pg.runs : ∀ (g : Pg) (d : Nat) (ps : List Pg), g.ok → ps.length = d → disj g.srcs ps → ∃ (p : Pg) (r : List Pg), Runs (g.toks d) (ps, true) (p :: (r ++ ps), false) ∧ okc p r ∧ fin p r = g
  | .mk s l, d, ps, ok, hd, dj => by
    have okp : s ∈ K0 ∧ l.len ≤ 6 ∧ l.ok 0 [s] := ok
    obtain ⟨p, r, h, o, f⟩ := Sgs.runs l d ps s .nil (.mk s .nil) [] ok hd (fun z hz => dj z (List.mem_cons_of_mem _ hz)) trivial rfl
    exact ⟨p, r, .cons (.from hd (mem_free.mpr ⟨okp.1, dj s List.mem_cons_self⟩)) h, o, f⟩
theorem Sgs.runs : ∀ (l : Sgs) (d : Nat) (ps : List Pg) (s : Str) (l0 : Sgs) (p : Pg) (r : List Pg), (Pg.mk s (l0.app l)).ok → ps.length = d → disj l.srcs ps → okc p r → fin p r = .mk s l0 →
    ∃ (p' : Pg) (r' : List Pg), Runs (l.toks d) (p :: (r ++ ps), false) (p' :: (r' ++ ps), false) ∧ okc p' r' ∧ fin p' r' = .mk s (l0.app l)
  | .nil, d, ps, s, l0, p, r, ok, hd, dj, o, f => ⟨p, r, .nil, o, by rw [app_nil]; exact f⟩
  | .cons x l, d, ps, s, l0, p, r, ok, hd, dj, o, f => by
    have dj : disj (x.srcs ++ l.srcs) ps := dj
    have ok1 := then_ok ok
    have ok2 : (Pg.mk s ((l0.snoc x).app l)).ok := by rw [snoc_app]; exact ok
    obtain ⟨p2, r2, h2, o2, f2⟩ := Sg.runs x d ps s l0 p r ok1 hd (fun z hz => dj z (List.mem_append_left _ hz)) o f
    obtain ⟨p3, r3, h3, o3, f3⟩ := Sgs.runs l d ps s (l0.snoc x) p2 r2 ok2 hd (fun z hz => dj z (List.mem_append_right _ hz)) o2 f2
    exact ⟨p3, r3, h2.app h3, o3, by rw [f3, snoc_app]⟩
theorem Sg.runs : ∀ (x : Sg) (d : Nat) (ps : List Pg) (s : Str) (l0 : Sgs) (p : Pg) (r : List Pg), ((Pg.mk s l0).then x).ok → ps.length = d → disj x.srcs ps → okc p r → fin p r = .mk s l0 →
    ∃ (p' : Pg) (r' : List Pg), Runs (x.toks d) (p :: (r ++ ps), false) (p' :: (r' ++ ps), false) ∧ okc p' r' ∧ fin p' r' = (Pg.mk s l0).then x
  | .nm k n, d, ps, s, l0, p, r, ok, hd, dj, o, f => by
    have okx : s ∈ K0 ∧ (l0.snoc (.nm k n)).len ≤ 6 ∧ (l0.snoc (.nm k n)).ok 0 [s] := ok
    have z : (Sg.nm k n).ok (l0.dep 0) ([s] ++ l0.srcs) := (snoc_ok okx.2.2).2
    have st := Step.stg (ps := ps) (p := p) (r := r) (x := .nm k n) hd o trivial z (by rw [f]; exact ok)
    rw [f] at st
    exact ⟨_, [], .cons st .nil, trivial, rfl⟩
  | .num k n, d, ps, s, l0, p, r, ok, hd, dj, o, f => by
    have okx : s ∈ K0 ∧ (l0.snoc (.num k n)).len ≤ 6 ∧ (l0.snoc (.num k n)).ok 0 [s] := ok
    have z : (Sg.num k n).ok (l0.dep 0) ([s] ++ l0.srcs) := (snoc_ok okx.2.2).2
    have st := Step.stg (ps := ps) (p := p) (r := r) (x := .num k n) hd o trivial z (by rw [f]; exact ok)
    rw [f] at st
    exact ⟨_, [], .cons st .nil, trivial, rfl⟩
  | .flat, d, ps, s, l0, p, r, ok, hd, dj, o, f => by
    have okx : s ∈ K0 ∧ (l0.snoc .flat).len ≤ 6 ∧ (l0.snoc .flat).ok 0 [s] := ok
    have z : (Sg.flat).ok (l0.dep 0) ([s] ++ l0.srcs) := (snoc_ok okx.2.2).2
    have st := Step.stg (ps := ps) (p := p) (r := r) (x := .flat) hd o trivial z (by rw [f]; exact ok)
    rw [f] at st
    exact ⟨_, [], .cons st .nil, trivial, rfl⟩
  | .zip q, d, ps, s, l0, p, r, ok, hd, dj, o, f => by
    have okx : s ∈ K0 ∧ (l0.snoc (.zip q)).len ≤ 6 ∧ (l0.snoc (.zip q)).ok 0 [s] := ok
    have z : (Sg.zip q).ok (l0.dep 0) ([s] ++ l0.srcs) := (snoc_ok okx.2.2).2
    have z : q.ok ∧ ∀ t ∈ q.srcs, t ∉ [s] ++ l0.srcs := z
    have dj : disj q.srcs ps := dj
    have djq : disj q.srcs (.mk s l0 :: ps) := fun t ht p' hp' => by
      rcases List.mem_cons.mp hp' with rfl | hp'
      · exact z.2 t ht
      · exact dj t ht p' hp'
    have st := Step.zip (ps := ps) (p := p) (r := r) hd o (by
        rw [f]
        obtain ⟨sq, lq⟩ := q
        intro e
        have m : sq ∈ free (Pg.mk s l0 :: ps) := mem_free.mpr ⟨((show sq ∈ K0 ∧ _ from z.1)).1, fun p' hp' => djq sq List.mem_cons_self p' hp'⟩
        rw [e] at m
        cases m) (by
        rw [f]
        intro t ht
        obtain ⟨t0, tn⟩ := mem_free.mp ht
        have tn := tn _ List.mem_cons_self
        refine ⟨okx.1, ?_, ok_snoc (snoc_ok okx.2.2).1 ⟨⟨t0, Nat.zero_le _, trivial⟩, fun u hu => ?_⟩⟩
        · have := okx.2.1
          rw [len_snoc] at this ⊢
          exact this
        · have hu : u ∈ [t] := hu
          rw [List.mem_singleton.mp hu]
          exact tn)
    rw [f] at st
    obtain ⟨p2, r2, h2, o2, f2⟩ := Pg.runs q (d + 1) (.mk s l0 :: ps) z.1 (by rw [List.length_cons, hd]) djq
    have e : r2 ++ Pg.mk s l0 :: ps = (r2 ++ [Pg.mk s l0]) ++ ps := by rw [List.append_assoc]; rfl
    rw [e] at h2
    exact ⟨p2, r2 ++ [Pg.mk s l0], .cons st h2, okc_snoc o2 (by rw [f2]; exact ok), by rw [fin_snoc, f2]⟩
end
end K80
set_option Elab.async false
set_option linter.all false
set_option maxRecDepth 100000
set_option maxHeartbeats 4000000
namespace K80
open PySem L2 VK
open TL (tl)
mutual
theorem Sg.tok_d : ∀ (x : Sg) (d : Nat), ∀ t ∈ x.toks d, t.1 ≤ d + x.nest
  | .nm _ _, d => fun t ht => by rw [List.mem_singleton.mp ht]; exact Nat.le_add_right _ _
  | .num _ _, d => fun t ht => by rw [List.mem_singleton.mp ht]; exact Nat.le_add_right _ _
  | .flat, d => fun t ht => by rw [List.mem_singleton.mp ht]; exact Nat.le_add_right _ _
  | .zip p, d => fun t ht => by
    show t.1 ≤ d + (p.nest + 1)
    rcases List.mem_cons.mp ht with rfl | ht
    · exact Nat.le_add_right _ _
    · have := Pg.tok_d p (d + 1) t ht
      omega
theorem Pg.tok_d : ∀ (g : Pg) (d : Nat), ∀ t ∈ g.toks d, t.1 ≤ d + g.nest
  | .mk s l, d => fun t ht => by
    show t.1 ≤ d + l.nest
    rcases List.mem_cons.mp ht with rfl | ht
    · exact Nat.le_add_right _ _
    · exact Sgs.tok_d l d t ht
theorem Sgs.tok_d : ∀ (l : Sgs) (d : Nat), ∀ t ∈ l.toks d, t.1 ≤ d + l.nest
  | .nil, d => fun t ht => by cases ht
  | .cons x r, d => fun t ht => by
    show t.1 ≤ d + max x.nest r.nest
    have m1 := Nat.le_max_left x.nest r.nest
    have m2 := Nat.le_max_right x.nest r.nest
    rcases List.mem_append.mp ht with ht | ht
    · have := Sg.tok_d x d t ht
      omega
    · have := Sgs.tok_d r d t ht
      omega
end
theorem words_wd {x : Sg} {d : Int} {tk : List Str} (ok : x.ok d tk) : Wd x.words ∧ (Txt.join " " x.words).length ≤ 100 := by
  cases x with
  | nm k n =>
    have ok : k ∈ K1 ∧ isNm n = true := ok
    exact ⟨wd_two (fr_k1 _ ok.1) (fr_nm ok.2), Nat.le_trans (fr_len (fr_k1 _ ok.1) (fr_nm ok.2)) (by decide)⟩
  | num k n =>
    have ok : k ∈ K2 ∧ 1 ≤ n ∧ n ≤ 4 := ok
    exact ⟨wd_two (fr_k2 _ ok.1) (fr_num ok.2.1 ok.2.2), Nat.le_trans (fr_len (fr_k2 _ ok.1) (fr_num ok.2.1 ok.2.2)) (by decide)⟩
  | flat => exact ⟨wd_one fr_flat, by show (Txt.join " " ["flat"]).length ≤ 100; rw [join_one]; decide +kernel⟩
  | zip p => exact ⟨wd_one fr_zip, by show (Txt.join " " ["zip"]).length ≤ 100; rw [join_one]; decide +kernel⟩
theorem step_line {K : Fg} {C CR : Addr} {H : Hp} {a l : Addr} {ws : List V} {d : Nat} {us : List Str} {st st' : Stt} {Q : VK} {E : XK} (h : Step d us st st') (hd : d ≤ 3) (hR : Rd8 K C CR H a l ws st.1 st.2)
    (k : ∀ (ws : List V) (H' : Hp), Bxx a l H H' → Rd8 K C CR H' a l ws st'.1 st'.2 → Q (.bl true) H') : spRLine K C CR [.ref a, .str (lineOf (d, us))] H Q E := by
  cases h with
  | @«from» s ps h hs =>
    have k0 := (mem_free.mp hs).1
    exact ⟨a, l, ws, d, ["from", s], rfl, wd_two fr_from (fr_k0 _ k0), Nat.le_trans (fr_len fr_from (fr_k0 _ k0)) (by decide), hd, .inl ⟨s, ps, rfl, hR, h, hs, k⟩⟩
  | @stg p r ps x e tk h ok pl okx okg =>
    obtain ⟨w1, w2⟩ := words_wd okx
    exact ⟨a, l, ws, d, x.words, rfl, w1, w2, hd, .inr ⟨p, r, ps, hR, h, ok, .inl ⟨x, e, tk, rfl, pl, okx, okg, k⟩⟩⟩
  | @zip p r ps h ok nf okz =>
    exact ⟨a, l, ws, d, ["zip"], rfl, wd_one fr_zip, by rw [join_one]; decide +kernel, hd, .inr ⟨p, r, ps, hR, h, ok, .inr ⟨rfl, nf, okz, k⟩⟩⟩
def spAll (K : Fg) (C CR : Addr) : Sp := fun vs H Q _ => ∃ (a l : Addr) (ws : List V) (p : Pg) (r : List Pg), vs = [.ref a] ∧ Rd8 K C CR H a l ws (p :: r) false ∧ okc p r ∧ ∀ (v : V) (H' : Hp), Bxx a l H H' → PgAt K C H' v (fin p r) → Q v H'
def spRead (K : Fg) (C : Addr) : Sp := fun vs H Q _ => ∃ (g : Pg), vs = [.str g.text] ∧ g.ok ∧ ∀ (v : V) (H' : Hp), Same H H' → PgAt K C H' v g → Q v H'
section
variable {P : Program} {w : World} {K : Fg} {mg : Str → Option Value} {base : Heap} {A I : Nat → Addr} {D J : Nat → FuncData} {aS a1 a2 C e0 CR CE f fT fF fW aN : Addr} {fd dT dF dW : FuncData} {R : Nat → Addr} {S : Nat → FuncData}
theorem ok_all (Y : Rc K mg CR R S) (Z : Lp K mg A I D J aS a1 a2 C e0) (M : Mt K C "then" "Program.then" sThen ["self", "stage"] fT dT) : FnOk P w K mg base CX0 9 (R 7) (S 7) ["self"] (spAll K C CR) := by
  have G6 : FnOk P w K mg base CX0 8 (R 6) (S 6) ["self"] (spClose K C CR) := ok_close Y Z M
  refine Y.m7.F.ok scAll (fun vs H Q E h => ?_) (fun cdv B outer s H vs Q E hr h => ?_)
  · obtain ⟨a, l, ws, p, r, rfl, _⟩ := h
    rfl
  · obtain ⟨a, l, ws, p, r1, rfl, hR, okr, k⟩ := h
    refine ⟨_, pss_cons (ps_while PassesOwn.never (pt_cmpR op_gt (pe_callB call_len_seq (by rfl) Z.L.N.len PySem.boot_len (pa_cons (pe_fld (pv 0) rfl) pa_nil)) pe_int (nomark _)) (pss_one (ps_expr (pe_meth0 (pv 0) Y.cl Y.m6.m G6 hr Y.m6.b .nil pass0))))
      (pss_one (ps_ret (pe_ix ix_list (pe_fld (pv 0) rfl) pe_int (fun _ _ => rfl)))), ?_⟩
    refine ⟨fun m σ H' => ∃ (ws : List V) (p' : Pg) (r : List Pg), σ = [some (.ref a)] ∧ m = r.length ∧ Bxx a l H H' ∧ Rd8 K C CR H' a l ws (p' :: r) false ∧ okc p' r ∧ fin p' r = fin p r1,
        ⟨_, ws, p, r1, rfl, rfl, fun _ _ _ _ e => e, hR, okr, rfl⟩, ?_⟩
    rintro m σ H2 ⟨ws2, p', r, rfl, rfl, bx2, hR2, ok2, ef⟩
    obtain ⟨dx2, a2⟩ := hR2.at_
    have l2 := hR2.ls
    have lw3 := hR2.pg.len
    rw [List.length_cons] at lw3
    refine ⟨_, rfl, a, CR, dx2, _, _, rfl, a2, Y.cl, Y.n1, get_p _ _, l, _, rfl, .inl (SqL.of l2), _, _, rfl, rfl, _, rfl, ?_⟩
    refine dif (fun z => ?_) (fun z => ?_)
    · rw [List.length_reverse, lw3] at z
      cases r with
      | nil => exact absurd z (by simp)
      | cons q1 r =>
        have ok2 : (q1.then (.zip p')).ok ∧ okc (q1.then (.zip p')) r := ok2
        refine ⟨fun σ' H' => ∃ m', m' < (q1 :: r).length ∧ ∃ (ws : List V) (p' : Pg) (r : List Pg), σ' = [some (.ref a)] ∧ m' = r.length ∧ Bxx a l H H' ∧ Rd8 K C CR H' a l ws (p' :: r) false ∧ okc p' r ∧ fin p' r = fin p r1, fun σ' H' h => h, ?_⟩
        cases ws2 with
        | nil => cases lw3
        | cons v1 ws2 =>
        cases ws2 with
        | nil =>
          rw [List.length_cons, List.length_cons] at lw3
          exact absurd lw3 (by simp)
        | cons v2 ws2 =>
        refine ⟨_, rfl, a, dx2, _, rfl, a2, rf_no (by decide +kernel) (by decide +kernel), a, l, v1, v2, ws2, p', q1, r, false, rfl, hR2, ok2.1, fun v H' b' hR' => ?_⟩
        exact ⟨r.length, Nat.lt_succ_self _, v :: ws2, q1.then (.zip p'), r, rfl, rfl, bx2.trans b'.l, hR', ok2.2, ef⟩
    · rw [List.length_reverse, lw3] at z
      cases r with
      | cons q1 r => exact absurd (by simp <;> omega) z
      | nil =>
      have ef : p' = fin p r1 := ef
      subst ef
      cases ws2 with
      | nil => cases lw3
      | cons v1 ws2 =>
      have hv : PgAt K C H2 v1 (fin p r1) := by
        have z := hR2.pg
        cases z with
        | cons h _ => exact h
      have e0 : ws2 = [] := by
        cases ws2 with
        | nil => rfl
        | cons _ _ => exact absurd lw3 (by simp)
      subst e0
      exact ⟨_, rfl, a, CR, dx2, _, _, rfl, a2, Y.cl, Y.n1, get_p _ _, l, _, _, v1, rfl, rfl, SqL.of l2, atI_nat (j := 0) rfl, k v1 H2 bx2 hv⟩
theorem text_len {g : Pg} (h : g.ok) : g.text.length ≤ 1000 := by
  have n3 := nest_srcs h
  have a := sum_le g.lines (n := 23) fun l hl => by
    have := (Pg.line_ok g h l hl).1
    omega
  have b := Pg.many28 h
  have e : ("\n" : Str).length = 1 := by decide +kernel
  unfold Pg.text
  rw [TL.join_eq]
  cases hl : g.lines with
  | nil =>
    obtain ⟨s, r⟩ := g
    cases hl
  | cons x r =>
    rw [hl] at a b
    rw [PyProof.Rows.len_join_cons, e]
    rw [List.length_cons] at a b
    omega
theorem Bxx.same {a l : Addr} {H H1 H' : Hp} (s : Same H H1) (b : Bxx a l H1 H') (ha : H a = none) (hl : H l = none) : Same H H' := fun c o e => b c o (ne_of_none e ha) (ne_of_none e hl) (s _ _ e)
theorem ok_read (Y : Rc K mg CR R S) (Z : Lp K mg A I D J aS a1 a2 C e0) (hne : CR ≠ C) (M : Mt K C "then" "Program.then" sThen ["self", "stage"] fT dT) (DF : Df K mg "can_follow" sFollow ["program", "stage"] fF dF) (DW : Df K mg "stage_of_words" sWords ["words"] fW dW) (gE : mg "StreamError" = some (.ref CE)) (U : Nu K mg w aN)
    (ti : ∃ t, mg "INDENT" = some (.str "  " t)) (DR : Df K mg "read_program" sRead ["text"] f fd) : FnOk P w K mg base CX0 12 f fd ["text"] (spRead K C) := by
  have GL : FnOk P w K mg base CX0 11 (R 2) (S 2) ["self", "line"] (spRLine K C CR) := ok_rline Y Z hne M DF DW gE U ti
  have GA : FnOk P w K mg base CX0 9 (R 7) (S 7) ["self"] (spAll K C CR) := ok_all Y Z M
  have GI : FnOk P w K mg base CX0 1 (R 0) (S 0) ["self"] (spRInit CR) := ok_rinit Y
  refine DR.F.ok scRead (fun vs H Q E h => ?_) (fun cdv B outer s H vs Q E hr h => ?_)
  · obtain ⟨g, rfl, _⟩ := h
    rfl
  · obtain ⟨g, rfl, ok, k⟩ := h
    have hr2 := hr.mono (show 2 ≤ 11 by decide)
    have hr9 := hr.mono (show 9 ≤ 11 by decide)
    refine ⟨_, pss_cons (ps_if (pt_not (pt_val (pe_callB call_isi (by rfl) Z.L.N.isi PyProof.Rows.boot_isinstance (pa_cons (pv 0) (pa_cons (pe_bltn (v := .ty "str") (by rfl) Z.L.N.str boot_str' rfl) pa_nil))))) pss_never pss_nil)
      (pss_cons (ps_set (i := 1) scRead.nd rfl (Or.inl rfl) (pe_make0 Y.ky GI hr2 rfl Y.g Y.b0 .nil pass0))
      (pss_cons (ps_set (i := 2) scRead.nd rfl (Or.inl rfl) (pe_split (pv 0) pe_str))
      (pss_cons (ps_for PassesOwn.never rfl (pi_enumA (by rfl) Z.L.N.enm (pa_cons (pv 2) pa_nil)) (pg_tup rfl (pgs_cons (pg_name (i := 3) scRead.nd rfl (Or.inl rfl)) (pgs_cons (pg_name (i := 4) scRead.nd rfl (Or.inl rfl)) pgs_nil)))
        (pss_one (ps_if (pt_not (pt_val (pe_meth (pv 1) Y.cl Y.m2.m GL hr Y.m2.b .nil pass0 (pa_cons (pv 4) pa_nil)))) pss_never pss_nil)))
      (pss_cons (ps_if (pt_val (pe_fld (pv 1) rfl)) pss_never pss_nil)
      (pss_one (ps_ret (pe_meth0 (pv 1) Y.cl Y.m7.m GA hr9 Y.m7.b .nil pass0))))))), ?_⟩
    refine ⟨_, rfl, .str g.text, .ty "str", .type "str", .type "str", true, rfl, .ty _, .base (.str _), kit_ty (by decide +kernel), _, rfl, iteF (A := True) ?_⟩
    dsimp only [tNil]
    intro x dx hx hdx hne2
    have s1 : Same H (upd (upd H dx (.own x)) x (.ins CR dx [])) := same_mk hx hdx
    refine ⟨x, dx, rfl, upd_same, fun l H1 hl b1 e1 el => ⟨rfl, ?_⟩⟩
    have hlH : H l = none := s1.free hl
    have sH1 : Same H H1 := fun c o e => b1 _ _ (ne_of_none e hx) (s1 _ _ e)
    have hR1 : Rd8 K C CR H1 x l [] [] true := ⟨⟨dx, e1⟩, el, .nil, by decide, fun _ h => by cases h⟩
    clear s1 b1 e1 el hl
    have ne : g.lines ≠ [] := by
      obtain ⟨s, r⟩ := g
      exact List.cons_ne_nil _ _
    have ten : ∀ l ∈ g.lines, 10 ∉ tl l := fun l hl => (Pg.line_ok g ok l hl).2
    have hts := Pg.toks_eq g 0
    have hm0 : g.lines.map (ind 0) = g.lines := by
      show g.lines.map (fun x => x) = g.lines
      exact List.map_id' _
    rw [hm0] at hts
    have tokd : ∀ t ∈ g.toks 0, t.1 ≤ 3 := fun t ht => by
      have a1 := Pg.tok_d g 0 t ht
      have a2 := nest_srcs ok
      omega
    obtain ⟨p, r, runs, okr, ef⟩ := Pg.runs g 0 [] ok rfl (fun _ _ _ h => by cases h)
    refine ⟨_, rfl, ⟨_, rfl⟩, _, _, rfl, rfl, by decide +kernel, ?_, ?_⟩
    · have := text_len ok
      rw [sizeLine_eq]
      omega
    show rNewStrs (Txt.split (Txt.join "\n" g.lines) "\n") _ _
    rw [split_lines ne ten]
    intro q hq
    have s2 : Same H1 (upd H1 q (.lst (g.lines.map V.str))) := same_new hq
    have e2 : upd H1 q (.lst (g.lines.map V.str)) q = some (.lst (g.lines.map V.str)) := upd_same
    generalize upd H1 q (.lst (g.lines.map V.str)) = H2 at s2 e2
    have hR2 := hR1.same s2
    have hqx : q ≠ x := fun z => by
      obtain ⟨dx, e⟩ := hR2.at_
      rw [← z, e2] at e
      cases e
    have hql : q ≠ l := fun z => by
      have e := hR1.ls
      rw [← z, hq] at e
      cases e
    refine ⟨_, rfl, q, _, rfl, _, .inl ⟨SqL.of e2, rfl⟩, ?_⟩
    rw [hts] at e2
    generalize g.toks 0 = ts at runs tokd e2
    refine for_it (walk_enum (xs := (ts.map lineOf).map V.str)) (fun i σ H' => ∃ (ws : List V) (st : Stt) (v3 v4 : Option V), σ = [some (.str g.text), some (.ref x), some (.ref q), v3, v4] ∧ Bxx x l H2 H' ∧ Rd8 K C CR H' x l ws st.1 st.2 ∧ Runs (ts.drop i) st (p :: (r ++ []), false))
      ⟨[], _, none, none, rfl, fun _ _ _ _ e => e, hR2, runs⟩ (fun i σ H' _ z => ?_) ?_ ?_
    · obtain ⟨_, _, _, _, _, b, _⟩ := z
      exact SqL.of (b q _ hqx hql e2)
    · rintro i y σ H3 H4 hi ⟨ws, st, v3, v4, rfl, bx3, hR3, rn⟩ ⟨T, a, b, rfl, hT, rfl, ea, eb⟩
      obtain ⟨z1, hz1, rfl⟩ := map_get eb
      obtain ⟨tk, htk, rfl⟩ := map_get hz1
      have hi2 : i < ts.length := (List.getElem?_eq_some_iff.mp htk).1
      have hd : ts.drop i = tk :: ts.drop (i + 1) := by
        rw [List.drop_eq_getElem_cons hi2]
        rw [List.getElem?_eq_getElem hi2] at htk
        rw [Option.some.inj htk]
      rw [hd] at rn
      obtain ⟨d, us⟩ := tk
      cases rn with
      | @cons _ _ _ _ st2 _ stp rn =>
      have s4 : Same H3 (upd H3 T (.tup [a, .str (lineOf (d, us))])) := same_new hT
      refine ⟨T, _, rfl, .inl (.inl upd_same), rfl, _, _, rfl, _, _, rfl, rfl, ?_⟩
      generalize upd H3 T (.tup [a, .str (lineOf (d, us))]) = H4 at s4
      have hR4 := hR3.same s4
      obtain ⟨dx4, a4⟩ := hR4.at_
      refine ⟨_, rfl, x, dx4, _, rfl, a4, rf_no (by decide +kernel) (by decide +kernel), _, rfl, ?_⟩
      dsimp only [tNil]
      refine step_line stp (tokd _ (List.mem_of_getElem? htk)) hR4 fun ws5 H5 b5 hR5 => ⟨_, rfl, iteF (A := True) ?_⟩
      exact ⟨ws5, st2, _, _, rfl, (bx3.trans (Same.xx s4)).trans b5, hR5, rn⟩
    · rintro σ H3 ⟨ws, st, v3, v4, rfl, bx3, hR3, rn⟩
      rw [List.length_map, List.length_map, List.drop_length] at rn
      cases rn
      rw [List.append_nil] at hR3
      obtain ⟨dx3, a3⟩ := hR3.at_
      refine ⟨_, rfl, x, CR, dx3, _, _, rfl, a3, Y.cl, Y.n2, get_o _ _, _, rfl, iteF (A := True) ?_⟩
      refine ⟨_, rfl, x, dx3, _, rfl, a3, rf_no (by decide +kernel) (by decide +kernel), x, l, ws, p, r, rfl, hR3, okr, fun v H4 b4 hv => ?_⟩
      rw [ef] at hv
      exact k v H4 ((bx3.trans b4).same (sH1.trans s2) hx hlH) hv
end
end K80
set_option Elab.async false
set_option linter.all false
set_option maxRecDepth 100000
set_option maxHeartbeats 4000000
namespace K80
open PySem L2 VK
open TL (tl)
abbrev sLL : Stmt := top 46
theorem scLL : FnScope ["plan", "found", "stage", "line"] ["plan"] (defScope sLL) := ⟨rfl, rfl, rfl, by decide +kernel, rfl, by decide +kernel, by decide +kernel⟩
def spLL (K : Fg) (m : Nat) : Sp := fun vs H Q _ => ∃ (v : V) (g : Pg), vs = [v] ∧ PlAt K H v g ∧ g.ok ∧ g.nest < m ∧ ∀ (q : Addr) (H' : Hp), H q = none → Same H H' → H' q = some (.lst (g.lines.map V.str)) → Q (.ref q) H'
theorem PsAll.drop_cons {K : Fg} {H : Hp} {y : V} {r : List V} {l : Sgs} (h : PsAll K H (y :: r) l) : ∃ (x : Sg) (l' : Sgs), l = .cons x l' ∧ PsV K H y x ∧ PsAll K H r l' := by
  cases h with
  | cons h t => exact ⟨_, _, rfl, h, t⟩
theorem from_len {s : Str} (h : s ∈ K0) : ("from " : Str).length + s.length ≤ sizeLine := by
  have e : ("from " : Str).length = 5 := by decide +kernel
  have := (fr_k0 _ h).2.1
  rw [e, sizeLine_eq]
  omega
section
variable {P : Program} {w : World} {K : Fg} {mg : Str → Option Value} {base : Heap} {f : Addr} {fd : FuncData}
theorem ok_ll (N : Nm mg) (DL : Df K mg "_law_lines" sLL ["plan"] f fd) : ∀ m : Nat, FnOk P w K mg base CX0 (m + 1) f fd ["plan"] (spLL K m)
  | 0 => by
    refine DL.F.ok scLL (fun vs H Q E h => ?_) (fun cdv B outer s H vs Q E hr h => ?_)
    · obtain ⟨v, g, rfl, _⟩ := h
      rfl
    · obtain ⟨v, g, rfl, hv, ho, hn, k⟩ := h
      exact absurd hn (Nat.not_lt_zero _)
  | m + 1 => by
    have G : FnOk P w K mg base CX0 (m + 1) f fd ["plan"] (spLL K m) := ok_ll N DL m
    refine DL.F.ok scLL (fun vs H Q E h => ?_) (fun cdv B outer s H vs Q E hr h => ?_)
    · obtain ⟨v, g, rfl, _⟩ := h
      rfl
    · obtain ⟨v, g, rfl, hv, ok, hn, k⟩ := h
      refine ⟨_, pss_cons (ps_set (i := 1) scLL.nd rfl (Or.inl rfl) (pe_lst (pa_cons (pe_op op_add_str pe_str (pe_ix ix_tup (pv 0) pe_int (fun _ _ => rfl))) pa_nil)))
        (pss_cons (ps_for PassesOwn.never rfl (pi_tup (pe_ix ix_tup (pv 0) pe_int (fun _ _ => rfl))) (pg_name (i := 2) scLL.nd rfl (Or.inl rfl))
          (pss_one (ps_if (pt_cmpR op_eq (pe_ix ix_tup (pv 2) pe_int (fun _ _ => rfl)) pe_str (nomark _))
            (pss_one (ps_set (i := 1) scLL.nd rfl (Or.inl rfl) (pe_op op_cat (pe_op op_cat (pv 1) (pe_lst (pa_cons pe_str pa_nil))) (pe_lc (own := [("line", 3)]) (g := gName 3) (tt := tYes) rfl scLL.nd
              (pi_list (pe_call G hr rfl DL.g DL.F.kp DL.b .nil pass0 (pa_cons (pe_ix ix_tup (pv 2) pe_int (fun _ _ => rfl)) pa_nil)))
              (blkOk_by (N := ["plan", "found", "stage", "line"]) (sc := defScope sLL) (by decide +kernel)) (fun _ _ _ _ _ => pg_name (i := 3) scLL.nd rfl (Or.inl rfl)) (fun _ _ _ _ _ => pts_nil)
              (fun _ _ _ _ _ => by exact pe_op op_add_str pe_str (pv 3))))))
            (pss_one (ps_expr (pe_bm PySem.F.plainAttrs_list PySem.F.slot_list_append PySem.F.type_list_append mt_append (pv 1) (pa_cons
              (pe_ifExp (pt_cmpR op_eq (pe_callB call_len_seq (by rfl) N.len PySem.boot_len (pa_cons (pv 2) pa_nil)) pe_int (nomark _)) (pe_ix ix_tup (pv 2) pe_int (fun _ _ => rfl))
                (pe_op op_add_str (pe_op op_add_str (pe_ix ix_tup (pv 2) pe_int (fun _ _ => rfl)) pe_str) (pe_callTy (L2.CallR.or call_str_int SkE.call_str_str) (by rfl) N.str boot_str' (pa_cons (pe_ix ix_tup (pv 2) pe_int (fun _ _ => rfl)) pa_nil)))) pa_nil)))))))
        (pss_one (ps_ret (pv 1)))), ?_⟩
      have many := Pg.many28 ok
      cases hv with
      | @mk a t s0 l xs h hs hl =>
        have okp : s0 ∈ K0 ∧ l.len ≤ 6 ∧ l.ok 0 [s0] := ok
        have hn : l.nest < m + 1 := hn
        refine ⟨_, rfl, a, _, _, .str s0, rfl, rfl, h, rfl, _, _, rfl, rfl, from_len okp.1, by show 1 ≤ sizeLine; decide, fun q hq => ?_⟩
        have s1 : Same H (upd H q (.lst [.str (("from " : Str) ++ s0)])) := same_new hq
        have e1 : upd H q (.lst [.str (("from " : Str) ++ s0)]) q = some (.lst [.str (("from " : Str) ++ s0)]) := upd_same
        generalize upd H q (.lst [.str (("from " : Str) ++ s0)]) = H1 at s1 e1
        refine ⟨_, rfl, a, _, _, _, rfl, rfl, (Kp.of s1).tup h, rfl, t, rfl, ⟨_, (Kp.of s1).tup hs⟩, ?_⟩
        refine for_it (walk_tup (xs := xs)) (fun i σ H' => ∃ (q : Addr) (ls : List Str) (r : Sgs) (d : Int) (tk : List Str) (v2 : Option V), σ = [some (.ref a), some (.ref q), v2, none] ∧ Same H H' ∧ H q = none ∧ H' q = some (.lst (ls.map V.str)) ∧
            PsAll K H (xs.drop i) r ∧ r.ok d tk ∧ r.nest < m + 1 ∧ ls ++ r.lines = (Pg.mk s0 l).lines)
          ⟨q, [("from " : Str) ++ s0], l, 0, [s0], none, rfl, s1, hq, e1, hl, okp.2.2, hn, rfl⟩ (fun i σ H' _ z => ?_) ?_ ?_
        · obtain ⟨_, _, _, _, _, _, _, z, _⟩ := z
          exact (Kp.of z).tup hs
        · rintro i y σ H9 H2 hi ⟨q, ls, r, d, tk, v2, rfl, s2, hq, e2, st, okr, rn, el⟩ ⟨rfl, hy⟩
          have hd : xs.drop i = y :: xs.drop (i + 1) := by
            rw [List.drop_eq_getElem_cons hi]
            rw [List.getElem?_eq_getElem hi] at hy
            rw [Option.some.inj hy]
          rw [hd] at st
          obtain ⟨x, r', rfl, sx, sr⟩ := st.drop_cons
          have okr : x.ok d tk ∧ r'.ok (x.dep d) (tk ++ x.srcs) := okr
          have rn : max x.nest r'.nest < m + 1 := rn
          have m1 := Nat.le_max_left x.nest r'.nest
          have m2 := Nat.le_max_right x.nest r'.nest
          have el : ls ++ (x.lines ++ r'.lines) = (Pg.mk s0 l).lines := el
          have total : (ls ++ (x.lines ++ r'.lines)).length ≤ 28 := by rw [el]; exact many
          rw [List.length_append, List.length_append] at total
          have sx2 := PsV.kp (Kp.of s2) sx
          obtain ⟨b0, rr, rfl, hb0⟩ := sx2.at0
          refine ⟨_, rfl, b0, _, _, .str x.kd, rfl, rfl, hb0, at_of (j := 0) rfl rfl, rfl, _, rfl, ?_⟩
          refine dif (fun ez => ?_) (fun ez => ?_)
          · cases sx2 with
            | @nm _ k1 n1 h => exact absurd (V.str.inj ez) ((by decide +kernel : ∀ z ∈ K1, ¬ (z = "zip")) _ (show k1 ∈ K1 ∧ _ from okr.1).1)
            | @num _ k1 n1 h => exact absurd (V.str.inj ez) ((by decide +kernel : ∀ z ∈ K2, ¬ (z = "zip")) _ (show k1 ∈ K2 ∧ _ from okr.1).1)
            | flat h => exact absurd (V.str.inj ez) (by decide +kernel : ¬ (("flat" : Str) = "zip"))
            | @zip _ v p h hp =>
              have okx : p.ok ∧ ∀ s ∈ p.srcs, s ∉ tk := okr.1
              have many2 := Pg.many28 okx.1
              have pn : p.nest < m := Nat.lt_of_succ_lt_succ (Nat.lt_of_le_of_lt m1 rn)
              refine ⟨_, rfl, by show 1 ≤ sizeLine; decide, fun u hu => ?_⟩
              have s3 : Same H2 (upd H2 u (.lst [.str "zip"])) := same_new hu
              have e3 : upd H2 u (.lst [.str "zip"]) u = some (.lst [.str "zip"]) := upd_same
              generalize upd H2 u (.lst [.str "zip"]) = H3 at s3 e3
              refine ⟨q, u, _, _, rfl, rfl, s3 _ _ e2, e3, ?_, fun z hz => ?_⟩
              · rw [List.length_map, sizeLine_eq]
                show ls.length + 1 ≤ _
                omega
              have s4 : Same H3 (upd H3 z (.lst (ls.map V.str ++ [.str "zip"]))) := same_new hz
              have e4 : upd H3 z (.lst (ls.map V.str ++ [.str "zip"])) z = some (.lst (ls.map V.str ++ [.str "zip"])) := upd_same
              generalize upd H3 z (.lst (ls.map V.str ++ [.str "zip"])) = H4 at s4 e4
              have s24 := s3.trans s4
              refine ⟨_, rfl, b0, _, _, v, rfl, rfl, (Kp.of s24).tup h, rfl, v, p, rfl, PlAt.kp (Kp.of s24) hp, okx.1, pn, fun c H5 nc s5 e5 => ?_⟩
              refine ⟨c, rfl, ⟨_, SqL.of e5⟩, fun D hD => ?_⟩
              refine lc_it (walk_list (xs := p.lines.map V.str)) (lcI H5 D ((p.lines.map fun l => ("  " : Str) ++ l).map V.str)) (lcI0 hD) (fun i H' _ z => z.1.seq (SqL.of e5)) ?_ ?_
              · rintro j y H6 H7 hj z ⟨rfl, hy⟩
                obtain ⟨s, hs, rfl⟩ := map_get hy
                have len := (Pg.line_ok p okx.1 s (List.mem_of_getElem? hs)).1
                have n3 := nest_srcs okx.1
                refine ⟨rfl, iteT (B := True) ⟨_, rfl, _, _, rfl, rfl, ?_, ?_⟩⟩
                · rw [two_len, sizeLine_eq]
                  omega
                · refine lc_step hD z.1 z.2 ?_ (by rw [List.length_map, List.length_map]; exact small1000 (by omega))
                  rw [List.getElem?_map, List.getElem?_map, hs]
                  rfl
              · intro H6 z6
                obtain ⟨z1, z2⟩ := z6.done (by rw [List.length_map, List.length_map, List.length_map])
                have lnz : (Sg.zip p).lines = ("zip" : Str) :: p.lines.map fun l => ("  " : Str) ++ l := rfl
                refine ⟨z, D, _, _, rfl, rfl, z1 _ _ (s5 _ _ e4), z2, ?_, fun r6 hr6 => ?_⟩
                · rw [List.length_append, List.length_map, List.length_map, List.length_map, sizeLine_eq]
                  show ls.length + 1 + _ ≤ _
                  omega
                have s26 : Same H H6 := ((s2.trans s24).trans s5).trans z1
                refine ⟨r6, ls ++ (Sg.zip p).lines, r', _, _, some (.ref b0), rfl, s26.trans (same_new hr6), s26.free hr6, ?_, sr, okr.2, by omega, ?_⟩
                · rw [upd_same, lnz, List.map_append, List.append_assoc]
                  rfl
                · rw [List.append_assoc]
                  exact el
          · have fin : ∀ (z : Str), x.lines = [z] → ∃ (l0 : Addr) (ys : List V) (y0 : V), V.ref q = V.ref l0 ∧ [V.str z] = [y0] ∧ H2 l0 = some (.lst ys) ∧ ys.length < sizeLine ∧
                ∃ (q' : Addr) (ls' : List Str) (r2 : Sgs) (d' : Int) (tk' : List Str) (v2' : Option V), [some (V.ref a), some (V.ref q), some (V.ref b0), none] = [some (.ref a), some (.ref q'), v2', none] ∧ Same H (upd H2 l0 (.lst (ys ++ [y0]))) ∧ H q' = none ∧ upd H2 l0 (.lst (ys ++ [y0])) q' = some (.lst (ls'.map V.str)) ∧
                  PsAll K H (xs.drop (i + 1)) r2 ∧ r2.ok d' tk' ∧ r2.nest < m + 1 ∧ ls' ++ r2.lines = (Pg.mk s0 l).lines := by
              intro z ez
              refine ⟨q, _, _, rfl, rfl, e2, by rw [List.length_map]; exact small1000 (by omega), q, ls ++ [z], r', _, _, some (.ref b0), rfl, ?_, hq, ?_, sr, okr.2, by omega, ?_⟩
              · intro b o e
                rw [upd_ne (ne_of_none e hq)]
                exact s2 _ _ e
              · rw [upd_same, List.map_append]
                rfl
              · rw [← ez, List.append_assoc]
                exact el
            refine ⟨_, rfl, .inl ⟨rfl, _, SqL.of e2⟩, ?_⟩
            cases sx2 with
            | @nm _ k1 n1 h =>
              have okx : k1 ∈ K1 ∧ isNm n1 = true := okr.1
              have f1 := (fr_k1 _ okx.1).2.1
              have f2 := (fr_nm okx.2).2.1
              have e9 : (" " : Str).length = 1 := by decide +kernel
              refine ⟨_, rfl, b0, _, rfl, .inr h, rfl, _, rfl, iteF (A := True) ?_⟩
              refine ⟨_, rfl, b0, _, _, .str k1, rfl, rfl, h, rfl, _, _, rfl, rfl, by rw [e9, sizeLine_eq]; omega, _, rfl, b0, _, _, .str n1, rfl, rfl, h, rfl, .inr ⟨n1, rfl, _, _, rfl, rfl, ?_, ?_⟩⟩
              · rw [TL.len_tl, TL.tl_append, List.length_append, ← TL.len_tl, ← TL.len_tl, e9, sizeLine_eq]
                omega
              · exact fin _ (by rw [← join_two]; rfl)
            | @num _ k1 n1 h =>
              have okx : k1 ∈ K2 ∧ 1 ≤ n1 ∧ n1 ≤ 4 := okr.1
              have f1 := (fr_k2 _ okx.1).2.1
              have f2 := (fr_num okx.2.1 okx.2.2).2.1
              have f3 : n1.natAbs.log2 < 1920 := by
                rcases num_cases okx.2.1 okx.2.2 with rfl | rfl | rfl | rfl <;> decide +kernel
              have e9 : (" " : Str).length = 1 := by decide +kernel
              refine ⟨_, rfl, b0, _, rfl, .inr h, rfl, _, rfl, iteF (A := True) ?_⟩
              refine ⟨_, rfl, b0, _, _, .str k1, rfl, rfl, h, rfl, _, _, rfl, rfl, by rw [e9, sizeLine_eq]; omega, _, rfl, b0, _, _, .int n1, rfl, rfl, h, rfl, .inl ⟨n1, rfl, f3, _, _, rfl, rfl, ?_, ?_⟩⟩
              · show (k1 ++ " ").length + (numS n1).length ≤ sizeLine
                rw [TL.len_tl, TL.tl_append, List.length_append, ← TL.len_tl, ← TL.len_tl, e9, sizeLine_eq]
                omega
              · exact fin (k1 ++ " " ++ numS n1) (by rw [← join_two]; rfl)
            | flat h =>
              refine ⟨_, rfl, b0, _, rfl, .inr h, rfl, _, rfl, iteT (B := True) ?_⟩
              exact ⟨_, rfl, b0, _, _, .str "flat", rfl, rfl, h, rfl, fin _ (by show [Txt.join " " ["flat"]] = _; rw [join_one])⟩
            | zip h hp => exact absurd rfl ez
        · rintro σ H2 ⟨q, ls, r, d, tk, v2, rfl, s2, hq, e2, st, okr, rn, el⟩
          rw [List.drop_length] at st
          cases st
          have el : ls ++ [] = (Pg.mk s0 l).lines := el
          rw [List.append_nil] at el
          rw [el] at e2
          exact ⟨_, rfl, k q _ hq s2 e2⟩
end
end K80
set_option Elab.async false
set_option linter.all false
set_option maxRecDepth 100000
set_option maxHeartbeats 8000000
namespace K80
open PySem L2 VK
open TL (tl)
abbrev sLaw : Stmt := top 47
abbrev NL : List Str := ["script", "deep", "typed", "start", "source", "some", "turn", "plan", "one", "due"]
theorem scL : FnScope NL ["script"] (defScope sLaw) := ⟨rfl, rfl, rfl, by decide +kernel, rfl, by decide +kernel, by decide +kernel⟩
def spLaw (K : Fg) : Sp := fun vs H Q _ => ∃ (a : Addr) (ns : List Int), vs = [.ref a] ∧ Only H ∧ SqL K H a (ns.map V.int) ∧ ns.length ≤ 63 ∧ Bits ns ∧ ∀ H', Q (.bl true) H'
/-! ### the typed plans -/
def deepPg : Pg := .mk "b" (.cons (.zip (.mk "c" (.cons (.num "lots" 4) (.cons (.zip (.mk "d" (.cons (.nm "keep" "abcdefgh") .nil))) .nil)))) (.cons .flat (.cons (.num "gather" 4) .nil)))
theorem inK0 : ("a" : Str) ∈ K0 ∧ ("b" : Str) ∈ K0 ∧ ("c" : Str) ∈ K0 ∧ ("d" : Str) ∈ K0 := by decide +kernel
theorem ok_numq {k : Str} (h : k ∈ K2) {n : Int} (h1 : 1 ≤ n) (h2 : n ≤ 4) (d : Int) (tk : List Str) : (Sg.num k n).ok d tk := ⟨h, h1, h2⟩
theorem okD : (Pg.mk "d" (.cons (.nm "keep" "abcdefgh") .nil)).ok := ⟨inK0.2.2.2, by decide, ⟨by decide +kernel, by decide +kernel⟩, trivial⟩
theorem okC : (Pg.mk "c" (.cons (.num "lots" 4) (.cons (.zip (.mk "d" (.cons (.nm "keep" "abcdefgh") .nil))) .nil))).ok := ⟨inK0.2.2.1, by decide, ok_numq (by decide +kernel) (by decide) (by decide) _ _, ⟨okD, by decide +kernel⟩, trivial⟩
theorem okDeep : deepPg.ok := ⟨inK0.2.1, by decide, ⟨okC, by decide +kernel⟩, by show (0 : Int) < _; decide +kernel, ok_numq (by decide +kernel) (by decide) (by decide) _ _, trivial⟩
theorem okT1 : (Pg.mk "a" .nil).ok := ⟨inK0.1, by decide, trivial⟩
theorem okT2 : (Pg.mk "d" (.cons (.num "lots" 1) (.cons (.num "lots" 1) (.cons (.num "lots" 1) (.cons .flat (.cons .flat (.cons .flat .nil))))))).ok :=
  ⟨inK0.2.2.2, by decide, ok_numq (by decide +kernel) (by decide) (by decide) _ _, ok_numq (by decide +kernel) (by decide) (by decide) _ _, ok_numq (by decide +kernel) (by decide) (by decide) _ _, by show (0 : Int) < _; decide +kernel, by show (0 : Int) < _; decide +kernel, by show (0 : Int) < _; decide +kernel, trivial⟩
theorem okT3 : (Pg.mk "a" (.cons (.zip deepPg) (.cons .flat (.cons (.num "gather" 4) .nil)))).ok := ⟨inK0.1, by decide, ⟨okDeep, by decide +kernel⟩, by show (0 : Int) < _; decide +kernel, ok_numq (by decide +kernel) (by decide) (by decide) _ _, trivial⟩
theorem perm_map {α β : Type} {f : α → β} {ys zs : List β} (h : ys.Perm zs) : ∀ l : List α, zs = l.map f → ∃ l' : List α, l'.Perm l ∧ ys = l'.map f := by
  induction h with
  | nil =>
    intro l e
    cases l with
    | nil => exact ⟨[], .refl _, rfl⟩
    | cons _ _ => cases e
  | cons x _ ih =>
    intro l e
    cases l with
    | nil => cases e
    | cons a r =>
      injection e with e1 e2
      obtain ⟨l', p, e3⟩ := ih r e2
      exact ⟨a :: l', .cons a p, by rw [List.map_cons, e1, e3]⟩
  | swap x y l0 =>
    intro l e
    match l, e with
    | a :: b :: r, e =>
      injection e with e1 e2
      injection e2 with e2 e3
      exact ⟨b :: a :: r, .swap _ _ _, by rw [List.map_cons, List.map_cons, e1, e2, e3]⟩
  | trans _ _ ih1 ih2 =>
    intro l e
    obtain ⟨l1, p1, e1⟩ := ih2 l e
    obtain ⟨l2, p2, e2⟩ := ih1 l1 e1
    exact ⟨l2, p2.trans p1, e2⟩
theorem PgAt.insr {K : Fg} {C : Addr} {H : Hp} {a : Addr} {p : Pg} (h : PgAt K C H (.ref a) p) : ∃ (dx : Addr) (fs : List (Str × V)), H a = some (.ins C dx fs) := by
  cases h with
  | mk h _ _ _ => exact ⟨_, _, h⟩
theorem two_of {K : Fg} {C : Addr} {H : Hp} {a c : Addr} {p q : Pg} {b : Bool} (hp : PgAt K C H (.ref a) p) (hq : PgAt K C H (.ref c) q) (op : p.ok) (oq : q.ok) (hb : b = true ↔ p = q) : DTwoB C (Two K C 4) (.ref a) (.ref c) b H := by
  obtain ⟨dx, fs, e1⟩ := hp.insr
  obtain ⟨dy, gs, e2⟩ := hq.insr
  exact ⟨a, c, dx, dy, fs, gs, rfl, rfl, e1, e2, p, q, hp, hq, op, oq, Pg.nest4 op, hb⟩
theorem two_rq {K : Fg} {C : Addr} {m : Nat} {x y : V} {b : Bool} {H : Hp} (h : DTwoB C (Two K C m) x y b H) : DTwoB C (Rq K C m) x y b H := by
  obtain ⟨a, c, dx, dy, fs, gs, h1, h2, h3, h4, r⟩ := h
  exact ⟨a, c, dx, dy, fs, gs, h1, h2, h3, h4, .inl r⟩
theorem dp_strs {K : Fg} {H : Hp} : ∀ ws : List Str, DpAll K H (ws.map V.str) (ws.map PyData.str)
  | [] => .nil
  | z :: r => .cons (.str z) (dp_strs r)
theorem eqv_strs : ∀ ws : List Str, PyData.eqvAll (ws.map PyData.str) (ws.map PyData.str) = true
  | [] => rfl
  | z :: r => by
    show (PyData.eqv (.str z) (.str z) && PyData.eqvAll (r.map PyData.str) (r.map PyData.str)) = true
    rw [eqv_strs r, Bool.and_true]
    show (z == z) = true
    exact beq_self_eq_true z
theorem lay_strs : ∀ ws : List Str, (∀ z ∈ ws, z ∈ K0) → PyData.canLayAll0 (ws.map PyData.str) = true ∧ PyData.depthAll (ws.map PyData.str) = 0
  | [], _ => ⟨rfl, rfl⟩
  | z :: r, h => by
    obtain ⟨a, b⟩ := lay_strs r fun y hy => h y (List.mem_cons_of_mem _ hy)
    have := (by decide +kernel : ∀ s ∈ K0, PyData.strOk s = true) z (h z List.mem_cons_self)
    exact ⟨by simp [PyData.canLayAll0, PyData.canLay0, a, this], by simp [PyData.depthAll, PyData.depth, b]⟩
theorem ne_srcs {K : Fg} {H : Hp} {t1 t2 : Addr} {ws : List Str} {Q : VK} (h : ∀ z ∈ ws, z ∈ K0) (h1 : SqT K H t1 (ws.map V.str)) (h2 : SqT K H t2 (ws.map V.str)) (k : Q (.bl false) H) : rNeD K (.ref t1) (.ref t2) H Q := by
  obtain ⟨a, b⟩ := lay_strs ws h
  have sh : SeqAt.shaped (.tuple (ws.map PyData.str)) = true := by
    unfold SeqAt.shaped
    simp [PyData.canLay0, PyData.depth, a, b]
  refine ⟨_, _, .tup h1 (dp_strs ws), .tup h2 (dp_strs ws), sh, sh, ?_⟩
  rw [show PyData.eqv (.tuple (ws.map PyData.str)) (.tuple (ws.map PyData.str)) = true from eqv_strs ws]
  exact k
theorem Bx.kps {p : Addr} {H H' : Hp} (b : Bx p H H') (h : Strm H p) : Kp H H' := by
  obtain ⟨r, m0, e, _⟩ := h
  exact fun c o ec f => b c o (fun z => by rw [z, e] at ec; cases ec; cases f) ec
/-- a plan that is drawn of the four sources -/
def tDrawn (K : Fg) (i : Nat) : TE := tCall (spPlan K 4) [] E0 (tCons (tVar i) (tCons (tCall (spMixed K) [] E0 (tCons (tVar i) (tCons (tLst (tCons (tC (.str "a")) (tCons (tC (.str "b")) (tCons (tC (.str "c")) (tCons (tC (.str "d")) tNil))))) tNil))) (tCons (tC (.int 6)) tNil)))
theorem drawn_all {K : Fg} {p : Addr} {i : Nat} {σ : L2.St} {H0 : Hp} {Q : VK} (hi : σ[i]? = some (some (.ref p))) (hp : Strm H0 p)
    (k : ∀ (v : V) (g : Pg) (H' : Hp), PlAt K H' v g → g.ok → Strm H' p → Bx p H0 H' → Q v H') : tDrawn K i σ H0 Q := by
  refine ⟨_, hi, _, hi, by show 4 ≤ sizeLine; decide, fun m hm => ?_⟩
  have pk : Plns (K0.map V.str) := pl_plns fun s h => h
  have sm : Same H0 (upd H0 m (.lst [.str "a", .str "b", .str "c", .str "d"])) := same_new hm
  have em : upd H0 m (.lst [.str "a", .str "b", .str "c", .str "d"]) m = some (.lst (K0.map V.str)) := upd_same
  generalize upd H0 m (.lst [.str "a", .str "b", .str "c", .str "d"]) = H1 at sm em
  refine ⟨p, m, K0.map V.str, rfl, hp.same sm, SqL.of em, strm_ne hp hm, by decide, pk, fun r ys H2 pm nr er hs2 bx2 => ?_⟩
  obtain ⟨zs, pz, rfl⟩ := perm_map pm K0 rfl
  have bx2' : Bx p H0 H2 := (Bx.of sm).trans bx2
  have nrp : r ≠ p := fun z => by
    obtain ⟨r0, m0, e, _⟩ := hp
    rw [z] at nr
    have := sm _ _ e
    rw [nr] at this
    cases this
  have nd : zs.Nodup := pz.nodup_iff.mpr (by decide +kernel)
  have sub : ∀ s ∈ zs, s ∈ K0 := fun s h => pz.mem_iff.mp h
  have len : zs.length = 4 := pz.length_eq
  refine ⟨p, r, 6, zs, rfl, by decide, by decide, hs2, nrp, ⟨er, nd, sub⟩, (fun z => by rw [z] at len; cases len), by omega, fun v g pl' H4 hv ok hsr hq4 hs4 bx4 _ => ?_⟩
  refine k v g H4 hv ok hs4 (fun b o n e => ?_)
  have e2 := bx2' _ _ n e
  have nb : b ≠ r := fun z => by
    rw [z] at e
    have := sm _ _ e
    rw [nr] at this
    cases this
  exact bx4 _ _ n nb e2
section
variable {P : Program} {w : World} {K : Fg} {mg : Str → Option Value} {base : Heap} {A I : Nat → Addr} {D J : Nat → FuncData} {aS a1 a2 C e0 fq : Addr} {dq : FuncData}
theorem run_law {f fS fL fM fP fLL fT fR fD : Addr} {fd dS dL dM dP dLL dT dR dD : FuncData} (F : Fun K "law" "law" sLaw f fd) (Z : Lp K mg A I D J aS a1 a2 C e0) (U : Le K C fq dq)
    (DS : Df K mg "_law_source" sSource ["script", "start"] fS dS) (DL : Df K mg "_law_plan" sPlan ["stream", "pool", "most"] fL dL) (DM : Df K mg "_law_mixed" sMixed ["stream", "things"] fM dM) (DP : Df K mg "_law_program" sProg ["plan"] fP dP)
    (DLL : Df K mg "_law_lines" sLL ["plan"] fLL dLL) (DT : Df K mg "program_text" sText ["program"] fT dT) (DR : Df K mg "read_program" sRead ["text"] fR dR) (DD : Df K mg "_law_depth" sDepth ["plan"] fD dD)
    (GL : FnOk P w K mg base CX0 20 fL dL ["stream", "pool", "most"] (spPlan K 4)) (GM : FnOk P w K mg base CX0 2 fM dM ["stream", "things"] (spMixed K)) (GT : FnOk P w K mg base CX0 11 fT dT ["program"] (spText K C)) (GRD : FnOk P w K mg base CX0 12 fR dR ["text"] (spRead K C))
    (GD : FnOk P w K mg base CX0 12 fD dD ["plan"] (spDepth K 5)) : RunAt P w K mg base PySem.callerA f fd ["script"] (spLaw K) := by
  have GS : FnOk P w K mg base CX0 1 fS dS ["script", "start"] (spSource K) := ok_source DS.F Z.L.N
  have GR : FnOk P w K mg base CX0 11 fP dP ["plan"] (spProg K C 4) := ok_prog DP.F DP.b DP.g Z 4
  have GLL : FnOk P w K mg base CX0 5 fLL dLL ["plan"] (spLL K 4) := ok_ll Z.L.N DLL 4
  obtain ⟨q3, ga3, gd3, po3, G3, gb3⟩ := Z.L.p3 P w base
  obtain ⟨q4, ga4, gd4, po4, G4, gb4⟩ := Z.L.p4 P w base
  refine runAt_of (k := 22) F scL (fun vs H Q E h => ?_) ⟨rfl, by decide, by decide⟩ (fun cdv outer s H vs Q E hr h => ?_)
  · obtain ⟨a, ns, rfl, _⟩ := h
    rfl
  · obtain ⟨a, ns, rfl, only, hS, hlen, hbits, kk⟩ := h
    have hr1 : Room 1 _ := hr.mono (by decide)
    have hr2 : Room 2 _ := hr.mono (by decide)
    have hr5 : Room 5 _ := hr.mono (by decide)
    have hr11 : Room 11 _ := hr.mono (by decide)
    have hr12 : Room 12 _ := hr.mono (by decide)
    have hr15 : Room (3 * 4 + 2 + 1) _ := hr.mono (by decide)
    have hr20 : Room 20 _ := hr.mono (by decide)
    refine ⟨_, pss_cons (ps_set (i := 1) scL.nd rfl (Or.inl rfl) (pe_tup (pa_cons pe_str (pa_cons (pe_tup (pa_cons (pe_tup (pa_cons pe_str (pa_cons (pe_tup (pa_cons pe_str (pa_cons (pe_tup (pa_cons (pe_tup (pa_cons pe_str (pa_cons pe_int pa_nil))) (pa_cons (pe_tup (pa_cons pe_str (pa_cons (pe_tup (pa_cons pe_str (pa_cons (pe_tup (pa_cons (pe_tup (pa_cons pe_str (pa_cons pe_str pa_nil))) pa_nil)) pa_nil))) pa_nil))) pa_nil))) pa_nil))) pa_nil))) (pa_cons (pe_tup (pa_cons pe_str pa_nil)) (pa_cons (pe_tup (pa_cons pe_str (pa_cons pe_int pa_nil))) pa_nil)))) pa_nil))))
      (pss_cons (ps_set (i := 2) scL.nd rfl (Or.inl rfl) (pe_lst (pa_cons (pe_tup (pa_cons pe_str (pa_cons (pe_tup pa_nil) pa_nil))) (pa_cons (pe_tup (pa_cons pe_str (pa_cons (pe_op op_catT (pe_op op_repT (pe_tup (pa_cons (pe_tup (pa_cons pe_str (pa_cons pe_int pa_nil))) pa_nil)) pe_int) (pe_op op_repT (pe_tup (pa_cons (pe_tup (pa_cons pe_str pa_nil)) pa_nil)) pe_int)) pa_nil))) (pa_cons (pe_tup (pa_cons pe_str (pa_cons (pe_op op_catT (pe_tup (pa_cons (pe_tup (pa_cons pe_str (pa_cons (pv 1) pa_nil))) pa_nil)) (pe_slice sl_tup (pe_ix ix_tup (pv 1) pe_int (fun _ _ => rfl)) (po_some pe_int) po_none)) pa_nil))) pa_nil)))))
      (pss_cons (ps_for PassesOwn.never rfl
        (pi_range1 rfl Z.L.N.range (pa_cons (pe_callB (call_max2 rfl) (by rfl) Z.L.N.max PyProof.Rows.boot_max (pa_cons pe_int (pa_cons (pe_callB (call_min2 rfl) (by rfl) Z.L.N.min boot_min'
          (pa_cons pe_int (pa_cons (pe_callB call_len_seq (by rfl) Z.L.N.len PySem.boot_len (pa_cons (pv 0) pa_nil)) pa_nil))) pa_nil))) pa_nil))
        (pg_name (i := 3) scL.nd rfl (Or.inl rfl))
        (pss_cons (ps_set (i := 4) scL.nd rfl (Or.inr rfl) (pe_call GS hr1 rfl DS.g DS.F.kp DS.b .nil pass0 (pa_cons (pv 0) (pa_cons (pv 3) pa_nil))))
        (pss_cons (ps_setLc (i := 5) (own := [("turn", 6)]) (g := gName 6) (tt := tYes) (te := tDrawn K 4) rfl scL.nd rfl rfl (sw_true rfl rfl rfl (by decide +kernel)) (pi_range1 rfl Z.L.N.range (pa_cons pe_int pa_nil))
          (blkOk_by (N := NL) (sc := defScope sLaw) (by decide +kernel)) (fun _ _ _ _ _ => pg_name (i := 6) scL.nd rfl (Or.inl rfl)) (fun _ _ _ _ _ => pts_nil)
          (fun _ _ _ _ _ => by exact pe_call GL hr20 rfl DL.g DL.F.kp DL.b .nil pass0 (pa_cons (pv 4) (pa_cons (pe_call GM hr2 rfl DM.g DM.F.kp DM.b .nil pass0 (pa_cons (pv 4) (pa_cons (pe_lst (pa_cons pe_str (pa_cons pe_str (pa_cons pe_str (pa_cons pe_str pa_nil))))) pa_nil))) (pa_cons pe_int pa_nil)))))
        (pss_one (ps_for PassesOwn.never rfl (pi_list (pe_op op_cat (pv 5) (pv 2))) (pg_name (i := 7) scL.nd rfl (Or.inl rfl))
          (pss_cons (ps_par (by rfl) scL.nd rfl rfl (show 8 ≠ 9 by decide) rfl rfl (pa_cons (pe_call GR hr11 rfl DP.g DP.F.kp DP.b .nil pass0 (pa_cons (pv 7) pa_nil)) (pa_cons (pe_join pe_str (pe_call GLL hr5 rfl DLL.g DLL.F.kp DLL.b .nil pass0 (pa_cons (pv 7) pa_nil))) pa_nil)) (by rfl))
          (pss_cons (ps_if (PW.pt (pw_or (pt_cmpR op_ne (pe_call GT hr11 rfl DT.g DT.F.kp DT.b .nil pass0 (pa_cons (pv 8) pa_nil)) (pv 9) (nomark _)) (pw_or1 (pt_cmpR op_ne (pe_call GT hr11 rfl DT.g DT.F.kp DT.b .nil pass0 (pa_cons (pv 8) pa_nil)) (pv 9) (nomark _))))) (pss_one (ps_ret pe_bl)) pss_nil)
          (pss_cons (ps_if (PW.pt (pw_or (pt_cmpR (op_Bne (rnB_own (ok_eq Z.L U 4) U.ne U.b pass0) hr15) (pe_call GRD hr12 rfl DR.g DR.F.kp DR.b .nil pass0 (pa_cons (pv 9) pa_nil)) (pv 8) (nomark _)) (pw_or (pt_cmpR (op_Bne (rnB_own (ok_eq Z.L U 4) U.ne U.b pass0) hr15) (pe_call GRD hr12 rfl DR.g DR.F.kp DR.b .nil pass0 (pa_cons (pv 9) pa_nil)) (pv 8) (nomark _)) (pw_or1 (pt_cmpR op_ne (pe_call GT hr11 rfl DT.g DT.F.kp DT.b .nil pass0 (pa_cons (pe_call GRD hr12 rfl DR.g DR.F.kp DR.b .nil pass0 (pa_cons (pv 9) pa_nil)) pa_nil)) (pv 9) (nomark _)))))) (pss_one (ps_ret pe_bl)) pss_nil)
          (pss_one (ps_if (PW.pt (pw_or (pt_cmpR op_ne (pe_prop (pe_call GRD hr12 rfl DR.g DR.F.kp DR.b .nil pass0 (pa_cons (pv 9) pa_nil)) Z.L.c.cl po4 G4 hr2 gb4 .nil pass0 rfl) (pe_call GD hr12 rfl DD.g DD.F.kp DD.b .nil pass0 (pa_cons (pv 7) pa_nil)) (nomark _)) (pw_or1 (pt_cmpR (op_neD hr.units) (pe_prop (pe_call GRD hr12 rfl DR.g DR.F.kp DR.b .nil pass0 (pa_cons (pv 9) pa_nil)) Z.L.c.cl po3 G3 hr2 gb3 .nil pass0 rfl) (pe_prop (pv 8) Z.L.c.cl po3 G3 hr2 gb3 .nil pass0 rfl) (nomark _))))) (pss_one (ps_ret pe_bl)) pss_nil))))))))))
      (pss_one (ps_ret pe_bl)))), ?_⟩
    have hS2 : ∀ H', Kp H H' → SqL K H' a (ns.map V.int) := fun H' kp => by
      rcases hS with (h | ⟨o, h⟩) | h
      · rcases only a with z | ⟨ob, xs, z⟩
        · rw [h] at z; cases z
        · rw [h] at z; cases z
      · exact .inl (.inr ⟨o, kp _ _ h rfl⟩)
      · exact .inr h
    refine ⟨by show 2 ≤ sizeLine; decide, fun t1 ht1 => ?_⟩
    have x1 : Same H (upd H t1 (.tup [.str "lots", .int 4])) := same_new ht1
    have f1 : upd H t1 (.tup [.str "lots", .int 4]) t1 = some (.tup [.str "lots", .int 4]) := upd_same
    generalize upd H t1 (.tup [.str "lots", .int 4]) = G1 at x1 f1
    refine ⟨by show 2 ≤ sizeLine; decide, fun t2 ht2 => ?_⟩
    have x2 : Same G1 (upd G1 t2 (.tup [.str "keep", .str "abcdefgh"])) := same_new ht2
    have f2 : upd G1 t2 (.tup [.str "keep", .str "abcdefgh"]) t2 = some (.tup [.str "keep", .str "abcdefgh"]) := upd_same
    generalize upd G1 t2 (.tup [.str "keep", .str "abcdefgh"]) = G2 at x2 f2
    refine ⟨by show 1 ≤ sizeLine; decide, fun t3 ht3 => ?_⟩
    have x3 : Same G2 (upd G2 t3 (.tup [.ref t2])) := same_new ht3
    have f3 : upd G2 t3 (.tup [.ref t2]) t3 = some (.tup [.ref t2]) := upd_same
    generalize upd G2 t3 (.tup [.ref t2]) = G3 at x3 f3
    refine ⟨by show 2 ≤ sizeLine; decide, fun t4 ht4 => ?_⟩
    have x4 : Same G3 (upd G3 t4 (.tup [.str "d", .ref t3])) := same_new ht4
    have f4 : upd G3 t4 (.tup [.str "d", .ref t3]) t4 = some (.tup [.str "d", .ref t3]) := upd_same
    generalize upd G3 t4 (.tup [.str "d", .ref t3]) = G4 at x4 f4
    refine ⟨by show 2 ≤ sizeLine; decide, fun t5 ht5 => ?_⟩
    have x5 : Same G4 (upd G4 t5 (.tup [.str "zip", .ref t4])) := same_new ht5
    have f5 : upd G4 t5 (.tup [.str "zip", .ref t4]) t5 = some (.tup [.str "zip", .ref t4]) := upd_same
    generalize upd G4 t5 (.tup [.str "zip", .ref t4]) = G5 at x5 f5
    refine ⟨by show 2 ≤ sizeLine; decide, fun t6 ht6 => ?_⟩
    have x6 : Same G5 (upd G5 t6 (.tup [.ref t1, .ref t5])) := same_new ht6
    have f6 : upd G5 t6 (.tup [.ref t1, .ref t5]) t6 = some (.tup [.ref t1, .ref t5]) := upd_same
    generalize upd G5 t6 (.tup [.ref t1, .ref t5]) = G6 at x6 f6
    refine ⟨by show 2 ≤ sizeLine; decide, fun t7 ht7 => ?_⟩
    have x7 : Same G6 (upd G6 t7 (.tup [.str "c", .ref t6])) := same_new ht7
    have f7 : upd G6 t7 (.tup [.str "c", .ref t6]) t7 = some (.tup [.str "c", .ref t6]) := upd_same
    generalize upd G6 t7 (.tup [.str "c", .ref t6]) = G7 at x7 f7
    refine ⟨by show 2 ≤ sizeLine; decide, fun t8 ht8 => ?_⟩
    have x8 : Same G7 (upd G7 t8 (.tup [.str "zip", .ref t7])) := same_new ht8
    have f8 : upd G7 t8 (.tup [.str "zip", .ref t7]) t8 = some (.tup [.str "zip", .ref t7]) := upd_same
    generalize upd G7 t8 (.tup [.str "zip", .ref t7]) = G8 at x8 f8
    refine ⟨by show 1 ≤ sizeLine; decide, fun t9 ht9 => ?_⟩
    have x9 : Same G8 (upd G8 t9 (.tup [.str "flat"])) := same_new ht9
    have f9 : upd G8 t9 (.tup [.str "flat"]) t9 = some (.tup [.str "flat"]) := upd_same
    generalize upd G8 t9 (.tup [.str "flat"]) = G9 at x9 f9
    refine ⟨by show 2 ≤ sizeLine; decide, fun t10 ht10 => ?_⟩
    have x10 : Same G9 (upd G9 t10 (.tup [.str "gather", .int 4])) := same_new ht10
    have f10 : upd G9 t10 (.tup [.str "gather", .int 4]) t10 = some (.tup [.str "gather", .int 4]) := upd_same
    generalize upd G9 t10 (.tup [.str "gather", .int 4]) = G10 at x10 f10
    refine ⟨by show 3 ≤ sizeLine; decide, fun t11 ht11 => ?_⟩
    have x11 : Same G10 (upd G10 t11 (.tup [.ref t8, .ref t9, .ref t10])) := same_new ht11
    have f11 : upd G10 t11 (.tup [.ref t8, .ref t9, .ref t10]) t11 = some (.tup [.ref t8, .ref t9, .ref t10]) := upd_same
    generalize upd G10 t11 (.tup [.ref t8, .ref t9, .ref t10]) = G11 at x11 f11
    refine ⟨by show 2 ≤ sizeLine; decide, fun t12 ht12 => ?_⟩
    have x12 : Same G11 (upd G11 t12 (.tup [.str "b", .ref t11])) := same_new ht12
    have f12 : upd G11 t12 (.tup [.str "b", .ref t11]) t12 = some (.tup [.str "b", .ref t11]) := upd_same
    generalize upd G11 t12 (.tup [.str "b", .ref t11]) = G12 at x12 f12
    refine ⟨by show 0 ≤ sizeLine; decide, fun u1 hu1 => ?_⟩
    have x13 : Same G12 (upd G12 u1 (.tup [])) := same_new hu1
    have f13 : upd G12 u1 (.tup []) u1 = some (.tup []) := upd_same
    generalize upd G12 u1 (.tup []) = G13 at x13 f13
    refine ⟨by show 2 ≤ sizeLine; decide, fun u2 hu2 => ?_⟩
    have x14 : Same G13 (upd G13 u2 (.tup [.str "a", .ref u1])) := same_new hu2
    have f14 : upd G13 u2 (.tup [.str "a", .ref u1]) u2 = some (.tup [.str "a", .ref u1]) := upd_same
    generalize upd G13 u2 (.tup [.str "a", .ref u1]) = G14 at x14 f14
    refine ⟨by show 2 ≤ sizeLine; decide, fun u3 hu3 => ?_⟩
    have x15 : Same G14 (upd G14 u3 (.tup [.str "lots", .int 1])) := same_new hu3
    have f15 : upd G14 u3 (.tup [.str "lots", .int 1]) u3 = some (.tup [.str "lots", .int 1]) := upd_same
    generalize upd G14 u3 (.tup [.str "lots", .int 1]) = G15 at x15 f15
    refine ⟨by show 1 ≤ sizeLine; decide, fun u4 hu4 => ?_⟩
    have x16 : Same G15 (upd G15 u4 (.tup [.ref u3])) := same_new hu4
    have f16 : upd G15 u4 (.tup [.ref u3]) u4 = some (.tup [.ref u3]) := upd_same
    generalize upd G15 u4 (.tup [.ref u3]) = G16 at x16 f16
    refine ⟨u4, 3, [.ref u3], rfl, rfl, .inl (.inl f16), (by simp), by decide, by decide, (by show 1 ≤ 1000; decide), fun u5 hu5 => ?_⟩
    rw [show (List.replicate (Int.toNat 3) [V.ref u3]).flatten = ([.ref u3, .ref u3, .ref u3] : List V) from rfl]
    have x17 : Same G16 (upd G16 u5 (.tup [.ref u3, .ref u3, .ref u3])) := same_new hu5
    have f17 : upd G16 u5 (.tup [.ref u3, .ref u3, .ref u3]) u5 = some (.tup [.ref u3, .ref u3, .ref u3]) := upd_same
    generalize upd G16 u5 (.tup [.ref u3, .ref u3, .ref u3]) = G17 at x17 f17
    refine ⟨by show 1 ≤ sizeLine; decide, fun u6 hu6 => ?_⟩
    have x18 : Same G17 (upd G17 u6 (.tup [.str "flat"])) := same_new hu6
    have f18 : upd G17 u6 (.tup [.str "flat"]) u6 = some (.tup [.str "flat"]) := upd_same
    generalize upd G17 u6 (.tup [.str "flat"]) = G18 at x18 f18
    refine ⟨by show 1 ≤ sizeLine; decide, fun u7 hu7 => ?_⟩
    have x19 : Same G18 (upd G18 u7 (.tup [.ref u6])) := same_new hu7
    have f19 : upd G18 u7 (.tup [.ref u6]) u7 = some (.tup [.ref u6]) := upd_same
    generalize upd G18 u7 (.tup [.ref u6]) = G19 at x19 f19
    refine ⟨u7, 3, [.ref u6], rfl, rfl, .inl (.inl f19), (by simp), by decide, by decide, (by show 1 ≤ 1000; decide), fun u8 hu8 => ?_⟩
    rw [show (List.replicate (Int.toNat 3) [V.ref u6]).flatten = ([.ref u6, .ref u6, .ref u6] : List V) from rfl]
    have x20 : Same G19 (upd G19 u8 (.tup [.ref u6, .ref u6, .ref u6])) := same_new hu8
    have f20 : upd G19 u8 (.tup [.ref u6, .ref u6, .ref u6]) u8 = some (.tup [.ref u6, .ref u6, .ref u6]) := upd_same
    generalize upd G19 u8 (.tup [.ref u6, .ref u6, .ref u6]) = G20 at x20 f20
    refine ⟨u5, u8, [.ref u3, .ref u3, .ref u3], [.ref u6, .ref u6, .ref u6], rfl, rfl, .inl (.inl (x20 _ _ (x19 _ _ (x18 _ _ f17)))), .inl (.inl f20), (by simp), by show 6 ≤ sizeLine; decide, (fun z => by cases z), fun _ => fun u9 hu9 => ?_⟩
    rw [show [V.ref u3, V.ref u3, V.ref u3] ++ [V.ref u6, V.ref u6, V.ref u6] = ([.ref u3, .ref u3, .ref u3, .ref u6, .ref u6, .ref u6] : List V) from rfl]
    have x21 : Same G20 (upd G20 u9 (.tup [.ref u3, .ref u3, .ref u3, .ref u6, .ref u6, .ref u6])) := same_new hu9
    have f21 : upd G20 u9 (.tup [.ref u3, .ref u3, .ref u3, .ref u6, .ref u6, .ref u6]) u9 = some (.tup [.ref u3, .ref u3, .ref u3, .ref u6, .ref u6, .ref u6]) := upd_same
    generalize upd G20 u9 (.tup [.ref u3, .ref u3, .ref u3, .ref u6, .ref u6, .ref u6]) = G21 at x21 f21
    refine ⟨by show 2 ≤ sizeLine; decide, fun u10 hu10 => ?_⟩
    have x22 : Same G21 (upd G21 u10 (.tup [.str "d", .ref u9])) := same_new hu10
    have f22 : upd G21 u10 (.tup [.str "d", .ref u9]) u10 = some (.tup [.str "d", .ref u9]) := upd_same
    generalize upd G21 u10 (.tup [.str "d", .ref u9]) = G22 at x22 f22
    refine ⟨_, rfl, by show 2 ≤ sizeLine; decide, fun u11 hu11 => ?_⟩
    have x23 : Same G22 (upd G22 u11 (.tup [.str "zip", .ref t12])) := same_new hu11
    have f23 : upd G22 u11 (.tup [.str "zip", .ref t12]) u11 = some (.tup [.str "zip", .ref t12]) := upd_same
    generalize upd G22 u11 (.tup [.str "zip", .ref t12]) = G23 at x23 f23
    refine ⟨by show 1 ≤ sizeLine; decide, fun u12 hu12 => ?_⟩
    have x24 : Same G23 (upd G23 u12 (.tup [.ref u11])) := same_new hu12
    have f24 : upd G23 u12 (.tup [.ref u11]) u12 = some (.tup [.ref u11]) := upd_same
    generalize upd G23 u12 (.tup [.ref u11]) = G24 at x24 f24
    have TO11 : Same G11 G24 := (x12.trans (x13.trans (x14.trans (x15.trans (x16.trans (x17.trans (x18.trans (x19.trans (x20.trans (x21.trans (x22.trans (x23.trans x24))))))))))))
    have TO12 : Same G12 G24 := (x13.trans (x14.trans (x15.trans (x16.trans (x17.trans (x18.trans (x19.trans (x20.trans (x21.trans (x22.trans (x23.trans x24)))))))))))
    refine ⟨_, rfl, t12, _, _, .ref t11, rfl, rfl, .inl (.inl (TO12 _ _ f12)), rfl, 1, rfl, t11, [.ref t8, .ref t9, .ref t10], rfl, .inl (.inl (TO11 _ _ f11)), (by show ¬ (HT.sIx 3 0 (some 1) = 0 ∧ HT.sIx 3 3 none = 3); decide), fun u13 hu13 => ?_⟩
    rw [show cutV [V.ref t8, V.ref t9, V.ref t10] (some 1) none = ([.ref t9, .ref t10] : List V) from rfl]
    have x25 : Same G24 (upd G24 u13 (.tup [.ref t9, .ref t10])) := same_new hu13
    have f25 : upd G24 u13 (.tup [.ref t9, .ref t10]) u13 = some (.tup [.ref t9, .ref t10]) := upd_same
    generalize upd G24 u13 (.tup [.ref t9, .ref t10]) = G25 at x25 f25
    refine ⟨u12, u13, [.ref u11], [.ref t9, .ref t10], rfl, rfl, .inl (.inl (x25 _ _ f24)), .inl (.inl f25), (by simp), by show 3 ≤ sizeLine; decide, (fun z => by cases z), fun _ => fun u14 hu14 => ?_⟩
    rw [show [V.ref u11] ++ [V.ref t9, V.ref t10] = ([.ref u11, .ref t9, .ref t10] : List V) from rfl]
    have x26 : Same G25 (upd G25 u14 (.tup [.ref u11, .ref t9, .ref t10])) := same_new hu14
    have f26 : upd G25 u14 (.tup [.ref u11, .ref t9, .ref t10]) u14 = some (.tup [.ref u11, .ref t9, .ref t10]) := upd_same
    generalize upd G25 u14 (.tup [.ref u11, .ref t9, .ref t10]) = G26 at x26 f26
    refine ⟨by show 2 ≤ sizeLine; decide, fun u15 hu15 => ?_⟩
    have x27 : Same G26 (upd G26 u15 (.tup [.str "a", .ref u14])) := same_new hu15
    have f27 : upd G26 u15 (.tup [.str "a", .ref u14]) u15 = some (.tup [.str "a", .ref u14]) := upd_same
    generalize upd G26 u15 (.tup [.str "a", .ref u14]) = G27 at x27 f27
    refine ⟨by show 3 ≤ sizeLine; decide, fun tl htl => ?_⟩
    have x28 : Same G27 (upd G27 tl (.lst [.ref u2, .ref u10, .ref u15])) := same_new htl
    have f28 : upd G27 tl (.lst [.ref u2, .ref u10, .ref u15]) tl = some (.lst [.ref u2, .ref u10, .ref u15]) := upd_same
    generalize upd G27 tl (.lst [.ref u2, .ref u10, .ref u15]) = G28 at x28 f28
    have c28 : Same G28 G28 := Same.refl _
    have c27 : Same G27 G28 := x28.trans c28
    have c26 : Same G26 G28 := x27.trans c27
    have c25 : Same G25 G28 := x26.trans c26
    have c24 : Same G24 G28 := x25.trans c25
    have c23 : Same G23 G28 := x24.trans c24
    have c22 : Same G22 G28 := x23.trans c23
    have c21 : Same G21 G28 := x22.trans c22
    have c20 : Same G20 G28 := x21.trans c21
    have c19 : Same G19 G28 := x20.trans c20
    have c18 : Same G18 G28 := x19.trans c19
    have c17 : Same G17 G28 := x18.trans c18
    have c16 : Same G16 G28 := x17.trans c17
    have c15 : Same G15 G28 := x16.trans c16
    have c14 : Same G14 G28 := x15.trans c15
    have c13 : Same G13 G28 := x14.trans c14
    have c12 : Same G12 G28 := x13.trans c13
    have c11 : Same G11 G28 := x12.trans c12
    have c10 : Same G10 G28 := x11.trans c11
    have c9 : Same G9 G28 := x10.trans c10
    have c8 : Same G8 G28 := x9.trans c9
    have c7 : Same G7 G28 := x8.trans c8
    have c6 : Same G6 G28 := x7.trans c7
    have c5 : Same G5 G28 := x6.trans c6
    have c4 : Same G4 G28 := x5.trans c5
    have c3 : Same G3 G28 := x4.trans c4
    have c2 : Same G2 G28 := x3.trans c3
    have c1 : Same G1 G28 := x2.trans c2
    have c0 : Same H G28 := x1.trans c1
    have qt1 : SqT K G28 t1 [.str "lots", .int 4] := .inl (.inl (c1 _ _ f1))
    have qt2 : SqT K G28 t2 [.str "keep", .str "abcdefgh"] := .inl (.inl (c2 _ _ f2))
    have qt3 : SqT K G28 t3 [.ref t2] := .inl (.inl (c3 _ _ f3))
    have qt4 : SqT K G28 t4 [.str "d", .ref t3] := .inl (.inl (c4 _ _ f4))
    have qt5 : SqT K G28 t5 [.str "zip", .ref t4] := .inl (.inl (c5 _ _ f5))
    have qt6 : SqT K G28 t6 [.ref t1, .ref t5] := .inl (.inl (c6 _ _ f6))
    have qt7 : SqT K G28 t7 [.str "c", .ref t6] := .inl (.inl (c7 _ _ f7))
    have qt8 : SqT K G28 t8 [.str "zip", .ref t7] := .inl (.inl (c8 _ _ f8))
    have qt9 : SqT K G28 t9 [.str "flat"] := .inl (.inl (c9 _ _ f9))
    have qt10 : SqT K G28 t10 [.str "gather", .int 4] := .inl (.inl (c10 _ _ f10))
    have qt11 : SqT K G28 t11 [.ref t8, .ref t9, .ref t10] := .inl (.inl (c11 _ _ f11))
    have qt12 : SqT K G28 t12 [.str "b", .ref t11] := .inl (.inl (c12 _ _ f12))
    have qu1 : SqT K G28 u1 [] := .inl (.inl (c13 _ _ f13))
    have qu2 : SqT K G28 u2 [.str "a", .ref u1] := .inl (.inl (c14 _ _ f14))
    have qu3 : SqT K G28 u3 [.str "lots", .int 1] := .inl (.inl (c15 _ _ f15))
    have qu4 : SqT K G28 u4 [.ref u3] := .inl (.inl (c16 _ _ f16))
    have qu5 : SqT K G28 u5 [.ref u3, .ref u3, .ref u3] := .inl (.inl (c17 _ _ f17))
    have qu6 : SqT K G28 u6 [.str "flat"] := .inl (.inl (c18 _ _ f18))
    have qu7 : SqT K G28 u7 [.ref u6] := .inl (.inl (c19 _ _ f19))
    have qu8 : SqT K G28 u8 [.ref u6, .ref u6, .ref u6] := .inl (.inl (c20 _ _ f20))
    have qu9 : SqT K G28 u9 [.ref u3, .ref u3, .ref u3, .ref u6, .ref u6, .ref u6] := .inl (.inl (c21 _ _ f21))
    have qu10 : SqT K G28 u10 [.str "d", .ref u9] := .inl (.inl (c22 _ _ f22))
    have qu11 : SqT K G28 u11 [.str "zip", .ref t12] := .inl (.inl (c23 _ _ f23))
    have qu12 : SqT K G28 u12 [.ref u11] := .inl (.inl (c24 _ _ f24))
    have qu13 : SqT K G28 u13 [.ref t9, .ref t10] := .inl (.inl (c25 _ _ f25))
    have qu14 : SqT K G28 u14 [.ref u11, .ref t9, .ref t10] := .inl (.inl (c26 _ _ f26))
    have qu15 : SqT K G28 u15 [.str "a", .ref u14] := .inl (.inl (c27 _ _ f27))
    have qtl : G28 tl = some (.lst [.ref u2, .ref u10, .ref u15]) := c28 _ _ f28
    have dd : PlAt K G28 (.ref t12) deepPg := .mk qt12 qt11 (.cons (.zip qt8 (.mk qt7 qt6 (.cons (.num qt1) (.cons (.zip qt5 (.mk qt4 qt3 (.cons (.nm qt2) .nil))) .nil)))) (.cons (.flat qt9) (.cons (.num qt10) .nil)))
    have pls : ∀ v ∈ ([.ref u2, .ref u10, .ref u15] : List V), ∃ g, PlAt K G28 v g ∧ g.ok := fun v hv => by
      rcases List.mem_cons.mp hv with rfl | hv
      · exact ⟨_, .mk qu2 qu1 .nil, okT1⟩
      rcases List.mem_cons.mp hv with rfl | hv
      · exact ⟨_, .mk qu10 qu9 (.cons (.num qu3) (.cons (.num qu3) (.cons (.num qu3) (.cons (.flat qu6) (.cons (.flat qu6) (.cons (.flat qu6) .nil)))))), okT2⟩
      rcases List.mem_cons.mp hv with rfl | hv
      · exact ⟨_, .mk qu15 qu14 (.cons (.zip qu11 dd) (.cons (.flat qt9) (.cons (.num qt10) .nil))), okT3⟩
      · cases hv
    have s0 : Same H G28 := c0
    have TYL : ([.ref u2, .ref u10, .ref u15] : List V).length ≤ 3 := Nat.le_refl 3
    generalize ([.ref u2, .ref u10, .ref u15] : List V) = ty at qtl pls TYL
    have tyl : ty.length ≤ 3 := TYL
    clear c0 c1 c2 c3 c4 c5 c6 c7 c8 c9 c10 c11 c12 c13 c14 c15 c16 c17 c18 c19 c20 c21 c22 c23 c24 c25 c26 c27 c28 x1 f1 x2 f2 x3 f3 x4 f4 x5 f5 x6 f6 x7 f7 x8 f8 x9 f9 x10 f10 x11 f11 x12 f12 x13 f13 x14 f14 x15 f15 x16 f16 x17 f17 x18 f18 x19 f19 x20 f20 x21 f21 x22 f22 x23 f23 x24 f24 x25 f25 x26 f26 x27 f27 x28 f28 qt1 qt2 qt3 qt4 qt5 qt6 qt7 qt8 qt9 qt10 qt11 qt12 qu1 qu2 qu3 qu4 qu5 qu6 qu7 qu8 qu9 qu10 qu11 qu12 qu13 qu14 qu15 dd TO11 TO12
    have hj : ∀ n : Nat, n ≤ 63 → (1 : Int) ≤ (if (if (n : Int) < 4 then (n : Int) else 4) > 1 then (if (n : Int) < 4 then (n : Int) else 4) else 1) ∧ (if (if (n : Int) < 4 then (n : Int) else 4) > 1 then (if (n : Int) < 4 then (n : Int) else 4) else 1) ≤ 4 := by
      intro n hn
      split <;> split <;> omega
    have hj2 := hj (ns.map V.int).length (by rw [List.length_map]; exact hlen)
    generalize hJ : (if (if ((ns.map V.int).length : Int) < 4 then ((ns.map V.int).length : Int) else 4) > 1 then (if ((ns.map V.int).length : Int) < 4 then ((ns.map V.int).length : Int) else 4) else 1) = J at hj2
    refine ⟨_, rfl, a, _, rfl, .inl (hS2 _ (Kp.of s0)), _, _, rfl, _, _, rfl, J, by rw [← hJ], by omega, by omega, ?_⟩
    have kz : Kp H G28 := Kp.of s0
    clear s0 hJ hj
    generalize G28 = G at qtl pls kz
    refine for_range (lo := 0) (n := J.toNat) (fun _ σ H' => (∃ v3 v4 v5 v6 v7 v8 v9 : Option V, σ = [some (.ref a), some (.ref t12), some (.ref tl), v3, v4, v5, v6, v7, v8, v9]) ∧ Kp G H' ∧ H' tl = some (.lst ty))
      ⟨⟨_, _, _, _, _, _, _, rfl⟩, Kp.refl _, qtl⟩ ?_ (fun σ H' _ => kk H')
    rintro i σ H1 hi ⟨⟨v3, v4, v5, v6, v7, v8, v9, rfl⟩, k1, qt1⟩
    refine ⟨_, rfl, _, rfl, a, ns, _, rfl, hS2 _ (kz.trans k1), hlen, hbits, by omega, by omega, fun p H2 np st2 but2 => ?_⟩
    have s2 : Same H1 H2 := fun b o e => (but2 b (ne_of_none e np)).trans e
    have k2 : Kp G H2 := k1.trans (Kp.of s2)
    have qt2 := s2 _ _ qt1
    have npt : tl ≠ p := fun z => by rw [z, np] at qt1; cases qt1
    clear k1 qt1 s2 but2 np H1
    refine ⟨6, rfl, by decide, by decide, fun D hD => ?_⟩
    have ndp : D ≠ p := fun z => by
      obtain ⟨r0, m0, e, _⟩ := st2
      rw [z, e] at hD
      cases hD
    refine lc_range (lo := 0) (n := 6) (fun i H' => Strm H' p ∧ Bx p H2 H' ∧ ∃ vs : List V, H' D = some (.lst vs) ∧ vs.length ≤ i ∧ ∀ v ∈ vs, ∃ g, PlAt K H' v g ∧ g.ok)
      ⟨st2.same (same_new hD), Bx.of (same_new hD), [], upd_same, Nat.le_refl _, fun _ h => by cases h⟩ ?_ ?_
    · rintro j H3 hj3 ⟨st3, bx3, vs, e3, l3, p3⟩
      refine ⟨rfl, iteT (B := True) ?_⟩
      refine drawn_all (i := 4) rfl st3 fun v g H4 hv ok st4 bx4 => ?_
      have e4 := bx4 _ _ ndp e3
      refine ⟨vs, e4, small1000 (by omega), ?_⟩
      have kp4 : Kp H3 H4 := bx4.kps st3
      have kp5 : Kp H4 (upd H4 D (.lst (vs ++ [v]))) := kp_upd e4
      refine ⟨st4.bx (upd_ne (Ne.symm ndp)), fun b o n e => ?_, vs ++ [v], upd_same, ?_, fun v' hv' => ?_⟩
      · rw [upd_ne (ne_of_none e hD)]
        exact bx4 _ _ n (bx3 _ _ n e)
      · rw [List.length_append]
        show vs.length + 1 ≤ j + 1
        omega
      · rcases List.mem_append.mp hv' with h | h
        · obtain ⟨g', h1, h2⟩ := p3 v' h
          exact ⟨g', PlAt.kp (kp4.trans kp5) h1, h2⟩
        · rw [List.mem_singleton.mp h]
          exact ⟨g, PlAt.kp kp5 hv, ok⟩
    · rintro H3 ⟨st3, bx3, vs, e3, l3, p3⟩
      have qt3 := bx3 _ _ npt qt2
      have k3 : Kp G H3 := k2.trans (bx3.kps st2)
      refine ⟨_, rfl, _, rfl, D, tl, vs, ty, rfl, rfl, e3, qt3, by rw [sizeLine_eq]; omega, fun r hr3 => ?_⟩
      have s4 : Same H3 (upd H3 r (.lst (vs ++ ty))) := same_new hr3
      have e4 : upd H3 r (.lst (vs ++ ty)) r = some (.lst (vs ++ ty)) := upd_same
      generalize upd H3 r (.lst (vs ++ ty)) = H4 at s4 e4
      have all : ∀ v ∈ vs ++ ty, ∃ g, PlAt K H4 v g ∧ g.ok := fun v hv => by
        rcases List.mem_append.mp hv with h | h
        · obtain ⟨g, h1, h2⟩ := p3 v h
          exact ⟨g, PlAt.kp (Kp.of s4) h1, h2⟩
        · obtain ⟨g, h1, h2⟩ := pls v h
          exact ⟨g, PlAt.kp (k3.trans (Kp.of s4)) h1, h2⟩
      have k4 := k3.trans (Kp.of s4)
      have qt4 := s4 _ _ qt3
      clear k3 k2 s4 qt3 p3 e3 bx3 st3 hr3 qt2
      generalize vs ++ ty = all_ at e4 all
      refine ⟨r, rfl, ⟨_, SqL.of e4⟩, ?_⟩
      refine for_it (walk_list (xs := all_)) (fun _ σ H' => (∃ v6 v7 v8 v9 : Option V, σ = [some (.ref a), some (.ref t12), some (.ref tl), some (.int (0 + (i : Int))), some (.ref p), some (.ref D), v6, v7, v8, v9]) ∧ Same H4 H')
        ⟨⟨_, _, _, _, rfl⟩, Same.refl _⟩ (fun j0 σ H' _ q => q.2.seq (SqL.of e4)) ?_ ?_
      · rintro j v σ H9 H5 hj5 ⟨⟨w6, w7, w8, w9, rfl⟩, s5⟩ ⟨rfl, hv⟩
        obtain ⟨g, pl, ok⟩ := all v (List.mem_of_getElem? hv)
        have pl5 := PlAt.kp (Kp.of s5) pl
        refine ⟨_, rfl, v, g, rfl, pl5, ok, Pg.nest4 ok, fun pr H6 npr s6 pg6 => ?_⟩
        refine ⟨⟨_, rfl⟩, _, rfl, v, g, rfl, PlAt.kp (Kp.of s6) pl5, ok, Pg.nest4 ok, fun q H7 nq s7 e7 => ⟨"\n", q, g.lines, rfl, rfl, .inl (SqL.of e7), text_sum ok, ?_⟩⟩
        refine ⟨_, _, rfl, ?_⟩
        have pg7 := PgAt.kp (Kp.of s7) pg6
        have pl7 := PlAt.kp (Kp.of (s6.trans s7)) pl5
        have s57 : Same H4 H7 := s5.trans (s6.trans s7)
        clear pl5 pg6 s6 s7 s5 nq npr e7
        show tSeq _ _ _ [some (.ref a), some (.ref t12), some (.ref tl), some (.int (0 + (i : Int))), some (.ref p), some (.ref D), w6, some v, some (.ref pr), some (.str g.text)] H7
        refine ⟨_, rfl, .ref pr, g, rfl, pg7, ok, fun H8 s8 => ⟨_, rfl, rfl, _, rfl, ?_⟩⟩
        rw [decide_eq_true rfl]
        refine iteF (A := True) ?_
        refine ⟨_, rfl, .ref pr, g, rfl, PgAt.kp (Kp.of s8) pg7, ok, fun H9 s9 => ⟨_, rfl, rfl, _, rfl, ?_⟩⟩
        rw [decide_eq_true rfl]
        refine iteF (A := True) ?_
        have s79 : Same H7 H9 := s8.trans s9
        have pg9 := PgAt.kp (Kp.of s79) pg7
        have pl9 := PlAt.kp (Kp.of s79) pl7
        have s49 := s57.trans s79
        clear s8 s9 s79 pg7 pl7 s57
        -- read_program(due) != one, twice
        refine ⟨_, rfl, g, rfl, ok, fun v1 Ha sa pa => ?_⟩
        obtain ⟨r1, dr1, tr1, sr1, nr1, er1, rfl, ir1⟩ := pa.ins
        refine ⟨_, rfl, true, two_rq (two_of pa (PgAt.kp (Kp.of sa) pg9) ok ok ⟨fun _ => rfl, fun _ => rfl⟩), fun Hb sb => ⟨_, rfl, iteF (A := True) ?_⟩⟩
        have sb : Same Ha Hb := sb
        have pgb := PgAt.kp (Kp.of (sa.trans sb)) pg9
        refine ⟨_, rfl, g, rfl, ok, fun v2 Hc sc pc => ?_⟩
        obtain ⟨r2, dr2, tr2, sr2, nr2, er2, rfl, ir2⟩ := pc.ins
        refine ⟨_, rfl, true, two_rq (two_of pc (PgAt.kp (Kp.of sc) pgb) ok ok ⟨fun _ => rfl, fun _ => rfl⟩), fun Hd sd => ⟨_, rfl, iteF (A := True) ?_⟩⟩
        have sd : Same Hc Hd := sd
        -- program_text(read_program(due)) != due
        refine ⟨_, rfl, g, rfl, ok, fun v3 He se pe3 => ?_⟩
        refine ⟨v3, g, rfl, pe3, ok, fun Hf sf => ⟨_, rfl, rfl, _, rfl, ?_⟩⟩
        rw [decide_eq_true rfl]
        refine iteF (A := True) ?_
        have s9f : Same H9 Hf := sa.trans (sb.trans (sc.trans (sd.trans (se.trans sf))))
        have pgf := PgAt.kp (Kp.of s9f) pg9
        have plf := PlAt.kp (Kp.of s9f) pl9
        have s4f := s49.trans s9f
        clear sa sb sc sd se sf s9f pg9 pl9 s49 pa pc pe3 pgb ir1 ir2
        -- depth, sources
        refine ⟨_, rfl, g, rfl, ok, fun v4 Hg sg pg4 => ?_⟩
        have plg := PlAt.kp (Kp.of sg) plf
        obtain ⟨s0, l0⟩ := g
        have pg4' := pg4
        cases pg4' with
        | @mk r4 dr4 tr4 sr4 _ _ xs4 ir4 t4a t4b t4c =>
        refine ⟨r4, dr4, _, rfl, ir4, r4, dr4, _, _, rfl, ir4, get_depth _ _ _ _, ?_⟩
        refine ⟨_, rfl, v, .mk s0 l0, rfl, plg, ok, Nat.lt_succ_of_lt (Pg.nest4 ok), fun Hh sh => ⟨rfl, _, rfl, ?_⟩⟩
        show if (!decide (V.int (l0.dep 0) = V.int (l0.dep 0))) = true then _ else _
        rw [decide_eq_true rfl]
        refine iteF (A := True) ?_
        refine ⟨_, rfl, .mk s0 l0, rfl, ok, fun v5 Hi si pg5 => ?_⟩
        have pgi := PgAt.kp (Kp.of (sg.trans (sh.trans si))) pgf
        have s4i := s4f.trans (sg.trans (sh.trans si))
        cases pg5 with
        | @mk r5 dr5 tr5 sr5 _ _ xs5 ir5 t5a t5b t5c =>
        cases pgi with
        | @mk _ dr6 tr6 sr6 _ _ xs6 ir6 t6a t6b t6c =>
        refine ⟨r5, dr5, _, rfl, ir5, r5, dr5, _, .ref sr5, rfl, ir5, get_sources _ _ _ _, ?_⟩
        refine ⟨_, rfl, pr, dr6, _, rfl, ir6, pr, dr6, _, .ref sr6, rfl, ir6, get_sources _ _ _ _, ?_⟩
        refine ne_srcs (ws := s0 :: l0.srcs) (Pg.fine _ ok).2 t5c t6c ⟨_, rfl, iteF (A := True) ?_⟩
        exact ⟨⟨_, _, _, _, rfl⟩, s4i⟩
      · rintro σ H5 ⟨⟨w6, w7, w8, w9, rfl⟩, s5⟩
        exact ⟨⟨_, _, _, _, _, _, _, rfl⟩, k4.trans (Kp.of s5), s5 _ _ qt4⟩
end
end K80
set_option Elab.async false
set_option linter.all false
set_option maxRecDepth 100000
set_option maxHeartbeats 8000000
namespace K80
open PySem L2 VK
abbrev sP1 : Stmt := inClass (top 24) 1
abbrev sP2 : Stmt := inClass (top 24) 2
abbrev sP3 : Stmt := inClass (top 24) 3
abbrev sP4 : Stmt := inClass (top 24) 4
theorem scP1 : FnScope ["self"] ["self"] (defScope sP1) := ⟨rfl, rfl, rfl, by decide +kernel, rfl, by decide +kernel, by decide +kernel⟩
theorem scP2 : FnScope ["self"] ["self"] (defScope sP2) := ⟨rfl, rfl, rfl, by decide +kernel, rfl, by decide +kernel, by decide +kernel⟩
theorem scP3 : FnScope ["self"] ["self"] (defScope sP3) := ⟨rfl, rfl, rfl, by decide +kernel, rfl, by decide +kernel, by decide +kernel⟩
theorem scP4 : FnScope ["self"] ["self"] (defScope sP4) := ⟨rfl, rfl, rfl, by decide +kernel, rfl, by decide +kernel, by decide +kernel⟩
section
variable {K : Fg} {h : Heap} {mg : Str → Option Value} {C S fI : Addr}
theorem err_mk (X : K.In h) (G : h.Ns mainGlobals mg) {name qual f : Str} {st : Stmt}
    {nm q : Str} {N : Addr} {bs bm : List Value} {sn : List Str} {sub : List Value} {ab : Bool} {col : Option Bool} {dd : Option Addr} {m0 m1 m2 m3 m5 : Option Value}
    {od an : Option Addr} {sl : Array (Option Value)} {oc kV dc pm cd ct : Value}
    (aC : PySem.W.nsIn K mainGlobals name = some (some (.ref C)))
    (xL : K.lookup C = some (excClassObj nm q C N bs bm true sn sub ab col dd m0 m1 m2 m3 m5 "ValueError.__new__")) (bv : PySem.HandSPX.refsVE bm = true)
    (sa : PySem.W.findIn K (.ref C) "__setattr__" = some (some (.builtin "object.__setattr__")))
    (eC : PySem.W.subIn K (.ref C) (.type "BaseException") = some true) (tC : PySem.W.typeIn K (.ref C) = some (.type "type")) (kC : PySem.W.keepIn K (.ref C) = true)
    (no : PySem.W.findIn K (.ref C) f = some none) (ini : PySem.W.findIn K (.ref C) "__init__" = some (some (.ref fI))) (tyI : PySem.W.typeIn K (.ref fI) = some (.type "function"))
    (l : K.lookup fI = some ⟨oc, od, .func (PySem.W.fnOf "__init__" qual (defArgs st) (defBody st) (defScope st) .none kV dc pm an cd ct), sl⟩) (c : PySem.W.codeIn K cd qual = true) (k : PySem.W.keepIn K (.ref fI) = true)
    (ga : PySem.W.findIn K (.ref C) "__getattribute__" = some (some (.builtin "BaseException.__getattribute__"))) (gg : PySem.W.findIn K (.ref C) "__getattr__" = some none) (hC : PySem.W.hasDictIn K C = true)
    (bd : ∀ (kV doc pm : Value) (an : Option Addr) (cdv ct : Value) (us : List Value), us.length = 2 → bindArgs (PySem.W.fnOf "__init__" qual (defArgs st) (defBody st) (defScope st) .none kV doc pm an cdv ct) ⟨us, []⟩ = pure ((["self", f] : List Str).zip us)) :
    ErrC K mg name qual f st C fI (PySem.W.fnOf "__init__" qual (defArgs st) (defBody st) (defScope st) .none kV dc pm an cd ct) := by
  have F := fun_mk (st := st) l c k
  exact ⟨PySem.W.mg_of X G aC, ⟨⟨nm, q, N, bs, _, sn, sub, ab, col, dd, m0, m1, m2, m3, m5, xL, bv⟩, sa, eC, tC, kC⟩, ⟨ga, gg, eC, hC⟩, no, ini, tyI, F, F.binds (ps := ["self", f]) bd⟩
theorem prp_mk {f g : Str} {st : Stmt} {p ga : Addr} {rest : List Value} {od an : Option Addr} {sl : Array (Option Value)} {oc kV dc pm cd ct : Value} {qual : Str} {p1 p2 p3 : Pos} (c : Cls K C) (n : NoAttr K C g)
    (pa : PySem.W.findIn K (.ref C) f = some (some (.ref p))) (ps : PySem.W.specialIn K (.ref p) "__get__" = some (some (.builtin "property.__get__"))) (pt : PySem.W.takesIn K (.ref p) = some true) (pr : PySem.W.recIn K p "property" = some (.ref ga :: rest))
    (l : K.lookup ga = some ⟨oc, od, .func (PySem.W.fnOf f qual (defArgs st) (defBody st) (defScope st) .none kV dc pm an cd ct), sl⟩) (cc : PySem.W.codeIn K cd qual = true) (sc : FnScope ["self"] ["self"] (defScope st))
    (hb : defBody st = [.Return (some (.Attribute (.Name "self" p1) g p2)) p3])
    (bd : ∀ (kV doc pm : Value) (an : Option Addr) (cdv ct : Value) (us : List Value), us.length = 1 → bindArgs (PySem.W.fnOf f qual (defArgs st) (defBody st) (defScope st) .none kV doc pm an cdv ct) ⟨us, []⟩ = pure ((["self"] : List Str).zip us)) :
    ∀ (P : Program) (w : World) (base : Heap), Prp P w K mg base C f g := fun P w base =>
  ⟨p, ga, _, ⟨pa, ps, pt, rest, pr⟩, fn_getter (k := 0) l cc sc rfl hb c n, .all (bd kV dc pm an cd ct)⟩
theorem sqK {a : Addr} {d : Option Addr} {its : Array Value} {n : Nat} {sl : Array (Option Value)} {xs : List V} (l : K.lookup a = some ⟨.type "tuple", d, .seq its n, sl⟩) (v : Vals xs its.toList) (hz : its.size ≤ 1000) (H : Hp) : SqT K H a xs :=
  .inr ⟨_, its, n, l, rfl, rfl, Nat.le_of_lt (small1000 hz), v⟩
end
/-- an entry of a namespace -/
theorem mq_of {K : Fg} {h : Heap} {N : Addr} {m : Str → Option Value} {n : Str} {v : Value} (X : K.In h) (G : h.Ns N m) (e : PySem.W.nsIn K N n = some (some v)) : m n = some v := by
  obtain ⟨o, es, ep, ho, hd, _, hf⟩ := G
  unfold PySem.W.nsIn at e
  split at e
  · rename_i c d es' n' sl q
    have := X _ _ q
    rw [ho] at this
    cases this
    cases hd
    split at e
    · rename_i en he
      cases e
      rw [← hf]
      unfold nsFind findBy
      rw [← Array.find?_toList, he]
      rfl
    · split at e <;> cases e
  · cases e
/-- the plans, as deep as need be -/
theorem plans {P : Program} {w : World} {K : Fg} {mg : Str → Option Value} {base : Heap} {fS fL : Addr} {dS dL : FuncData} (FL : Fun K "_law_plan" "_law_plan" sPlan fL dL)
    (st : ∀ n, FnOk P w K mg base CX0 (2 * n + 12) fL dL ["stream", "pool", "most"] (spPlan K n) → FnOk P w K mg base CX0 (2 * n + 13) fS dS ["stream", "height", "pool", "most"] (spStg K n))
    (pl : ∀ n, FnOk P w K mg base CX0 (2 * n + 13) fS dS ["stream", "height", "pool", "most"] (spStg K n) → FnOk P w K mg base CX0 (2 * n + 14) fL dL ["stream", "pool", "most"] (spPlan K (n + 1))) :
    ∀ n : Nat, FnOk P w K mg base CX0 (2 * n + 12) fL dL ["stream", "pool", "most"] (spPlan K n)
  | 0 => by
    refine FL.ok scPlan (fun vs H Q E h => ?_) (fun cdv B outer s H vs Q E hr h => ?_)
    · obtain ⟨p, q, m, pl, rfl, _⟩ := h
      rfl
    · obtain ⟨p, q, m, pl, rfl, m0, m1, hp, hq, pp, ne, le, k⟩ := h
      exact absurd (List.length_eq_zero_iff.mp (Nat.le_zero.mp le)) ne
  | n + 1 => pl n (st n (plans FL st pl n))
theorem all_mk {l : PySem.W.OpenLaw} {w : World} {K : Fg} {h : Heap} {mg : Str → Option Value} {fa : Addr} (X : K.In h) (G : h.Ns mainGlobals mg) (hfa : mg "law" = some (.ref fa))
    {f13 : Addr} {odf13 anf13 : Option Addr} {slf13 : Array (Option Value)} {ocf13 kVf13 dcf13 pmf13 cdf13 ctf13 : Value}
    {f14 : Addr} {odf14 anf14 : Option Addr} {slf14 : Array (Option Value)} {ocf14 kVf14 dcf14 pmf14 cdf14 ctf14 : Value}
    {f15 : Addr} {odf15 anf15 : Option Addr} {slf15 : Array (Option Value)} {ocf15 kVf15 dcf15 pmf15 cdf15 ctf15 : Value}
    {f16 : Addr} {odf16 anf16 : Option Addr} {slf16 : Array (Option Value)} {ocf16 kVf16 dcf16 pmf16 cdf16 ctf16 : Value}
    {f17 : Addr} {odf17 anf17 : Option Addr} {slf17 : Array (Option Value)} {ocf17 kVf17 dcf17 pmf17 cdf17 ctf17 : Value}
    {f18 : Addr} {odf18 anf18 : Option Addr} {slf18 : Array (Option Value)} {ocf18 kVf18 dcf18 pmf18 cdf18 ctf18 : Value}
    {f19 : Addr} {odf19 anf19 : Option Addr} {slf19 : Array (Option Value)} {ocf19 kVf19 dcf19 pmf19 cdf19 ctf19 : Value}
    {f20 : Addr} {odf20 anf20 : Option Addr} {slf20 : Array (Option Value)} {ocf20 kVf20 dcf20 pmf20 cdf20 ctf20 : Value}
    {f21 : Addr} {odf21 anf21 : Option Addr} {slf21 : Array (Option Value)} {ocf21 kVf21 dcf21 pmf21 cdf21 ctf21 : Value}
    {f24 : Addr} {odf24 anf24 : Option Addr} {slf24 : Array (Option Value)} {ocf24 kVf24 dcf24 pmf24 cdf24 ctf24 : Value}
    {f25 : Addr} {odf25 anf25 : Option Addr} {slf25 : Array (Option Value)} {ocf25 kVf25 dcf25 pmf25 cdf25 ctf25 : Value}
    {f26 : Addr} {odf26 anf26 : Option Addr} {slf26 : Array (Option Value)} {ocf26 kVf26 dcf26 pmf26 cdf26 ctf26 : Value}
    {f27 : Addr} {odf27 anf27 : Option Addr} {slf27 : Array (Option Value)} {ocf27 kVf27 dcf27 pmf27 cdf27 ctf27 : Value}
    {f28 : Addr} {odf28 anf28 : Option Addr} {slf28 : Array (Option Value)} {ocf28 kVf28 dcf28 pmf28 cdf28 ctf28 : Value}
    {f29 : Addr} {odf29 anf29 : Option Addr} {slf29 : Array (Option Value)} {ocf29 kVf29 dcf29 pmf29 cdf29 ctf29 : Value}
    {f30 : Addr} {odf30 anf30 : Option Addr} {slf30 : Array (Option Value)} {ocf30 kVf30 dcf30 pmf30 cdf30 ctf30 : Value}
    {f31 : Addr} {odf31 anf31 : Option Addr} {slf31 : Array (Option Value)} {ocf31 kVf31 dcf31 pmf31 cdf31 ctf31 : Value}
    {f32 : Addr} {odf32 anf32 : Option Addr} {slf32 : Array (Option Value)} {ocf32 kVf32 dcf32 pmf32 cdf32 ctf32 : Value}
    {f33 : Addr} {odf33 anf33 : Option Addr} {slf33 : Array (Option Value)} {ocf33 kVf33 dcf33 pmf33 cdf33 ctf33 : Value}
    {f34 : Addr} {odf34 anf34 : Option Addr} {slf34 : Array (Option Value)} {ocf34 kVf34 dcf34 pmf34 cdf34 ctf34 : Value}
    {ft0 : Addr} {odft0 anft0 : Option Addr} {slft0 : Array (Option Value)} {ocft0 kVft0 dcft0 pmft0 cdft0 ctft0 : Value}
    {ft1 : Addr} {odft1 anft1 : Option Addr} {slft1 : Array (Option Value)} {ocft1 kVft1 dcft1 pmft1 cdft1 ctft1 : Value}
    {ft2 : Addr} {odft2 anft2 : Option Addr} {slft2 : Array (Option Value)} {ocft2 kVft2 dcft2 pmft2 cdft2 ctft2 : Value}
    {ft3 : Addr} {odft3 anft3 : Option Addr} {slft3 : Array (Option Value)} {ocft3 kVft3 dcft3 pmft3 cdft3 ctft3 : Value}
    {ft4 : Addr} {odft4 anft4 : Option Addr} {slft4 : Array (Option Value)} {ocft4 kVft4 dcft4 pmft4 cdft4 ctft4 : Value}
    {ft5 : Addr} {odft5 anft5 : Option Addr} {slft5 : Array (Option Value)} {ocft5 kVft5 dcft5 pmft5 cdft5 ctft5 : Value}
    {f41 : Addr} {odf41 anf41 : Option Addr} {slf41 : Array (Option Value)} {ocf41 kVf41 dcf41 pmf41 cdf41 ctf41 : Value}
    {S : Addr}
    {C3 N3 I3 : Addr} {nm3 q3 : Str} {bs3 sub3 : List Value} {sn3 : List Str} {ab3 : Bool} {col3 : Option Bool} {dd3 : Option Addr} {w03 w13 w23 w33 w53 : Option Value} {ode3 ane3 : Option Addr} {sle3 : Array (Option Value)} {oce3 kVe3 dce3 pme3 cde3 cte3 : Value}
    {C4 N4 I4 : Addr} {nm4 q4 : Str} {bs4 sub4 : List Value} {sn4 : List Str} {ab4 : Bool} {col4 : Option Bool} {dd4 : Option Addr} {w04 w14 w24 w34 w54 : Option Value} {ode4 ane4 : Option Addr} {sle4 : Array (Option Value)} {oce4 kVe4 dce4 pme4 cde4 cte4 : Value}
    {C NC e0 T22 : Addr} {f22 : Addr} {odf22 anf22 : Option Addr} {slf22 : Array (Option Value)} {ocf22 kVf22 dcf22 pmf22 cdf22 ctf22 : Value} {cT : Value} {dT dE : Option Addr} {nT nE : Nat} {sT sE : Array (Option Value)}
    {nmC qC : Str} {bsC subC : List Value} {hdC abC : Bool} {snC : List Str} {colC : Option Bool} {ddC : Option Addr} {w0C w1C w2C w3C w5C : Option Value} {newC : String} {cN : Value} {dN : Option Addr} {esN : Array DictEntry} {nN : Nat} {sN : Array (Option Value)}
    {p1 g1 : Addr} {rest1 : List Value} {odp1 anp1 : Option Addr} {slp1 : Array (Option Value)} {ocp1 kVp1 dcp1 pmp1 cdp1 ctp1 : Value}
    {p2 g2 : Addr} {rest2 : List Value} {odp2 anp2 : Option Addr} {slp2 : Array (Option Value)} {ocp2 kVp2 dcp2 pmp2 cdp2 ctp2 : Value}
    {p3 g3 : Addr} {rest3 : List Value} {odp3 anp3 : Option Addr} {slp3 : Array (Option Value)} {ocp3 kVp3 dcp3 pmp3 cdp3 ctp3 : Value}
    {p4 g4 : Addr} {rest4 : List Value} {odp4 anp4 : Option Addr} {slp4 : Array (Option Value)} {ocp4 kVp4 dcp4 pmp4 cdp4 ctp4 : Value}
    {m0 : Addr} {odm0 anm0 : Option Addr} {slm0 : Array (Option Value)} {ocm0 kVm0 dcm0 pmm0 cdm0 ctm0 : Value}
    {mq : Addr} {odmq anmq : Option Addr} {slmq : Array (Option Value)} {ocmq kVmq dcmq pmmq cdmq ctmq : Value}
    {t6 t8 t4 : Tok} {aS aM aN : Addr}
    {daS : Option Addr} {iaS : Array Value} {naS : Nat} {saS : Array (Option Value)}
    {daM : Option Addr} {iaM : Array Value} {naM : Nat} {saM : Array (Option Value)}
    {daN : Option Addr} {iaN : Array Value} {naN : Nat} {saN : Array (Option Value)}
    {CR aD : Addr} {esD : Array DictEntry} {nD : Nat} {tI tD1 tD2 tD3 tD4 : Tok}
    {r0 : Addr} {odr0 anr0 : Option Addr} {slr0 : Array (Option Value)} {ocr0 kVr0 dcr0 pmr0 cdr0 ctr0 : Value}
    {r1 : Addr} {odr1 anr1 : Option Addr} {slr1 : Array (Option Value)} {ocr1 kVr1 dcr1 pmr1 cdr1 ctr1 : Value}
    {r2 : Addr} {odr2 anr2 : Option Addr} {slr2 : Array (Option Value)} {ocr2 kVr2 dcr2 pmr2 cdr2 ctr2 : Value}
    {r3 : Addr} {odr3 anr3 : Option Addr} {slr3 : Array (Option Value)} {ocr3 kVr3 dcr3 pmr3 cdr3 ctr3 : Value}
    {r4 : Addr} {odr4 anr4 : Option Addr} {slr4 : Array (Option Value)} {ocr4 kVr4 dcr4 pmr4 cdr4 ctr4 : Value}
    {r5 : Addr} {odr5 anr5 : Option Addr} {slr5 : Array (Option Value)} {ocr5 kVr5 dcr5 pmr5 cdr5 ctr5 : Value}
    {r6 : Addr} {odr6 anr6 : Option Addr} {slr6 : Array (Option Value)} {ocr6 kVr6 dcr6 pmr6 cdr6 ctr6 : Value}
    {r7 : Addr} {odr7 anr7 : Option Addr} {slr7 : Array (Option Value)} {ocr7 kVr7 dcr7 pmr7 cdr7 ctr7 : Value}
    (a13 : PySem.W.nsIn K mainGlobals "is_integer" = some (some (.ref f13)))
    (l13 : K.lookup f13 = some ⟨ocf13, odf13, .func (PySem.W.fnOf "is_integer" "is_integer" (defArgs sIsInt) (defBody sIsInt) (defScope sIsInt) .none kVf13 dcf13 pmf13 anf13 cdf13 ctf13), slf13⟩)
    (c13 : PySem.W.codeIn K cdf13 "is_integer" = true)
    (k13 : PySem.W.keepIn K (.ref f13) = true)
    (a14 : PySem.W.nsIn K mainGlobals "is_name" = some (some (.ref f14)))
    (l14 : K.lookup f14 = some ⟨ocf14, odf14, .func (PySem.W.fnOf "is_name" "is_name" (defArgs sIsName) (defBody sIsName) (defScope sIsName) .none kVf14 dcf14 pmf14 anf14 cdf14 ctf14), slf14⟩)
    (c14 : PySem.W.codeIn K cdf14 "is_name" = true)
    (k14 : PySem.W.keepIn K (.ref f14) = true)
    (a15 : PySem.W.nsIn K mainGlobals "is_stage_number" = some (some (.ref f15)))
    (l15 : K.lookup f15 = some ⟨ocf15, odf15, .func (PySem.W.fnOf "is_stage_number" "is_stage_number" (defArgs sIsNum) (defBody sIsNum) (defScope sIsNum) .none kVf15 dcf15 pmf15 anf15 cdf15 ctf15), slf15⟩)
    (c15 : PySem.W.codeIn K cdf15 "is_stage_number" = true)
    (k15 : PySem.W.keepIn K (.ref f15) = true)
    (a16 : PySem.W.nsIn K mainGlobals "is_stage" = some (some (.ref f16)))
    (l16 : K.lookup f16 = some ⟨ocf16, odf16, .func (PySem.W.fnOf "is_stage" "is_stage" (defArgs sIsStage) (defBody sIsStage) (defScope sIsStage) .none kVf16 dcf16 pmf16 anf16 cdf16 ctf16), slf16⟩)
    (c16 : PySem.W.codeIn K cdf16 "is_stage" = true)
    (k16 : PySem.W.keepIn K (.ref f16) = true)
    (a17 : PySem.W.nsIn K mainGlobals "sources_of_stage" = some (some (.ref f17)))
    (l17 : K.lookup f17 = some ⟨ocf17, odf17, .func (PySem.W.fnOf "sources_of_stage" "sources_of_stage" (defArgs sSrcs) (defBody sSrcs) (defScope sSrcs) .none kVf17 dcf17 pmf17 anf17 cdf17 ctf17), slf17⟩)
    (c17 : PySem.W.codeIn K cdf17 "sources_of_stage" = true)
    (k17 : PySem.W.keepIn K (.ref f17) = true)
    (a18 : PySem.W.nsIn K mainGlobals "can_stand" = some (some (.ref f18)))
    (l18 : K.lookup f18 = some ⟨ocf18, odf18, .func (PySem.W.fnOf "can_stand" "can_stand" (defArgs sCan) (defBody sCan) (defScope sCan) .none kVf18 dcf18 pmf18 anf18 cdf18 ctf18), slf18⟩)
    (c18 : PySem.W.codeIn K cdf18 "can_stand" = true)
    (k18 : PySem.W.keepIn K (.ref f18) = true)
    (a19 : PySem.W.nsIn K mainGlobals "depth_behind" = some (some (.ref f19)))
    (l19 : K.lookup f19 = some ⟨ocf19, odf19, .func (PySem.W.fnOf "depth_behind" "depth_behind" (defArgs sDep) (defBody sDep) (defScope sDep) .none kVf19 dcf19 pmf19 anf19 cdf19 ctf19), slf19⟩)
    (c19 : PySem.W.codeIn K cdf19 "depth_behind" = true)
    (k19 : PySem.W.keepIn K (.ref f19) = true)
    (a20 : PySem.W.nsIn K mainGlobals "is_position" = some (some (.ref f20)))
    (l20 : K.lookup f20 = some ⟨ocf20, odf20, .func (PySem.W.fnOf "is_position" "is_position" (defArgs sIsPos) (defBody sIsPos) (defScope sIsPos) .none kVf20 dcf20 pmf20 anf20 cdf20 ctf20), slf20⟩)
    (c20 : PySem.W.codeIn K cdf20 "is_position" = true)
    (k20 : PySem.W.keepIn K (.ref f20) = true)
    (a21 : PySem.W.nsIn K mainGlobals "are_positions" = some (some (.ref f21)))
    (l21 : K.lookup f21 = some ⟨ocf21, odf21, .func (PySem.W.fnOf "are_positions" "are_positions" (defArgs sArePos) (defBody sArePos) (defScope sArePos) .none kVf21 dcf21 pmf21 anf21 cdf21 ctf21), slf21⟩)
    (c21 : PySem.W.codeIn K cdf21 "are_positions" = true)
    (k21 : PySem.W.keepIn K (.ref f21) = true)
    (a24 : PySem.W.nsIn K mainGlobals "_law_source" = some (some (.ref f24)))
    (l24 : K.lookup f24 = some ⟨ocf24, odf24, .func (PySem.W.fnOf "_law_source" "_law_source" (defArgs sSource) (defBody sSource) (defScope sSource) .none kVf24 dcf24 pmf24 anf24 cdf24 ctf24), slf24⟩)
    (c24 : PySem.W.codeIn K cdf24 "_law_source" = true)
    (k24 : PySem.W.keepIn K (.ref f24) = true)
    (a25 : PySem.W.nsIn K mainGlobals "_law_draw" = some (some (.ref f25)))
    (l25 : K.lookup f25 = some ⟨ocf25, odf25, .func (PySem.W.fnOf "_law_draw" "_law_draw" (defArgs sDraw) (defBody sDraw) (defScope sDraw) .none kVf25 dcf25 pmf25 anf25 cdf25 ctf25), slf25⟩)
    (c25 : PySem.W.codeIn K cdf25 "_law_draw" = true)
    (k25 : PySem.W.keepIn K (.ref f25) = true)
    (a26 : PySem.W.nsIn K mainGlobals "_law_pick" = some (some (.ref f26)))
    (l26 : K.lookup f26 = some ⟨ocf26, odf26, .func (PySem.W.fnOf "_law_pick" "_law_pick" (defArgs sPick) (defBody sPick) (defScope sPick) .none kVf26 dcf26 pmf26 anf26 cdf26 ctf26), slf26⟩)
    (c26 : PySem.W.codeIn K cdf26 "_law_pick" = true)
    (k26 : PySem.W.keepIn K (.ref f26) = true)
    (a27 : PySem.W.nsIn K mainGlobals "_law_mixed" = some (some (.ref f27)))
    (l27 : K.lookup f27 = some ⟨ocf27, odf27, .func (PySem.W.fnOf "_law_mixed" "_law_mixed" (defArgs sMixed) (defBody sMixed) (defScope sMixed) .none kVf27 dcf27 pmf27 anf27 cdf27 ctf27), slf27⟩)
    (c27 : PySem.W.codeIn K cdf27 "_law_mixed" = true)
    (k27 : PySem.W.keepIn K (.ref f27) = true)
    (a28 : PySem.W.nsIn K mainGlobals "_law_height" = some (some (.ref f28)))
    (l28 : K.lookup f28 = some ⟨ocf28, odf28, .func (PySem.W.fnOf "_law_height" "_law_height" (defArgs sHeight) (defBody sHeight) (defScope sHeight) .none kVf28 dcf28 pmf28 anf28 cdf28 ctf28), slf28⟩)
    (c28 : PySem.W.codeIn K cdf28 "_law_height" = true)
    (k28 : PySem.W.keepIn K (.ref f28) = true)
    (a29 : PySem.W.nsIn K mainGlobals "_law_depth" = some (some (.ref f29)))
    (l29 : K.lookup f29 = some ⟨ocf29, odf29, .func (PySem.W.fnOf "_law_depth" "_law_depth" (defArgs sDepth) (defBody sDepth) (defScope sDepth) .none kVf29 dcf29 pmf29 anf29 cdf29 ctf29), slf29⟩)
    (c29 : PySem.W.codeIn K cdf29 "_law_depth" = true)
    (k29 : PySem.W.keepIn K (.ref f29) = true)
    (a30 : PySem.W.nsIn K mainGlobals "_law_name" = some (some (.ref f30)))
    (l30 : K.lookup f30 = some ⟨ocf30, odf30, .func (PySem.W.fnOf "_law_name" "_law_name" (defArgs sName) (defBody sName) (defScope sName) .none kVf30 dcf30 pmf30 anf30 cdf30 ctf30), slf30⟩)
    (c30 : PySem.W.codeIn K cdf30 "_law_name" = true)
    (k30 : PySem.W.keepIn K (.ref f30) = true)
    (a31 : PySem.W.nsIn K mainGlobals "_law_stage" = some (some (.ref f31)))
    (l31 : K.lookup f31 = some ⟨ocf31, odf31, .func (PySem.W.fnOf "_law_stage" "_law_stage" (defArgs sStg) (defBody sStg) (defScope sStg) .none kVf31 dcf31 pmf31 anf31 cdf31 ctf31), slf31⟩)
    (c31 : PySem.W.codeIn K cdf31 "_law_stage" = true)
    (k31 : PySem.W.keepIn K (.ref f31) = true)
    (a32 : PySem.W.nsIn K mainGlobals "_law_plan" = some (some (.ref f32)))
    (l32 : K.lookup f32 = some ⟨ocf32, odf32, .func (PySem.W.fnOf "_law_plan" "_law_plan" (defArgs sPlan) (defBody sPlan) (defScope sPlan) .none kVf32 dcf32 pmf32 anf32 cdf32 ctf32), slf32⟩)
    (c32 : PySem.W.codeIn K cdf32 "_law_plan" = true)
    (k32 : PySem.W.keepIn K (.ref f32) = true)
    (a33 : PySem.W.nsIn K mainGlobals "_law_program" = some (some (.ref f33)))
    (l33 : K.lookup f33 = some ⟨ocf33, odf33, .func (PySem.W.fnOf "_law_program" "_law_program" (defArgs sProg) (defBody sProg) (defScope sProg) .none kVf33 dcf33 pmf33 anf33 cdf33 ctf33), slf33⟩)
    (c33 : PySem.W.codeIn K cdf33 "_law_program" = true)
    (k33 : PySem.W.keepIn K (.ref f33) = true)
    (a34 : PySem.W.nsIn K mainGlobals "_law_lines" = some (some (.ref f34)))
    (l34 : K.lookup f34 = some ⟨ocf34, odf34, .func (PySem.W.fnOf "_law_lines" "_law_lines" (defArgs sLL) (defBody sLL) (defScope sLL) .none kVf34 dcf34 pmf34 anf34 cdf34 ctf34), slf34⟩)
    (c34 : PySem.W.codeIn K cdf34 "_law_lines" = true)
    (k34 : PySem.W.keepIn K (.ref f34) = true)
    (at0 : PySem.W.nsIn K mainGlobals "program_text" = some (some (.ref ft0)))
    (lt0 : K.lookup ft0 = some ⟨ocft0, odft0, .func (PySem.W.fnOf "program_text" "program_text" (defArgs sText) (defBody sText) (defScope sText) .none kVft0 dcft0 pmft0 anft0 cdft0 ctft0), slft0⟩)
    (ct0 : PySem.W.codeIn K cdft0 "program_text" = true)
    (kt0 : PySem.W.keepIn K (.ref ft0) = true)
    (at1 : PySem.W.nsIn K mainGlobals "program_lines" = some (some (.ref ft1)))
    (lt1 : K.lookup ft1 = some ⟨ocft1, odft1, .func (PySem.W.fnOf "program_lines" "program_lines" (defArgs sPL) (defBody sPL) (defScope sPL) .none kVft1 dcft1 pmft1 anft1 cdft1 ctft1), slft1⟩)
    (ct1 : PySem.W.codeIn K cdft1 "program_lines" = true)
    (kt1 : PySem.W.keepIn K (.ref ft1) = true)
    (at2 : PySem.W.nsIn K mainGlobals "stage_lines" = some (some (.ref ft2)))
    (lt2 : K.lookup ft2 = some ⟨ocft2, odft2, .func (PySem.W.fnOf "stage_lines" "stage_lines" (defArgs sSL) (defBody sSL) (defScope sSL) .none kVft2 dcft2 pmft2 anft2 cdft2 ctft2), slft2⟩)
    (ct2 : PySem.W.codeIn K cdft2 "stage_lines" = true)
    (kt2 : PySem.W.keepIn K (.ref ft2) = true)
    (at3 : PySem.W.nsIn K mainGlobals "stage_of_words" = some (some (.ref ft3)))
    (lt3 : K.lookup ft3 = some ⟨ocft3, odft3, .func (PySem.W.fnOf "stage_of_words" "stage_of_words" (defArgs sWords) (defBody sWords) (defScope sWords) .none kVft3 dcft3 pmft3 anft3 cdft3 ctft3), slft3⟩)
    (ct3 : PySem.W.codeIn K cdft3 "stage_of_words" = true)
    (kt3 : PySem.W.keepIn K (.ref ft3) = true)
    (at4 : PySem.W.nsIn K mainGlobals "can_follow" = some (some (.ref ft4)))
    (lt4 : K.lookup ft4 = some ⟨ocft4, odft4, .func (PySem.W.fnOf "can_follow" "can_follow" (defArgs sFollow) (defBody sFollow) (defScope sFollow) .none kVft4 dcft4 pmft4 anft4 cdft4 ctft4), slft4⟩)
    (ct4 : PySem.W.codeIn K cdft4 "can_follow" = true)
    (kt4 : PySem.W.keepIn K (.ref ft4) = true)
    (at5 : PySem.W.nsIn K mainGlobals "read_program" = some (some (.ref ft5)))
    (lt5 : K.lookup ft5 = some ⟨ocft5, odft5, .func (PySem.W.fnOf "read_program" "read_program" (defArgs sRead) (defBody sRead) (defScope sRead) .none kVft5 dcft5 pmft5 anft5 cdft5 ctft5), slft5⟩)
    (ct5 : PySem.W.codeIn K cdft5 "read_program" = true)
    (kt5 : PySem.W.keepIn K (.ref ft5) = true)
    (a41 : PySem.W.nsIn K mainGlobals "law" = some (some (.ref f41)))
    (l41 : K.lookup f41 = some ⟨ocf41, odf41, .func (PySem.W.fnOf "law" "law" (defArgs sLaw) (defBody sLaw) (defScope sLaw) .none kVf41 dcf41 pmf41 anf41 cdf41 ctf41), slf41⟩)
    (c41 : PySem.W.codeIn K cdf41 "law" = true)
    (k41 : PySem.W.keepIn K (.ref f41) = true)
    (eg3 : PySem.W.nsIn K mainGlobals "BadStages" = some (some (.ref C3)))
    (ex3 : K.lookup C3 = some (excClassObj nm3 q3 C3 N3 bs3 (.ref S :: [.type "ValueError", .type "Exception", .type "BaseException", .type "object"]) true sn3 sub3 ab3 col3 dd3 w03 w13 w23 w33 w53 "ValueError.__new__"))
    (es3 : PySem.W.findIn K (.ref C3) "__setattr__" = some (some (.builtin "object.__setattr__")))
    (eb3 : PySem.W.subIn K (.ref C3) (.type "BaseException") = some true)
    (et3 : PySem.W.typeIn K (.ref C3) = some (.type "type"))
    (ek3 : PySem.W.keepIn K (.ref C3) = true)
    (en3 : PySem.W.findIn K (.ref C3) "value" = some none)
    (ei3 : PySem.W.findIn K (.ref C3) "__init__" = some (some (.ref I3)))
    (ety3 : PySem.W.typeIn K (.ref I3) = some (.type "function"))
    (el3 : K.lookup I3 = some ⟨oce3, ode3, .func (PySem.W.fnOf "__init__" "BadStages.__init__" (defArgs sI1) (defBody sI1) (defScope sI1) .none kVe3 dce3 pme3 ane3 cde3 cte3), sle3⟩)
    (ec3 : PySem.W.codeIn K cde3 "BadStages.__init__" = true)
    (eK3 : PySem.W.keepIn K (.ref I3) = true)
    (ega3 : PySem.W.findIn K (.ref C3) "__getattribute__" = some (some (.builtin "BaseException.__getattribute__")))
    (egg3 : PySem.W.findIn K (.ref C3) "__getattr__" = some none)
    (ehd3 : PySem.W.hasDictIn K C3 = true)
    (eg4 : PySem.W.nsIn K mainGlobals "BadStage" = some (some (.ref C4)))
    (ex4 : K.lookup C4 = some (excClassObj nm4 q4 C4 N4 bs4 (.ref S :: [.type "ValueError", .type "Exception", .type "BaseException", .type "object"]) true sn4 sub4 ab4 col4 dd4 w04 w14 w24 w34 w54 "ValueError.__new__"))
    (es4 : PySem.W.findIn K (.ref C4) "__setattr__" = some (some (.builtin "object.__setattr__")))
    (eb4 : PySem.W.subIn K (.ref C4) (.type "BaseException") = some true)
    (et4 : PySem.W.typeIn K (.ref C4) = some (.type "type"))
    (ek4 : PySem.W.keepIn K (.ref C4) = true)
    (en4 : PySem.W.findIn K (.ref C4) "position" = some none)
    (ei4 : PySem.W.findIn K (.ref C4) "__init__" = some (some (.ref I4)))
    (ety4 : PySem.W.typeIn K (.ref I4) = some (.type "function"))
    (el4 : K.lookup I4 = some ⟨oce4, ode4, .func (PySem.W.fnOf "__init__" "BadStage.__init__" (defArgs sI2) (defBody sI2) (defScope sI2) .none kVe4 dce4 pme4 ane4 cde4 cte4), sle4⟩)
    (ec4 : PySem.W.codeIn K cde4 "BadStage.__init__" = true)
    (eK4 : PySem.W.keepIn K (.ref I4) = true)
    (ega4 : PySem.W.findIn K (.ref C4) "__getattribute__" = some (some (.builtin "BaseException.__getattribute__")))
    (egg4 : PySem.W.findIn K (.ref C4) "__getattr__" = some none)
    (ehd4 : PySem.W.hasDictIn K C4 = true)
    (aS0 : PySem.W.nsIn K mainGlobals "StreamError" = some (some (.ref S)))
    (aC : PySem.W.nsIn K mainGlobals "Program" = some (some (.ref C)))
    (pg : PySem.W.plainGet K C Str.empty = true)
    (hd : PySem.W.hasDictIn K C = true)
    (po : PySem.W.plainOver K C = true)
    (sa : PySem.W.findIn K (.ref C) "__setattr__" = some (some (.builtin "object.__setattr__")))
    (cl : PySem.W.findIn K (.ref C) "__class__" = some (some (.builtin "object.__class__")))
    (sp : PySem.W.specialIn K (.builtin "object.__class__") "__get__" = some (some (.builtin "getset_descriptor.__get__")))
    (tk : PySem.W.takesIn K (.builtin "object.__class__") = some true)
    (ob : PySem.W.mroIn K C (.type "object") = some true)
    (kc : PySem.W.kitOne K (.ref C) (.ref C) = some true)
    (ct : PySem.W.kitOne K (.ref C) (.type "tuple") = some false)
    (kttuple : PySem.W.kitOne K (.type "tuple") (.ref C) = some false)
    (n1 : PySem.W.findIn K (.ref C) "_source" = some none)
    (n2 : PySem.W.findIn K (.ref C) "_stages" = some none)
    (n3 : PySem.W.findIn K (.ref C) "_sources" = some none)
    (n4 : PySem.W.findIn K (.ref C) "_depth" = some none)
    (mk : PySem.W.makesIn K C = true)
    (ini : PySem.W.findIn K (.ref C) "__init__" = some (some (.ref f22)))
    (fi22 : PySem.W.isFn K (.ref f22) = true)
    (kC : PySem.W.keepIn K (.ref C) = true)
    (l22 : K.lookup f22 = some ⟨ocf22, odf22, .func (PySem.W.fnOf "__init__" "Program.__init__" (defArgs sInit) (defBody sInit) (defScope sInit) (.ref T22) kVf22 dcf22 pmf22 anf22 cdf22 ctf22), slf22⟩)
    (c22 : PySem.W.codeIn K cdf22 "Program.__init__" = true)
    (k22 : PySem.W.keepIn K (.ref f22) = true)
    (lT : K.lookup T22 = some ⟨cT, dT, .seq #[.ref e0] nT, sT⟩)
    (lE : K.lookup e0 = some ⟨.type "tuple", dE, .seq #[] nE, sE⟩)
    (pa1 : PySem.W.findIn K (.ref C) "source" = some (some (.ref p1)))
    (ps1 : PySem.W.specialIn K (.ref p1) "__get__" = some (some (.builtin "property.__get__")))
    (pt1 : PySem.W.takesIn K (.ref p1) = some true)
    (pr1 : PySem.W.recIn K p1 "property" = some (.ref g1 :: rest1))
    (pl1 : K.lookup g1 = some ⟨ocp1, odp1, .func (PySem.W.fnOf "source" "Program.source" (defArgs sP1) (defBody sP1) (defScope sP1) .none kVp1 dcp1 pmp1 anp1 cdp1 ctp1), slp1⟩)
    (pc1 : PySem.W.codeIn K cdp1 "Program.source" = true)
    (pk1 : PySem.W.keepIn K (.ref g1) = true)
    (pa2 : PySem.W.findIn K (.ref C) "stages" = some (some (.ref p2)))
    (ps2 : PySem.W.specialIn K (.ref p2) "__get__" = some (some (.builtin "property.__get__")))
    (pt2 : PySem.W.takesIn K (.ref p2) = some true)
    (pr2 : PySem.W.recIn K p2 "property" = some (.ref g2 :: rest2))
    (pl2 : K.lookup g2 = some ⟨ocp2, odp2, .func (PySem.W.fnOf "stages" "Program.stages" (defArgs sP2) (defBody sP2) (defScope sP2) .none kVp2 dcp2 pmp2 anp2 cdp2 ctp2), slp2⟩)
    (pc2 : PySem.W.codeIn K cdp2 "Program.stages" = true)
    (pk2 : PySem.W.keepIn K (.ref g2) = true)
    (pa3 : PySem.W.findIn K (.ref C) "sources" = some (some (.ref p3)))
    (ps3 : PySem.W.specialIn K (.ref p3) "__get__" = some (some (.builtin "property.__get__")))
    (pt3 : PySem.W.takesIn K (.ref p3) = some true)
    (pr3 : PySem.W.recIn K p3 "property" = some (.ref g3 :: rest3))
    (pl3 : K.lookup g3 = some ⟨ocp3, odp3, .func (PySem.W.fnOf "sources" "Program.sources" (defArgs sP3) (defBody sP3) (defScope sP3) .none kVp3 dcp3 pmp3 anp3 cdp3 ctp3), slp3⟩)
    (pc3 : PySem.W.codeIn K cdp3 "Program.sources" = true)
    (pk3 : PySem.W.keepIn K (.ref g3) = true)
    (pa4 : PySem.W.findIn K (.ref C) "depth" = some (some (.ref p4)))
    (ps4 : PySem.W.specialIn K (.ref p4) "__get__" = some (some (.builtin "property.__get__")))
    (pt4 : PySem.W.takesIn K (.ref p4) = some true)
    (pr4 : PySem.W.recIn K p4 "property" = some (.ref g4 :: rest4))
    (pl4 : K.lookup g4 = some ⟨ocp4, odp4, .func (PySem.W.fnOf "depth" "Program.depth" (defArgs sP4) (defBody sP4) (defScope sP4) .none kVp4 dcp4 pmp4 anp4 cdp4 ctp4), slp4⟩)
    (pc4 : PySem.W.codeIn K cdp4 "Program.depth" = true)
    (pk4 : PySem.W.keepIn K (.ref g4) = true)
    (ma0 : PySem.W.findIn K (.ref C) "then" = some (some (.ref m0)))
    (mi0 : PySem.W.isFn K (.ref m0) = true)
    (mk0 : PySem.W.keepIn K (.ref m0) = true)
    (ml0 : K.lookup m0 = some ⟨ocm0, odm0, .func (PySem.W.fnOf "then" "Program.then" (defArgs sThen) (defBody sThen) (defScope sThen) .none kVm0 dcm0 pmm0 anm0 cdm0 ctm0), slm0⟩)
    (mc0 : PySem.W.codeIn K cdm0 "Program.then" = true)
    (maq : PySem.W.findIn K (.ref C) "__eq__" = some (some (.ref mq)))
    (miq : PySem.W.isFn K (.ref mq) = true)
    (mkq : PySem.W.keepIn K (.ref mq) = true)
    (mlq : K.lookup mq = some ⟨ocmq, odmq, .func (PySem.W.fnOf "__eq__" "Program.__eq__" (defArgs sEq) (defBody sEq) (defScope sEq) .none kVmq dcmq pmmq anmq cdmq ctmq), slmq⟩)
    (mcq : PySem.W.codeIn K cdmq "Program.__eq__" = true)
    (xC : K.lookup C = some (excClassObj nmC qC C NC bsC [.type "object"] hdC snC subC abC colC ddC w0C w1C w2C w3C w5C newC))
    (lN : K.lookup NC = some ⟨cN, dN, .dict esN nN, sN⟩)
    (okN : (esN.toList.all fun e => match e.key with | .str _ _ => true | _ => false) = true)
    (nsq : PySem.W.nsIn K NC "__eq__" = some (some (.ref mq)))
    (nsn : PySem.W.nsIn K NC "__ne__" = some none)
    (z6 : PySem.W.nsIn K mainGlobals "MOST_STAGES" = some (some (.int 6 t6)))
    (z8 : PySem.W.nsIn K mainGlobals "MOST_LETTERS" = some (some (.int 8 t8)))
    (z4 : PySem.W.nsIn K mainGlobals "GREATEST_NUMBER" = some (some (.int 4 t4)))
    (gaS : PySem.W.nsIn K mainGlobals "SOURCES" = some (some (.ref aS)))
    (laS : K.lookup aS = some ⟨.type "tuple", daS, .seq iaS naS, saS⟩)
    (vaS : Vals [.str "a", .str "b", .str "c", .str "d"] iaS.toList)
    (waS : iaS.size = 4)
    (gaM : PySem.W.nsIn K mainGlobals "STAGES_WITH_NAME" = some (some (.ref aM)))
    (laM : K.lookup aM = some ⟨.type "tuple", daM, .seq iaM naM, saM⟩)
    (vaM : Vals [.str "map", .str "keep", .str "while", .str "after"] iaM.toList)
    (waM : iaM.size = 4)
    (gaN : PySem.W.nsIn K mainGlobals "STAGES_WITH_NUMBER" = some (some (.ref aN)))
    (laN : K.lookup aN = some ⟨.type "tuple", daN, .seq iaN naN, saN⟩)
    (vaN : Vals [.str "take", .str "skip", .str "lots", .str "gather"] iaN.toList)
    (waN : iaN.size = 4)
    (y0 : PySem.W.nsIn K mainGlobals "len" = some none)
    (y1 : PySem.W.nsIn K mainGlobals "int" = some none)
    (y2 : PySem.W.nsIn K mainGlobals "bool" = some none)
    (y3 : PySem.W.nsIn K mainGlobals "str" = some none)
    (y4 : PySem.W.nsIn K mainGlobals "tuple" = some none)
    (y5 : PySem.W.nsIn K mainGlobals "list" = some none)
    (y6 : PySem.W.nsIn K mainGlobals "all" = some none)
    (y7 : PySem.W.nsIn K mainGlobals "any" = some none)
    (y8 : PySem.W.nsIn K mainGlobals "max" = some none)
    (y9 : PySem.W.nsIn K mainGlobals "min" = some none)
    (y10 : PySem.W.nsIn K mainGlobals "set" = some none)
    (y11 : PySem.W.nsIn K mainGlobals "range" = some none)
    (y12 : PySem.W.nsIn K mainGlobals "isinstance" = some none)
    (y13 : PySem.W.nsIn K mainGlobals "enumerate" = some none)
    (y14 : PySem.W.nsIn K mainGlobals "repr" = some none)
    (aCR : PySem.W.nsIn K mainGlobals "Reader" = some (some (.ref CR)))
    (pgR : PySem.W.plainGet K CR Str.empty = true)
    (hdR : PySem.W.hasDictIn K CR = true)
    (poR : PySem.W.plainOver K CR = true)
    (saR : PySem.W.findIn K (.ref CR) "__setattr__" = some (some (.builtin "object.__setattr__")))
    (n1R : PySem.W.findIn K (.ref CR) "programs" = some none)
    (n2R : PySem.W.findIn K (.ref CR) "opens" = some none)
    (mkR : PySem.W.makesIn K CR = true)
    (kCR : PySem.W.keepIn K (.ref CR) = true)
    (neR : CR ≠ C)
    (ra0 : PySem.W.findIn K (.ref CR) "__init__" = some (some (.ref r0)))
    (ri0 : PySem.W.isFn K (.ref r0) = true)
    (rk0 : PySem.W.keepIn K (.ref r0) = true)
    (rl0 : K.lookup r0 = some ⟨ocr0, odr0, .func (PySem.W.fnOf "__init__" "Reader.__init__" (defArgs sRInit) (defBody sRInit) (defScope sRInit) .none kVr0 dcr0 pmr0 anr0 cdr0 ctr0), slr0⟩)
    (rc0 : PySem.W.codeIn K cdr0 "Reader.__init__" = true)
    (ra1 : PySem.W.findIn K (.ref CR) "free_sources" = some (some (.ref r1)))
    (ri1 : PySem.W.isFn K (.ref r1) = true)
    (rk1 : PySem.W.keepIn K (.ref r1) = true)
    (rl1 : K.lookup r1 = some ⟨ocr1, odr1, .func (PySem.W.fnOf "free_sources" "Reader.free_sources" (defArgs sFree) (defBody sFree) (defScope sFree) .none kVr1 dcr1 pmr1 anr1 cdr1 ctr1), slr1⟩)
    (rc1 : PySem.W.codeIn K cdr1 "Reader.free_sources" = true)
    (ra2 : PySem.W.findIn K (.ref CR) "read_line" = some (some (.ref r2)))
    (ri2 : PySem.W.isFn K (.ref r2) = true)
    (rk2 : PySem.W.keepIn K (.ref r2) = true)
    (rl2 : K.lookup r2 = some ⟨ocr2, odr2, .func (PySem.W.fnOf "read_line" "Reader.read_line" (defArgs sRLine) (defBody sRLine) (defScope sRLine) .none kVr2 dcr2 pmr2 anr2 cdr2 ctr2), slr2⟩)
    (rc2 : PySem.W.codeIn K cdr2 "Reader.read_line" = true)
    (ra3 : PySem.W.findIn K (.ref CR) "read_source" = some (some (.ref r3)))
    (ri3 : PySem.W.isFn K (.ref r3) = true)
    (rk3 : PySem.W.keepIn K (.ref r3) = true)
    (rl3 : K.lookup r3 = some ⟨ocr3, odr3, .func (PySem.W.fnOf "read_source" "Reader.read_source" (defArgs sRSrc) (defBody sRSrc) (defScope sRSrc) .none kVr3 dcr3 pmr3 anr3 cdr3 ctr3), slr3⟩)
    (rc3 : PySem.W.codeIn K cdr3 "Reader.read_source" = true)
    (ra4 : PySem.W.findIn K (.ref CR) "read_stage" = some (some (.ref r4)))
    (ri4 : PySem.W.isFn K (.ref r4) = true)
    (rk4 : PySem.W.keepIn K (.ref r4) = true)
    (rl4 : K.lookup r4 = some ⟨ocr4, odr4, .func (PySem.W.fnOf "read_stage" "Reader.read_stage" (defArgs sRStg) (defBody sRStg) (defScope sRStg) .none kVr4 dcr4 pmr4 anr4 cdr4 ctr4), slr4⟩)
    (rc4 : PySem.W.codeIn K cdr4 "Reader.read_stage" = true)
    (ra5 : PySem.W.findIn K (.ref CR) "read_zip" = some (some (.ref r5)))
    (ri5 : PySem.W.isFn K (.ref r5) = true)
    (rk5 : PySem.W.keepIn K (.ref r5) = true)
    (rl5 : K.lookup r5 = some ⟨ocr5, odr5, .func (PySem.W.fnOf "read_zip" "Reader.read_zip" (defArgs sRZip) (defBody sRZip) (defScope sRZip) .none kVr5 dcr5 pmr5 anr5 cdr5 ctr5), slr5⟩)
    (rc5 : PySem.W.codeIn K cdr5 "Reader.read_zip" = true)
    (ra6 : PySem.W.findIn K (.ref CR) "close" = some (some (.ref r6)))
    (ri6 : PySem.W.isFn K (.ref r6) = true)
    (rk6 : PySem.W.keepIn K (.ref r6) = true)
    (rl6 : K.lookup r6 = some ⟨ocr6, odr6, .func (PySem.W.fnOf "close" "Reader.close" (defArgs sClose) (defBody sClose) (defScope sClose) .none kVr6 dcr6 pmr6 anr6 cdr6 ctr6), slr6⟩)
    (rc6 : PySem.W.codeIn K cdr6 "Reader.close" = true)
    (ra7 : PySem.W.findIn K (.ref CR) "all_read" = some (some (.ref r7)))
    (ri7 : PySem.W.isFn K (.ref r7) = true)
    (rk7 : PySem.W.keepIn K (.ref r7) = true)
    (rl7 : K.lookup r7 = some ⟨ocr7, odr7, .func (PySem.W.fnOf "all_read" "Reader.all_read" (defArgs sAll) (defBody sAll) (defScope sAll) .none kVr7 dcr7 pmr7 anr7 cdr7 ctr7), slr7⟩)
    (rc7 : PySem.W.codeIn K cdr7 "Reader.all_read" = true)
    (gI : PySem.W.nsIn K mainGlobals "INDENT" = some (some (.str "  " tI)))
    (gD : PySem.W.nsIn K mainGlobals "NUMBERS" = some (some (.ref aD)))
    (lD : K.lookup aD = some ⟨.type "dict", none, .dict esD nD, #[]⟩)
    (kD : PySem.W.KeysLit w.params esD.toList)
    (mD : (aD == sysModules) = false)
    (vD1 : PySem.W.nsIn K aD "1" = some (some (.int 1 tD1)))
    (vD2 : PySem.W.nsIn K aD "2" = some (some (.int 2 tD2)))
    (vD3 : PySem.W.nsIn K aD "3" = some (some (.int 3 tD3)))
    (vD4 : PySem.W.nsIn K aD "4" = some (some (.int 4 tD4))) :
    ∃ fd : FuncData, (∀ (s : Shared) (v : Value), BindsTo s fd ⟨[v], []⟩ [("script", v)]) ∧ ∀ base : Heap, K.In base → base.Ns mainGlobals mg → RunAt l.prog w K mg base callerA fa fd ["script"] (spLaw K) := by
  have e := hfa.symm.trans (PySem.W.mg_of X G a41)
  cases e
  have F13 := fun_mk (st := sIsInt) l13 c13 k13
  have b13 := F13.binds (ps := ["value"]) fun _ _ _ _ _ _ us hl => match us, hl with | [_], _ => rfl
  have g13 := PySem.W.mg_of X G a13
  have F14 := fun_mk (st := sIsName) l14 c14 k14
  have b14 := F14.binds (ps := ["value"]) fun _ _ _ _ _ _ us hl => match us, hl with | [_], _ => rfl
  have g14 := PySem.W.mg_of X G a14
  have F15 := fun_mk (st := sIsNum) l15 c15 k15
  have b15 := F15.binds (ps := ["value"]) fun _ _ _ _ _ _ us hl => match us, hl with | [_], _ => rfl
  have g15 := PySem.W.mg_of X G a15
  have F16 := fun_mk (st := sIsStage) l16 c16 k16
  have b16 := F16.binds (ps := ["value"]) fun _ _ _ _ _ _ us hl => match us, hl with | [_], _ => rfl
  have g16 := PySem.W.mg_of X G a16
  have F17 := fun_mk (st := sSrcs) l17 c17 k17
  have b17 := F17.binds (ps := ["stage"]) fun _ _ _ _ _ _ us hl => match us, hl with | [_], _ => rfl
  have g17 := PySem.W.mg_of X G a17
  have F18 := fun_mk (st := sCan) l18 c18 k18
  have b18 := F18.binds (ps := ["stage", "depth", "sources"]) fun _ _ _ _ _ _ us hl => match us, hl with | [_, _, _], _ => rfl
  have g18 := PySem.W.mg_of X G a18
  have F19 := fun_mk (st := sDep) l19 c19 k19
  have b19 := F19.binds (ps := ["stage", "depth"]) fun _ _ _ _ _ _ us hl => match us, hl with | [_, _], _ => rfl
  have g19 := PySem.W.mg_of X G a19
  have F20 := fun_mk (st := sIsPos) l20 c20 k20
  have b20 := F20.binds (ps := ["value", "many"]) fun _ _ _ _ _ _ us hl => match us, hl with | [_, _], _ => rfl
  have g20 := PySem.W.mg_of X G a20
  have F21 := fun_mk (st := sArePos) l21 c21 k21
  have b21 := F21.binds (ps := ["value", "many"]) fun _ _ _ _ _ _ us hl => match us, hl with | [_, _], _ => rfl
  have g21 := PySem.W.mg_of X G a21
  have F24 := fun_mk (st := sSource) l24 c24 k24
  have b24 := F24.binds (ps := ["script", "start"]) fun _ _ _ _ _ _ us hl => match us, hl with | [_, _], _ => rfl
  have g24 := PySem.W.mg_of X G a24
  have F25 := fun_mk (st := sDraw) l25 c25 k25
  have b25 := F25.binds (ps := ["stream", "span"]) fun _ _ _ _ _ _ us hl => match us, hl with | [_, _], _ => rfl
  have g25 := PySem.W.mg_of X G a25
  have F26 := fun_mk (st := sPick) l26 c26 k26
  have b26 := F26.binds (ps := ["stream", "things"]) fun _ _ _ _ _ _ us hl => match us, hl with | [_, _], _ => rfl
  have g26 := PySem.W.mg_of X G a26
  have F27 := fun_mk (st := sMixed) l27 c27 k27
  have b27 := F27.binds (ps := ["stream", "things"]) fun _ _ _ _ _ _ us hl => match us, hl with | [_, _], _ => rfl
  have g27 := PySem.W.mg_of X G a27
  have F28 := fun_mk (st := sHeight) l28 c28 k28
  have b28 := F28.binds (ps := ["height", "stage"]) fun _ _ _ _ _ _ us hl => match us, hl with | [_, _], _ => rfl
  have g28 := PySem.W.mg_of X G a28
  have F29 := fun_mk (st := sDepth) l29 c29 k29
  have b29 := F29.binds (ps := ["plan"]) fun _ _ _ _ _ _ us hl => match us, hl with | [_], _ => rfl
  have g29 := PySem.W.mg_of X G a29
  have F30 := fun_mk (st := sName) l30 c30 k30
  have b30 := F30.binds (ps := ["stream"]) fun _ _ _ _ _ _ us hl => match us, hl with | [_], _ => rfl
  have g30 := PySem.W.mg_of X G a30
  have F31 := fun_mk (st := sStg) l31 c31 k31
  have b31 := F31.binds (ps := ["stream", "height", "pool", "most"]) fun _ _ _ _ _ _ us hl => match us, hl with | [_, _, _, _], _ => rfl
  have g31 := PySem.W.mg_of X G a31
  have F32 := fun_mk (st := sPlan) l32 c32 k32
  have b32 := F32.binds (ps := ["stream", "pool", "most"]) fun _ _ _ _ _ _ us hl => match us, hl with | [_, _, _], _ => rfl
  have g32 := PySem.W.mg_of X G a32
  have F33 := fun_mk (st := sProg) l33 c33 k33
  have b33 := F33.binds (ps := ["plan"]) fun _ _ _ _ _ _ us hl => match us, hl with | [_], _ => rfl
  have g33 := PySem.W.mg_of X G a33
  have F34 := fun_mk (st := sLL) l34 c34 k34
  have b34 := F34.binds (ps := ["plan"]) fun _ _ _ _ _ _ us hl => match us, hl with | [_], _ => rfl
  have g34 := PySem.W.mg_of X G a34
  have Ft0 := fun_mk (st := sText) lt0 ct0 kt0
  have bt0 := Ft0.binds (ps := ["program"]) fun _ _ _ _ _ _ us hl => match us, hl with | [_], _ => rfl
  have gt0 := PySem.W.mg_of X G at0
  have Ft1 := fun_mk (st := sPL) lt1 ct1 kt1
  have bt1 := Ft1.binds (ps := ["program"]) fun _ _ _ _ _ _ us hl => match us, hl with | [_], _ => rfl
  have gt1 := PySem.W.mg_of X G at1
  have Ft2 := fun_mk (st := sSL) lt2 ct2 kt2
  have bt2 := Ft2.binds (ps := ["stage"]) fun _ _ _ _ _ _ us hl => match us, hl with | [_], _ => rfl
  have gt2 := PySem.W.mg_of X G at2
  have Ft3 := fun_mk (st := sWords) lt3 ct3 kt3
  have bt3 := Ft3.binds (ps := ["words"]) fun _ _ _ _ _ _ us hl => match us, hl with | [_], _ => rfl
  have gt3 := PySem.W.mg_of X G at3
  have Ft4 := fun_mk (st := sFollow) lt4 ct4 kt4
  have bt4 := Ft4.binds (ps := ["program", "stage"]) fun _ _ _ _ _ _ us hl => match us, hl with | [_, _], _ => rfl
  have gt4 := PySem.W.mg_of X G at4
  have Ft5 := fun_mk (st := sRead) lt5 ct5 kt5
  have bt5 := Ft5.binds (ps := ["text"]) fun _ _ _ _ _ _ us hl => match us, hl with | [_], _ => rfl
  have gt5 := PySem.W.mg_of X G at5
  have F41 := fun_mk (st := sLaw) l41 c41 k41
  have b41 := F41.binds (ps := ["script"]) fun _ _ _ _ _ _ us hl => match us, hl with | [_], _ => rfl
  have g41 := PySem.W.mg_of X G a41
  have FM0 := fun_mk (st := sThen) ml0 mc0 mk0
  have bM0 := FM0.binds (ps := ["self", "stage"]) fun _ _ _ _ _ _ us hl => match us, hl with | [_, _], _ => rfl
  have FMq := fun_mk (st := sEq) mlq mcq mkq
  have bMq := FMq.binds (ps := ["self", "other"]) fun _ _ _ _ _ _ us hl => match us, hl with | [_, _], _ => rfl
  have FR0 := fun_mk (st := sRInit) rl0 rc0 rk0
  have bR0 := FR0.binds (ps := ["self"]) fun _ _ _ _ _ _ us hl => match us, hl with | [_], _ => rfl
  have FR1 := fun_mk (st := sFree) rl1 rc1 rk1
  have bR1 := FR1.binds (ps := ["self"]) fun _ _ _ _ _ _ us hl => match us, hl with | [_], _ => rfl
  have FR2 := fun_mk (st := sRLine) rl2 rc2 rk2
  have bR2 := FR2.binds (ps := ["self", "line"]) fun _ _ _ _ _ _ us hl => match us, hl with | [_, _], _ => rfl
  have FR3 := fun_mk (st := sRSrc) rl3 rc3 rk3
  have bR3 := FR3.binds (ps := ["self", "words"]) fun _ _ _ _ _ _ us hl => match us, hl with | [_, _], _ => rfl
  have FR4 := fun_mk (st := sRStg) rl4 rc4 rk4
  have bR4 := FR4.binds (ps := ["self", "words"]) fun _ _ _ _ _ _ us hl => match us, hl with | [_, _], _ => rfl
  have FR5 := fun_mk (st := sRZip) rl5 rc5 rk5
  have bR5 := FR5.binds (ps := ["self"]) fun _ _ _ _ _ _ us hl => match us, hl with | [_], _ => rfl
  have FR6 := fun_mk (st := sClose) rl6 rc6 rk6
  have bR6 := FR6.binds (ps := ["self"]) fun _ _ _ _ _ _ us hl => match us, hl with | [_], _ => rfl
  have FR7 := fun_mk (st := sAll) rl7 rc7 rk7
  have bR7 := FR7.binds (ps := ["self"]) fun _ _ _ _ _ _ us hl => match us, hl with | [_], _ => rfl
  have E3 : ErrC K mg "BadStages" "BadStages.__init__" "value" sI1 C3 I3 _ := err_mk X G eg3 ex3 (by show PySem.HandSPX.refsVE ([.type "ValueError", .type "Exception", .type "BaseException", .type "object"] : List Value) = true; decide +kernel) es3 eb3 et3 ek3 en3 ei3 ety3 el3 ec3 eK3 ega3 egg3 ehd3 (fun _ _ _ _ _ _ us hl => match us, hl with | [_, _], _ => rfl)
  have E4 : ErrC K mg "BadStage" "BadStage.__init__" "position" sI2 C4 I4 _ := err_mk X G eg4 ex4 (by show PySem.HandSPX.refsVE ([.type "ValueError", .type "Exception", .type "BaseException", .type "object"] : List Value) = true; decide +kernel) es4 eb4 et4 ek4 en4 ei4 ety4 el4 ec4 eK4 ega4 egg4 ehd4 (fun _ _ _ _ _ _ us hl => match us, hl with | [_, _], _ => rfl)
  have N : Nm mg := ⟨PySem.W.mg_none_of X G y0, PySem.W.mg_none_of X G y1, PySem.W.mg_none_of X G y2, PySem.W.mg_none_of X G y3, PySem.W.mg_none_of X G y4, PySem.W.mg_none_of X G y5, PySem.W.mg_none_of X G y6, PySem.W.mg_none_of X G y7, PySem.W.mg_none_of X G y8, PySem.W.mg_none_of X G y9, PySem.W.mg_none_of X G y10, PySem.W.mg_none_of X G y11, PySem.W.mg_none_of X G y12, PySem.W.mg_none_of X G y13, PySem.W.mg_none_of X G y14⟩
  have Z0 : Cst K mg aS aM aN := ⟨⟨_, PySem.W.mg_of X G z6⟩, ⟨_, PySem.W.mg_of X G z8⟩, ⟨_, PySem.W.mg_of X G z4⟩, PySem.W.mg_of X G gaS, PySem.W.mg_of X G gaM, PySem.W.mg_of X G gaN, sqK laS vaS (by omega), sqK laM vaM (by omega), sqK laN vaN (by omega)⟩
  have cls : Cls K C := ⟨pg, hd, po, sa⟩
  have c : Cl K mg C := ⟨cls, PySem.W.mg_of X G aC, cl, sp, tk, ob, kttuple, kc, ct, n1, n2, n3, n4⟩
  have q1 : ∀ (P : Program) (w : World) (base : Heap), Prp P w K mg base C "source" "_source" := prp_mk (st := sP1) cls n1 pa1 ps1 pt1 pr1 pl1 pc1 scP1 rfl (fun _ _ _ _ _ _ us hl => match us, hl with | [_], _ => rfl)
  have q2 : ∀ (P : Program) (w : World) (base : Heap), Prp P w K mg base C "stages" "_stages" := prp_mk (st := sP2) cls n2 pa2 ps2 pt2 pr2 pl2 pc2 scP2 rfl (fun _ _ _ _ _ _ us hl => match us, hl with | [_], _ => rfl)
  have q3 : ∀ (P : Program) (w : World) (base : Heap), Prp P w K mg base C "sources" "_sources" := prp_mk (st := sP3) cls n3 pa3 ps3 pt3 pr3 pl3 pc3 scP3 rfl (fun _ _ _ _ _ _ us hl => match us, hl with | [_], _ => rfl)
  have q4 : ∀ (P : Program) (w : World) (base : Heap), Prp P w K mg base C "depth" "_depth" := prp_mk (st := sP4) cls n4 pa4 ps4 pt4 pr4 pl4 pc4 scP4 rfl (fun _ _ _ _ _ _ us hl => match us, hl with | [_], _ => rfl)
  let A : Nat → Addr := fun n => ([C3, C3, C3, C3, C4, C3, C3, C3, C3, C3, C3, C3, C3, f13, f14, f15, f16, f17, f18, f19, f20, f21, f22] : List Addr).getD n C3
  let I : Nat → Addr := fun n => ([I3, I3, I3, I3, I4, I3] : List Addr).getD n I3
  let D : Nat → FuncData := fun n => ([PySem.W.fnOf "is_integer" "is_integer" (defArgs sIsInt) (defBody sIsInt) (defScope sIsInt) .none kVf13 dcf13 pmf13 anf13 cdf13 ctf13, PySem.W.fnOf "is_integer" "is_integer" (defArgs sIsInt) (defBody sIsInt) (defScope sIsInt) .none kVf13 dcf13 pmf13 anf13 cdf13 ctf13, PySem.W.fnOf "is_integer" "is_integer" (defArgs sIsInt) (defBody sIsInt) (defScope sIsInt) .none kVf13 dcf13 pmf13 anf13 cdf13 ctf13, PySem.W.fnOf "is_integer" "is_integer" (defArgs sIsInt) (defBody sIsInt) (defScope sIsInt) .none kVf13 dcf13 pmf13 anf13 cdf13 ctf13, PySem.W.fnOf "is_integer" "is_integer" (defArgs sIsInt) (defBody sIsInt) (defScope sIsInt) .none kVf13 dcf13 pmf13 anf13 cdf13 ctf13, PySem.W.fnOf "is_integer" "is_integer" (defArgs sIsInt) (defBody sIsInt) (defScope sIsInt) .none kVf13 dcf13 pmf13 anf13 cdf13 ctf13, PySem.W.fnOf "is_integer" "is_integer" (defArgs sIsInt) (defBody sIsInt) (defScope sIsInt) .none kVf13 dcf13 pmf13 anf13 cdf13 ctf13, PySem.W.fnOf "is_integer" "is_integer" (defArgs sIsInt) (defBody sIsInt) (defScope sIsInt) .none kVf13 dcf13 pmf13 anf13 cdf13 ctf13, PySem.W.fnOf "is_integer" "is_integer" (defArgs sIsInt) (defBody sIsInt) (defScope sIsInt) .none kVf13 dcf13 pmf13 anf13 cdf13 ctf13, PySem.W.fnOf "is_integer" "is_integer" (defArgs sIsInt) (defBody sIsInt) (defScope sIsInt) .none kVf13 dcf13 pmf13 anf13 cdf13 ctf13, PySem.W.fnOf "is_integer" "is_integer" (defArgs sIsInt) (defBody sIsInt) (defScope sIsInt) .none kVf13 dcf13 pmf13 anf13 cdf13 ctf13, PySem.W.fnOf "is_integer" "is_integer" (defArgs sIsInt) (defBody sIsInt) (defScope sIsInt) .none kVf13 dcf13 pmf13 anf13 cdf13 ctf13, PySem.W.fnOf "is_integer" "is_integer" (defArgs sIsInt) (defBody sIsInt) (defScope sIsInt) .none kVf13 dcf13 pmf13 anf13 cdf13 ctf13, PySem.W.fnOf "is_integer" "is_integer" (defArgs sIsInt) (defBody sIsInt) (defScope sIsInt) .none kVf13 dcf13 pmf13 anf13 cdf13 ctf13, PySem.W.fnOf "is_name" "is_name" (defArgs sIsName) (defBody sIsName) (defScope sIsName) .none kVf14 dcf14 pmf14 anf14 cdf14 ctf14, PySem.W.fnOf "is_stage_number" "is_stage_number" (defArgs sIsNum) (defBody sIsNum) (defScope sIsNum) .none kVf15 dcf15 pmf15 anf15 cdf15 ctf15, PySem.W.fnOf "is_stage" "is_stage" (defArgs sIsStage) (defBody sIsStage) (defScope sIsStage) .none kVf16 dcf16 pmf16 anf16 cdf16 ctf16, PySem.W.fnOf "sources_of_stage" "sources_of_stage" (defArgs sSrcs) (defBody sSrcs) (defScope sSrcs) .none kVf17 dcf17 pmf17 anf17 cdf17 ctf17, PySem.W.fnOf "can_stand" "can_stand" (defArgs sCan) (defBody sCan) (defScope sCan) .none kVf18 dcf18 pmf18 anf18 cdf18 ctf18, PySem.W.fnOf "depth_behind" "depth_behind" (defArgs sDep) (defBody sDep) (defScope sDep) .none kVf19 dcf19 pmf19 anf19 cdf19 ctf19, PySem.W.fnOf "is_position" "is_position" (defArgs sIsPos) (defBody sIsPos) (defScope sIsPos) .none kVf20 dcf20 pmf20 anf20 cdf20 ctf20, PySem.W.fnOf "are_positions" "are_positions" (defArgs sArePos) (defBody sArePos) (defScope sArePos) .none kVf21 dcf21 pmf21 anf21 cdf21 ctf21, PySem.W.fnOf "__init__" "Program.__init__" (defArgs sInit) (defBody sInit) (defScope sInit) (.ref T22) kVf22 dcf22 pmf22 anf22 cdf22 ctf22] : List FuncData).getD n (PySem.W.fnOf "is_integer" "is_integer" (defArgs sIsInt) (defBody sIsInt) (defScope sIsInt) .none kVf13 dcf13 pmf13 anf13 cdf13 ctf13)
  let J : Nat → FuncData := fun n => ([PySem.W.fnOf "__init__" "BadStages.__init__" (defArgs sI1) (defBody sI1) (defScope sI1) .none kVe3 dce3 pme3 ane3 cde3 cte3, PySem.W.fnOf "__init__" "BadStages.__init__" (defArgs sI1) (defBody sI1) (defScope sI1) .none kVe3 dce3 pme3 ane3 cde3 cte3, PySem.W.fnOf "__init__" "BadStages.__init__" (defArgs sI1) (defBody sI1) (defScope sI1) .none kVe3 dce3 pme3 ane3 cde3 cte3, PySem.W.fnOf "__init__" "BadStages.__init__" (defArgs sI1) (defBody sI1) (defScope sI1) .none kVe3 dce3 pme3 ane3 cde3 cte3, PySem.W.fnOf "__init__" "BadStage.__init__" (defArgs sI2) (defBody sI2) (defScope sI2) .none kVe4 dce4 pme4 ane4 cde4 cte4, PySem.W.fnOf "__init__" "BadStages.__init__" (defArgs sI1) (defBody sI1) (defScope sI1) .none kVe3 dce3 pme3 ane3 cde3 cte3] : List FuncData).getD n (PySem.W.fnOf "__init__" "BadStages.__init__" (defArgs sI1) (defBody sI1) (defScope sI1) .none kVe3 dce3 pme3 ane3 cde3 cte3)
  have L : Lb K mg A I D J aS aM aN C := ⟨N, Z0, c, E3, E4, q1, q2, q3, q4, g13, F13, b13, g14, F14, b14, g15, F15, b15, g16, F16, b16, g17, F17, b17, g18, F18, b18, g19, F19, b19, g20, F20, b20, g21, F21, b21⟩
  have FD : L2.FunD K "__init__" "Program.__init__" (defArgs sInit) (defBody sInit) (defScope sInit) [.ref e0] [] f22 (PySem.W.fnOf "__init__" "Program.__init__" (defArgs sInit) (defBody sInit) (defScope sInit) (.ref T22) kVf22 dcf22 pmf22 anf22 cdf22 ctf22) := ⟨⟨_, _, _, _, _, _, _, _, _, _, rfl, l22, c22, .inr ⟨(fun z => by cases z), T22, _, [.ref e0], nT, rfl, lT, rfl, .cons rfl .nil⟩, .inl rfl⟩, k22⟩
  have B3 : Binds K (D 22) ["self", "source", "stages"] [] := by
    obtain ⟨ds, v, b⟩ := FD.binds1 (ps := ["self", "source", "stages"]) 3 1 (fun z => by cases z) rfl (fun T kV doc pm an cdv ct us its hl hi => match us, its, hl, hi with | [_, _, _], [_], _, _ => ⟨_, rfl, rfl⟩)
    cases v
    exact b
  have B2 : Binds K (D 22) ["self", "source", "stages"] [.ref e0] := by
    obtain ⟨ds, v, b⟩ := FD.binds1 (ps := ["self", "source", "stages"]) 2 0 (fun z => by cases z) rfl (fun T kV doc pm an cdv ct us its hl hi => match us, its, hl, hi with | [_, _], [_], _, _ => ⟨_, rfl, rfl⟩)
    cases v with
    | cons r v =>
      cases v
      cases r
      exact b
  have Zp : Lp K mg A I D J aS aM aN C e0 := ⟨L, ⟨mk, ini, fi22, kC⟩, ⟨⟨_, _, _, _, _, _, _, _, _, _, rfl, l22, c22⟩⟩, B3, B2, sqK lE .nil (Nat.zero_le _)⟩
  have okn : PySem.W.nsOkIn K NC = true := by
    unfold PySem.W.nsOkIn
    rw [lN]
    show esN.all _ = true
    rw [← Array.all_toList]
    exact okN
  have U : Le K C mq _ := ⟨FMq, maq, miq, bMq, fun h' x o KX hx ho => by
    have ns := Heap.Ns.of_isNs (PySem.W.isNs_of_in KX okn)
    obtain ⟨of, hof, hofc⟩ : ∃ of, h'.get? mq = some of ∧ of.cls = .type "function" := by
      refine ⟨_, KX _ _ mlq, ?_⟩
      have t : (List.lookup mq K).map (fun x => x.cls) = some (.type "function") := beq_iff_eq.mp miq
      rw [mlq] at t
      exact Option.some.inj t
    exact ⟨o, of, nmC, qC, NC, bsC, hdC, snC, subC, abC, colC, ddC, w0C, w1C, w2C, w3C, w5C, newC, _, _, hx, ho, KX _ _ xC, ns, mq_of KX ns nsq, hof, hofc, PySem.F.mro_object, rfl, PySem.W.ns_none_of KX ns nsn⟩⟩
  refine ⟨PySem.W.fnOf "law" "law" (defArgs sLaw) (defBody sLaw) (defScope sLaw) .none kVf41 dcf41 pmf41 anf41 cdf41 ctf41, fun s v => .of_eq rfl, fun base _ _ => ?_⟩
  have HD := ok_hd (P := l.prog) (w := w) (base := base) N g28 F28 b28 g29 F29 b29 5
  have GS := fun n => ok_stg (P := l.prog) (w := w) (base := base) (n := n) F31 N g32 F32 b32 g30 F30 b30 g26 F26 b26 g25 F25 b25
  have GPn := fun n => ok_plan (P := l.prog) (w := w) (base := base) (n := n) F32 N g31 F31 b31 g28 F28 b28 g25 F25 b25 HD.1
  have GL := plans (P := l.prog) (w := w) (base := base) F32 GS GPn 4
  have GM : FnOk l.prog w K mg base CX0 2 f27 _ ["stream", "things"] (spMixed K) := ok_mixed F27 N g25 F25 b25
  have Mth : Mt K C "then" "Program.then" sThen ["self", "stage"] m0 _ := ⟨⟨ma0, mi0, mk0⟩, FM0, bM0⟩
  have clR : Cls K CR := ⟨pgR, hdR, poR, saR⟩
  let R : Nat → Addr := fun n => ([r0, r1, r2, r3, r4, r5, r6, r7] : List Addr).getD n r0
  let S8 : Nat → FuncData := fun n => ([PySem.W.fnOf "__init__" "Reader.__init__" (defArgs sRInit) (defBody sRInit) (defScope sRInit) .none kVr0 dcr0 pmr0 anr0 cdr0 ctr0, PySem.W.fnOf "free_sources" "Reader.free_sources" (defArgs sFree) (defBody sFree) (defScope sFree) .none kVr1 dcr1 pmr1 anr1 cdr1 ctr1, PySem.W.fnOf "read_line" "Reader.read_line" (defArgs sRLine) (defBody sRLine) (defScope sRLine) .none kVr2 dcr2 pmr2 anr2 cdr2 ctr2, PySem.W.fnOf "read_source" "Reader.read_source" (defArgs sRSrc) (defBody sRSrc) (defScope sRSrc) .none kVr3 dcr3 pmr3 anr3 cdr3 ctr3, PySem.W.fnOf "read_stage" "Reader.read_stage" (defArgs sRStg) (defBody sRStg) (defScope sRStg) .none kVr4 dcr4 pmr4 anr4 cdr4 ctr4, PySem.W.fnOf "read_zip" "Reader.read_zip" (defArgs sRZip) (defBody sRZip) (defScope sRZip) .none kVr5 dcr5 pmr5 anr5 cdr5 ctr5, PySem.W.fnOf "close" "Reader.close" (defArgs sClose) (defBody sClose) (defScope sClose) .none kVr6 dcr6 pmr6 anr6 cdr6 ctr6, PySem.W.fnOf "all_read" "Reader.all_read" (defArgs sAll) (defBody sAll) (defScope sAll) .none kVr7 dcr7 pmr7 anr7 cdr7 ctr7] : List FuncData).getD n (PySem.W.fnOf "__init__" "Reader.__init__" (defArgs sRInit) (defBody sRInit) (defScope sRInit) .none kVr0 dcr0 pmr0 anr0 cdr0 ctr0)
  have Y : Rc K mg CR R S8 := ⟨PySem.W.mg_of X G aCR, ⟨mkR, ra0, ri0, kCR⟩, FR0, bR0, clR, n1R, n2R, ⟨⟨ra1, ri1, rk1⟩, FR1, bR1⟩, ⟨⟨ra2, ri2, rk2⟩, FR2, bR2⟩, ⟨⟨ra3, ri3, rk3⟩, FR3, bR3⟩, ⟨⟨ra4, ri4, rk4⟩, FR4, bR4⟩, ⟨⟨ra5, ri5, rk5⟩, FR5, bR5⟩, ⟨⟨ra6, ri6, rk6⟩, FR6, bR6⟩, ⟨⟨ra7, ri7, rk7⟩, FR7, bR7⟩⟩
  have Un : Nu K mg w aD := ⟨PySem.W.mg_of X G gD, ⟨esD, nD, lD, kD, mD⟩, ⟨_, vD1⟩, ⟨_, vD2⟩, ⟨_, vD3⟩, ⟨_, vD4⟩⟩
  have gE := PySem.W.mg_of X G aS0
  have ti : ∃ t, mg "INDENT" = some (.str "  " t) := ⟨_, PySem.W.mg_of X G gI⟩
  have DP : Df K mg "program_lines" sPL ["program"] ft1 _ := ⟨gt1, Ft1, bt1⟩
  have DS : Df K mg "stage_lines" sSL ["stage"] ft2 _ := ⟨gt2, Ft2, bt2⟩
  have DT : Df K mg "program_text" sText ["program"] ft0 _ := ⟨gt0, Ft0, bt0⟩
  have DW : Df K mg "stage_of_words" sWords ["words"] ft3 _ := ⟨gt3, Ft3, bt3⟩
  have DF : Df K mg "can_follow" sFollow ["program", "stage"] ft4 _ := ⟨gt4, Ft4, bt4⟩
  have DR : Df K mg "read_program" sRead ["text"] ft5 _ := ⟨gt5, Ft5, bt5⟩
  have GT := ok_text (P := l.prog) (w := w) (base := base) c (q1 _ _ _) (q2 _ _ _) ti DP DS DT
  have GRD := ok_read (P := l.prog) (w := w) (base := base) Y Zp neR Mth DF DW gE Un ti DR
  exact run_law F41 Zp U ⟨g24, F24, b24⟩ ⟨g32, F32, b32⟩ ⟨g27, F27, b27⟩ ⟨g33, F33, b33⟩ ⟨g34, F34, b34⟩ DT DR ⟨g29, F29, b29⟩ GL GM GT GRD HD.2
end K80
set_option Elab.async false
set_option linter.all false
open PySem PySem.W PyProof.Rows
set_option maxRecDepth 100000 in
set_option maxHeartbeats 0 in
theorem PySem.Challenge.cw_pulledonce_k80_texts_of_programs_holds : PySem.Challenge.rw_pulledonce_k80_texts_of_programs.Holds := by
  w_on; o_law; k_head; (case hw => w_witness2)
  k_fill
  refine VK.walk_at (l := PySem.Challenge.rw_pulledonce_k80_texts_of_programs) (n := 63) (x := "script") (sp := fun w => K80.spLaw _) rfl (by decide) rfl (fun w h Y => PySem.W.kIn_of Y) ?F (fun w H a ns hl hb hO hS => ⟨a, ns, rfl, hO, hS, hl, hb, fun _ => rfl⟩)
  case F =>
    intro w mg fa h KX G hmg
    refine' K80.all_mk KX G hmg ?a13 ?l13 ?c13 ?k13 ?a14 ?l14 ?c14 ?k14 ?a15 ?l15 ?c15 ?k15 ?a16 ?l16 ?c16 ?k16 ?a17 ?l17 ?c17 ?k17 ?a18 ?l18 ?c18 ?k18 ?a19 ?l19 ?c19 ?k19 ?a20 ?l20 ?c20 ?k20 ?a21 ?l21 ?c21 ?k21 ?a24 ?l24 ?c24 ?k24 ?a25 ?l25 ?c25 ?k25 ?a26 ?l26 ?c26 ?k26 ?a27 ?l27 ?c27 ?k27 ?a28 ?l28 ?c28 ?k28 ?a29 ?l29 ?c29 ?k29 ?a30 ?l30 ?c30 ?k30 ?a31 ?l31 ?c31 ?k31 ?a32 ?l32 ?c32 ?k32 ?a33 ?l33 ?c33 ?k33 ?a34 ?l34 ?c34 ?k34 ?at0 ?lt0 ?ct0 ?kt0 ?at1 ?lt1 ?ct1 ?kt1 ?at2 ?lt2 ?ct2 ?kt2 ?at3 ?lt3 ?ct3 ?kt3 ?at4 ?lt4 ?ct4 ?kt4 ?at5 ?lt5 ?ct5 ?kt5 ?a41 ?l41 ?c41 ?k41 ?eg3 ?ex3 ?es3 ?eb3 ?et3 ?ek3 ?en3 ?ei3 ?ety3 ?el3 ?ec3 ?eK3 ?ega3 ?egg3 ?ehd3 ?eg4 ?ex4 ?es4 ?eb4 ?et4 ?ek4 ?en4 ?ei4 ?ety4 ?el4 ?ec4 ?eK4 ?ega4 ?egg4 ?ehd4 ?aS0 ?aC ?pg ?hd ?po ?sa ?cl ?sp ?tk ?ob ?kc ?ct ?kttuple ?n1 ?n2 ?n3 ?n4 ?mk ?ini ?fi22 ?kC ?l22 ?c22 ?k22 ?lT ?lE ?pa1 ?ps1 ?pt1 ?pr1 ?pl1 ?pc1 ?pk1 ?pa2 ?ps2 ?pt2 ?pr2 ?pl2 ?pc2 ?pk2 ?pa3 ?ps3 ?pt3 ?pr3 ?pl3 ?pc3 ?pk3 ?pa4 ?ps4 ?pt4 ?pr4 ?pl4 ?pc4 ?pk4 ?ma0 ?mi0 ?mk0 ?ml0 ?mc0 ?maq ?miq ?mkq ?mlq ?mcq ?xC ?lN ?okN ?nsq ?nsn ?z6 ?z8 ?z4 ?gaS ?laS ?vaS ?waS ?gaM ?laM ?vaM ?waM ?gaN ?laN ?vaN ?waN ?y0 ?y1 ?y2 ?y3 ?y4 ?y5 ?y6 ?y7 ?y8 ?y9 ?y10 ?y11 ?y12 ?y13 ?y14 ?aCR ?pgR ?hdR ?poR ?saR ?n1R ?n2R ?mkR ?kCR ?neR ?ra0 ?ri0 ?rk0 ?rl0 ?rc0 ?ra1 ?ri1 ?rk1 ?rl1 ?rc1 ?ra2 ?ri2 ?rk2 ?rl2 ?rc2 ?ra3 ?ri3 ?rk3 ?rl3 ?rc3 ?ra4 ?ri4 ?rk4 ?rl4 ?rc4 ?ra5 ?ri5 ?rk5 ?rl5 ?rc5 ?ra6 ?ri6 ?rk6 ?rl6 ?rc6 ?ra7 ?ri7 ?rk7 ?rl7 ?rc7 ?gI ?gD ?lD ?kD ?mD ?vD1 ?vD2 ?vD3 ?vD4
    (case a13 => k_is)
    (case l13 => k_is)
    (case c13 => k_is)
    (case k13 => k_is)
    (case a14 => k_is)
    (case l14 => k_is)
    (case c14 => k_is)
    (case k14 => k_is)
    (case a15 => k_is)
    (case l15 => k_is)
    (case c15 => k_is)
    (case k15 => k_is)
    (case a16 => k_is)
    (case l16 => k_is)
    (case c16 => k_is)
    (case k16 => k_is)
    (case a17 => k_is)
    (case l17 => k_is)
    (case c17 => k_is)
    (case k17 => k_is)
    (case a18 => k_is)
    (case l18 => k_is)
    (case c18 => k_is)
    (case k18 => k_is)
    (case a19 => k_is)
    (case l19 => k_is)
    (case c19 => k_is)
    (case k19 => k_is)
    (case a20 => k_is)
    (case l20 => k_is)
    (case c20 => k_is)
    (case k20 => k_is)
    (case a21 => k_is)
    (case l21 => k_is)
    (case c21 => k_is)
    (case k21 => k_is)
    (case a24 => k_is)
    (case l24 => k_is)
    (case c24 => k_is)
    (case k24 => k_is)
    (case a25 => k_is)
    (case l25 => k_is)
    (case c25 => k_is)
    (case k25 => k_is)
    (case a26 => k_is)
    (case l26 => k_is)
    (case c26 => k_is)
    (case k26 => k_is)
    (case a27 => k_is)
    (case l27 => k_is)
    (case c27 => k_is)
    (case k27 => k_is)
    (case a28 => k_is)
    (case l28 => k_is)
    (case c28 => k_is)
    (case k28 => k_is)
    (case a29 => k_is)
    (case l29 => k_is)
    (case c29 => k_is)
    (case k29 => k_is)
    (case a30 => k_is)
    (case l30 => k_is)
    (case c30 => k_is)
    (case k30 => k_is)
    (case a31 => k_is)
    (case l31 => k_is)
    (case c31 => k_is)
    (case k31 => k_is)
    (case a32 => k_is)
    (case l32 => k_is)
    (case c32 => k_is)
    (case k32 => k_is)
    (case a33 => k_is)
    (case l33 => k_is)
    (case c33 => k_is)
    (case k33 => k_is)
    (case a34 => k_is)
    (case l34 => k_is)
    (case c34 => k_is)
    (case k34 => k_is)
    (case at0 => k_is)
    (case lt0 => k_is)
    (case ct0 => k_is)
    (case kt0 => k_is)
    (case at1 => k_is)
    (case lt1 => k_is)
    (case ct1 => k_is)
    (case kt1 => k_is)
    (case at2 => k_is)
    (case lt2 => k_is)
    (case ct2 => k_is)
    (case kt2 => k_is)
    (case at3 => k_is)
    (case lt3 => k_is)
    (case ct3 => k_is)
    (case kt3 => k_is)
    (case at4 => k_is)
    (case lt4 => k_is)
    (case ct4 => k_is)
    (case kt4 => k_is)
    (case at5 => k_is)
    (case lt5 => k_is)
    (case ct5 => k_is)
    (case kt5 => k_is)
    (case a41 => k_is)
    (case l41 => k_is)
    (case c41 => k_is)
    (case k41 => k_is)
    (case eg3 => k_is)
    (case ex3 => k_is)
    (case es3 => k_is)
    (case eb3 => k_is)
    (case et3 => k_is)
    (case ek3 => k_is)
    (case en3 => k_is)
    (case ei3 => k_is)
    (case ety3 => k_is)
    (case el3 => k_is)
    (case ec3 => k_is)
    (case eK3 => k_is)
    (case ega3 => k_is)
    (case egg3 => k_is)
    (case ehd3 => k_is)
    (case eg4 => k_is)
    (case ex4 => k_is)
    (case es4 => k_is)
    (case eb4 => k_is)
    (case et4 => k_is)
    (case ek4 => k_is)
    (case en4 => k_is)
    (case ei4 => k_is)
    (case ety4 => k_is)
    (case el4 => k_is)
    (case ec4 => k_is)
    (case eK4 => k_is)
    (case ega4 => k_is)
    (case egg4 => k_is)
    (case ehd4 => k_is)
    (case aS0 => k_is)
    (case aC => k_is)
    (case pg => k_is)
    (case hd => k_is)
    (case po => k_is)
    (case sa => k_is)
    (case cl => k_is)
    (case sp => k_is)
    (case tk => k_is)
    (case ob => k_is)
    (case kc => kit_is)
    (case ct => kit_is)
    (case kttuple => kit_is)
    (case n1 => k_is)
    (case n2 => k_is)
    (case n3 => k_is)
    (case n4 => k_is)
    (case mk => k_is)
    (case ini => k_is)
    (case fi22 => k_is)
    (case kC => k_is)
    (case l22 => k_is)
    (case c22 => k_is)
    (case k22 => k_is)
    (case lT => k_is)
    (case lE => k_is)
    (case pa1 => k_is)
    (case ps1 => k_is)
    (case pt1 => k_is)
    (case pr1 => k_is)
    (case pl1 => k_is)
    (case pc1 => k_is)
    (case pk1 => k_is)
    (case pa2 => k_is)
    (case ps2 => k_is)
    (case pt2 => k_is)
    (case pr2 => k_is)
    (case pl2 => k_is)
    (case pc2 => k_is)
    (case pk2 => k_is)
    (case pa3 => k_is)
    (case ps3 => k_is)
    (case pt3 => k_is)
    (case pr3 => k_is)
    (case pl3 => k_is)
    (case pc3 => k_is)
    (case pk3 => k_is)
    (case pa4 => k_is)
    (case ps4 => k_is)
    (case pt4 => k_is)
    (case pr4 => k_is)
    (case pl4 => k_is)
    (case pc4 => k_is)
    (case pk4 => k_is)
    (case ma0 => k_is)
    (case mi0 => k_is)
    (case mk0 => k_is)
    (case ml0 => k_is)
    (case mc0 => k_is)
    (case maq => k_is)
    (case miq => k_is)
    (case mkq => k_is)
    (case mlq => k_is)
    (case mcq => k_is)
    (case xC => k_is)
    (case lN => k_is)
    (case okN => rfl)
    (case nsq => k_is)
    (case nsn => k_is)
    (case z6 => k_is)
    (case z8 => k_is)
    (case z4 => k_is)
    (case gaS => k_is)
    (case laS => k_is)
    (case vaS => exact .cons ⟨_, rfl⟩ (.cons ⟨_, rfl⟩ (.cons ⟨_, rfl⟩ (.cons ⟨_, rfl⟩ .nil))))
    (case waS => rfl)
    (case gaM => k_is)
    (case laM => k_is)
    (case vaM => exact .cons ⟨_, rfl⟩ (.cons ⟨_, rfl⟩ (.cons ⟨_, rfl⟩ (.cons ⟨_, rfl⟩ .nil))))
    (case waM => rfl)
    (case gaN => k_is)
    (case laN => k_is)
    (case vaN => exact .cons ⟨_, rfl⟩ (.cons ⟨_, rfl⟩ (.cons ⟨_, rfl⟩ (.cons ⟨_, rfl⟩ .nil))))
    (case waN => rfl)
    (case y0 => k_is)
    (case y1 => k_is)
    (case y2 => k_is)
    (case y3 => k_is)
    (case y4 => k_is)
    (case y5 => k_is)
    (case y6 => k_is)
    (case y7 => k_is)
    (case y8 => k_is)
    (case y9 => k_is)
    (case y10 => k_is)
    (case y11 => k_is)
    (case y12 => k_is)
    (case y13 => k_is)
    (case y14 => k_is)
    (case aCR => k_is)
    (case pgR => k_is)
    (case hdR => k_is)
    (case poR => k_is)
    (case saR => k_is)
    (case n1R => k_is)
    (case n2R => k_is)
    (case mkR => k_is)
    (case kCR => k_is)
    (case neR => decide)
    (case ra0 => k_is)
    (case ri0 => k_is)
    (case rk0 => k_is)
    (case rl0 => k_is)
    (case rc0 => k_is)
    (case ra1 => k_is)
    (case ri1 => k_is)
    (case rk1 => k_is)
    (case rl1 => k_is)
    (case rc1 => k_is)
    (case ra2 => k_is)
    (case ri2 => k_is)
    (case rk2 => k_is)
    (case rl2 => k_is)
    (case rc2 => k_is)
    (case ra3 => k_is)
    (case ri3 => k_is)
    (case rk3 => k_is)
    (case rl3 => k_is)
    (case rc3 => k_is)
    (case ra4 => k_is)
    (case ri4 => k_is)
    (case rk4 => k_is)
    (case rl4 => k_is)
    (case rc4 => k_is)
    (case ra5 => k_is)
    (case ri5 => k_is)
    (case rk5 => k_is)
    (case rl5 => k_is)
    (case rc5 => k_is)
    (case ra6 => k_is)
    (case ri6 => k_is)
    (case rk6 => k_is)
    (case rl6 => k_is)
    (case rc6 => k_is)
    (case ra7 => k_is)
    (case ri7 => k_is)
    (case rk7 => k_is)
    (case rl7 => k_is)
    (case rc7 => k_is)
    (case gI => k_is)
    (case gD => k_is)
    (case lD => k_is)
    (case kD => exact ⟨⟨_, _, rfl, rfl⟩, ⟨_, _, rfl, rfl⟩, ⟨_, _, rfl, rfl⟩, ⟨_, _, rfl, rfl⟩, trivial⟩)
    (case mD => rfl)
    (case vD1 => k_is)
    (case vD2 => k_is)
    (case vD3 => k_is)
    (case vD4 => k_is)
