import PyProof.Rows.All
import Wide.All
import OpenK.AllK
import Wide.FinOn
import KE.KExcInit
import KE.KExcIs
import KE.KExcPX
import KE.KExcSuper
import HandS.ForMost
import HandS.ExcOwn
import HandS.ExcValue
import HandS.ExcInit
import HandS.IsInst
import KE.KSuper
import HandS.HeadEnd
import HandS.Defaults
import PyProof.ReprRoads
import HandS.Wide
import HandS.Evl
import HandS.Conv
import HandS.Codes
import PySem.Challenge.RW_neargrades_k13_errors
import HandS.Head0
import HandS.Head1
import HandS.Head2
import HandS.HeadHook1
import HandS.HeadHook2
set_option Elab.async false
set_option linter.all false
set_option maxRecDepth 100000
set_option maxHeartbeats 4000000
/-! J1: own exception objects as values: made by an own __init__ or without one, their fields, isinstance. -/
namespace J
open PySem PySem.Spec PyProof.Rows L2

/-- a built-in base with all that is known of it -/
structure Bs (B nw ini : String) (bm : List Value) : Prop where
  fb : ExcBaseFacts B nw ini bm
  st : StoreFacts B bm "object.__setattr__" "object"
  su : PySem.W.KxsFacts B ini
abbrev mroV : List Value := [.type "ValueError", .type "Exception", .type "BaseException", .type "object"]
abbrev mroL : List Value := [.type "LookupError", .type "Exception", .type "BaseException", .type "object"]
theorem bsV : Bs "ValueError" "ValueError.__new__" "ValueError.__init__" mroV := ⟨F.excBase_ValueError, F.store_ValueError, PySem.W.kxs_ValueError⟩
theorem bsL : Bs "LookupError" "LookupError.__new__" "LookupError.__init__" mroL := ⟨F.excBase_LookupError, F.store_LookupError, PySem.W.kxs_LookupError⟩
/-- what the written part says of an own exception class at C -/
structure XC (K : PySem.W.Frag) (B nw ini : String) (bm : List Value) (C : Addr) : Prop where
  bs : Bs B nw ini bm
  ini : PySem.W.excInitIn K C bm nw = true
  ovr : PySem.W.excOver K C bm = true
  hd : PySem.W.hasDictIn K C = true
  sa : PySem.W.findIn K (.ref C) "__setattr__" = some (some (.builtin "object.__setattr__"))
  ga : PySem.W.findIn K (.ref C) "__getattribute__" = some (some (.builtin "BaseException.__getattribute__"))
  gt : PySem.W.findIn K (.ref C) "__getattr__" = some none
  sb : PySem.W.subIn K (.ref C) (.type "BaseException") = some true
  ca : PySem.W.findIn K (.ref C) "__class__" = some (some (.builtin "object.__class__"))
  dn : PySem.W.specialIn K (.builtin "object.__class__") "__get__" = some (some (.builtin "getset_descriptor.__get__"))
  tk : PySem.W.takesIn K (.builtin "object.__class__") = some true
  mo : PySem.W.mroIn K C (.type "object") = some true
  ty : PySem.W.typeIn K (.ref C) = some (.type "type")
  kp : PySem.W.keepIn K (.ref C) = true

/-- an exception object of the class at C with the fields fs (none as yet: no dict) -/
def XAt (H : Hp) (a C : Addr) (fs : List (Str × V)) : Prop :=
  (fs = [] ∧ H a = some (exo a C none)) ∨ ∃ dx, H a = some (exo a C (some dx)) ∧ H dx = some (exd dx fs)
theorem XAt.ext {H H' : Hp} {a C : Addr} {fs : List (Str × V)} (h : XAt H a C fs) (k : ∀ b o, H b = some o → H' b = some o) : XAt H' a C fs := by
  rcases h with ⟨e, h⟩ | ⟨dx, h1, h2⟩
  · exact .inl ⟨e, k _ _ h⟩
  · exact .inr ⟨dx, k _ _ h1, k _ _ h2⟩
theorem XAt.inst {P : Program} {w : World} {H : Hp} {h : Heap} {a C : Addr} {fs : List (Str × V)} (x : XAt H a C fs) (ok : HOk P w H h) :
    ∃ ox od, PySem.W.InstAt h a ox C od ∧ (fs = [] ∧ od = none ∨ ∃ (o : Obj) (mA : Str → Option Value), od = some o ∧ (∀ y, PySem.W.lookIn y o = some (mA y)) ∧ ∀ f, RelO (fs.lookup f) (mA f)) := by
  rcases x with ⟨e, h1⟩ | ⟨dx, h1, h2⟩
  · obtain ⟨t1, ho⟩ := exo_at ok h1
    exact ⟨_, none, ⟨ho, rfl, rfl, trivial⟩, .inl ⟨e, rfl⟩⟩
  · obtain ⟨t1, ho⟩ := exo_at ok h1
    obtain ⟨mA, hns, rel⟩ := exd_at ok h2
    obtain ⟨od, hod, hl⟩ := lookIn_ns hns
    exact ⟨_, some od, ⟨ho, rfl, rfl, hod⟩, .inr ⟨od, mA, rfl, hl, rel⟩⟩

section
variable {X : Cx} {B nw ini : String} {bm : List Value}
/-- isinstance(e, c), e such an object -/
def rIsX (K : PySem.W.Frag) : List V → Hp → VK → Prop := fun xs H Q => ∃ (a C : Addr) (fs : List (Str × V)) (c : V) (cv : Value) (b : Bool) (B nw ini : String) (bm : List Value),
  xs = [.ref a, c] ∧ XC K B nw ini bm C ∧ XAt H a C fs ∧ ClsV c cv ∧ PySem.W.kitOne K (.ref C) cv = some b ∧ Q (.bl b) H
theorem call_isX : CallR X (.builtin "isinstance") (rIsX X.K) := by
  intro pins s σ H xs us Q I r h
  obtain ⟨a, C, fs, c, cv, b, B, nw, ini, bm, rfl, T, x, k, e, q⟩ := h
  obtain ⟨u1, u2, rfl, r1, r2⟩ := vals2 r
  have e2 := k.eq r2
  subst e2
  obtain rfl : u1 = Value.ref a := r1
  obtain ⟨ox, od, J, _⟩ := x.inst I.hok
  have hcl : (PySem.W.clsIn X.K C).isSome = true := by
    have h := T.hd
    unfold PySem.W.hasDictIn at h
    cases hc : PySem.W.clsIn X.K C with
    | none => rw [hc] at h; cases h
    | some cd => rfl
  exact PySem.W.kia_one (PySem.W.kitx_exc hcl T.ga T.gt T.sb T.ca T.dn T.tk T.mo) I.kIn J e (fun z => nomatch z) fun tk => ⟨.bl b, H, I.tok tk, rfl, q⟩
/-- e.f, e such an object -/
def tXFld (K : PySem.W.Frag) (te : TE) (f : Str) : TE := fun σ H Q => te σ H fun x H1 => ∃ (a C : Addr) (fs : List (Str × V)) (v : V) (B nw ini : String) (bm : List Value),
  x = .ref a ∧ XC K B nw ini bm C ∧ XAt H1 a C fs ∧ PySem.W.findIn K (.ref C) f = some none ∧ fs.lookup f = some v ∧ Q v H1
theorem pe_xfld {e : Expr} {te : TE} {pos : Pos} {f : Str} (he : PE X e te) (hb : attributeBase e f X.env (eval e X.env) = eval e X.env := by rfl) : PE X (.Attribute e f pos) (tXFld X.K te f) := by
  refine ⟨fun pins s σ H Q I h => ?_⟩
  refine attr_of hb (thn (he.run pins s σ H _ I h) fun u s1 hh => ?_)
  obtain ⟨x, H1, I1, rx, a, C, fs, v, B, nw, ini, bm, rfl, T, xa, hno, l, q⟩ := hh
  obtain rfl : u = Value.ref a := rx
  obtain ⟨ox, od, Ji, hc⟩ := xa.inst I1.hok
  rcases hc with ⟨e0, _⟩ | ⟨o, mA, rfl, hl, rel⟩
  · rw [e0] at l
    cases l
  · obtain ⟨u, hu, ru⟩ := RelO.some_of (v := v) (o := mA f) (by rw [← l]; exact rel f)
    have fo := PySem.W.findObj_own T.hd hno rfl (by rw [hl, hu])
    exact HandSPX.exc_get I1.kIn Ji T.ga T.gt T.sb fo (handed_of ru) ⟨v, H1, I1.tok _, ru, q⟩

/-- C(), the class without an own __init__ -/
def tX0 (C : Addr) : TE := fun σ H Q => ∀ a, H a = none → Q (.ref a) (upd H a (exo a C none))
theorem pe_x0 {C : Addr} {x : Str} {p pos : Pos} (T : XC X.K B nw ini bm C) (xc : PySem.W.excIn X.K C bm nw = true) (gC : X.mg x = some (.ref C)) (hg : Gl X x) (hdb : (x == ("__debug__" : Str)) = false := by decide) :
    PE X (.Call (.Name x p) [] [] pos) (tX0 C) := by
  refine ⟨fun pins s σ H Q I h => ?_⟩
  refine wpAny_Call_Name_kw (ld_glob I hg gC ?_ hdb)
  refine PySem.W.callWith_K0 I.kIn T.kp ?_
  obtain ⟨bm', N, nm, qn, bs, hdct, sn, sub, ab, col, dd, k0, k1, k2, k3, k5, mN, hC, hN, hni, Tl⟩ := exc_obj I.kIn xc
  refine wpAny_call_exc_subT T.bs.fb Tl hC hN hni (fun h' a hm => ?_) (by show 0 ≤ sizeLine; exact Nat.zero_le _)
  have hn : H a = none := I.hok.gone hm.new
  obtain ⟨t, ht, _, _⟩ := hm.there
  exact ⟨.ref a, upd H a (exo a C none), I.laidN hm.keeps hm.new hn (exo_ok ht), rfl, h a hn⟩

/-- C(e, ..), by the own __init__ that keeps sp -/
def tXMk (C : Addr) (sp : Sp) (dvs : List V) (E : XK) (ta : TA) : TE := fun σ H Q => ta σ H fun vs H1 => vs.length ≤ 1000 ∧ ∀ a, H1 a = none →
  sp (.ref a :: (vs ++ dvs)) (upd H1 a (exo a C none)) (fun v H2 => v = .non ∧ Q (.ref a) H2) E
variable {CX : CXT} {k : Nat} {fI C : Addr} {fd : FuncData} {ps : List Str} {sp : Sp} {ds : List Value} {dvs : List V} {E : XK} {x : Str} {p pos : Pos} {e : Expr} {es : List Expr} {ta : TA}
theorem pe_xmk (T : XC X.K B nw ini bm C) (iC : PySem.W.findIn X.K (.ref C) "__init__" = some (some (.ref fI))) (tI : PySem.W.typeIn X.K (.ref fI) = some (.type "function"))
    (G : FnOk X.prog X.w X.K X.mg X.base CX k fI fd ps sp) (hr : Room (k + 1) X.A) (hb : Binds X.K fd ps ds) (hd : Vals dvs ds) (hx : Passes CX X E) (hg : Gl X x) (hm : X.mg x = some (.ref C)) (ha : PA X (e :: es) ta)
    (hdb : (x == ("__debug__" : Str)) = false := by decide) (he : starEach (e :: es) X.env = (false, eval e X.env) :: starEach es X.env := by rfl) (hpl : (backTo pos (starEach es X.env)).any (·.1) = false := by rfl) :
    PE X (.Call (.Name x p) (e :: es) [] pos) (tXMk C sp dvs E ta) := by
  refine ⟨fun pins s σ H Q I h => ?_⟩
  refine wpAny_Call_Name_kw (ld_glob I hg hm ?_ hdb)
  refine PySem.W.callWith_K (h₀ := X.base) I.ok.mod.kin T.kp (thn (ha.run pos pins s σ H _ I h) fun us s1 ⟨vs, H1, I1, r1, hz, q1⟩ => ⟨I1.kIn, ?_⟩) he hpl
  show wpAny _ _ (call (.ref C) us) _ _ _
  obtain ⟨nm, N, qn, bs, bmr, hdct, sn, sub, ab, col, dd, k0, k1, k2, k3, k5, hC, hT⟩ := PySem.W.excInit_of I1.kIn T.ini
  obtain ⟨hp, g, dr, tk, os⟩ := s1
  have up1 : hp.objs.size ≤ hp.objs.size + 1 := Nat.le_succ _
  have fresh := I1.hok.fresh up1
  have asks := q1 (hp.objs.size + 1) fresh
  have stays : ∀ b o, hp.get? b = some o → ((hp.push (PySem.W.kdv_tup us)).push (PySem.HandSPX.excO C hp.objs.size)).get? b = some o :=
    fun b o w => Heap.get?_push_of_some _ (Heap.get?_push_of_some _ w)
  have there : ((hp.push (PySem.W.kdv_tup us)).push (PySem.HandSPX.excO C hp.objs.size)).get? (hp.objs.size + 1) = some (PySem.HandSPX.excO C hp.objs.size) := by heap_get
  have I2 : Inv X pins σ (upd H1 (hp.objs.size + 1) (exo (hp.objs.size + 1) C none)) ⟨(hp.push (PySem.W.kdv_tup us)).push (PySem.HandSPX.excO C hp.objs.size), g, dr, tk, os⟩ :=
    I1.laid (t' := tk) (h' := (hp.push (PySem.W.kdv_tup us)).push (PySem.HandSPX.excO C hp.objs.size)) stays up1 (exo_ok there)
  have rel : Vals (V.ref (hp.objs.size + 1) :: (vs ++ dvs)) (Value.ref (hp.objs.size + 1) :: (us ++ ds)) := .cons rfl (r1.append hd)
  have many : (Value.ref (hp.objs.size + 1) :: us ++ ds).length = ps.length := by
    have w := rel.length
    rw [G.len _ _ _ _ asks] at w
    exact w.symm
  have short : us.length ≤ sizeLine := by
    rw [← Paired.length r1, sizeLine_eq]
    omega
  have bound := hb _ (Value.ref (hp.objs.size + 1) :: us) I2.kIn many
  have ran := G.run _ X.stack _ _ ⟨Value.ref (hp.objs.size + 1) :: us, []⟩ (Value.ref (hp.objs.size + 1) :: (us ++ ds)) _ _ E (hr.make C us []) (I2.env0.make C us []) bound rel asks
  refine wpAny_call (PySem.HandSPX.call_own T.bs.fb hT hC (PySem.W.looks_findIn I1.kIn iC) (fun self => PySem.W.bind_fn I1.kIn self tI) short (codeAny_mono ran fun r s' hq' => ?_))
  cases r with
  | error er => exact hx pins σ _ _ er s' I2 hq'
  | ok fl =>
    cases fl with
    | ret u =>
      obtain ⟨v, H2, os2, bare2, un2, hok2, rv, ev, q2⟩ := hq'
      subst ev
      exact ⟨rv, .ref (hp.objs.size + 1), H2, I2.call' (ch := []) os2 un2 hok2 bare2 (fun b z => absurd z (by simp)), rfl, q2⟩
    | next => exact False.elim hq'
    | brk => exact False.elim hq'
    | cont => exact False.elim hq'
end
end J

set_option Elab.async false
set_option linter.all false
set_option maxRecDepth 100000
set_option maxHeartbeats 4000000
/-! J2: a field of such an object is stored. -/
namespace J
open PySem PySem.Spec PyProof.Rows L2
section
open Builtin Builtin.ObjectAttr
variable {prog : Program} {w : World} {A : Around} {R : Result → Shared → Prop} {hp : Heap} {g : Array GenState} {d : Drawn} {t : Nat} {os : OsState} {B nw ini : String} {bm : List Value} {K : PySem.W.Frag}
theorem cls_of {C : Addr} (h : PySem.W.hasDictIn K C = true) : ∃ cd, PySem.W.clsIn K C = some cd ∧ cd.hasDict = true := PySem.W.any_some h
/-- the object has no dict as yet -/
theorem put0 {f : Str} {tk : Tok} {v : Value} {x C : Addr} {fv : Array Value} (T : XC K B nw ini bm C) (Kx : K.In hp) (ox : hp.get? x = some { cls := .ref C, data := .fields fv }) (no : PySem.W.findIn K (.ref C) f = some none)
    (k : ∀ h1 t1 dx, (∀ b o, b ≠ x → hp.get? b = some o → h1.get? b = some o) → hp.objs.size ≤ dx → dx ≠ x → h1.get? x = some { cls := .ref C, dict := some dx, data := .fields fv } →
      h1.Ns1 dx (fun y => if y = f then some v else none) → R (.ok (.ret .none)) ⟨h1, g, d, t1, os⟩) :
    codeAny (model prog w) A (.call (.builtin "object.__setattr__") ⟨[.ref x, .str f tk, v], []⟩) R ⟨hp, g, d, t, os⟩ := by
  obtain ⟨cd, ec, dd⟩ := cls_of T.hd
  have far : x ≠ hp.objs.size := Nat.ne_of_lt (Heap.lt_size ox)
  have look : PySem.W.Looks (model prog w) hp (classData C) cd := PySem.W.looks_clsIn Kx ec
  refine PySem.W.osa_openX (s := ⟨hp, g, d, t, os⟩) (od := none) (r := none) T.bs.st Kx ⟨ox, rfl, rfl, trivial⟩ T.ovr (by unfold PySem.W.takerIn; rw [no]; rfl) fun b => ?_
  obtain ⟨c1, c2, c3, c4, c5, c6, c7, c8, c9, c10, c11⟩ := cd
  dsimp only at dd
  subst dd
  dsimp only
  unfold storeInOwnDict ownDictForStores
  repeat (first | with_reducible refine PySem.HandSPX.store_in_new ?_ ?_ | with_reducible refine wpAny_loadPart_at ox ?_ | with_reducible refine look.at ?_ | wp_step)
  · exact ⟨_, #[], _, (Heap.get?_update_ne _ _ _ _ far.symm).trans (Heap.get?_push_at rfl rfl), rfl, fun e he => absurd he (by simp), fun _ => rfl⟩
  · intro h1 t1 n1 sb
    have ox1 : (hp.push { cls := .type "dict", data := .dict #[] }).get? x = some { cls := .ref C, data := .fields fv } := Heap.get?_push_of_some _ ox
    refine k h1 t1 hp.objs.size (fun b o hb ho => ?_) (Nat.le_refl _) far.symm ?_ n1
    · exact (sb.2 b (Nat.ne_of_lt (Heap.lt_size ho))).trans ((Heap.get?_update_ne _ _ _ _ hb).trans (Heap.get?_push_of_some _ ho))
    · exact (sb.2 x far).trans (Heap.get?_update_self _ ox1 rfl)
/-- it has one -/
theorem put1 {f : Str} {tk : Tok} {v : Value} {x C dx : Addr} {fv : Array Value} {m0 : Str → Option Value} {nl : List Str} (T : XC K B nw ini bm C) (Kx : K.In hp) (ox : hp.get? x = some { cls := .ref C, dict := some dx, data := .fields fv })
    (ns : hp.Ns1 dx m0) (hw : Within m0 nl) (hz : nl.length ≤ 1000) (no : PySem.W.findIn K (.ref C) f = some none)
    (k : ∀ h1 t1, (∀ b o, b ≠ dx → hp.get? b = some o → h1.get? b = some o) → h1.Ns1 dx (fun y => if y = f then some v else m0 y) → R (.ok (.ret .none)) ⟨h1, g, d, t1, os⟩) :
    codeAny (model prog w) A (.call (.builtin "object.__setattr__") ⟨[.ref x, .str f tk, v], []⟩) R ⟨hp, g, d, t, os⟩ := by
  obtain ⟨cd, ec, dd⟩ := cls_of T.hd
  obtain ⟨oD, _, _, hoD, _, _⟩ := ns.count hw
  have look : PySem.W.Looks (model prog w) hp (classData C) cd := PySem.W.looks_clsIn Kx ec
  refine PySem.W.osa_openX (s := ⟨hp, g, d, t, os⟩) (od := some oD) (r := none) T.bs.st Kx ⟨ox, rfl, rfl, hoD⟩ T.ovr (by unfold PySem.W.takerIn; rw [no]; rfl) fun b => ?_
  obtain ⟨c1, c2, c3, c4, c5, c6, c7, c8, c9, c10, c11⟩ := cd
  dsimp only at dd
  subst dd
  dsimp only
  unfold storeInOwnDict ownDictForStores
  repeat (first | with_reducible refine PySem.OEX.store_in_old ns hw hz ?_ | with_reducible refine wpAny_loadPart_at ox ?_ | with_reducible refine look.at ?_ | wp_step)
  intro h1 t1 n1 sb
  exact k h1 t1 (fun b o hb ho => (sb.2 b hb).trans ho) n1
end
section
variable {X : Cx} {pins : List (Addr × Obj)} {σ : L2.St} {H : Hp} {s : Shared} {a C dx : Addr} {f : Str} {y : V} {u : Value} {fs : List (Str × V)} {Q : Unit → Shared → Prop} {E : Value → Shared → Prop} {A : Around} {B nw ini : String} {bm : List Value}
theorem st0 (T : XC X.K B nw ini bm C) (I : Inv X pins σ H s) (e : H a = some (exo a C none)) (no : PySem.W.findIn X.K (.ref C) f = some none) (ry : RelV y u)
    (h : ∀ dx s', H dx = none → dx ≠ a → Inv X pins σ (upd (upd H dx (exd dx [(f, y)])) a (exo a C (some dx))) s' → Q () s') : wpAny (model X.prog X.w) A (setAttr (.ref a) f u) Q E s := by
  obtain ⟨t1, ho⟩ := exo_at I.hok e
  obtain ⟨hp, g, d, t, os⟩ := s
  refine PySem.W.set_plain I.kIn (ox := { cls := .ref C, dict := none, data := .fields #[.ref t1, .none, .none, .none, .bool false, .none] }) (od := none) ⟨ho, rfl, rfl, trivial⟩ T.sa ?_
  refine put0 T I.kIn ho no (fun h1 tk1 dx k dn dne hx hn => ?_)
  have hnd : H dx = none := I.hok.fresh dn
  have nd : ∀ {b : Addr} {o : Obj}, hp.get? b = some o → b ≠ dx := fun {b o} q => Nat.ne_of_lt (Nat.lt_of_lt_of_le (Heap.lt_size q) dn)
  have na : ∀ {b : Addr}, H b = none → b ≠ a := fun {b} n z => by
    rw [z, e] at n
    cases n
  have Un1 : Un X.fs [] H (upd (upd H dx (exd dx [(f, y)])) a (exo a C (some dx))) hp h1 :=
    { keep := fun b o q n _ _ => k b o (na n) q,
      slot := fun b o q n _ _ => ⟨o.slots, k b o (na n) q⟩,
      free := fun b o q n _ => (upd_ne (na n)).trans ((upd_ne (nd q)).trans n),
      there := fun b o q _ => by
        rcases Classical.em (b = a) with hb | hb
        · subst hb
          exact ⟨_, hx⟩
        · exact ⟨o, k b o hb q⟩,
      tups := fun b xs q => (upd_ne (at_ne e q exo_tup)).trans ((upd_ne (ne_of_none q hnd)).trans q),
      frzs := fun b o v q => (upd_ne (at_ne e q exo_frz)).trans ((upd_ne (ne_of_none q hnd)).trans q),
      tbls := fun b ps q => ⟨#[], by rw [upd_ne (at_ne e q exo_tbl), upd_ne (ne_of_none q hnd), q]; simp⟩ }
  refine h dx _ hnd dne (I.un (t' := tk1) Un1 fun b o q => ?_)
  by_cases hb : b = a
  · subst hb
    rw [upd_same] at q
    cases q
    exact exo_ok hx
  · rw [upd_ne hb] at q
    by_cases hd : b = dx
    · subst hd
      rw [upd_same] at q
      cases q
      exact exd_ok hn (relO_put (fs := []) ry fun g => True.intro)
    · rw [upd_ne hd] at q
      refine (I.hok b o q).stay (fun c v hc z => k c v ?_ z) (fun c hc => ?_) fun c xs hc => ?_
      · rcases hc with hc | hc
        · rw [hc]
          exact hb
        · exact at_ne e hc exo_own
      · exact (upd_ne (at_ne e hc exo_own)).trans ((upd_ne (ne_of_none hc hnd)).trans hc)
      · exact (upd_ne (at_ne e hc exo_tup)).trans ((upd_ne (ne_of_none hc hnd)).trans hc)
theorem st1 (T : XC X.K B nw ini bm C) (I : Inv X pins σ H s) (e : H a = some (exo a C (some dx))) (ed : H dx = some (exd dx fs)) (hl : fs.length ≤ 900) (no : PySem.W.findIn X.K (.ref C) f = some none) (ry : RelV y u)
    (h : ∀ s', Inv X pins σ (upd H dx (exd dx ((f, y) :: fs))) s' → Q () s') : wpAny (model X.prog X.w) A (setAttr (.ref a) f u) Q E s := by
  obtain ⟨t1, ho⟩ := exo_at I.hok e
  obtain ⟨mA, hns, rel⟩ := exd_at I.hok ed
  have hw := within_of rel
  obtain ⟨hp, g, d, t, os⟩ := s
  obtain ⟨oD, _, _, hoD, _, _⟩ := hns.count hw
  refine PySem.W.set_plain I.kIn (ox := { cls := .ref C, dict := some dx, data := .fields #[.ref t1, .none, .none, .none, .bool false, .none] }) (od := some oD) ⟨ho, rfl, rfl, hoD⟩ T.sa ?_
  refine put1 T I.kIn ho hns hw (by rw [List.length_map]; omega) no (fun h1 tk1 k hn => ?_)
  have hd : ∃ o, h1.get? dx = some o := by
    obtain ⟨o, _, _, e1, _⟩ := hn
    exact ⟨o, e1⟩
  exact h _ (I.write (t' := tk1) (x := dx) (e := dx) (o := exd dx ((f, y) :: fs)) (by rw [ed]; exact True.intro) (.inl rfl) k hd (exd_ok hn (relO_put ry rel)))
end
/-- o.f = e -/
def tXSet (K : PySem.W.Frag) (f : Str) (to te : TE) : TS := fun D σ H => te σ H fun y H1 => to σ H1 fun x H2 => ∃ (a C : Addr) (B nw ini : String) (bm : List Value), x = .ref a ∧ XC K B nw ini bm C ∧ PySem.W.findIn K (.ref C) f = some none ∧
  ((H2 a = some (exo a C none) ∧ ∀ dx, H2 dx = none → dx ≠ a → D.nx σ (upd (upd H2 dx (exd dx [(f, y)])) a (exo a C (some dx)))) ∨
    ∃ (dx : Addr) (fs : List (Str × V)), H2 a = some (exo a C (some dx)) ∧ H2 dx = some (exd dx fs) ∧ fs.length ≤ 900 ∧ D.nx σ (upd H2 dx (exd dx ((f, y) :: fs))))
theorem ps_xset {X : Cx} {o e : Expr} {to te : TE} {f : Str} {p pos : Pos} (ho : PE X o to) (he : PE X e te) (hs : swapsWith e (some (.Attribute o f p)) pos.line X.env = pure false := by rfl) :
    PS X (.Assign [.Attribute o f p] e pos) (tXSet X.K f to te) := by
  refine ⟨fun pins s σ H D I h => ?_⟩
  refine plainObj_wpAny_Assign_Attribute (thn (he.run pins s σ H _ I h) fun v s1 ⟨y, H1, I1, r1, q1⟩ => thn (ho.run pins s1 σ H1 _ I1 q1) fun u s2 hh => ?_) hs
  obtain ⟨x, H2, I2, r2, a, C, B, nw, ini, bm, rfl, T, no, q⟩ := hh
  obtain rfl : u = Value.ref a := r2
  rcases q with ⟨ea, q⟩ | ⟨dx, fs, ea, ed, hl, q⟩
  · exact st0 T I2 ea no r1 fun dx s' n ne J => ⟨σ, _, J, q dx n ne⟩
  · exact st1 T I2 ea ed hl no r1 fun s' J => ⟨σ, _, J, q⟩
end J

set_option Elab.async false
set_option linter.all false
set_option maxRecDepth 100000
set_option maxHeartbeats 4000000
/-! J3: an __init__ whose first row is super().__init__(a text); what follows by the layer. -/
namespace J
open PySem PySem.Spec PyProof.Rows L2

/-- the frame of such an __init__ -/
abbrev envS (qual : Str) (scope : Scope) (L f : Addr) (cd : Value) (cc : Addr) : Env := PySem.W.ksEnv qual scope L f cd cc
/-- its context -/
def cxS (CX : CXT) (P : Program) (w : World) (K : PySem.W.Frag) (mg : Str → Option Value) (base : Heap) (N : List Str) (qual : Str) (scope : Scope) (f : Addr) (cd : Value) (cc : Addr) (A : Around) (outer : List Env) (s : Shared) (H : Hp) (E : XK) : Cx where
  prog := P
  w := w
  K := K
  mg := mg
  base := base
  A := A.deeper (envS qual scope s.heap.objs.size f cd cc)
  N := N
  s_0 := s
  H_0 := H
  env := envS qual scope s.heap.objs.size f cd cc
  outer := outer
  stack := envS qual scope s.heap.objs.size f cd cc :: outer
  ex := []
  fn := fun _ => false
  calm := true
  pn := []
  xe := fun e z => wpAny (model P w) (A.deeper (envS qual scope s.heap.objs.size f cd cc)) (leaving (envS qual scope s.heap.objs.size f cd cc) e) (fun _ y => CX outer H s E e y) (fun e2 y => CX outer H s E e2 y) z
/-- what its scope must be: the parameters alone, super, __class__ -/
structure ScS (N : List Str) (sc : Scope) : Prop where
  kind : sc.kind = .function
  co : sc.isCoroutine = false
  gen : sc.isGenerator = false
  nd : N.Nodup
  par : ∀ x ∈ N, sc.names.lookup x = some .local
  nocell : ∀ y ∈ sc.names, y.2 ≠ .cell
  free : ∀ y ∈ sc.names, y.2 = .free → y.1 = ("__class__" : Str)
  sup : sc.names.lookup ("super" : Str) = some .globalImplicit
  cls : sc.names.lookup ("__class__" : Str) = some .free
  one : ∃ r : List Str, N = ("self" : Str) :: r
theorem zip_get {ps : List Str} {us : List Value} {i : Nat} {x : Str} {u : Value} (nd : ps.Nodup) (hl : ps.length = us.length) (h : ps[i]? = some x) (hu : us[i]? = some u) : (ps.zip us).reverse.lookup x = some u := by
  have keys : ((ps.zip us).map (·.1)).Nodup := by
    rw [List.map_fst_zip (Nat.le_of_eq hl)]
    exact nd
  have go : ∀ {ps : List Str} {us : List Value} {i : Nat}, ps.Nodup → ps[i]? = some x → us[i]? = some u → (ps.zip us).lookup x = some u := by
    intro ps
    induction ps with
    | nil =>
      intro us i _ h _
      simp at h
    | cons p ps ih =>
      intro us i nd h hu
      cases us with
      | nil => simp at hu
      | cons v us =>
        cases i with
        | zero =>
          simp at h hu
          subst h hu
          simp [List.lookup]
        | succ i =>
          have h1 : ps[i]? = some x := by simpa using h
          have ne : (x == p) = false := by
            have hm : x ∈ ps := (List.getElem?_eq_some_iff.mp h1).2 ▸ List.getElem_mem _
            have := (List.nodup_cons.mp nd).1
            simp only [beq_eq_false_iff_ne, ne_eq]
            intro z
            subst z
            exact this hm
          show (match x == p with | true => some v | false => (ps.zip us).lookup x) = some u
          rw [ne]
          exact ih (List.nodup_cons.mp nd).2 h1 (by simpa using hu)
  rw [lookup_reverse_of_nodup (ps.zip us) keys x]
  exact go nd h hu

section
variable {CX : CXT} {P : Program} {w : World} {K : PySem.W.Frag} {mg : Str → Option Value} {base : Heap} {N : List Str} {qual : Str} {scope : Scope} {f cc : Addr} {cd : Value} {A : Around} {outer : List Env} {s : Shared} {H : Hp} {E : XK} {us : List Value} {vs : List V}
theorem inv_s {h1 : Heap} {tk : Nat} {D : Addr} {cl : Value} {cld : Option Addr} {csl : Array (Option Value)} (S : ScS N scope) (hd : A.handled = none) (e0 : Env0 P w K mg base A outer s H) (hl : vs.length = N.length) (r : Vals vs us)
    (kc : K.lookup cc = some ⟨cl, cld, .cell (some (.ref D)), csl⟩) (ns : h1.Ns s.heap.objs.size fun x => (N.zip us).reverse.lookup x) (hk : ∀ b o, s.heap.get? b = some o → h1.get? b = some o) :
    Inv (cxS CX P w K mg base N qual scope f cd cc A outer s H E) [] (L2.start N vs) H { s with heap := h1, toks := tk } := by
  have nx : ∀ b : Addr, b ∉ (cxS CX P w K mg base N qual scope f cd cc A outer s H E).ex := fun b z => absurd (show b ∈ ([] : List Addr) from z) (by simp)
  have one : ∀ {y : Str} {c : Addr}, ([("__class__", cc)] : List (Str × Addr)).lookup y = some c → y = "__class__" ∧ c = cc := by
    intro y c z
    by_cases q : y = "__class__"
    · subst q
      exact ⟨rfl, (Option.some.inj z).symm⟩
    · have q2 : (y == ("__class__" : Str)) = false := by simpa using q
      simp [List.lookup, q2] at z
  have cellB : base.get? cc = some ⟨cl, cld, .cell (some (.ref D)), csl⟩ := e0.mod.kin _ _ kc
  have hst : L2.start N vs = vs.map some := by
    unfold L2.start
    rw [hl, Nat.sub_self]
    simp
  refine ⟨⟨e0.mod, S.kind, rfl, rfl, Nat.le_refl _, fun y z c h2 h3 => ?_, fun y hy => ?_, fun y c z => ?_, fun _ => hd, Around.frames_deeper e0.frames, .inr ⟨rfl, rfl⟩, fun b z => absurd z (nx b), e0.bs, e0.bsz, fun b _ _ => nx b, fun b z => absurd z (nx b), e0.funs, e0.frf⟩,
    rfl, e0.bare, Un.kept hk, ⟨_, ns, fun i y v h2 h3 h4 => ?_⟩, fun y c z => ?_, e0.hok.fresh (Nat.le_refl _), fun y c z => ?_, fun p hp => absurd (show p ∈ ([] : List (Addr × Obj)) from hp) (by simp), e0.hok.kept hk, ?_⟩
  · rw [(one h2).1, (one h3).1]
  · have hy2 : scope.names.lookup y = some .cell ∨ scope.names.lookup y = some .free := hy
    rcases hy2 with z | z
    · exact absurd rfl (S.nocell _ (PySem.mem_of_lookup z))
    · have e : y = "__class__" := S.free _ (PySem.mem_of_lookup z) rfl
      exact ⟨cc, by rw [e]; rfl⟩
  · cases z
  · rw [hst, List.getElem?_map] at h3
    cases e : vs[i]? with
    | none =>
      rw [e] at h3
      cases h3
    | some a =>
      rw [e] at h3
      cases h3
      obtain ⟨u, hu, rv⟩ := r.get e
      have hlen : N.length = us.length := by rw [← hl, r.length]
      exact ⟨u, rv, .inl ⟨S.par _ ((List.getElem?_eq_some_iff.mp h2).2 ▸ List.getElem_mem _), zip_get S.nd hlen h2 hu⟩⟩
  · rw [(one z).2]
    exact ⟨_, _, hk _ _ (e0.bs _ _ cellB).1, rfl⟩
  · rw [(one z).2]
    exact (e0.bs _ _ cellB).2
  · rw [hst, List.length_map]
    exact hl
/-- what the written part says of an __init__ with super() -/
structure SupF (P : Program) (K : PySem.W.Frag) (mg : Str → Option Value) (C : Addr) (B nw ini : String) (bm : List Value) (name qual : Str) (params : Arguments) (body : List Stmt) (scope : Scope) (f : Addr) (fd : FuncData) (N : List Str) : Prop where
  xc : XC K B nw ini bm C
  sc : ScS N scope
  ex : ∃ (oc : Value) (od : Option Addr) (dV kV doc pm : Value) (an : Option Addr) (cda : Addr) (ct : Value) (osl : Array (Option Value)) (cc : Addr) (cl : Value) (cld : Option Addr) (csl : Array (Option Value)) (ccl : Value) (cdd : Option Addr) (ccs : Array (Option Value)) (wv : Array Value) (file : Str) (tf : Tok),
    fd = PySem.W.ksFn name qual params body scope dV kV doc pm an (.ref cda) ct cc ∧ K.lookup f = some ⟨oc, od, .func fd, osl⟩ ∧ PySem.W.codeIn K (.ref cda) qual = true ∧ K.lookup cc = some ⟨cl, cld, .cell (some (.ref C)), csl⟩ ∧
    K.lookup cda = some ⟨ccl, cdd, .fields wv, ccs⟩ ∧ wv[2]? = some (.str file tf) ∧ ((P.main.file : Str) == file) = true
  hp : ∃ ar, (params.posonlyargs ++ params.args).head? = some ar ∧ ar.arg = "self"
  top : (P.main.scope.names.lookup ("super" : Str)).isSome = false
  sup : mg "super" = none
  opq : PySem.W.nsIn K cStatics "thirdparty.any" = some none
  met : PySem.W.ks_superIn K C C "__init__" = some (some (.builtin ini))
  isB : PySem.W.subIn K (.ref C) (.type B) = some true
  self : PySem.W.mroIn K C (.ref C) = some true
variable {B nw ini : String} {bm : List Value} {C : Addr} {name : Str} {params : Arguments} {scope : Scope} {fd : FuncData} {k : Nat} {sp : Sp} {rest : List Stmt} {msg : Str} {jm : Nat} {p0 p1 p2 p3 p4 p5 : Pos}
theorem fn_sup (F : SupF P K mg C B nw ini bm name qual params (.Expr (.Call (.Attribute (.Call (.Name "super" p0) [] [] p1) "__init__" p2) [.Constant (.str msg) jm p3] [] p4) p5 :: rest) scope f fd N)
    (len : ∀ vs H Q E, sp vs H Q E → vs.length = N.length) (hbind : Binds K fd N [])
    (hsw : ∀ (L : Addr) (cd : Value) (cc : Addr), swapsWith (.Call (.Attribute (.Call (.Name "super" p0) [] [] p1) "__init__" p2) [.Constant (.str msg) jm p3] [] p4) none p5.line (envS qual scope L f cd cc) = pure false)
    (hform : ∀ (L : Addr) (cd : Value) (cc : Addr), ∃ pl, eval (.Call (.Attribute (.Call (.Name "super" p0) [] [] p1) "__init__" p2) [.Constant (.str msg) jm p3] [] p4) (envS qual scope L f cd cc) = (do
      let ov ← attributeBase (.Call (.Name "super" p0) [] [] p1) "__init__" (envS qual scope L f cd cc) (eval (.Call (.Name "super" p0) [] [] p1) (envS qual scope L f cd cc))
      standAt p2.atName
      let (fx, first) ← holding [ov] (getMethod ov "__init__" pl)
      callWith p4 fx first (backTo p4 (starEach [.Constant (.str msg) jm p3] (envS qual scope L f cd cc))) []))
    (hbody : ∀ (cd : Value) (cc : Addr) (A : Around) (outer : List Env) (s : Shared) (H : Hp) (vs : List V) (Q : VK) (E : XK), Room k (A.deeper (envS qual scope s.heap.objs.size f cd cc)) → sp vs H Q E →
      (∃ a ws, vs = .ref a :: ws ∧ H a = some (exo a C none)) ∧ ∃ t, PSs (cxS CX P w K mg base N qual scope f cd cc A outer s H E) rest t ∧ t { nx := fun _ H' => Q .non H', rt := Q } (L2.start N vs) H) :
    FnOk P w K mg base CX (k + 1) f fd N sp := by
  obtain ⟨oc, od, dV, kV, doc, pm, an, cda, ct, osl, cc, cl, cld, csl, ccl, cdd, ccs, wv, file, tf, rfl, lk, hcd, kc, kd, hw, hfile⟩ := F.ex
  refine ⟨len, fun A outer s H args us vs Q E hr e0 hb r hsp => ?_⟩
  have hl := len _ _ _ _ hsp
  have KX : K.In s.heap := e0.mod.kin.keeps fun b o e => (e0.bs b o e).1
  have lim : s.heap.NoLimit := e0.mod.nolimit.keeps fun b o e => (e0.bs b o e).1
  have hus : N.length = us.length := by rw [← hl, r.length]
  obtain ⟨⟨a, ws, hva, ha⟩, t, ht, hq⟩ := hbody (.ref cda) cc A outer s H vs Q E (hr.deeper _) hsp
  refine PySem.ks_codeAny_call_defAt (fd := PySem.W.ksFn name qual params _ scope dV kV doc pm an (.ref cda) ct cc) (binds := N.zip us) hr.depth (KX _ _ lk) rfl lim (PySem.W.codeRec_of KX hcd) rfl hb F.sc.nocell (fun y hy => F.sc.par _ (List.of_mem_zip hy).1) (fun h1 ns hk => ?_) F.sc.co F.sc.gen F.sc.kind
  have I0 : Inv (cxS CX P w K mg base N qual scope f (.ref cda) cc A outer s H E) [] (L2.start N vs) H { s with heap := h1, toks := s.toks + (N.zip us).length } := inv_s F.sc hr.hd e0 hl r kc ns hk
  obtain ⟨t1, hx⟩ := exo_at I0.hok ha
  obtain ⟨cdC, ec, _⟩ := cls_of F.xc.hd
  have K1 : K.In h1 := I0.kIn
  obtain ⟨oC, oC1, oC2⟩ : ∃ o, h1.get? C = some o ∧ o.data = .cls cdC := by
    unfold PySem.W.clsIn at ec
    split at ec
    · rename_i q1 q2 q3 q4 ho
      cases ec
      exact ⟨_, K1 _ _ ho, rfl⟩
    · cases ec
  have hself : (N.zip us).reverse.lookup ("self" : Str) = some (.ref a) := by
    obtain ⟨rN, eN⟩ := F.sc.one
    subst eN hva
    cases r with
    | @cons _ u0 _ ur ra rw' =>
      obtain rfl : u0 = Value.ref a := ra
      exact zip_get (i := 0) F.sc.nd hus rfl rfl
  obtain ⟨ar, ar1, ar2⟩ := F.hp
  have hs1 : scope.names.lookup ("self" : Str) = some .local := F.sc.par _ (by obtain ⟨rN, eN⟩ := F.sc.one; rw [eN]; exact List.mem_cons_self ..)
  obtain ⟨pl, hpl⟩ := hform s.heap.objs.size (.ref cda) cc
  refine PySem.ks_wpAt_execs_cons (PySem.ks_wpAt_Expr_any (PySem.ks_wpAt_MethodCall (pl := pl) ?_ hpl) (by show (scope.kind == ScopeKind.module && _) = false; rw [F.sc.kind]; rfl) (hsw _ _ _))
  refine PySem.ks_wpAt_super_base (env := envS qual scope s.heap.objs.size f (.ref cda) cc) F.sc.sup F.sc.cls (by decide) rfl (K1 _ _ lk) rfl ar1 rfl (K1 _ _ kd) rfl hw hfile F.top ?_
  obtain ⟨mb, mb1, mb2⟩ := I0.mod.blt
  refine PySem.W.ks_loadName_global F.sc.kind F.sc.sup (Calls.loadGlobal_builtin (env := envS qual scope s.heap.objs.size f (.ref cda) cc) (I0.mod.glob.keeps I0.bk) F.sup (mb1.keeps I0.bk) ((mb2 _ (by decide)).trans PyProof.Rows.Boot.«super») ⟨rfl, ?_⟩)
  refine wpAny_loadName_free F.sc.kind F.sc.cls rfl ⟨_, K1 _ _ kc, rfl⟩ ?_
  rw [ar2]
  refine wpAny_loadName_local F.sc.kind hs1 ns hself ?_
  refine PySem.ks_wpAny_isType_cls oC1 oC2 ⟨rfl, ?_⟩
  refine PySem.ks_wpAny_call_super oC1 oC2 hx rfl (fun c z => nomatch z) (PySem.W.looks_mroIn K1 F.self) (fun h2 e2 k2 => ?_)
  have I1 := I0.kept (t' := s.toks + (N.zip us).length) k2
  have K2 : K.In h2 := I1.kIn
  have J : PySem.W.InstAt h2 a _ C none := ⟨k2 _ _ hx, rfl, rfl, trivial⟩
  have hmet := F.met
  unfold PySem.W.ks_superIn at hmet
  rw [ec] at hmet
  refine PySem.W.kxs_getMethod F.xc.bs.su e2 (PySem.W.looks_opaque K2 F.opq) (l₀ := cdC.mro) (fun A Q E s k q => wpAny_bind ((PySem.W.looks_clsIn K2 ec) A _ E s k (wpAny_pure q))) rfl K2 hmet (J.type.andThen (PySem.W.looks_subIn K2 F.isB)) (PySem.W.ks_ne K2 J ec) (by decide) ?_
  have k3 : ∀ b o, h2.get? b = some o → (h2.push (PySem.W.kxs_mw ini a)).get? b = some o := fun b o z => Heap.get?_push_of_some _ z
  have I2 := I1.kept (t' := s.toks + (N.zip us).length + 1) k3
  have ue : h2.objs.size ≠ s.heap.objs.size := Nat.ne_of_gt (show s.heap.objs.size < h2.objs.size from I1.lt)
  have I3 : Inv (cxS CX P w K mg base N qual scope f (.ref cda) cc A outer s H E) [(h2.objs.size, PySem.W.kxs_mw ini a)] (L2.start N vs) H _ := I2.pins_of (fun p hp => by
    have e : p = (h2.objs.size, PySem.W.kxs_mw ini a) := by simpa using hp
    subst e
    exact ⟨Heap.get?_push_at rfl rfl, I1.hok.fresh (Nat.le_refl _), ue, I1.nofs (Nat.le_refl _), fun v z => nomatch z⟩)
  have he : starEach [.Constant (.str msg) jm p3] (envS qual scope s.heap.objs.size f (.ref cda) cc) = (false, eval (.Constant (.str msg) jm p3) (envS qual scope s.heap.objs.size f (.ref cda) cc)) :: starEach [] (envS qual scope s.heap.objs.size f (.ref cda) cc) := rfl
  have pa : PA (cxS CX P w K mg base N qual scope f (.ref cda) cc A outer s H E) [.Constant (.str msg) jm p3] (tCons (tC (.str msg)) tNil) := pa_cons pe_str pa_nil
  have arg := pa.run p4 _ _ _ _ (fun ws H' => ws = [.str msg] ∧ H' = H) I3 ⟨rfl, rfl⟩
  show wpAny _ _ (callWith p4 (Value.ref h2.objs.size) [] (backTo p4 (starEach [.Constant (.str msg) jm p3] (envS qual scope s.heap.objs.size f (.ref cda) cc))) []) _ _ _
  rw [he]
  have arg2 : wpAny (model P w) (A.deeper (envS qual scope s.heap.objs.size f (.ref cda) cc)) (spliced (backTo p4 ((false, eval (.Constant (.str msg) jm p3) (envS qual scope s.heap.objs.size f (.ref cda) cc)) :: starEach [] (envS qual scope s.heap.objs.size f (.ref cda) cc)))) _ _ _ := arg
  refine PySem.W.kxs_callWith (i := ini) (x := a) (u := h2.objs.size) (by rfl) (PySem.Calls.evalArgs_plain (thn arg2 fun us2 s2 hh => ?_))
  obtain ⟨vs2, H2, I4, r2, rfl, eH⟩ := hh
  rw [eH] at I4
  obtain ⟨hu, _⟩ := I4.pin (h2.objs.size, PySem.W.kxs_mw ini a) (List.mem_append.mpr (.inr List.mem_cons_self))
  refine ⟨hu, ?_⟩
  obtain ⟨t4, hx4⟩ := exo_at I4.hok ha
  obtain ⟨nm, N4, qn, bs, bmr, hdct, sn, sub, ab, col, dd, k0, k1, k2', k3', k5, hC, hT⟩ := PySem.W.excInit_of I4.kIn F.xc.ini
  have short : us2.length ≤ sizeLine := by
    rw [← Paired.length r2, sizeLine_eq]
    simp
  obtain ⟨hp4, g4, d4, tk4, os4⟩ := s2
  refine wpAny_call (codeAny_of_tree ?_)
  show wpAny _ _ (callAny (.ref h2.objs.size) ⟨us2, []⟩) _ _ _
  simp only [callAny]
  refine wpAny_bind (wpAny_load hu ?_)
  have mw1 : (Value.type "method-wrapper" == Value.type "method" || Value.type "method-wrapper" == Value.type "builtin_function_or_method" || Value.type "method-wrapper" == Value.type "method-wrapper") = true := by decide
  simp only [PySem.W.kxs_mw, mw1, if_true]
  refine PySem.W.KFB.if_so (by decide) ?_
  refine wpAny_bind (PySem.W.check_bound_init F.xc.bs.fb.toExcCallFacts hC hx4 rfl ?_)
  refine wpAny_bind (wpAny_pure (wpAny_pure ?_))
  refine ⟨plainId_quiet F.xc.bs.fb.init.plain _, codeAny_builtin F.xc.bs.fb.initEntry ?_⟩
  refine PySem.W.exc_init_tree (cls := .ref C) (t0 := t4) (dv := none) (c2 := .none) (c3 := .none) (b4 := .bool false) hx4 short fun h5 k5 e5 _ => ?_
  have J5 := I4.write (t' := tk4) (x := a) (e := a) (o := exo a C none) (by rw [ha]; exact True.intro) (.inl rfl) k5 ⟨_, e5⟩ (exo_ok e5)
  have same : upd H a (exo a C none) = H := by
    funext b
    by_cases hb : b = a
    · rw [hb, upd_same, ha]
    · rw [upd_ne hb]
  rw [same] at J5
  refine PySem.wpAt_of_wpAny (wpAny_mono (ht.run _ _ (L2.start N vs) H _ J5 hq) (fun fl s' hs => ?_) fun e s' hs => hs)
  have fin : ∀ {σ' : L2.St} {H' : Hp} {v : V} {u : Value} {pins : List (Addr × Obj)}, Inv (cxS CX P w K mg base N qual scope f (.ref cda) cc A outer s H E) pins σ' H' s' → RelV v u → Q v H' → CE outer P w H s Q u s' :=
    fun {σ' H' v u pins} J rv q => ⟨v, H', J.os, J.bare, J.base, J.hok, rv, q⟩
  cases fl with
  | ret u =>
    obtain ⟨v, σ', H', J, rv, q⟩ := hs
    exact fin J rv q
  | next =>
    obtain ⟨σ', H', J, q⟩ := hs
    exact fin (v := V.non) (u := Value.none) J rfl q
  | brk =>
    obtain ⟨_, _, _, q⟩ := hs
    exact False.elim q
  | cont =>
    obtain ⟨_, _, _, q⟩ := hs
    exact False.elim q
end
end J

set_option Elab.async false
set_option linter.all false
set_option maxRecDepth 100000
set_option maxHeartbeats 4000000
/-! J4: defs that know that no repr runs around them; repr of data. -/
namespace J
open PySem PySem.Spec PyProof.Rows L2

/-- a def's promise, asked only where no container's repr is under way -/
structure FnG (P : Program) (w : World) (K : PySem.W.Frag) (mg : Str → Option Value) (base : Heap) (CX : CXT) (k : Nat) (f : Addr) (fd : FuncData) (ps : List Str) (sp : Sp) : Prop where
  len : ∀ vs H Q E, sp vs H Q E → vs.length = ps.length
  go : ∀ (A : Around) (outer : List Env) (s : Shared) (H : Hp) (args : Args) (us : List Value) (vs : List V) (Q : VK) (E : XK), A.guards = some [] → Room k A → Env0 P w K mg base A outer s H →
    BindsTo s fd args (ps.zip us) → Vals vs us → sp vs H Q E → codeAny (model P w) A (.call (.ref f) args) (CR CX outer P w H s Q E) s
section
variable {CX : CXT} {P : Program} {w : World} {K : PySem.W.Frag} {mg : Str → Option Value} {base : Heap} {j k : Nat} {f : Addr} {fd : FuncData} {N ps : List Str} {sp : Sp}
theorem FnG.of (F : FnOk P w K mg base CX k f fd ps sp) : FnG P w K mg base CX k f fd ps sp :=
  ⟨F.len, fun A outer s H args us vs Q E _ hr => F.run A outer s H args us vs Q E hr⟩
theorem FnG.up (F : FnG P w K mg base CX j f fd ps sp) (h : j ≤ k) : FnG P w K mg base CX k f fd ps sp :=
  ⟨F.len, fun A outer s H args us vs Q E hg hr => F.go A outer s H args us vs Q E hg (hr.mono h)⟩
/-- from the body -/
theorem fng {x qual : Str} {params : Arguments} {body : List Stmt} {scope : Scope} {dvs : List V} {kws : List (Str × V)} (F : FunD K x qual params body scope dvs kws f fd) (S : FnScope N ps scope)
    (len : ∀ vs H Q E, sp vs H Q E → vs.length = ps.length)
    (hbody : ∀ (cdv : Value) (A : Around) (outer : List Env) (s : Shared) (H : Hp) (vs : List V) (Q : VK) (E : XK), (A.deeper (envOfC qual scope s.heap.objs.size f cdv)).guards = some [] → Room k (A.deeper (envOfC qual scope s.heap.objs.size f cdv)) → sp vs H Q E →
      ∃ t, PSs (cxOf CX P w K mg base N qual scope f cdv A outer s H E) body t ∧ t { nx := fun _ H' => Q .non H', rt := Q } (L2.start N vs) H) : FnG P w K mg base CX (k + 1) f fd ps sp := by
  obtain ⟨oc, od, dV, kV, doc, pm, an, cdv, ct, osl, rfl, lk, hcd, _, _⟩ := F.ex
  refine ⟨len, fun A outer s H args us vs Q E hgd hr e0 hb r hsp => ?_⟩
  have many := len _ _ _ _ hsp
  have KX : K.In s.heap := e0.mod.kin.keeps fun b o e => (e0.bs b o e).1
  have free : s.heap.NoLimit := e0.mod.nolimit.keeps fun b o e => (e0.bs b o e).1
  have slots : ∀ y ∈ ps.zip us, scope.names.lookup y.1 = some .local ∨ (scope.names.lookup y.1 = some .cell ∧ ((cellsFrom (s.heap.objs.size + 1) scope.names []).lookup y.1).isSome = true) := by
    rintro ⟨n, v⟩ hy
    rcases S.par n (List.of_mem_zip hy).1 with q | q
    · exact .inl q
    · exact .inr ⟨q, PySem.W.cellsFrom_some _ _ _ (.inl q)⟩
  have bound := hb
  refine codeAny_call_function hr.depth (KX _ _ lk) rfl S.co S.gen rfl (PySem.W.codeRec_of KX hcd) (bound _ _ _ _ (wpAny_newFunctionEnv_cells S.kind slots fun env he s1 x => ?_))
  subst he
  obtain ⟨t, ht, hq⟩ := hbody cdv A outer s H vs Q E hgd (hr.deeper _) hsp
  have I0 : Inv (cxOf CX P w K mg base N qual scope f cdv A outer s H E) [] (L2.start N vs) H s1 := inv_start S hr.hd e0 many r x
  refine ⟨free.keeps x.toInCall.keep, codeAny_func (wpAny_mono (ht.run [] s1 (L2.start N vs) H _ I0 hq) (fun fl s' hs => ?_) fun e s' hs => hs)⟩
  have ends : ∀ {σ' : L2.St} {H' : Hp} {v : V} {u : Value}, Inv (cxOf CX P w K mg base N qual scope f cdv A outer s H E) [] σ' H' s' → RelV v u → Q v H' → CE outer P w H s Q u s' :=
    fun {σ' H' v u} J rv q => ⟨v, H', J.os, J.bare, J.base, J.hok, rv, q⟩
  cases fl with
  | ret u =>
    obtain ⟨v, σ', H', J, rv, q⟩ := hs
    exact ends J rv q
  | next =>
    obtain ⟨σ', H', J, q⟩ := hs
    exact ends (v := V.non) (u := Value.none) J rfl q
  | brk =>
    obtain ⟨_, _, _, q⟩ := hs
    exact False.elim q
  | cont =>
    obtain ⟨_, _, _, q⟩ := hs
    exact False.elim q
end
section
variable {X : Cx} {CX : CXT} {k : Nat} {f : Addr} {fd : FuncData} {ps : List Str} {sp : Sp} {dvs : List V} {ds : List Value} {E : XK} {x : Str} {p pos : Pos} {e : Expr} {es : List Expr} {t : TA}
/-- a call of such a def -/
theorem pe_callG (hgd : X.A.guards = some []) (F : FnG X.prog X.w X.K X.mg X.base CX k f fd ps sp) (hr : Room k X.A) (hg : Gl X x) (hm : X.mg x = some (.ref f)) (hk : PySem.W.keepIn X.K (.ref f) = true) (hb : Binds X.K fd ps ds) (hd : Vals dvs ds) (hx : Passes CX X E)
    (ha : PA X (e :: es) t) (hdb : (x == ("__debug__" : Str)) = false := by decide) (he : starEach (e :: es) X.env = (false, eval e X.env) :: starEach es X.env := by rfl) (hpl : (backTo pos (starEach es X.env)).any (·.1) = false := by rfl) :
    PE X (.Call (.Name x p) (e :: es) [] pos) (tCall sp dvs E t) := by
  refine ⟨fun pins s σ H Q I h => wpAny_Call_Name_kw (ld_glob I hg hm ?_ hdb)⟩
  refine PySem.W.callWith_K (h₀ := X.base) I.ok.mod.kin hk (thn (ha.run pos pins s σ H _ I h) fun us s1 ⟨vs, H1, I1, r, q⟩ => ⟨I1.kIn, ?_⟩) he hpl
  have rr : Vals (vs ++ dvs) (us ++ ds) := r.append hd
  have many : (us ++ ds).length = ps.length := by rw [← rr.length]; exact F.len _ _ _ _ q
  refine wpAny_call (codeAny_mono (F.go X.A X.stack s1 H1 ⟨us, []⟩ (us ++ ds) (vs ++ dvs) Q E hgd hr I1.env0 (hb s1 us I1.kIn many) rr q) fun r2 s2 hq => ?_)
  cases r2 with
  | error e => exact hx pins σ H1 s1 e s2 I1 hq
  | ok fl =>
    cases fl with
    | ret u => exact I1.after hq
    | next => exact False.elim hq
    | brk => exact False.elim hq
    | cont => exact False.elim hq
/-- repr of data -/
def rRepr (K : PySem.W.Frag) : List V → Hp → VK → Prop := fun xs H Q => ∃ (x : V) (d : PyData), xs = [x] ∧ Dp K H x d ∧ d.showable = true ∧ d.hasDict = false ∧ d.shown.length ≤ sizeLine ∧ d.depth ≤ 20 ∧ Q (.str d.shown) H
theorem call_repr (hgd : X.A.guards = some []) (hu : X.A.units + 65 < cLine) : CallR X (.builtin "repr") (rRepr X.K) := by
  intro pins s σ H xs us Q I r h
  obtain ⟨x, d, rfl, dp, sh, nd, sz, dz, q⟩ := h
  obtain ⟨u, rfl, rx⟩ := vals1 r
  cases dp with
  | non =>
    cases rx
    exact P.repr_of_none ⟨.str _, H, I.tok _, ⟨_, rfl⟩, by simpa only [PyData.shown] using q⟩
  | bl b =>
    cases rx
    exact P.repr_of_bool ⟨.str _, H, I.tok _, ⟨_, rfl⟩, by simpa only [PyData.shown] using q⟩
  | int i =>
    obtain ⟨t, rfl⟩ := rx
    exact P.repr_of_int (by simpa [PyData.showable] using sh) ⟨.str _, H, I.tok _, ⟨_, rfl⟩, by simpa only [PyData.shown] using q⟩
  | str y =>
    obtain ⟨t, rfl⟩ := rx
    exact P.repr_of_str ⟨.str _, H, I.tok _, ⟨_, rfl⟩, by simpa only [PyData.shown] using q⟩ (by simpa only [PyData.shown] using sz)
  | lst hs ha =>
    obtain ⟨as, rd⟩ := Dp.reads I _ _ _ (Dp.lst hs ha) rx
    cases rx
    exact repr_of_reads' rd sh (PyData.noDict_hsm nd) hgd (by omega) (fun _ _ z => z) (fun h2 t2 k2 kp => ⟨.str _, H, I.kept (t' := k2) kp, ⟨_, rfl⟩, q⟩) sz
  | tup hs ha =>
    obtain ⟨as, rd⟩ := Dp.reads I _ _ _ (Dp.tup hs ha) rx
    cases rx
    exact repr_of_reads' rd sh (PyData.noDict_hsm nd) hgd (by omega) (fun _ _ z => z) (fun h2 t2 k2 kp => ⟨.str _, H, I.kept (t' := k2) kp, ⟨_, rfl⟩, q⟩) sz
end
end J

set_option Elab.async false
set_option linter.all false
set_option maxRecDepth 100000
set_option maxHeartbeats 4000000
/-! J5: a law's end, its def's promise asked where no repr runs. -/
namespace J
open PySem PySem.Spec PyProof.Rows L2
section
variable {P : Program} {w : World} {K : PySem.W.Frag} {mg mb : Str → Option Value} {CX : CXT} {k : Nat} {fa a : Addr} {fd : FuncData} {x : Str} {sp : Sp} {s : Shared} {vs : List Value} {ns : List Int}
/-- from one abstract heap -/
theorem call_at {H : Hp} (KX : K.In s.heap) (hns : s.heap.Ns mainGlobals mg) (hb : s.heap.Ns builtinsNs mb) (hbb : ∀ x : Str, x ≠ "__name__" → mb x = bootBuiltins x) (hlim : s.heap.NoLimit) (hg : s.gens = #[])
    (ha : s.heap.get? a = some { cls := .type "list", data := .seq vs.toArray }) (hr : Room k callerA) (hbind : ∀ (s : Shared) (u : Value), BindsTo s fd ⟨[u], []⟩ [(x, u)])
    (F : ∀ base : Heap, K.In base → base.Ns mainGlobals mg → FnG P w K mg base CX k fa fd [x] sp) (hO : Only H) (ok : HOk P w H s.heap) (only : ∀ b, H b ≠ none → b = a) (hK : H a ≠ none → K.lookup a = none)
    (ask : sp [.ref a] H (fun v _ => v = .bl true) fun _ _ _ => False) (hCX : ∀ e z, CX [] H s (fun _ _ _ => False) e z → False) :
    codeAny (model P w) callerA (.call (.ref fa) ⟨[.ref a], []⟩) (fun r z => r = .ok (.ret (.bool true)) ∧ OldK s.heap z.heap ∧ z.os = s.os ∧ AllBare z.gens) s := by
  have untracked : ∀ b o, s.heap.get? b = some o → (b = a → H a = none) → (hidT s.heap H).get? b = some o := fun b o e n => hidT_get e (by
    cases q : H b with
    | none => rfl
    | some u =>
      have z : b = a := only b (by rw [q]; simp)
      have y := n z
      rw [← z, q] at y
      cases y)
  have dicts : ∀ {b : Addr} {o : Obj} {es : Array DictEntry} {ep : Nat}, s.heap.get? b = some o → o.data = .dict es ep → (hidT s.heap H).get? b = some o := fun {b o es ep} e d => untracked b o e (fun z => by
    rw [z, ha] at e
    cases e
    cases d)
  have spaces : ∀ {b : Addr} {m : Str → Option Value}, s.heap.Ns b m → (hidT s.heap H).Ns b m := fun {b m} ⟨o, es, ep, e, d, r⟩ => ⟨o, es, ep, dicts e d, d, r⟩
  have inB : K.In (hidT s.heap H) := fun b o e => untracked b o (KX b o e) (fun z => by
    cases q : H a with
    | none => rfl
    | some u =>
      have y := hK (by rw [q]; simp)
      rw [← z] at y
      rw [y] at e
      cases e)
  have hM : Mod K mg (hidT s.heap H) := ⟨inB, spaces hns, ⟨mb, spaces hb, hbb⟩, let ⟨mc, h1, h2⟩ := hlim; ⟨mc, spaces h1, h2⟩⟩
  have e0 : Env0 P w K mg (hidT s.heap H) callerA [] s H := ⟨rfl, hM, fun b o e => of_hidT e, Nat.le_of_eq (hidT_size _ _), trivial, fun b z => absurd (show b ∈ ([] : List Addr) from z) (by simp), ok, .of_eq hg⟩
  have run := (F _ inB (spaces hns)).go callerA [] s H ⟨[.ref a], []⟩ [.ref a] [.ref a] _ _ rfl hr e0 (hbind s (.ref a)) (.cons rfl .nil) ask
  refine codeAny_mono run fun r z h => ?_
  cases r with
  | error e => exact (hCX e z h).elim
  | ok fl =>
    cases fl with
    | next => exact False.elim h
    | brk => exact False.elim h
    | cont => exact False.elim h
    | ret u =>
      obtain ⟨v, H2, os, bare, un, ok2, rv, rfl⟩ := h
      obtain rfl : u = Value.bool true := rv
      refine ⟨rfl, OldK.of_keep fun b o e => ?_, os, bare⟩
      cases q : H b with
      | none => exact un.keep b o e q (by intro z; exact absurd (show b ∈ ([] : List Addr) from z) (by simp)) (by simp)
      | some u =>
        rcases hO b with z | ⟨ob, ys, z⟩
        · rw [q] at z
          cases z
        · obtain ⟨e1, _⟩ := ok b _ z
          obtain ⟨e2, _⟩ := ok2 b _ (un.frzs b ob _ z)
          rw [e] at e1
          cases e1
          exact e2
theorem call_law (KX : K.In s.heap) (hns : s.heap.Ns mainGlobals mg) (hb : s.heap.Ns builtinsNs mb) (hbb : ∀ x : Str, x ≠ "__name__" → mb x = bootBuiltins x) (hlim : s.heap.NoLimit) (hg : s.gens = #[])
    (ha : s.heap.get? a = some { cls := .type "list", data := .seq vs.toArray }) (hi : IntsAre vs ns) (hl : ns.length ≤ sizeLine) (hr : Room k callerA) (hbind : ∀ (s : Shared) (u : Value), BindsTo s fd ⟨[u], []⟩ [(x, u)])
    (F : ∀ base : Heap, K.In base → base.Ns mainGlobals mg → FnG P w K mg base CX k fa fd [x] sp)
    (ask : ∀ H : Hp, Only H → SqL K H a (ns.map V.int) → sp [.ref a] H (fun v _ => v = .bl true) fun _ _ _ => False) (hCX : ∀ H e z, CX [] H s (fun _ _ _ => False) e z → False) :
    codeAny (model P w) callerA (.call (.ref fa) ⟨[.ref a], []⟩) (fun r z => r = .ok (.ret (.bool true)) ∧ OldK s.heap z.heap ∧ z.os = s.os ∧ AllBare z.gens) s := by
  cases hk : K.lookup a with
  | some o =>
    have e := KX a o hk
    rw [ha] at e
    cases e
    have hO : Only (fun _ => none) := fun _ => .inl rfl
    refine call_at (H := fun _ => none) KX hns hb hbb hlim hg ha hr hbind F hO (fun b u z => nomatch (show (none : Option HO) = some u from z)) (fun b z => absurd rfl z) (fun z => absurd rfl z) (ask _ hO (.inr ⟨_, vs.toArray, _, hk, rfl, rfl, rfl, ?_, ?_⟩)) fun e z => hCX _ e z
    · rw [List.size_toArray, hi.length]
      exact hl
    · simpa using vals_ints hi
  | none =>
    let H1 : Hp := fun b => if b = a then some (.frz { cls := .type "list", data := .seq vs.toArray } (.lst (ns.map V.int))) else none
    have at1 : H1 a = some (.frz { cls := .type "list", data := .seq vs.toArray } (.lst (ns.map V.int))) := if_pos rfl
    have off : ∀ b, b ≠ a → H1 b = none := fun b h => if_neg h
    have hO : Only H1 := fun b => by
      by_cases h : b = a
      · exact .inr ⟨_, _, by rw [h]; exact at1⟩
      · exact .inl (off b h)
    refine call_at (H := H1) KX hns hb hbb hlim hg ha hr hbind F hO (fun b u z => ?_) (fun b z => ?_) (fun _ => hk) (ask _ hO (.inl (.inr ⟨_, at1⟩))) fun e z => hCX _ e z
    · by_cases h : b = a
      · subst h
        rw [at1] at z
        cases z
        exact ⟨ha, by rw [List.length_map]; exact hl, vs, _, vals_ints hi, ha⟩
      · rw [off b h] at z
        cases z
    · by_cases h : b = a
      · exact h
      · exact absurd (off b h) z
end
/-- the law's walk: a head by facts, the law's def by FnG -/
theorem walk_G {l : PySem.W.OpenLaw} {n k : Nat} {q : Program} {loose : List Str} {XP : (Str → Option Value) → Heap → Prop} {YP : World → Heap → Prop} {d : DefRec} {CX : CXT} {x : Str}
    (hn : l.most = some n) (hn2 : n ≤ sizeLine) (hdf : d.params.defaults = []) (hr : Room k callerA)
    (F : ∀ (w : World) (mg : Str → Option Value) (fa : Addr) (h : Heap), YP w h → h.Ns mainGlobals mg → mg d.name = some (.ref fa) →
      ∃ (K : PySem.W.Frag) (fd : FuncData) (sp : Sp), K.In h ∧ (∀ (s : Shared) (u : Value), BindsTo s fd ⟨[u], []⟩ [(x, u)]) ∧
        (∀ (H : Hp) (a : Addr) (ns : List Int), ns.length ≤ n → Only H → SqL K H a (ns.map V.int) → sp [.ref a] H (fun v _ => v = .bl true) fun _ _ _ => False) ∧
        ∀ base : Heap, K.In base → base.Ns mainGlobals mg → FnG l.prog w K mg base CX k fa fd [x] sp)
    (hCX : ∀ (H : Hp) (s : Shared) (e : Value) (z : Shared), CX [] H s (fun _ _ _ => False) e z → False) :
    PySem.W.WalkO q loose XP YP l.row.toRowW d [] (fun f vs => PySem.call f vs) := by
  refine Att.attach_call hn hdf fun w s₀ s₁ mg mb fa o pm cd doc a vs ns G Y ho hd hcd hmg hobj hints hlen hg => ?_
  obtain ⟨K, fd, sp, KX, hb, hsp, hF⟩ := F w mg fa _ Y G.T.g hmg
  refine call_law KX G.T.g G.T.b G.T.builtins G.T.nolimit hg hobj hints (Nat.le_trans hlen hn2) hr hb hF (fun H hO hS => ?_) (fun H e z => ?_)
  · exact hsp H a ns hlen hO hS
  · exact hCX H s₁ e z
end J

set_option Elab.async false
set_option linter.all false
set_option maxRecDepth 100000
set_option maxHeartbeats 4000000
/-! J6: calls in short, data, comprehensions. -/
namespace J
open PySem PySem.Spec PyProof.Rows L2 Evl

/-- a def of the module's, with its promise -/
structure Cal (P : Program) (w : World) (K : PySem.W.Frag) (mg : Str → Option Value) (base : Heap) (CX : CXT) (k : Nat) (x : Str) (ps : List Str) (sp : Sp) : Prop where
  ex : ∃ (f : Addr) (fd : FuncData), mg x = some (.ref f) ∧ PySem.W.keepIn K (.ref f) = true ∧ Binds K fd ps [] ∧ FnOk P w K mg base CX k f fd ps sp
structure CalG (P : Program) (w : World) (K : PySem.W.Frag) (mg : Str → Option Value) (base : Heap) (CX : CXT) (k : Nat) (x : Str) (ps : List Str) (sp : Sp) : Prop where
  ex : ∃ (f : Addr) (fd : FuncData), mg x = some (.ref f) ∧ PySem.W.keepIn K (.ref f) = true ∧ Binds K fd ps [] ∧ FnG P w K mg base CX k f fd ps sp
/-- an own exception class with its own __init__ -/
structure Mkr (P : Program) (w : World) (K : PySem.W.Frag) (mg : Str → Option Value) (base : Heap) (CX : CXT) (k : Nat) (x : Str) (C : Addr) (ps : List Str) (sp : Sp) : Prop where
  ex : ∃ (B nw ini : String) (bm : List Value) (f : Addr) (fd : FuncData), XC K B nw ini bm C ∧ PySem.W.findIn K (.ref C) "__init__" = some (some (.ref f)) ∧ PySem.W.typeIn K (.ref f) = some (.type "function") ∧
    mg x = some (.ref C) ∧ Binds K fd ps [] ∧ FnOk P w K mg base CX k f fd ps sp
/-- one without -/
structure Mk0 (K : PySem.W.Frag) (mg : Str → Option Value) (x : Str) (C : Addr) : Prop where
  ex : ∃ (B nw ini : String) (bm : List Value), XC K B nw ini bm C ∧ PySem.W.excIn K C bm nw = true ∧ mg x = some (.ref C)
theorem pss_no {X : Cx} {b : List Stmt} : PSs X b (fun _ _ _ => False) := ⟨fun _ _ _ _ _ _ h => h.elim⟩
theorem ps_no {X : Cx} {b : Stmt} : PS X b (fun _ _ _ => False) := ⟨fun _ _ _ _ _ _ h => h.elim⟩
section
variable {X : Cx} {CX : CXT} {k : Nat} {x : Str} {C : Addr} {ps : List Str} {sp : Sp} {E : XK} {p pos : Pos} {e : Expr} {es : List Expr} {t : TA}
theorem pe_cal (c : Cal X.prog X.w X.K X.mg X.base CX k x ps sp) (hr : Room k X.A) (hg : Gl X x) (hx : Passes CX X E) (ha : PA X (e :: es) t)
    (hdb : (x == ("__debug__" : Str)) = false := by decide) (he : starEach (e :: es) X.env = (false, eval e X.env) :: starEach es X.env := by rfl) (hpl : (backTo pos (starEach es X.env)).any (·.1) = false := by rfl) :
    PE X (.Call (.Name x p) (e :: es) [] pos) (tCall sp [] E t) := by
  obtain ⟨f, fd, hm, hk, hb, F⟩ := c.ex
  exact pe_call F hr hg hm hk hb .nil hx ha hdb he hpl
theorem pe_cal0 (c : Cal X.prog X.w X.K X.mg X.base CX k x ps sp) (hr : Room k X.A) (hg : Gl X x) (hx : Passes CX X E) (hdb : (x == ("__debug__" : Str)) = false := by decide) :
    PE X (.Call (.Name x p) [] [] pos) (tCall sp [] E tNil) := by
  obtain ⟨f, fd, hm, hk, hb, F⟩ := c.ex
  exact pe_call0 F hr hg hm hk hb .nil hx hdb
theorem pe_calG (hgd : X.A.guards = some []) (c : CalG X.prog X.w X.K X.mg X.base CX k x ps sp) (hr : Room k X.A) (hg : Gl X x) (hx : Passes CX X E) (ha : PA X (e :: es) t)
    (hdb : (x == ("__debug__" : Str)) = false := by decide) (he : starEach (e :: es) X.env = (false, eval e X.env) :: starEach es X.env := by rfl) (hpl : (backTo pos (starEach es X.env)).any (·.1) = false := by rfl) :
    PE X (.Call (.Name x p) (e :: es) [] pos) (tCall sp [] E t) := by
  obtain ⟨f, fd, hm, hk, hb, F⟩ := c.ex
  exact pe_callG hgd F hr hg hm hk hb .nil hx ha hdb he hpl
theorem pe_mkr (c : Mkr X.prog X.w X.K X.mg X.base CX k x C ps sp) (hr : Room (k + 1) X.A) (hg : Gl X x) (hx : Passes CX X E) (ha : PA X (e :: es) t)
    (hdb : (x == ("__debug__" : Str)) = false := by decide) (he : starEach (e :: es) X.env = (false, eval e X.env) :: starEach es X.env := by rfl) (hpl : (backTo pos (starEach es X.env)).any (·.1) = false := by rfl) :
    PE X (.Call (.Name x p) (e :: es) [] pos) (tXMk C sp [] E t) := by
  obtain ⟨B, nw, ini, bm, f, fd, T, iC, tI, hm, hb, F⟩ := c.ex
  exact pe_xmk T iC tI F hr hb .nil hx hg hm ha hdb he hpl
theorem pe_mk0 (c : Mk0 X.K X.mg x C) (hg : Gl X x) (hdb : (x == ("__debug__" : Str)) = false := by decide) : PE X (.Call (.Name x p) [] [] pos) (tX0 C) := by
  obtain ⟨B, nw, ini, bm, T, xc, gC⟩ := c.ex
  exact pe_x0 T xc gC hg hdb
/-- a text, many times -/
def rMulS : R2 := fun x y H Q => ∃ (z : Str) (n : Int), x = .str z ∧ y = .int n ∧ MulOk z n ∧ Q (.str (Txt.mul z n)) H
theorem op_mulS : OpR X (binaryOp .Mult) rMulS := by
  intro pins s σ H x y v u Q I rx ry h
  obtain ⟨z, n, rfl, rfl, ok, q⟩ := h
  obtain ⟨t, rfl⟩ := rx
  obtain ⟨t2, rfl⟩ := ry
  exact SB.mul ok fun t3 k => ⟨.str _, H, I.tok k, ⟨_, rfl⟩, q⟩
end

/-! ### data -/
section
variable {K : PySem.W.Frag} {H H' : Hp}
mutual
theorem dp_ext (e : Ex H H') : ∀ {v : V} {d : PyData}, Dp K H v d → Dp K H' v d
  | _, _, .non => .non
  | _, _, .bl b => .bl b
  | _, _, .int i => .int i
  | _, _, .str x => .str x
  | _, _, .lst h a => .lst (ex_l e h) (dpa_ext e a)
  | _, _, .tup h a => .tup (ex_t e h) (dpa_ext e a)
theorem dpa_ext (e : Ex H H') : ∀ {vs : List V} {ds : List PyData}, DpAll K H vs ds → DpAll K H' vs ds
  | _, _, .nil => .nil
  | _, _, .cons h r => .cons (dp_ext e h) (dpa_ext e r)
end
theorem dpa_len : ∀ {vs : List V} {ds : List PyData}, DpAll K H vs ds → vs.length = ds.length
  | _, _, .nil => rfl
  | _, _, .cons _ r => congrArg (· + 1) (dpa_len r)
theorem dpa_get : ∀ {vs : List V} {ds : List PyData} {i : Nat} {v : V}, DpAll K H vs ds → vs[i]? = some v → ∃ d, ds[i]? = some d ∧ Dp K H v d
  | _, _, i, v, .nil, h => by simp at h
  | _, _, 0, v, .cons h r, e => ⟨_, rfl, by simp at e; exact e ▸ h⟩
  | _, _, i + 1, v, .cons h r, e => by
    obtain ⟨d, h1, h2⟩ := dpa_get (i := i) r (by simpa using e)
    exact ⟨d, by simpa using h1, h2⟩
theorem dpa_of : ∀ {vs : List V} {ds : List PyData}, vs.length = ds.length → (∀ (i : Nat) v d, vs[i]? = some v → ds[i]? = some d → Dp K H v d) → DpAll K H vs ds
  | [], [], _, _ => .nil
  | [], _ :: _, h, _ => by simp at h
  | _ :: _, [], h, _ => by simp at h
  | v :: vs, d :: ds, h, f => .cons (f 0 v d rfl rfl) (dpa_of (by simpa using h) fun i v d h1 h2 => f (i + 1) v d (by simpa using h1) (by simpa using h2))
/-- data of so many stories, no container longer than a thousand -/
def Dn : Nat → PyData → Prop
  | _, .none => True
  | _, .bool _ => True
  | _, .int _ => True
  | _, .str _ => True
  | _, .dict _ => False
  | 0, _ => False
  | n + 1, .list ds => ds.length ≤ 1000 ∧ ∀ x ∈ ds, Dn n x
  | n + 1, .tuple ds => ds.length ≤ 1000 ∧ ∀ x ∈ ds, Dn n x
/-- what isinstance asks of data -/
theorem tyx_dp : ∀ {v : V} {d : PyData}, Dp K H v d → ∃ t : String, TyX K H v (.type t) ∧
    t = (match d with | .none => "NoneType" | .bool _ => "bool" | .int _ => "int" | .str _ => "str" | .list _ => "list" | .tuple _ => "tuple" | .dict _ => "dict")
  | _, _, .non => ⟨_, .base .non, rfl⟩
  | _, _, .bl b => ⟨_, .base (.bl b), rfl⟩
  | _, _, .int i => ⟨_, .base (.int i), rfl⟩
  | _, _, .str x => ⟨_, .base (.str x), rfl⟩
  | _, _, .lst h _ => ⟨"list", by
      rcases h with (h | ⟨o, h⟩) | h
      · exact .base (.lst h)
      · exact .base (.frz h)
      · obtain ⟨o, its, n, ho, hc, _⟩ := h
        exact .kList ho hc, rfl⟩
  | _, _, .tup h _ => ⟨"tuple", by
      rcases h with (h | ⟨o, h⟩) | h
      · exact .base (.tup h)
      · exact .fTuple h
      · obtain ⟨o, its, n, ho, hc, _⟩ := h
        exact .kTuple ho hc, rfl⟩
end

/-! ### comprehensions: each item to a value of which R is true -/
/-- whatever is made of it, by an extension of the heap, with Φ -/
def EvP (te : TE) (σ : L2.St) (H : Hp) (Φ : V → Hp → Prop) : Prop := ∀ H1, Ex H H1 → ∀ Q : VK, (∀ v H2, Ex H1 H2 → Φ v H2 → Q v H2) → te σ H1 Q
section
variable {K : PySem.W.Frag} {σ : L2.St} {H : Hp} {te : TE} {vs : List Nat} {j : Nat} {xs : List V} {a : Addr} (R : Nat → V → Hp → Prop)
/-- the list as it has grown -/
def Grown (H : Hp) (D : Addr) (n : Nat) (H2 : Hp) : Prop := H D = none ∧ Ex H H2 ∧ ∃ acc, H2 D = some (.lst acc) ∧ acc.length = n ∧ ∀ (i : Nat) y, acc[i]? = some y → R i y H2
theorem grown_step (mono : ∀ i y H H', Ex H H' → R i y H → R i y H') {D : Addr} {n : Nat} {H2 H3 : Hp} {y : V} (g : Grown R H D n H2) (hn : n < 50000) (e : Ex H2 H3) (r : R n y H3)
    (keep : ∀ i y (H4 : Hp) acc acc', H4 D = some (.lst acc) → R i y H4 → R i y (upd H4 D (.lst acc'))) :
    ∃ acc, H3 D = some (.lst acc) ∧ acc.length < sizeLine ∧ Grown R H D (n + 1) (upd H3 D (.lst (acc ++ [y]))) := by
  obtain ⟨h1, h2, acc, h3, h4, h5⟩ := g
  have h6 := e D _ h3
  refine ⟨acc, h6, sz_lt (by omega), h1, Ex.mut (h2.trans e) h1, acc ++ [y], upd_same, by rw [List.length_append, h4]; rfl, fun i z hz => ?_⟩
  by_cases hi : i < acc.length
  · rw [List.getElem?_append_left hi] at hz
    exact keep _ _ _ _ _ h6 (mono _ _ _ _ e (h5 i z hz))
  · have hi2 : i = acc.length := by
      have := (List.getElem?_eq_some_iff.mp hz).1
      rw [List.length_append] at this
      simp at this
      omega
    subst hi2
    rw [List.getElem?_append_right (Nat.le_refl _), Nat.sub_self] at hz
    simp at hz
    subst hz
    rw [h4]
    exact keep _ _ _ _ _ h6 r
end
end J

set_option Elab.async false
set_option linter.all false
set_option maxRecDepth 100000
set_option maxHeartbeats 4000000
/-! J7: data made anew, comprehensions over data. -/
namespace J
open PySem PySem.Spec PyProof.Rows L2 Evl
open Classical in
/-- of H what stands in B already, and what is new since H0 -/
noncomputable def rst (B H0 H : Hp) : Hp := fun b => if B b ≠ none ∨ H0 b = none then H b else none
theorem rst_in {B H0 H : Hp} {b : Addr} (h : B b ≠ none ∨ H0 b = none) : rst B H0 H b = H b := by
  unfold rst
  exact if_pos h
theorem rst_some {B H0 H : Hp} {b : Addr} {o : HO} (h : rst B H0 H b = some o) : (B b ≠ none ∨ H0 b = none) ∧ H b = some o := by
  unfold rst at h
  split at h
  · exact ⟨by assumption, h⟩
  · cases h
theorem rst_ex {B H0 H : Hp} : Ex (rst B H0 H) H := fun _ _ h => (rst_some h).2
theorem rst_base {B H0 H : Hp} (e : Ex B H) : Ex B (rst B H0 H) := fun b o h => by
  rw [rst_in (.inl (by rw [h]; simp))]
  exact e b o h
theorem rst_mono {B H0 H1 H2 H3 : Hp} (d : ∀ b, H1 b = none → H0 b = none) (e : ∀ b o, (B b ≠ none ∨ H0 b = none) → H2 b = some o → H3 b = some o) : Ex (rst B H1 H2) (rst B H0 H3) := fun b o h => by
  obtain ⟨h1, h2⟩ := rst_some h
  have h3 : B b ≠ none ∨ H0 b = none := h1.elim .inl fun z => .inr (d b z)
  rw [rst_in h3]
  exact e b o h3 h2
/-- data, put together of what stood in B and of what is new since H0 -/
def Dq (K : PySem.W.Frag) (B H0 H : Hp) (v : V) (d : PyData) : Prop := Dp K (rst B H0 H) v d
section
variable {K : PySem.W.Frag} {B H0 H H1 H2 H3 : Hp} {v : V} {d : PyData}
theorem Dq.dp (h : Dq K B H0 H v d) : Dp K H v d := dp_ext rst_ex h
theorem Dq.of (h : Dp K B v d) (e : Ex B H) : Dq K B H0 H v d := dp_ext (rst_base e) h
theorem Dq.mono (h : Dq K B H1 H2 v d) (d1 : ∀ b, H1 b = none → H0 b = none) (e : ∀ b o, (B b ≠ none ∨ H0 b = none) → H2 b = some o → H3 b = some o) : Dq K B H0 H3 v d := dp_ext (rst_mono d1 e) h
theorem Dq.ext (h : Dq K B H0 H v d) (e : Ex H H1) : Dq K B H0 H1 v d := h.mono (fun _ z => z) fun b o _ z => e b o z
theorem ex_dom (e : Ex H H1) : ∀ b, H1 b = none → H b = none := fun _ z => fresh_back e z
end
section
variable {K : PySem.W.Frag} {σ : L2.St} {te : TE} {vs : List Nat} {j : Nat} {xs : List V} {ds : List PyData} {a : Addr}
/-- the invariant of such a comprehension: B below, H ahead, D the list -/
def Lg (K : PySem.W.Frag) (ds : List PyData) (B H : Hp) (D : Addr) (n : Nat) (H2 : Hp) : Prop :=
  H D = none ∧ Ex H H2 ∧ ∃ acc, H2 D = some (.lst acc) ∧ acc.length = n ∧ ∀ (i : Nat) y d, acc[i]? = some y → ds[i]? = some d → Dq K B (upd H D (.lst [])) H2 y d
theorem lg_start {B H : Hp} {D : Addr} (hD : H D = none) : Lg K ds B H D 0 (upd H D (.lst [])) := ⟨hD, Ex.new hD, [], upd_same, rfl, fun i y d h => by simp at h⟩
theorem lg_step {B H H2 H3 : Hp} {D : Addr} {n : Nat} {y : V} {d : PyData} (eB : Ex B H) (g : Lg K ds B H D n H2) (hn : n < 50000) (e : Ex H2 H3) (hd : ds[n]? = some d) (r : Dq K B H2 H3 y d) :
    ∃ acc, H3 D = some (.lst acc) ∧ acc.length < sizeLine ∧ Lg K ds B H D (n + 1) (upd H3 D (.lst (acc ++ [y]))) := by
  obtain ⟨h1, h2, acc, h3, h4, h5⟩ := g
  have h6 := e D _ h3
  have off : ∀ b o, (B b ≠ none ∨ upd H D (.lst []) b = none) → H3 b = some o → upd H3 D (.lst (acc ++ [y])) b = some o := fun b o hb z => by
    have hbD : b ≠ D := fun q => by
      subst q
      rcases hb with hb | hb
      · cases hB : B b with
        | none => exact hb hB
        | some o2 =>
          have := eB b o2 hB
          rw [h1] at this
          cases this
      · rw [upd_same] at hb
        cases hb
    rw [upd_ne hbD]
    exact z
  have dom2 : ∀ b, H2 b = none → upd H D (.lst []) b = none := fun b z => by
    by_cases hb : b = D
    · subst hb
      rw [h3] at z
      cases z
    · rw [upd_ne hb]
      exact fresh_back h2 z
  refine ⟨acc, h6, sz_lt (by omega), h1, Ex.mut (h2.trans e) h1, acc ++ [y], upd_same, by rw [List.length_append, h4]; rfl, fun i z d2 hz hd2 => ?_⟩
  by_cases hi : i < acc.length
  · rw [List.getElem?_append_left hi] at hz
    exact (h5 i z d2 hz hd2).mono (fun b q => q) fun b o hb q => off b o hb (e b o q)
  · have hi2 : i = acc.length := by
      have := (List.getElem?_eq_some_iff.mp hz).1
      rw [List.length_append] at this
      simp at this
      omega
    subst hi2
    rw [List.getElem?_append_right (Nat.le_refl _), Nat.sub_self] at hz
    simp at hz
    subst hz
    rw [h4, hd] at hd2
    cases hd2
    exact r.mono dom2 off
/-- what the whole list is -/
theorem lg_end {B H H2 : Hp} {D : Addr} (eB : Ex B H) (g : Lg K ds B H D ds.length H2) : ∃ ys, H2 D = some (.lst ys) ∧ DpAll K (rst B H H2) ys ds := by
  obtain ⟨h1, h2, acc, h3, h4, h5⟩ := g
  refine ⟨acc, h3, dpa_of h4 fun i v d hv hd => (h5 i v d hv hd).mono (fun b z => ?_) fun b o _ z => z⟩
  by_cases hb : b = D
  · rw [hb]
    exact h1
  · rw [upd_ne hb] at z
    exact z
/-- an element's promise -/
def ElP (K : PySem.W.Frag) (xs : List V) (ds : List PyData) (B : Hp) (te : TE) (σ : L2.St) (vs : List Nat) (j : Nat) : Prop :=
  ∀ (i : Nat) (x : V) (d : PyData) (H1 : Hp), xs[i]? = some x → ds[i]? = some d → Dp K B x d → Ex B H1 → ∀ Q : VK, (∀ y H2, Ex H1 H2 → Dq K B H1 H2 y d → Q y H2) → te ((wipe σ vs).set j (some x)) H1 Q
theorem lc_dq {B H : Hp} {tl : TE} {Q : VK} (eB : Ex B H) (hv : ∀ H1, Ex H H1 → ∀ Q : VK, (∀ H2, Ex H1 H2 → Q (.ref a) H2) → tl σ H1 Q) (hx : SqL K B a xs) (hd : DpAll K B xs ds) (hz : xs.length ≤ 1000) (hw : ∀ x, wipe ((wipe σ vs).set j (some x)) vs = wipe σ vs)
    (el : ElP K xs ds B te σ vs j) (k : ∀ p H2 ys, H p = none → Ex H H2 → H2 p = some (.lst ys) → DpAll K (rst B H H2) ys ds → Q (.ref p) H2) : tLc (iList K tl) (gName j) tYes te vs σ H Q :=
  hv H (Ex.refl H) _ fun H0 e0 => ⟨a, rfl, ⟨xs, ex_l (eB.trans e0) hx⟩, fun D hD => by
    have len := dpa_len hd
    refine lc_list (xs := xs) (Lg K ds B H0 D) (lg_start hD) (fun i H2 _ g => ex_l ((eB.trans e0).trans g.2.1) hx) (fun i x H2 hi g => ⟨hw x, ?_⟩) (fun H2 g => ?_)
    · have hil := (List.getElem?_eq_some_iff.mp hi).1
      obtain ⟨d, h1, h2⟩ := dpa_get hd hi
      show te _ H2 _
      refine el i x d H2 hi h1 h2 ((eB.trans e0).trans g.2.1) _ fun y H3 e3 dq => ?_
      exact lg_step (eB.trans e0) g (by omega) e3 h1 dq
    · rw [len] at g
      obtain ⟨ys, h1, h2⟩ := lg_end (eB.trans e0) g
      exact k D H2 ys (fresh_back e0 hD) (e0.trans g.2.1) h1 (dpa_ext (rst_mono (fun b z => fresh_back e0 z) fun b o _ z => z) h2)⟩
theorem lc_dqT {B H : Hp} {tl : TE} {Q : VK} (eB : Ex B H) (hv : ∀ H1, Ex H H1 → ∀ Q : VK, (∀ H2, Ex H1 H2 → Q (.ref a) H2) → tl σ H1 Q) (hx : SqT K B a xs) (hd : DpAll K B xs ds) (hz : xs.length ≤ 1000) (hw : ∀ x, wipe ((wipe σ vs).set j (some x)) vs = wipe σ vs)
    (el : ElP K xs ds B te σ vs j) (k : ∀ p H2 ys, H p = none → Ex H H2 → H2 p = some (.lst ys) → DpAll K (rst B H H2) ys ds → Q (.ref p) H2) : tLc (iTup K tl) (gName j) tYes te vs σ H Q :=
  hv H (Ex.refl H) _ fun H0 e0 => ⟨a, rfl, ⟨xs, ex_t (eB.trans e0) hx⟩, fun D hD => by
    have len := dpa_len hd
    refine lc_tup (xs := xs) (Lg K ds B H0 D) (lg_start hD) (fun i H2 _ g => ex_t ((eB.trans e0).trans g.2.1) hx) (fun i x H2 hi g => ⟨hw x, ?_⟩) (fun H2 g => ?_)
    · have hil := (List.getElem?_eq_some_iff.mp hi).1
      obtain ⟨d, h1, h2⟩ := dpa_get hd hi
      show te _ H2 _
      refine el i x d H2 hi h1 h2 ((eB.trans e0).trans g.2.1) _ fun y H3 e3 dq => ?_
      exact lg_step (eB.trans e0) g (by omega) e3 h1 dq
    · rw [len] at g
      obtain ⟨ys, h1, h2⟩ := lg_end (eB.trans e0) g
      exact k D H2 ys (fresh_back e0 hD) (e0.trans g.2.1) h1 (dpa_ext (rst_mono (fun b z => fresh_back e0 z) fun b o _ z => z) h2)⟩
end
end J

set_option Elab.async false
set_option linter.all false
set_option maxRecDepth 100000
set_option maxHeartbeats 4000000
/-! J8: more of what readings evaluate to; a law's pen. -/
namespace J
open PySem PySem.Spec PyProof.Rows L2 Evl
section
variable {K : PySem.W.Frag} {σ : L2.St} {H : Hp} {ta tb : TE}
theorem rc_int {i : Int} : RC (fun xs H Q => (∃ i, xs = [.int i] ∧ Q (.int i) H) ∨ ∃ k, xs = [.bl k] ∧ Q (.int (if k then 1 else 0)) H) [.int i] H (.int i) := fun H1 _ _ q => .inl ⟨i, rfl, q H1 (Ex.refl H1)⟩
theorem rc_len {p : Addr} {ys : List V} (h : SqL K H p ys ∨ SqT K H p ys) : RC (fun xs H Q => ∃ p ys, xs = [.ref p] ∧ (SqL K H p ys ∨ SqT K H p ys) ∧ Q (.int ys.length) H) [.ref p] H (.int ys.length) :=
  fun H1 e _ q => ⟨p, ys, rfl, h.elim (fun z => .inl (ex_l e z)) (fun z => .inr (ex_t e z)), q H1 (Ex.refl H1)⟩
/-- leaves: no containers -/
def leaf : PyData → Bool
  | .none | .bool _ | .int _ => true
  | _ => false
theorem lay_leaf : ∀ {d : PyData}, leaf d = true → d.canLay0 = true ∧ d.depth = 0
  | .none, _ => by simp [PyData.canLay0, PyData.depth]
  | .bool _, _ => by simp [PyData.canLay0, PyData.depth]
  | .int _, _ => by simp [PyData.canLay0, PyData.depth]
  | .str _, h => by simp [leaf] at h
  | .list _, h => by simp [leaf] at h
  | .tuple _, h => by simp [leaf] at h
  | .dict _, h => by simp [leaf] at h
theorem lay_leaves : ∀ {ds : List PyData}, ds.all leaf = true → PyData.canLayAll0 ds = true ∧ PyData.depthAll ds ≤ 1
  | [], _ => by simp [PyData.canLayAll0, PyData.depthAll]
  | d :: ds, h => by
    rw [List.all_cons, Bool.and_eq_true] at h
    obtain ⟨h1, h2⟩ := lay_leaf h.1
    obtain ⟨h3, h4⟩ := lay_leaves h.2
    constructor
    · simp [PyData.canLayAll0, h1, h3]
    · simp only [PyData.depthAll]
      omega
theorem shaped_leaves {ds : List PyData} (h : ds.all leaf = true) : SeqAt.shaped (.list ds) = true := by
  obtain ⟨h1, h2⟩ := lay_leaves h
  unfold SeqAt.shaped
  rw [Bool.and_eq_true]
  refine ⟨by simpa [PyData.canLay0] using h1, decide_eq_true ?_⟩
  simp only [PyData.depth]
  omega
theorem eqv_bools : ∀ (xs ys : List Bool), PyData.eqvAll (xs.map .bool) (ys.map .bool) = decide (xs = ys)
  | [], [] => rfl
  | [], _ :: _ => rfl
  | _ :: _, [] => rfl
  | x :: xs, y :: ys => by
    simp only [List.map_cons, PyData.eqvAll, PyData.eqv, eqv_bools xs ys, List.cons.injEq]
    by_cases h : x = y <;> by_cases h2 : xs = ys <;> simp [h, h2]
theorem dpa_ints : ∀ ns : List Int, DpAll K H (ns.map V.int) (ns.map .int)
  | [] => .nil
  | n :: ns => .cons (.int n) (dpa_ints ns)
theorem dpa_bools : ∀ ns : List Bool, DpAll K H (ns.map V.bl) (ns.map .bool)
  | [] => .nil
  | n :: ns => .cons (.bl n) (dpa_bools ns)
/-- != of data, the right side a new list -/
theorem ev_neL {x : V} {d e : PyData} {ys : List V} {es : List PyData} (ha : Ev ta σ H x) (hd : Dp K H x d) (hb : EvL tb σ H ys) (hy : DpAll K H ys es) (s1 : SeqAt.shaped d = true) (s2 : SeqAt.shaped (.list es) = true) :
    Ev (tOp (rNeD K) ta tb) σ H (.bl (!PyData.eqv d (.list es))) :=
  ev_opL ha hb fun p H1 hp e => fun H2 e2 Q q => ⟨d, .list es, dp_ext (e.trans e2) hd, .lst (sq_of (e2 p _ hp)) (dpa_ext (e.trans e2) hy), s1, s2, q H2 (Ex.refl H2)⟩
end
/-! ### a law's pen: its cells, the place, what is left -/
def But (p : Addr) (H H' : Hp) : Prop := ∀ b o, b ≠ p → H b = some o → H' b = some o
theorem But.trans {p : Addr} {H H1 H2 : Hp} (a : But p H H1) (b : But p H1 H2) : But p H H2 := fun c o h z => b c o h (a c o h z)
theorem But.of {p : Addr} {H H1 : Hp} (e : Ex H H1) : But p H H1 := fun c o _ z => e c o z
theorem But.upd {p : Addr} {H : Hp} {o : HO} : But p H (upd H p o) := fun c q h z => by rw [upd_ne h]; exact z
/-- the heap that the pen is no part of goes on -/
theorem But.ex {p : Addr} {B H H1 : Hp} (a : But p H H1) (e : Ex B H) (h : B p = none) : Ex B H1 := fun c o z => a c o (ne_of_none z h) (e c o z)
def Pen (H : Hp) (p : Addr) (m : Nat) : Prop := ∃ (c : Addr) (ns : List Int) (i v : Int), H p = some (.lst [.ref c, .int i, .int v]) ∧ H c = some (.lst (ns.map V.int)) ∧ c ≠ p ∧ ns.length ≤ 60 ∧ 0 ≤ i ∧ i ≤ (m : Int)
theorem Pen.ext {H H' : Hp} {p : Addr} {m : Nat} (h : Pen H p m) (e : Ex H H') : Pen H' p m := by
  obtain ⟨c, ns, i, v, h1, h2, h3⟩ := h
  exact ⟨c, ns, i, v, e _ _ h1, e _ _ h2, h3⟩
def spPen (K : PySem.W.Frag) : Sp := fun vs H Q _ => ∃ (a : Addr) (ns : List Int), vs = [.ref a] ∧ SqL K H a (ns.map V.int) ∧ ∀ p H', H p = none → Ex H H' → Pen H' p 0 → Q (.ref p) H'
def spNext : Sp := fun vs H Q _ => ∃ (p c : Addr) (ns : List Int) (i v : Int), vs = [.ref p] ∧ H p = some (.lst [.ref c, .int i, .int v]) ∧ H c = some (.lst (ns.map V.int)) ∧ c ≠ p ∧ ns.length ≤ 60 ∧ 0 ≤ i ∧ i ≤ 1000000 ∧
  ∀ (r : Int) H', But p H H' → H' p = some (.lst [.ref c, .int (i + 1), .int v]) → Q (.int r) H'
def spDraw : Sp := fun vs H Q _ => ∃ (p : Addr) (u : Int) (m : Nat), vs = [.ref p, .int u] ∧ 1 ≤ u ∧ u ≤ 100000 ∧ Pen H p m ∧ m ≤ 1000000 ∧
  ∀ (d : Int) H', But p H H' → Pen H' p (m + 1) → 0 ≤ d → d < u → Q (.int d) H'
end J

set_option Elab.async false
set_option linter.all false
set_option maxRecDepth 100000
set_option maxHeartbeats 4000000
namespace K13
open PySem PySem.Spec PyProof.Rows L2 Evl J
def topS (i : Nat) : Stmt := PySem.Challenge.pw_neargrades_k13_errors.main.body.getD i (.Pass ⟨0, 0, 0, 0⟩)
abbrev sKept : Stmt := topS 1
abbrev sRow : Stmt := topS 2
/-- a def of the top's, without defaults -/
abbrev FnP (K : PySem.W.Frag) (x : Str) (st : Stmt) (f : Addr) (fd : FuncData) : Prop := FunD K x x (defArgs st) (defBody st) (defScope st) [] [] f fd
/-- the names that the module leaves to Python -/
structure Bl (mg : Str → Option Value) : Prop where
  isi : mg "isinstance" = none
  lst : mg "list" = none
  tup : mg "tuple" = none
  dic : mg "dict" = none
def spKept (K : PySem.W.Frag) (n : Nat) : Sp := fun vs H Q _ => ∃ (v : V) (d : PyData) (B : Hp), vs = [v] ∧ Dn n d ∧ Dp K B v d ∧ Ex B H ∧ ∀ v' H', Ex H H' → Dq K B H H' v' d → Q v' H'
def spRow (K : PySem.W.Frag) (n : Nat) : Sp := fun vs H Q _ => ∃ (a : Addr) (xs : List V) (ds : List PyData) (B : Hp), vs = [.ref a] ∧ (SqL K B a xs ∨ SqT K B a xs) ∧ DpAll K B xs ds ∧ ds.length ≤ 1000 ∧ (∀ x ∈ ds, Dn n x) ∧ Ex B H ∧
  ∀ p H', H p = none → Ex H H' → Dq K B H H' (.ref p) (.tuple ds) → Q (.ref p) H'
section
variable {P : Program} {w : World} {K : PySem.W.Frag} {mg : Str → Option Value} {base : Heap} {f : Addr} {fd : FuncData}
theorem scRow : FnScope ["values", "value"] ["values"] (defScope sRow) := ⟨rfl, rfl, rfl, by decide +kernel, rfl, by decide +kernel, by decide +kernel⟩
theorem ok_row {n k : Nat} (F : FnP K "_kept_row" sRow f fd) (T : Bl mg) (c : Cal P w K mg base CX0 k "_kept" ["value"] (spKept K n)) : FnOk P w K mg base CX0 (k + 1) f fd ["values"] (spRow K n) := by
  refine F.ok scRow (fun vs H Q E h => ?_) (fun cdv A outer s H vs Q E hr h => ?_)
  · obtain ⟨a, xs, ds, B, rfl, _⟩ := h
    rfl
  · obtain ⟨a, xs, ds, B, rfl, hs, hd, hz, hn, eB, q⟩ := h
    have len := dpa_len hd
    have el : ElP K xs ds B (tCall (spKept K n) [] E0 (tCons (tVar 1) tNil)) (L2.start ["values", "value"] [.ref a]) [1] 1 := by
      intro i x d H1 hi hdi dp e1 Q1 k1
      refine ⟨x, rfl, x, d, B, rfl, hn d (List.mem_of_getElem? hdi), dp, e1, fun v' H' e2 dq => k1 v' H' e2 dq⟩
    have fin : ∀ p H2 ys, H p = none → Ex H H2 → H2 p = some (.lst ys) → DpAll K (rst B H H2) ys ds → kTup K (.ref p) H2 fun v H' => Q v H' := fun p H2 ys hp e2 h2 da =>
      .inl ⟨p, ys, rfl, sq_of h2, fun q1 hq => by
        have hq0 : H q1 = none := fresh_back e2 hq
        have e3 : Ex H (upd H2 q1 (.tup ys)) := e2.trans (Ex.new hq)
        refine q q1 _ hq0 e3 (Dp.tup (xs := ys) (st_of ?_) (dpa_ext (rst_mono (fun b z => z) fun b o _ z => (Ex.new hq) b o z) da))
        rw [rst_in (.inr hq0), upd_same]⟩
    rcases hs with hs | hs
    · refine ⟨_, pss_one (ps_ret (pe_tupleOf rfl T.tup (pe_lc (own := [("value", 1)]) (g := gName 1) (tt := tYes) rfl scRow.nd (pi_list (pv 0)) (blkOk_by (N := ["values", "value"]) (sc := defScope sRow) (by decide +kernel))
        (fun _ _ _ _ _ => pg_name (i := 1) scRow.nd rfl (Or.inl rfl)) (fun _ _ _ _ _ => pts_nil) (fun _ _ _ _ _ => pe_cal c hr rfl pass0 (pa_cons (pv 1) pa_nil))))), ?_⟩
      exact lc_dq (Q := fun x H1 => kTup K x H1 Q) eB (fun H1 _ Q k => ⟨_, rfl, k H1 (Ex.refl _)⟩) hs hd (by omega) (fun x => rfl) el fin
    · refine ⟨_, pss_one (ps_ret (pe_tupleOf rfl T.tup (pe_lc (own := [("value", 1)]) (g := gName 1) (tt := tYes) rfl scRow.nd (pi_tup (pv 0)) (blkOk_by (N := ["values", "value"]) (sc := defScope sRow) (by decide +kernel))
        (fun _ _ _ _ _ => pg_name (i := 1) scRow.nd rfl (Or.inl rfl)) (fun _ _ _ _ _ => pts_nil) (fun _ _ _ _ _ => pe_cal c hr rfl pass0 (pa_cons (pv 1) pa_nil))))), ?_⟩
      exact lc_dqT (Q := fun x H1 => kTup K x H1 Q) eB (fun H1 _ Q k => ⟨_, rfl, k H1 (Ex.refl _)⟩) hs hd (by omega) (fun x => rfl) el fin
abbrev NK : List Str := ["value", "part"]
theorem scKept : FnScope NK ["value"] (defScope sKept) := ⟨rfl, rfl, rfl, by decide +kernel, rfl, by decide +kernel, by decide +kernel⟩
/-- isinstance(value, T) where value is in slot 0 -/
theorem isi0 {X : Cx} {x : Str} {u : String} {p1 p2 p3 pos : Pos} (h0 : X.N[0]? = some ("value" : Str)) (hv : Vis X.env.scope "value") (g1 : Gl X "isinstance") (m1 : X.mg "isinstance" = none) (g2 : Gl X x) (m2 : X.mg x = none) (b2 : bootBuiltins x = some (.type u))
    (hn : x ≠ "__name__") (hd : (x == ("__debug__" : Str)) = false)
    (he : ∀ whole, isTrue (.Call (.Name "isinstance" p1) [.Name "value" p2, .Name x p3] [] pos) X.env whole = (do let v ← whole; standAt (Expr.Call (.Name "isinstance" p1) [.Name "value" p2, .Name x p3] [] pos).pos; holding [v] (truthy v)) := by intro _; rfl)
    (hs : starEach [.Name "value" p2, .Name x p3] X.env = (false, eval (.Name "value" p2) X.env) :: starEach [.Name x p3] X.env := by rfl) :
    PT X (.Call (.Name "isinstance" p1) [.Name "value" p2, .Name x p3] [] pos) (tB (tCB (rIsi X.K) (tCons (tVar 0) (tCons (tC (.ty u)) tNil)))) :=
  pt_val (pe_callB call_isi g1 m1 boot_isinstance (pa_cons (pe_var h0 hv) (pa_cons (pe_bltn g2 m2 b2 rfl hn hd) pa_nil))) he
theorem isi_ask {σ : L2.St} {H : Hp} {v : V} {t u : String} {b : Bool} {Q : Bool → Hp → Prop} (h0 : σ[0]? = some (some v)) (ty : TyX K H v (.type t)) (kb : kitB t u = some b) (q : Q b H) :
    tB (tCB (rIsi K) (tCons (tVar 0) (tCons (tC (.ty u)) tNil))) σ H Q :=
  ⟨v, h0, v, .ty u, .type t, .type u, b, rfl, .ty u, ty, kit_ty kb, b, rfl, q⟩
theorem ok_leaf {v : V} {t : String} {H : Hp} {Q : VK} {A : Around} {outer : List Env} {s : Shared} {cdv : Value} {E : XK} (T : Bl mg) (ty : ∀ H', Ex H H' → TyX K H' v (.type t))
    (k1 : kitB t "list" = some false) (k2 : kitB t "tuple" = some false) (k3 : kitB t "dict" = some false) (q : Q v H) :
    ∃ tt, PSs (cxOf CX0 P w K mg base NK "_kept" (defScope sKept) f cdv A outer s H E) (defBody sKept) tt ∧ tt { nx := fun _ H' => Q .non H', rt := Q } (L2.start NK [v]) H := by
  refine ⟨_, pss_cons (ps_if (isi0 rfl (Or.inl rfl) rfl T.isi rfl T.lst Boot.«list» (by decide) (by decide)) pss_no pss_nil)
    (pss_cons (ps_if (isi0 rfl (Or.inl rfl) rfl T.isi rfl T.tup Boot.«tuple» (by decide) (by decide)) pss_no pss_nil)
    (pss_cons (ps_if (isi0 rfl (Or.inl rfl) rfl T.isi rfl T.dic Boot.«dict» (by decide) (by decide)) pss_no pss_nil) (pss_one (ps_ret (pv 0))))), ?_⟩
  refine isi_ask rfl (ty H (Ex.refl _)) k1 (iteF ?_)
  refine isi_ask rfl (ty H (Ex.refl _)) k2 (iteF ?_)
  refine isi_ask rfl (ty H (Ex.refl _)) k3 (iteF ?_)
  exact ⟨v, rfl, q⟩
/-- isinstance: what the test of the body's first two rows is -/
theorem ok_kept {n k : Nat} (F : FnP K "_kept" sKept f fd) (T : Bl mg) (c : ∀ m, n = m + 1 → Cal P w K mg base CX0 k "_kept" ["value"] (spKept K m)) (cr : ∀ m, n = m + 1 → Cal P w K mg base CX0 k "_kept_row" ["values"] (spRow K m)) :
    FnOk P w K mg base CX0 (k + 1) f fd ["value"] (spKept K n) := by
  refine F.ok scKept (fun vs H Q E h => ?_) (fun cdv A outer s H vs Q E hr h => ?_)
  · obtain ⟨v, d, B, rfl, _⟩ := h
    rfl
  · obtain ⟨v, d, B, rfl, hn, dp, eB, q⟩ := h
    obtain ⟨t, ty, te⟩ := tyx_dp (dp_ext eB dp)
    have tyE : ∀ H', Ex H H' → TyX K H' v (.type t) := fun H' e => by
      obtain ⟨t2, ty2, te2⟩ := tyx_dp (dp_ext (eB.trans e) dp)
      rw [te, ← te2]
      exact ty2
    have back : Q v H := q v H (Ex.refl H) (Dq.of dp eB)
    cases dp with
    | non =>
      dsimp only at te
      subst te
      exact ok_leaf T tyE (by decide +kernel) (by decide +kernel) (by decide +kernel) back
    | bl b =>
      dsimp only at te
      subst te
      exact ok_leaf T tyE (by decide +kernel) (by decide +kernel) (by decide +kernel) back
    | int i =>
      dsimp only at te
      subst te
      exact ok_leaf T tyE (by decide +kernel) (by decide +kernel) (by decide +kernel) back
    | str x =>
      dsimp only at te
      subst te
      exact ok_leaf T tyE (by decide +kernel) (by decide +kernel) (by decide +kernel) back
    | @lst a xs ds hs ha =>
      cases n with
      | zero => exact False.elim hn
      | succ m =>
        obtain ⟨hz, hi⟩ := hn
        dsimp only at te
        subst te
        have len := dpa_len ha
        have hc := c m rfl
        refine ⟨_, pss_cons (ps_if (isi0 rfl (Or.inl rfl) rfl T.isi rfl T.lst Boot.«list» (by decide) (by decide)) (pss_one (ps_ret (pe_lc (own := [("part", 1)]) (g := gName 1) (tt := tYes) rfl scKept.nd (pi_list (pv 0)) (blkOk_by (N := NK) (sc := defScope sKept) (by decide +kernel))
          (fun _ _ _ _ _ => pg_name (i := 1) scKept.nd rfl (Or.inl rfl)) (fun _ _ _ _ _ => pts_nil) (fun _ _ _ _ _ => pe_cal hc hr rfl pass0 (pa_cons (pv 1) pa_nil))))) pss_nil) pss_no, ?_⟩
        refine isi_ask rfl ty (by decide +kernel) (iteT ?_)
        have el : ElP K xs ds B (tCall (spKept K m) [] E0 (tCons (tVar 1) tNil)) (L2.start NK [.ref a]) [1] 1 := by
          intro i x d H1 hi1 hdi dp e1 Q1 k1
          exact ⟨x, rfl, x, d, B, rfl, hi d (List.mem_of_getElem? hdi), dp, e1, fun v' H' e2 dq => k1 v' H' e2 dq⟩
        exact lc_dq (Q := Q) eB (fun H1 _ Q k => ⟨_, rfl, k H1 (Ex.refl _)⟩) hs ha (by omega) (fun x => rfl) el fun p H2 ys hp e2 h2 da => q (.ref p) H2 e2 (Dp.lst (xs := ys) (sq_of (by rw [rst_in (.inr hp)]; exact h2)) da)
    | @tup a xs ds hs ha =>
      cases n with
      | zero => exact False.elim hn
      | succ m =>
        obtain ⟨hz, hi⟩ := hn
        dsimp only at te
        subst te
        have hc := cr m rfl
        refine ⟨_, pss_cons (ps_if (isi0 rfl (Or.inl rfl) rfl T.isi rfl T.lst Boot.«list» (by decide) (by decide)) pss_no pss_nil)
          (pss_cons (ps_if (isi0 rfl (Or.inl rfl) rfl T.isi rfl T.tup Boot.«tuple» (by decide) (by decide)) (pss_one (ps_ret (pe_cal hc hr rfl pass0 (pa_cons (pv 0) pa_nil)))) pss_nil) pss_no), ?_⟩
        refine isi_ask rfl ty (by decide +kernel) (iteF ?_)
        refine isi_ask rfl ty (by decide +kernel) (iteT ?_)
        exact ⟨_, rfl, a, xs, ds, B, rfl, .inr hs, ha, hz, hi, eB, fun p H' hp e dq => q (.ref p) H' e dq⟩
/-- both, by the depth -/
theorem cal_kept {fR : Addr} {fdR : FuncData} (F : FnP K "_kept" sKept f fd) (FR : FnP K "_kept_row" sRow fR fdR) (T : Bl mg) (g : mg "_kept" = some (.ref f)) (gR : mg "_kept_row" = some (.ref fR)) :
    ∀ n, Cal P w K mg base CX0 (2 * n + 1) "_kept" ["value"] (spKept K n) ∧ Cal P w K mg base CX0 (2 * n + 2) "_kept_row" ["values"] (spRow K n) := by
  have b : Binds K fd ["value"] [] := FunD.bindsN F fun _ _ _ _ _ _ us hl => match us, hl with | [_], _ => rfl
  have bR : Binds K fdR ["values"] [] := FunD.bindsN FR fun _ _ _ _ _ _ us hl => match us, hl with | [_], _ => rfl
  intro n
  induction n with
  | zero =>
    have c1 : Cal P w K mg base CX0 1 "_kept" ["value"] (spKept K 0) := ⟨_, _, g, F.kp, b, ok_kept (k := 0) F T (fun m h => nomatch h) fun m h => nomatch h⟩
    exact ⟨c1, ⟨_, _, gR, FR.kp, bR, ok_row FR T c1⟩⟩
  | succ n ih =>
    obtain ⟨f1, fd1, q1, q2, q3, q4⟩ := ih.1.ex
    have c0 : Cal P w K mg base CX0 (2 * n + 2) "_kept" ["value"] (spKept K n) := ⟨f1, fd1, q1, q2, q3, q4.mono (by omega)⟩
    have c1 : Cal P w K mg base CX0 (2 * (n + 1) + 1) "_kept" ["value"] (spKept K (n + 1)) := ⟨_, _, g, F.kp, b, ok_kept (k := 2 * n + 2) F T (fun m h => by cases h; exact c0) fun m h => by cases h; exact ih.2⟩
    exact ⟨c1, ⟨_, _, gR, FR.kp, bR, ok_row FR T c1⟩⟩
end
end K13

set_option Elab.async false
set_option linter.all false
set_option maxRecDepth 100000
set_option maxHeartbeats 8000000
namespace K13
open PySem PySem.Spec PyProof.Rows L2 Evl J
abbrev sPen : Stmt := topS 36
abbrev sNext : Stmt := topS 37
abbrev sDraw : Stmt := topS 38
/-- further names left to Python -/
structure Bl2 (mg : Str → Option Value) : Prop where
  lst : mg "list" = none
  int : mg "int" = none
  len : mg "len" = none
section
variable {P : Program} {w : World} {K : PySem.W.Frag} {mg : Str → Option Value} {base : Heap} {f : Addr} {fd : FuncData}
abbrev NPen : List Str := ["_law_script"]
abbrev NNext : List Str := ["_law_pen_here", "_law_index", "_law_cell_here", "_law_some", "_law_more", "_law_high"]
abbrev NDraw : List Str := ["_law_pen_here", "_law_under", "_law_digit"]
theorem scPen : FnScope NPen ["_law_script"] (defScope sPen) := ⟨rfl, rfl, rfl, by decide +kernel, rfl, by decide +kernel, by decide +kernel⟩
theorem scNext : FnScope NNext ["_law_pen_here"] (defScope sNext) := ⟨rfl, rfl, rfl, by decide +kernel, rfl, by decide +kernel, by decide +kernel⟩
theorem scDraw : FnScope NDraw ["_law_pen_here", "_law_under"] (defScope sDraw) := ⟨rfl, rfl, rfl, by decide +kernel, rfl, by decide +kernel, by decide +kernel⟩
theorem cut_ints (ns : List Int) : ∃ ms : List Int, cutV (ns.map V.int) none (some 60) = ms.map V.int ∧ ms.length ≤ 60 := by
  refine ⟨(ns.drop (HT.sIx ns.length 0 none)).take (HT.sIx ns.length ns.length (some 60) - HT.sIx ns.length 0 none), ?_, ?_⟩
  · unfold cutV
    rw [List.length_map, ← List.map_drop, ← List.map_take]
  · rw [List.length_take, List.length_drop]
    have e : HT.sIx ns.length ns.length (some 60) = min 60 ns.length := HT.sIx_nat ns.length ns.length 60
    omega
theorem ok_pen (F : FnP K "_law_pen" sPen f fd) (T : Bl2 mg) : FnOk P w K mg base CX0 1 f fd ["_law_script"] (spPen K) := by
  refine F.ok scPen (fun vs H Q E h => ?_) (fun cdv A outer s H vs Q E hr h => ?_)
  · obtain ⟨a, ns, rfl, _⟩ := h
    rfl
  · obtain ⟨a, ns, rfl, hS, q⟩ := h
    obtain ⟨ms, e1, e2⟩ := cut_ints ns
    refine ⟨_, pss_one (ps_ret (pe_lst (pa_cons (pe_callTy call_list_of rfl T.lst Boot.«list» (pa_cons (pe_slice sl_list (pv 0) po_none (po_some pe_int)) pa_nil)) (pa_cons pe_int (pa_cons pe_int pa_nil))))), ?_⟩
    refine ⟨.ref a, rfl, 60, rfl, a, _, rfl, hS, fun p hp => ?_⟩
    refine ⟨p, _, rfl, .inl (sq_of upd_same), fun l hl => ⟨sz_of (by simp), fun r hr => ?_⟩⟩
    have x1 : Ex H (upd H p (.lst (cutV (ns.map V.int) none (some 60)))) := Ex.new hp
    have x2 := x1.trans (Ex.new (o := .lst (cutV (ns.map V.int) none (some 60))) hl)
    have hr0 := fresh_back x2 hr
    refine q r _ hr0 (x2.trans (Ex.new hr)) ⟨l, ms, 0, 0, upd_same, ?_, ?_, e2, by omega, by omega⟩
    · rw [upd_ne (fun z => ?_), upd_same, e1]
      subst z
      rw [upd_same] at hr
      cases hr
    · intro z
      subst z
      rw [upd_same] at hr
      cases hr
/-- what the mixed numbers are below -/
theorem rest_lt {x m : Int} (h : 0 < m) : 0 ≤ x % m ∧ x % m < m := ⟨Int.emod_nonneg _ (by omega), Int.emod_lt_of_pos _ h⟩
theorem ok_next (F : FnP K "_law_next" sNext f fd) (T : Bl2 mg) : FnOk P w K mg base CX0 1 f fd ["_law_pen_here"] spNext := by
  refine F.ok scNext (fun vs H Q E h => ?_) (fun cdv A outer s H vs Q E hr h => ?_)
  · obtain ⟨p, c, ns, i, v, rfl, _⟩ := h
    rfl
  · obtain ⟨p, c, ns, i, v, rfl, hp, hc, ncp, hl, i0, i1, q⟩ := h
    have hu := hu_of hr
    have hu64 : (cxOf CX0 P w K mg base NNext "_law_next" (defScope sNext) f cdv A outer s H E).A.units + 64 < cLine := by
      have := hr.un
      show (A.deeper _).units + 64 < cLine
      omega
    refine ⟨_, pss_cons (ps_set (i := 1) scNext.nd rfl (Or.inl rfl) (pe_ix ix_list (pv 0) (pe_int) (fun _ _ => rfl))) (pss_cons (ps_asg (pe_op op_add (pv 1) (pe_int)) (pg_sub (pv 0) (pe_int) set_list)) (pss_cons (ps_set (i := 2) scNext.nd rfl (Or.inl rfl) (pe_op op_add (pe_op op_mul (pv 1) (pe_int)) (pe_int))) (pss_cut (ps_if (pt_cmpR (op_neD hu64) (pe_ix ix_list (pv 0) (pe_int) (fun _ _ => rfl)) (pe_lst pa_nil) (nomark _)) (pss_one (ps_set (i := 2) scNext.nd rfl (Or.inl rfl) (pe_ix ix_list (pe_ix ix_list (pv 0) (pe_int) (fun _ _ => rfl)) (pe_op op_mod (pe_callTy call_int1 (by rfl) T.int Boot.«int» (pa_cons (pv 1) pa_nil)) (pe_callB call_len_seq (by rfl) T.len boot_len (pa_cons (pe_ix ix_list (pv 0) (pe_int) (fun _ _ => rfl)) pa_nil))) (fun _ _ => rfl)))) pss_nil) (pss_cons (ps_if (PW.pt (pw_and (pt_cmpR op_lt (pv 1) (pe_callB call_len_seq (by rfl) T.len boot_len (pa_cons (pe_ix ix_list (pv 0) (pe_int) (fun _ _ => rfl)) pa_nil)) (nomark _)) (pw_and1 (pt_cmpR op_ge (pv 2) (pe_op op_pow (pe_int) (pe_int)) (nomark _))))) (pss_one (ps_ret (pv 2))) pss_nil) (pss_cons (ps_set (i := 3) scNext.nd rfl (Or.inl rfl) (pe_op op_mod (pe_callTy call_int1 (by rfl) T.int Boot.«int» (pa_cons (pe_op op_add (pe_op op_add (pe_op op_mod (pe_callTy call_int1 (by rfl) T.int Boot.«int» (pa_cons (pv 2) pa_nil)) (pe_int)) (pe_op op_mul (pv 1) (pe_int))) (pe_int)) pa_nil)) (pe_int))) (pss_cons (ps_set (i := 4) scNext.nd rfl (Or.inl rfl) (pe_op op_mod (pe_callTy call_int1 (by rfl) T.int Boot.«int» (pa_cons (pe_op op_add (pe_op op_add (pe_op op_mul (pv 3) (pv 3)) (pe_op op_mul (pv 1) (pe_int))) (pe_int)) pa_nil)) (pe_int))) (pss_cons (ps_set (i := 5) scNext.nd rfl (Or.inl rfl) (pe_op op_mod (pe_callTy call_int1 (by rfl) T.int Boot.«int» (pa_cons (pe_op op_add (pe_op op_add (pe_op op_mul (pv 4) (pv 4)) (pv 3)) (pe_op op_mul (pe_op op_mul (pv 1) (pv 1)) (pe_int))) pa_nil)) (pe_int))) (pss_one (ps_ret (pe_op op_add (pe_op op_mul (pe_op op_add (pe_op op_mul (pv 5) (pe_int)) (pv 4)) (pe_int)) (pv 3))))))))))), ?_⟩
    -- index
    refine q_asg (ev_op (ev_var rfl) ev_c (rv_ixL (sq_of hp) rfl)) fun H1 e1 => ?_
    refine q_setL (l := p) (j := 1) (e1 p _ hp) (ev_op (ev_var rfl) ev_c rv_I0) (ev_var rfl) ev_c (by simp) fun H2 e2 => ?_
    have b2 : But p H (upd H2 p (.lst [.ref c, .int (i + 1), .int v])) := (But.of (e1.trans e2)).trans But.upd
    have hp2 : (upd H2 p (.lst [.ref c, .int (i + 1), .int v])) p = some (.lst [.ref c, .int (i + 1), .int v]) := upd_same
    have hc2 : (upd H2 p (.lst [.ref c, .int (i + 1), .int v])) c = some (.lst (ns.map V.int)) := b2 c _ ncp hc
    show tSeq _ _ _ _ (upd H2 p (.lst [.ref c, .int (i + 1), .int v]))
    generalize upd H2 p (.lst [.ref c, .int (i + 1), .int v]) = H3 at b2 hp2 hc2 ⊢
    refine q_asg (ev_op (ev_op (ev_var rfl) ev_c (rv_I (.inr (by decide)))) ev_c rv_I0) fun H4 e4 => ?_
    -- if pen[0] != []
    refine q_cut (M := fun σ' H' => ∃ cell : Int, σ' = [some (.ref p), some (.int i), some (.int cell), none, none, none] ∧ Ex H3 H') ?_ ?_
    · have at0 : Ev (tOp (rIxL K) (tVar 0) (tC (.int 0))) [some (.ref p), some (.int i), some (.int (i * 1051 + 53)), none, none, none] H4 (.ref c) := ev_op (ev_var rfl) ev_c (rv_ixL (sq_of (e4 p _ hp2)) rfl)
      have hc4 := e4 c _ hc2
      refine s_when (et_test (ev_neL (e := .none) at0 (.lst (sq_of hc4) (dpa_ints ns)) (el_lst ea_nil (by simp)) .nil (shaped_leaves (by simp [leaf])) (shaped_leaves (by simp)))) (fun hb H5 e5 => ?_) (fun hb H5 e5 => ⟨_, rfl, e4.trans e5⟩)
      have hpos : 0 < ns.length := by
        cases ns with
        | nil => simp [PyData.eqv, PyData.eqvAll] at hb
        | cons n ns => simp
      have hm := rest_lt (x := i) (m := (ns.length : Int)) (by omega)
      obtain ⟨j, hj⟩ : ∃ j : Nat, i % (ns.length : Int) = (j : Int) := ⟨(i % (ns.length : Int)).toNat, by omega⟩
      have hj2 : j < ns.length := by omega
      refine s_asg (v := .int ns[j]) (ev_op (at0.mono e5) (ev_op (ev_cb (ea_cons (ev_var rfl) ea_nil) rc_int) (ev_cb (ea_cons (at0.mono e5) ea_nil) (rc_len (.inl (sq_of (e5 c _ hc4))))) (rv_I (by rw [List.length_map]; omega))) (rv_ixL (sq_of (e5 c _ hc4)) ?_)) fun H6 e6 => ⟨ns[j], rfl, (e4.trans e5).trans e6⟩
      rw [List.length_map, hj]
      exact atI_nat (by rw [List.getElem?_map, List.getElem?_eq_getElem hj2]; rfl)
    rintro σ' H4' ⟨cell, rfl, e4'⟩
    have at0 : Ev (tOp (rIxL K) (tVar 0) (tC (.int 0))) [some (.ref p), some (.int i), some (.int cell), none, none, none] H4' (.ref c) := ev_op (ev_var rfl) ev_c (rv_ixL (sq_of (e4' p _ hp2)) rfl)
    have out : ∀ (r : Int) H', Ex H4' H' → Q (.int r) H' := fun r H' e => q r H' (b2.trans (But.of (e4'.trans e))) ((e4'.trans e) p _ hp2)
    refine q_when (et_and (et_test (ev_op (ev_var rfl) (ev_cb (ea_cons at0 ea_nil) (rc_len (.inl (sq_of (e4' c _ hc2))))) rv_I0)) (fun _ => et_test (ev_op (ev_var rfl) (ev_op ev_c ev_c (rv_I ⟨by decide, by decide, by decide⟩)) rv_I0))) (fun _ H5 e5 => s_ret (ev_var rfl) fun H6 e6 => out _ _ (e5.trans e6)) (fun _ H5 e5 => ?_)
    have m1 := rest_lt (x := cell % 2147483587 + i * 30103 + 79) (m := 2147483587) (by decide)
    refine q_asg (ev_op (ev_cb (ea_cons (ev_op (ev_op (ev_op (ev_cb (ea_cons (ev_var rfl) ea_nil) rc_int) ev_c (rv_I (by decide))) (ev_op (ev_var rfl) ev_c (rv_I (.inr (by decide)))) rv_I0) ev_c rv_I0) ea_nil) rc_int) ev_c (rv_I (by decide))) fun H6 e6 => ?_
    generalize (cell % 2147483587 + i * 30103 + 79) % 2147483587 = x at m1 ⊢
    have m2 := rest_lt (x := x * x + i * 70039 + 61) (m := 2147483563) (by decide)
    refine q_asg (ev_op (ev_cb (ea_cons (ev_op (ev_op (ev_op (ev_var rfl) (ev_var rfl) (rv_I (.inr ⟨by omega, by omega⟩))) (ev_op (ev_var rfl) ev_c (rv_I (.inr (by decide)))) rv_I0) ev_c rv_I0) ea_nil) rc_int) ev_c (rv_I (by decide))) fun H7 e7 => ?_
    generalize (x * x + i * 70039 + 61) % 2147483563 = y at m2 ⊢
    refine q_asg (ev_op (ev_cb (ea_cons (ev_op (ev_op (ev_op (ev_var rfl) (ev_var rfl) (rv_I (.inr ⟨by omega, by omega⟩))) (ev_var rfl) rv_I0) (ev_op (ev_op (ev_var rfl) (ev_var rfl) (rv_I (.inr ⟨by omega, by omega⟩))) ev_c (rv_I (.inr (by decide)))) rv_I0) ea_nil) rc_int) ev_c (rv_I (by decide))) fun H8 e8 => ?_
    exact s_ret (ev_op (ev_op (ev_op (ev_op (ev_var rfl) ev_c (rv_I (.inr (by decide)))) (ev_var rfl) rv_I0) ev_c (rv_I (.inr (by decide)))) (ev_var rfl) rv_I0) fun H9 e9 => out _ _ ((((e5.trans e6).trans e7).trans e8).trans e9)
theorem ok_draw (F : FnP K "_law_draw" sDraw f fd) (T : Bl2 mg) (cN : Cal P w K mg base CX0 1 "_law_next" ["_law_pen_here"] spNext) : FnOk P w K mg base CX0 2 f fd ["_law_pen_here", "_law_under"] spDraw := by
  refine F.ok scDraw (fun vs H Q E h => ?_) (fun cdv A outer s H vs Q E hr h => ?_)
  · obtain ⟨p, u, m, rfl, _⟩ := h
    rfl
  · obtain ⟨p, u, m, rfl, u1, u2, ⟨c, ns, i, v, hp, hc, ncp, hl, i0, i1⟩, hm, q⟩ := h
    refine ⟨_, pss_cut (ps_if (pt_cmpR op_lt (pe_ix ix_list (pv 0) (pe_int) (fun _ _ => rfl)) (pv 1) (nomark _)) (pss_one (ps_asg (pe_cal cN hr rfl pass0 (pa_cons (pv 0) pa_nil)) (pg_sub (pv 0) (pe_int) set_list))) pss_nil) (pss_cons (ps_set (i := 2) scDraw.nd rfl (Or.inl rfl) (pe_op op_mod (pe_callTy call_int1 (by rfl) T.int Boot.«int» (pa_cons (pe_ix ix_list (pv 0) (pe_int) (fun _ _ => rfl)) pa_nil)) (pv 1))) (pss_cons (ps_asg (pe_op op_fdivW (pe_ix ix_list (pv 0) (pe_int) (fun _ _ => rfl)) (pv 1)) (pg_sub (pv 0) (pe_int) set_list)) (pss_one (ps_ret (pv 2))))), ?_⟩
    refine q_cut (M := fun σ' H' => ∃ (j v : Int), σ' = [some (.ref p), some (.int u), none] ∧ But p H H' ∧ H' p = some (.lst [.ref c, .int j, .int v]) ∧ 0 ≤ j ∧ j ≤ (m : Int) + 1) ?_ ?_
    · refine s_when (et_test (ev_op (ev_op (ev_var rfl) ev_c (rv_ixL (sq_of hp) rfl)) (ev_var rfl) rv_I0)) (fun _ H1 e1 => ?_) (fun _ H1 e1 => ⟨i, v, rfl, But.of e1, e1 p _ hp, i0, by omega⟩)
      refine ⟨_, rfl, p, c, ns, i, v, rfl, e1 p _ hp, e1 c _ hc, ncp, hl, i0, by omega, fun r H2 b2 h2 => ⟨_, rfl, p, _, 2, 2, rfl, rfl, h2, rfl, i + 1, r, rfl, ((But.of e1).trans b2).trans But.upd, upd_same, by omega, by omega⟩⟩
    · rintro σ' H1 ⟨j, v, rfl, b1, hp1, j0, j1⟩
      have m1 := rest_lt (x := v) (m := u) (by omega)
      refine q_asg (ev_op (ev_cb (ea_cons (ev_op (ev_var rfl) ev_c (rv_ixL (sq_of hp1) rfl)) ea_nil) rc_int) (ev_var rfl) (rv_I (by omega))) fun H2 e2 => ?_
      refine q_setL (l := p) (j := 2) (e2 p _ hp1) (ev_op (ev_op (ev_var rfl) ev_c (rv_ixL (sq_of (e2 p _ hp1)) rfl)) (ev_var rfl) (rv_I (wide_div (b := 64) (by omega) (by omega) (by decide) (by decide)))) (ev_var rfl) ev_c (by simp) fun H3 e3 => ?_
      have b3 : But p H (upd H3 p (.lst ([.ref c, .int j, .int v].set 2 (.int (v / u))))) := (b1.trans (But.of (e2.trans e3))).trans But.upd
      exact s_ret (ev_var rfl) fun H4 e4 => q (v % u) H4 (b3.trans (But.of e4)) ⟨c, ns, j, v / u, e4 p _ upd_same, e4 c _ (b3 c _ ncp hc), ncp, hl, j0, by omega⟩ m1.1 m1.2
end
end K13

set_option Elab.async false
set_option linter.all false
set_option maxRecDepth 100000
set_option maxHeartbeats 4000000
namespace K13
open PySem PySem.Spec PyProof.Rows L2 Evl J
/-- an error's own __init__: the fields by name, what each holds by data -/
def spX1 (K : PySem.W.Frag) (C : Addr) (fl : Str) (n : Nat) (row : Bool) : Sp := fun vs H Q _ => ∃ (a : Addr) (v : V) (d d' : PyData) (B : Hp), vs = [.ref a, v] ∧ H a = some (exo a C none) ∧ Ex B H ∧ B a = none ∧ Dp K B v d ∧
  (match row with
    | false => Dn n d ∧ d' = d
    | true => ∃ ds, (d = .list ds ∨ d = .tuple ds) ∧ ds.length ≤ 1000 ∧ (∀ x ∈ ds, Dn n x) ∧ d' = .tuple ds) ∧
  ∀ v' H', (∀ b o, b ≠ a → H b = some o → H' b = some o) → XAt H' a C [(fl, v')] → Dp K H' v' d' → Q .non H'
section
variable {P : Program} {w : World} {K : PySem.W.Frag} {mg : Str → Option Value} {base : Heap} {f : Addr} {fd : FuncData} {B nw ini : String} {bm : List Value} {C : Addr}
theorem set_end {B H1 H2 : Hp} {a : Addr} {d : PyData} {fl : Str} {y : V} {Q : VK} (hB : B a = none) (eB : Ex B H1) (ha : H1 a = some (exo a C none)) (e : Ex H1 H2) (dq : Dq K B H1 H2 y d)
    (k : ∀ v' H', (∀ b o, b ≠ a → H1 b = some o → H' b = some o) → XAt H' a C [(fl, v')] → Dp K H' v' d → Q .non H') : ∀ dx, H2 dx = none → dx ≠ a → Q .non (upd (upd H2 dx (exd dx [(fl, y)])) a (exo a C (some dx))) := by
  intro dx hn ne
  have off : ∀ b o, b ≠ a → H2 b = some o → upd (upd H2 dx (exd dx [(fl, y)])) a (exo a C (some dx)) b = some o := fun b o hb z => by
    rw [upd_ne hb, upd_ne (ne_of_none z hn)]
    exact z
  refine k y _ (fun b o hb z => off b o hb (e b o z)) (.inr ⟨dx, upd_same, by rw [upd_ne ne, upd_same]⟩) (dp_ext (fun b o z => ?_) dq)
  obtain ⟨z1, z2⟩ := rst_some z
  refine off b o (fun q => ?_) z2
  subst q
  rcases z1 with z1 | z1
  · exact z1 hB
  · rw [ha] at z1
    cases z1
theorem ok_x1 {n k : Nat} {x qual : Str} {st : Stmt} {fl pn : Str} {msg : Str} {jm : Nat} {p0 p1 p2 p3 p4 p5 q1 q2 q3 q4 q5 q6 : Pos}
    (hB : defBody st = [.Expr (.Call (.Attribute (.Call (.Name "super" p0) [] [] p1) "__init__" p2) [.Constant (.str msg) jm p3] [] p4) p5, .Assign [.Attribute (.Name "self" q1) fl q2] (.Call (.Name "_kept" q3) [.Name pn q4] [] q5) q6])
    (F : SupF P K mg C B nw ini bm "__init__" qual (defArgs st) (defBody st) (defScope st) f fd ["self", pn]) (hbind : Binds K fd ["self", pn] []) (no : PySem.W.findIn K (.ref C) fl = some none)
    (hsw : ∀ (L : Addr) (cd : Value) (cc : Addr), swapsWith (.Call (.Attribute (.Call (.Name "super" p0) [] [] p1) "__init__" p2) [.Constant (.str msg) jm p3] [] p4) none p5.line (envS qual (defScope st) L f cd cc) = pure false)
    (hform : ∀ (L : Addr) (cd : Value) (cc : Addr), ∃ pl, eval (.Call (.Attribute (.Call (.Name "super" p0) [] [] p1) "__init__" p2) [.Constant (.str msg) jm p3] [] p4) (envS qual (defScope st) L f cd cc) = (do
      let ov ← attributeBase (.Call (.Name "super" p0) [] [] p1) "__init__" (envS qual (defScope st) L f cd cc) (eval (.Call (.Name "super" p0) [] [] p1) (envS qual (defScope st) L f cd cc))
      standAt p2.atName
      let (fx, first) ← holding [ov] (getMethod ov "__init__" pl)
      callWith p4 fx first (backTo p4 (starEach [.Constant (.str msg) jm p3] (envS qual (defScope st) L f cd cc))) []))
    (hgk : (defScope st).names.lookup ("_kept" : Str) = some .globalImplicit) (hv0 : Vis (defScope st) "self") (hv1 : Vis (defScope st) pn) (hpn : (pn == ("__debug__" : Str)) = false) (hpc : (pn == ("__classdict__" : Str)) = false)
    (c : Cal P w K mg base CX0 k "_kept" ["value"] (spKept K n)) : FnOk P w K mg base CX0 (k + 1) f fd ["self", pn] (spX1 K C fl n false) := by
  rw [hB] at F
  refine fn_sup F (fun vs H Q E h => ?_) hbind hsw hform (fun cd cc A outer s H vs Q E hr h => ?_)
  · obtain ⟨a, v, d, d', B, rfl, _⟩ := h
    rfl
  · obtain ⟨a, v, d, d', B, rfl, ha, eB, hBa, dp, ⟨hn, rfl⟩, q⟩ := h
    refine ⟨⟨a, [v], rfl, ha⟩, _, pss_one (ps_xset (pe_var (i := 0) rfl hv0) (pe_cal c hr hgk pass0 (pa_cons (pe_var (i := 1) rfl hv1 hpn hpc) pa_nil))), ?_⟩
    refine ⟨v, rfl, v, d', B, rfl, hn, dp, eB, fun v' H' e dq => ⟨_, rfl, a, C, _, _, _, _, rfl, F.xc, no, .inl ⟨e a _ ha, ?_⟩⟩⟩
    exact set_end hBa eB ha e dq q
theorem ok_x1r {n k : Nat} {qual : Str} {st : Stmt} {fl pn : Str} {msg : Str} {jm : Nat} {p0 p1 p2 p3 p4 p5 q1 q2 q3 q4 q5 q6 : Pos}
    (hB : defBody st = [.Expr (.Call (.Attribute (.Call (.Name "super" p0) [] [] p1) "__init__" p2) [.Constant (.str msg) jm p3] [] p4) p5, .Assign [.Attribute (.Name "self" q1) fl q2] (.Call (.Name "_kept_row" q3) [.Name pn q4] [] q5) q6])
    (F : SupF P K mg C B nw ini bm "__init__" qual (defArgs st) (defBody st) (defScope st) f fd ["self", pn]) (hbind : Binds K fd ["self", pn] []) (no : PySem.W.findIn K (.ref C) fl = some none)
    (hsw : ∀ (L : Addr) (cd : Value) (cc : Addr), swapsWith (.Call (.Attribute (.Call (.Name "super" p0) [] [] p1) "__init__" p2) [.Constant (.str msg) jm p3] [] p4) none p5.line (envS qual (defScope st) L f cd cc) = pure false)
    (hform : ∀ (L : Addr) (cd : Value) (cc : Addr), ∃ pl, eval (.Call (.Attribute (.Call (.Name "super" p0) [] [] p1) "__init__" p2) [.Constant (.str msg) jm p3] [] p4) (envS qual (defScope st) L f cd cc) = (do
      let ov ← attributeBase (.Call (.Name "super" p0) [] [] p1) "__init__" (envS qual (defScope st) L f cd cc) (eval (.Call (.Name "super" p0) [] [] p1) (envS qual (defScope st) L f cd cc))
      standAt p2.atName
      let (fx, first) ← holding [ov] (getMethod ov "__init__" pl)
      callWith p4 fx first (backTo p4 (starEach [.Constant (.str msg) jm p3] (envS qual (defScope st) L f cd cc))) []))
    (hgk : (defScope st).names.lookup ("_kept_row" : Str) = some .globalImplicit) (hv0 : Vis (defScope st) "self") (hv1 : Vis (defScope st) pn) (hpn : (pn == ("__debug__" : Str)) = false) (hpc : (pn == ("__classdict__" : Str)) = false)
    (c : Cal P w K mg base CX0 k "_kept_row" ["values"] (spRow K n)) : FnOk P w K mg base CX0 (k + 1) f fd ["self", pn] (spX1 K C fl n true) := by
  rw [hB] at F
  refine fn_sup F (fun vs H Q E h => ?_) hbind hsw hform (fun cd cc A outer s H vs Q E hr h => ?_)
  · obtain ⟨a, v, d, d', B, rfl, _⟩ := h
    rfl
  · obtain ⟨a, v, d, d', B, rfl, ha, eB, hBa, dp, ⟨ds, hd, hz, hn, rfl⟩, q⟩ := h
    refine ⟨⟨a, [v], rfl, ha⟩, _, pss_one (ps_xset (pe_var (i := 0) rfl hv0) (pe_cal c hr hgk pass0 (pa_cons (pe_var (i := 1) rfl hv1 hpn hpc) pa_nil))), ?_⟩
    obtain ⟨a2, xs, rfl, hs, hda⟩ : ∃ a2 xs, v = .ref a2 ∧ (SqL K B a2 xs ∨ SqT K B a2 xs) ∧ DpAll K B xs ds := by
      rcases hd with rfl | rfl
      · cases dp with
        | lst h1 h2 => exact ⟨_, _, rfl, .inl h1, h2⟩
      · cases dp with
        | tup h1 h2 => exact ⟨_, _, rfl, .inr h1, h2⟩
    refine ⟨_, rfl, a2, xs, ds, B, rfl, hs, hda, hz, hn, eB, fun p H' hp e dq => ⟨_, rfl, a, C, _, _, _, _, rfl, F.xc, no, .inl ⟨e a _ ha, ?_⟩⟩⟩
    exact set_end hBa eB ha e dq q
/-- NotKept's -/
def spX2 (K : PySem.W.Frag) (C : Addr) (f1 f2 : Str) (n : Nat) : Sp := fun vs H Q _ => ∃ (a : Addr) (u v : V) (du d : PyData) (ds : List PyData) (B : Hp), vs = [.ref a, u, v] ∧ H a = some (exo a C none) ∧ Ex B H ∧ B a = none ∧ Dp K B u du ∧ Dp K B v d ∧
  (d = .list ds ∨ d = .tuple ds) ∧ ds.length ≤ 1000 ∧ (∀ x ∈ ds, Dn n x) ∧
  ∀ v' H', (∀ b o, b ≠ a → H b = some o → H' b = some o) → XAt H' a C [(f2, v'), (f1, u)] → Dp K H' v' (.tuple ds) → Q .non H'
theorem ok_x2 {n k : Nat} {qual : Str} {st : Stmt} {f1 f2 n1 n2 : Str} {msg : Str} {jm : Nat} {p0 p1 p2 p3 p4 p5 q1 q2 q3 q4 q5 q6 r1 r2 r3 r4 : Pos}
    (hB : defBody st = [.Expr (.Call (.Attribute (.Call (.Name "super" p0) [] [] p1) "__init__" p2) [.Constant (.str msg) jm p3] [] p4) p5, .Assign [.Attribute (.Name "self" r1) f1 r2] (.Name n1 r3) r4, .Assign [.Attribute (.Name "self" q1) f2 q2] (.Call (.Name "_kept_row" q3) [.Name n2 q4] [] q5) q6])
    (F : SupF P K mg C B nw ini bm "__init__" qual (defArgs st) (defBody st) (defScope st) f fd ["self", n1, n2]) (hbind : Binds K fd ["self", n1, n2] []) (no1 : PySem.W.findIn K (.ref C) f1 = some none) (no2 : PySem.W.findIn K (.ref C) f2 = some none)
    (hsw : ∀ (L : Addr) (cd : Value) (cc : Addr), swapsWith (.Call (.Attribute (.Call (.Name "super" p0) [] [] p1) "__init__" p2) [.Constant (.str msg) jm p3] [] p4) none p5.line (envS qual (defScope st) L f cd cc) = pure false)
    (hform : ∀ (L : Addr) (cd : Value) (cc : Addr), ∃ pl, eval (.Call (.Attribute (.Call (.Name "super" p0) [] [] p1) "__init__" p2) [.Constant (.str msg) jm p3] [] p4) (envS qual (defScope st) L f cd cc) = (do
      let ov ← attributeBase (.Call (.Name "super" p0) [] [] p1) "__init__" (envS qual (defScope st) L f cd cc) (eval (.Call (.Name "super" p0) [] [] p1) (envS qual (defScope st) L f cd cc))
      standAt p2.atName
      let (fx, first) ← holding [ov] (getMethod ov "__init__" pl)
      callWith p4 fx first (backTo p4 (starEach [.Constant (.str msg) jm p3] (envS qual (defScope st) L f cd cc))) []))
    (hgk : (defScope st).names.lookup ("_kept_row" : Str) = some .globalImplicit) (hv0 : Vis (defScope st) "self") (hv1 : Vis (defScope st) n1) (hv2 : Vis (defScope st) n2) (e1 : (n1 == ("__debug__" : Str)) = false) (e2 : (n1 == ("__classdict__" : Str)) = false) (e3 : (n2 == ("__debug__" : Str)) = false) (e4 : (n2 == ("__classdict__" : Str)) = false)
    (c : Cal P w K mg base CX0 k "_kept_row" ["values"] (spRow K n)) : FnOk P w K mg base CX0 (k + 1) f fd ["self", n1, n2] (spX2 K C f1 f2 n) := by
  rw [hB] at F
  refine fn_sup F (fun vs H Q E h => ?_) hbind hsw hform (fun cd cc A outer s H vs Q E hr h => ?_)
  · obtain ⟨a, u, v, du, d, ds, B, rfl, _⟩ := h
    rfl
  · obtain ⟨a, u, v, du, d, ds, B, rfl, ha, eB, hBa, dpu, dp, hd, hz, hn, q⟩ := h
    refine ⟨⟨a, [u, v], rfl, ha⟩, _, pss_cons (ps_xset (pe_var (i := 0) rfl hv0) (pe_var (i := 1) rfl hv1 e1 e2)) (pss_one (ps_xset (pe_var (i := 0) rfl hv0) (pe_cal c hr hgk pass0 (pa_cons (pe_var (i := 2) rfl hv2 e3 e4) pa_nil)))), ?_⟩
    obtain ⟨a2, xs, rfl, hs, hda⟩ : ∃ a2 xs, v = .ref a2 ∧ (SqL K B a2 xs ∨ SqT K B a2 xs) ∧ DpAll K B xs ds := by
      rcases hd with rfl | rfl
      · cases dp with
        | lst h1 h2 => exact ⟨_, _, rfl, .inl h1, h2⟩
      · cases dp with
        | tup h1 h2 => exact ⟨_, _, rfl, .inr h1, h2⟩
    refine ⟨u, rfl, _, rfl, a, C, _, _, _, _, rfl, F.xc, no1, .inl ⟨ha, fun dx hn1 ne1 => ?_⟩⟩
    have eB1 : Ex B (upd (upd H dx (exd dx [(f1, u)])) a (exo a C (some dx))) := Ex.mut (eB.trans (Ex.new hn1)) hBa
    have hdx : B dx = none := fresh_back eB hn1
    refine ⟨_, rfl, a2, xs, ds, B, rfl, hs, hda, hz, hn, eB1, fun p H' hp e dq => ⟨_, rfl, a, C, _, _, _, _, rfl, F.xc, no2, .inr ⟨dx, [(f1, u)], e a _ upd_same, e dx _ (by rw [upd_ne ne1, upd_same]), by simp, ?_⟩⟩⟩
    have npd : p ≠ dx := fun z => by
      rw [z, upd_ne ne1, upd_same] at hp
      cases hp
    refine q (.ref p) _ (fun b o hb z => ?_) (.inr ⟨dx, by rw [upd_ne (Ne.symm ne1)]; exact e a _ upd_same, upd_same⟩) (dp_ext (fun b o z => ?_) dq)
    · have hbd : b ≠ dx := ne_of_none z hn1
      rw [upd_ne hbd]
      exact e b o (by rw [upd_ne hb, upd_ne hbd]; exact z)
    · obtain ⟨z1, z2⟩ := rst_some z
      rw [upd_ne (fun y => ?_)]
      · exact z2
      · subst y
        rcases z1 with z1 | z1
        · exact z1 hdx
        · rw [upd_ne ne1, upd_same] at z1
          cases z1
end
end K13

set_option Elab.async false
set_option linter.all false
set_option maxRecDepth 100000
set_option maxHeartbeats 8000000
namespace K13
open PySem PySem.Spec PyProof.Rows L2 Evl J
abbrev sKinds : Stmt := topS 39
abbrev sBases : Stmt := topS 40
/-- the thirty classes' names, in the law's order -/
def nms : List Str := ["BadScale", "BadImages", "BadTable", "BadPaper", "BadBlocks", "BadTurn", "BadDeed", "MixedScales", "MixedKinds", "TooMany", "NothingDone", "NotKept", "NotThrough", "NotLike", "NotSame", "NotIdempotent", "NoStep", "OpenState", "BadName", "TwiceTold", "BadKind", "BadValue", "BadSaying", "BadText", "Clash", "UnknownGrade", "UnknownName", "UnknownState", "NotTold", "NoState"]
/-- what the written part says of the thirty classes, whose addresses are cl -/
structure Kn (K : PySem.W.Frag) (mg : Str → Option Value) (cl : Nat → Addr) (cE cM : Addr) : Prop where
  gl : ∀ (i : Nat) (x : Str), nms[i]? = some x → mg x = some (.ref (cl i))
  xc : ∀ i, i < 30 → ∃ (B nw ini : String) (bm : List Value), XC K B nw ini bm (cl i)
  kit : ∀ i j, i < 30 → j < 30 → PySem.W.kitOne K (.ref (cl i)) (.ref (cl j)) = some (decide (j = i))
  gE : mg "NeargradesError" = some (.ref cE)
  gM : mg "NameMissing" = some (.ref cM)
  kE : ∀ i, i < 30 → PySem.W.kitOne K (.ref (cl i)) (.ref cE) = some (decide (i < 25))
  kM : ∀ i, i < 30 → PySem.W.kitOne K (.ref (cl i)) (.ref cM) = some (decide (25 ≤ i))
  kV : ∀ i, i < 30 → PySem.W.kitOne K (.ref (cl i)) (.type "ValueError") = some (decide (i < 25))
  kL : ∀ i, i < 30 → PySem.W.kitOne K (.ref (cl i)) (.type "LookupError") = some (decide (25 ≤ i))
  ve : mg "ValueError" = none
  le : mg "LookupError" = none
section
variable {K : PySem.W.Frag} {σ : L2.St} {H : Hp} {a C : Addr} {fs : List (Str × V)} {c : V} {cv : Value} {b : Bool} {B nw ini : String} {bm : List Value} {ta tb : TE}
theorem ev_isx (h0 : σ[0]? = some (some (.ref a))) (T : XC K B nw ini bm C) (xa : XAt H a C fs) (cr : ClsV c cv) (k : PySem.W.kitOne K (.ref C) cv = some b) : Ev (tCB (rIsX K) (tCons (tVar 0) (tCons (tC c) tNil))) σ H (.bl b) :=
  fun H1 e Q q => ⟨.ref a, h0, a, C, fs, c, cv, b, B, nw, ini, bm, rfl, T, xa.ext e, cr, k, q H1 (Ex.refl H1)⟩
theorem el_cat {l : Addr} {xs ys : List V} (ha : Ev ta σ H (.ref l)) (hl : H l = some (.lst xs)) (hb : EvL tb σ H ys) (hz : xs.length + ys.length ≤ 1000) : EvL (tOp rCat ta tb) σ H (xs ++ ys) := fun H1 e Q q =>
  ha H1 e _ fun H2 e2 => hb H2 (e.trans e2) _ fun p H3 hp e3 h3 => ⟨l, p, xs, ys, rfl, rfl, e3 l _ (e2 l _ (e l _ hl)), h3, sz_of (by omega), fun r hr => q r _ (fresh_back (e2.trans e3) hr) ((e2.trans e3).trans (Ex.new hr)) upd_same⟩
end
section
variable {P : Program} {w : World} {K : PySem.W.Frag} {mg : Str → Option Value} {base : Heap} {f : Addr} {fd : FuncData} {cl : Nat → Addr} {cE cM : Addr}
/-- which of the classes an error is of -/
def bools (i : Nat) : List V := (List.range 30).map fun j => .bl (decide (j = i))
def spKinds (K : PySem.W.Frag) (cl : Nat → Addr) : Sp := fun vs H Q _ => ∃ (a : Addr) (i : Nat) (fs : List (Str × V)), vs = [.ref a] ∧ i < 30 ∧ XAt H a (cl i) fs ∧ RetL (bools i) H Q
def spBases (K : PySem.W.Frag) (cl : Nat → Addr) : Sp := fun vs H Q _ => ∃ (a : Addr) (i : Nat) (fs : List (Str × V)), vs = [.ref a] ∧ i < 30 ∧ XAt H a (cl i) fs ∧ RetL [.bl (decide (i < 25)), .bl (decide (i < 25)), .bl (decide (25 ≤ i)), .bl (decide (25 ≤ i))] H Q
abbrev NE : List Str := ["_law_e", "_law_found"]
theorem scKinds : FnScope NE ["_law_e"] (defScope sKinds) := ⟨rfl, rfl, rfl, by decide +kernel, rfl, by decide +kernel, by decide +kernel⟩
theorem scBases : FnScope NE ["_law_e"] (defScope sBases) := ⟨rfl, rfl, rfl, by decide +kernel, rfl, by decide +kernel, by decide +kernel⟩
theorem ok_kinds (F : FnP K "_law_kinds" sKinds f fd) (T : Bl mg) (S : Kn K mg cl cE cM) : FnOk P w K mg base CX0 1 f fd ["_law_e"] (spKinds K cl) := by
  refine F.ok scKinds (fun vs H Q E h => ?_) (fun cdv A outer s H vs Q E hr h => ?_)
  · obtain ⟨a, i, fs, rfl, _⟩ := h
    rfl
  · obtain ⟨a, i, fs, rfl, hi, xa, q⟩ := h
    obtain ⟨B, nw, ini, bm, X⟩ := S.xc i hi
    refine ⟨_, pss_cons (ps_set (i := 1) scKinds.nd rfl (Or.inl rfl) (pe_lst (pa_cons (pe_callB call_isX (by rfl) T.isi boot_isinstance (pa_cons (pv 0) (pa_cons (pe_glob (v := .ref (cl 0)) rfl (S.gl 0 _ rfl) rfl) pa_nil))) (pa_cons (pe_callB call_isX (by rfl) T.isi boot_isinstance (pa_cons (pv 0) (pa_cons (pe_glob (v := .ref (cl 1)) rfl (S.gl 1 _ rfl) rfl) pa_nil))) (pa_cons (pe_callB call_isX (by rfl) T.isi boot_isinstance (pa_cons (pv 0) (pa_cons (pe_glob (v := .ref (cl 2)) rfl (S.gl 2 _ rfl) rfl) pa_nil))) pa_nil)))))
      (pss_cons (ps_set (i := 1) scKinds.nd rfl (Or.inl rfl) (pe_op op_cat (pv 1) (pe_lst (pa_cons (pe_callB call_isX (by rfl) T.isi boot_isinstance (pa_cons (pv 0) (pa_cons (pe_glob (v := .ref (cl 3)) rfl (S.gl 3 _ rfl) rfl) pa_nil))) (pa_cons (pe_callB call_isX (by rfl) T.isi boot_isinstance (pa_cons (pv 0) (pa_cons (pe_glob (v := .ref (cl 4)) rfl (S.gl 4 _ rfl) rfl) pa_nil))) (pa_cons (pe_callB call_isX (by rfl) T.isi boot_isinstance (pa_cons (pv 0) (pa_cons (pe_glob (v := .ref (cl 5)) rfl (S.gl 5 _ rfl) rfl) pa_nil))) pa_nil))))))
      (pss_cons (ps_set (i := 1) scKinds.nd rfl (Or.inl rfl) (pe_op op_cat (pv 1) (pe_lst (pa_cons (pe_callB call_isX (by rfl) T.isi boot_isinstance (pa_cons (pv 0) (pa_cons (pe_glob (v := .ref (cl 6)) rfl (S.gl 6 _ rfl) rfl) pa_nil))) (pa_cons (pe_callB call_isX (by rfl) T.isi boot_isinstance (pa_cons (pv 0) (pa_cons (pe_glob (v := .ref (cl 7)) rfl (S.gl 7 _ rfl) rfl) pa_nil))) (pa_cons (pe_callB call_isX (by rfl) T.isi boot_isinstance (pa_cons (pv 0) (pa_cons (pe_glob (v := .ref (cl 8)) rfl (S.gl 8 _ rfl) rfl) pa_nil))) pa_nil))))))
      (pss_cons (ps_set (i := 1) scKinds.nd rfl (Or.inl rfl) (pe_op op_cat (pv 1) (pe_lst (pa_cons (pe_callB call_isX (by rfl) T.isi boot_isinstance (pa_cons (pv 0) (pa_cons (pe_glob (v := .ref (cl 9)) rfl (S.gl 9 _ rfl) rfl) pa_nil))) (pa_cons (pe_callB call_isX (by rfl) T.isi boot_isinstance (pa_cons (pv 0) (pa_cons (pe_glob (v := .ref (cl 10)) rfl (S.gl 10 _ rfl) rfl) pa_nil))) pa_nil)))))
      (pss_cons (ps_set (i := 1) scKinds.nd rfl (Or.inl rfl) (pe_op op_cat (pv 1) (pe_lst (pa_cons (pe_callB call_isX (by rfl) T.isi boot_isinstance (pa_cons (pv 0) (pa_cons (pe_glob (v := .ref (cl 11)) rfl (S.gl 11 _ rfl) rfl) pa_nil))) (pa_cons (pe_callB call_isX (by rfl) T.isi boot_isinstance (pa_cons (pv 0) (pa_cons (pe_glob (v := .ref (cl 12)) rfl (S.gl 12 _ rfl) rfl) pa_nil))) (pa_cons (pe_callB call_isX (by rfl) T.isi boot_isinstance (pa_cons (pv 0) (pa_cons (pe_glob (v := .ref (cl 13)) rfl (S.gl 13 _ rfl) rfl) pa_nil))) pa_nil))))))
      (pss_cons (ps_set (i := 1) scKinds.nd rfl (Or.inl rfl) (pe_op op_cat (pv 1) (pe_lst (pa_cons (pe_callB call_isX (by rfl) T.isi boot_isinstance (pa_cons (pv 0) (pa_cons (pe_glob (v := .ref (cl 14)) rfl (S.gl 14 _ rfl) rfl) pa_nil))) (pa_cons (pe_callB call_isX (by rfl) T.isi boot_isinstance (pa_cons (pv 0) (pa_cons (pe_glob (v := .ref (cl 15)) rfl (S.gl 15 _ rfl) rfl) pa_nil))) pa_nil)))))
      (pss_cons (ps_set (i := 1) scKinds.nd rfl (Or.inl rfl) (pe_op op_cat (pv 1) (pe_lst (pa_cons (pe_callB call_isX (by rfl) T.isi boot_isinstance (pa_cons (pv 0) (pa_cons (pe_glob (v := .ref (cl 16)) rfl (S.gl 16 _ rfl) rfl) pa_nil))) (pa_cons (pe_callB call_isX (by rfl) T.isi boot_isinstance (pa_cons (pv 0) (pa_cons (pe_glob (v := .ref (cl 17)) rfl (S.gl 17 _ rfl) rfl) pa_nil))) (pa_cons (pe_callB call_isX (by rfl) T.isi boot_isinstance (pa_cons (pv 0) (pa_cons (pe_glob (v := .ref (cl 18)) rfl (S.gl 18 _ rfl) rfl) pa_nil))) pa_nil))))))
      (pss_cons (ps_set (i := 1) scKinds.nd rfl (Or.inl rfl) (pe_op op_cat (pv 1) (pe_lst (pa_cons (pe_callB call_isX (by rfl) T.isi boot_isinstance (pa_cons (pv 0) (pa_cons (pe_glob (v := .ref (cl 19)) rfl (S.gl 19 _ rfl) rfl) pa_nil))) (pa_cons (pe_callB call_isX (by rfl) T.isi boot_isinstance (pa_cons (pv 0) (pa_cons (pe_glob (v := .ref (cl 20)) rfl (S.gl 20 _ rfl) rfl) pa_nil))) (pa_cons (pe_callB call_isX (by rfl) T.isi boot_isinstance (pa_cons (pv 0) (pa_cons (pe_glob (v := .ref (cl 21)) rfl (S.gl 21 _ rfl) rfl) pa_nil))) pa_nil))))))
      (pss_cons (ps_set (i := 1) scKinds.nd rfl (Or.inl rfl) (pe_op op_cat (pv 1) (pe_lst (pa_cons (pe_callB call_isX (by rfl) T.isi boot_isinstance (pa_cons (pv 0) (pa_cons (pe_glob (v := .ref (cl 22)) rfl (S.gl 22 _ rfl) rfl) pa_nil))) (pa_cons (pe_callB call_isX (by rfl) T.isi boot_isinstance (pa_cons (pv 0) (pa_cons (pe_glob (v := .ref (cl 23)) rfl (S.gl 23 _ rfl) rfl) pa_nil))) (pa_cons (pe_callB call_isX (by rfl) T.isi boot_isinstance (pa_cons (pv 0) (pa_cons (pe_glob (v := .ref (cl 24)) rfl (S.gl 24 _ rfl) rfl) pa_nil))) pa_nil))))))
      (pss_cons (ps_set (i := 1) scKinds.nd rfl (Or.inl rfl) (pe_op op_cat (pv 1) (pe_lst (pa_cons (pe_callB call_isX (by rfl) T.isi boot_isinstance (pa_cons (pv 0) (pa_cons (pe_glob (v := .ref (cl 25)) rfl (S.gl 25 _ rfl) rfl) pa_nil))) (pa_cons (pe_callB call_isX (by rfl) T.isi boot_isinstance (pa_cons (pv 0) (pa_cons (pe_glob (v := .ref (cl 26)) rfl (S.gl 26 _ rfl) rfl) pa_nil))) (pa_cons (pe_callB call_isX (by rfl) T.isi boot_isinstance (pa_cons (pv 0) (pa_cons (pe_glob (v := .ref (cl 27)) rfl (S.gl 27 _ rfl) rfl) pa_nil))) pa_nil))))))
      (pss_cons (ps_set (i := 1) scKinds.nd rfl (Or.inl rfl) (pe_op op_cat (pv 1) (pe_lst (pa_cons (pe_callB call_isX (by rfl) T.isi boot_isinstance (pa_cons (pv 0) (pa_cons (pe_glob (v := .ref (cl 28)) rfl (S.gl 28 _ rfl) rfl) pa_nil))) (pa_cons (pe_callB call_isX (by rfl) T.isi boot_isinstance (pa_cons (pv 0) (pa_cons (pe_glob (v := .ref (cl 29)) rfl (S.gl 29 _ rfl) rfl) pa_nil))) pa_nil)))))
      (pss_one (ps_ret (pv 1))))))))))))), ?_⟩
    refine q_asgL (el_lst (ea_cons (ev_isx rfl X (xa.ext (Ex.refl H)) (.own _) (S.kit i 0 hi (by decide))) (ea_cons (ev_isx rfl X (xa.ext (Ex.refl H)) (.own _) (S.kit i 1 hi (by decide))) (ea_cons (ev_isx rfl X (xa.ext (Ex.refl H)) (.own _) (S.kit i 2 hi (by decide))) ea_nil))) (by simp)) fun l0 H0 n0 e0 h0 => ?_
    have E0 : Ex H H0 := e0
    refine q_asgL (el_cat (ev_var rfl) h0 (el_lst (ea_cons (ev_isx rfl X (xa.ext E0) (.own _) (S.kit i 3 hi (by decide))) (ea_cons (ev_isx rfl X (xa.ext E0) (.own _) (S.kit i 4 hi (by decide))) (ea_cons (ev_isx rfl X (xa.ext E0) (.own _) (S.kit i 5 hi (by decide))) ea_nil))) (by simp)) (by simp)) fun l1 H1 n1 e1 h1 => ?_
    have E1 : Ex H H1 := E0.trans e1
    refine q_asgL (el_cat (ev_var rfl) h1 (el_lst (ea_cons (ev_isx rfl X (xa.ext E1) (.own _) (S.kit i 6 hi (by decide))) (ea_cons (ev_isx rfl X (xa.ext E1) (.own _) (S.kit i 7 hi (by decide))) (ea_cons (ev_isx rfl X (xa.ext E1) (.own _) (S.kit i 8 hi (by decide))) ea_nil))) (by simp)) (by simp)) fun l2 H2 n2 e2 h2 => ?_
    have E2 : Ex H H2 := E1.trans e2
    refine q_asgL (el_cat (ev_var rfl) h2 (el_lst (ea_cons (ev_isx rfl X (xa.ext E2) (.own _) (S.kit i 9 hi (by decide))) (ea_cons (ev_isx rfl X (xa.ext E2) (.own _) (S.kit i 10 hi (by decide))) ea_nil)) (by simp)) (by simp)) fun l3 H3 n3 e3 h3 => ?_
    have E3 : Ex H H3 := E2.trans e3
    refine q_asgL (el_cat (ev_var rfl) h3 (el_lst (ea_cons (ev_isx rfl X (xa.ext E3) (.own _) (S.kit i 11 hi (by decide))) (ea_cons (ev_isx rfl X (xa.ext E3) (.own _) (S.kit i 12 hi (by decide))) (ea_cons (ev_isx rfl X (xa.ext E3) (.own _) (S.kit i 13 hi (by decide))) ea_nil))) (by simp)) (by simp)) fun l4 H4 n4 e4 h4 => ?_
    have E4 : Ex H H4 := E3.trans e4
    refine q_asgL (el_cat (ev_var rfl) h4 (el_lst (ea_cons (ev_isx rfl X (xa.ext E4) (.own _) (S.kit i 14 hi (by decide))) (ea_cons (ev_isx rfl X (xa.ext E4) (.own _) (S.kit i 15 hi (by decide))) ea_nil)) (by simp)) (by simp)) fun l5 H5 n5 e5 h5 => ?_
    have E5 : Ex H H5 := E4.trans e5
    refine q_asgL (el_cat (ev_var rfl) h5 (el_lst (ea_cons (ev_isx rfl X (xa.ext E5) (.own _) (S.kit i 16 hi (by decide))) (ea_cons (ev_isx rfl X (xa.ext E5) (.own _) (S.kit i 17 hi (by decide))) (ea_cons (ev_isx rfl X (xa.ext E5) (.own _) (S.kit i 18 hi (by decide))) ea_nil))) (by simp)) (by simp)) fun l6 H6 n6 e6 h6 => ?_
    have E6 : Ex H H6 := E5.trans e6
    refine q_asgL (el_cat (ev_var rfl) h6 (el_lst (ea_cons (ev_isx rfl X (xa.ext E6) (.own _) (S.kit i 19 hi (by decide))) (ea_cons (ev_isx rfl X (xa.ext E6) (.own _) (S.kit i 20 hi (by decide))) (ea_cons (ev_isx rfl X (xa.ext E6) (.own _) (S.kit i 21 hi (by decide))) ea_nil))) (by simp)) (by simp)) fun l7 H7 n7 e7 h7 => ?_
    have E7 : Ex H H7 := E6.trans e7
    refine q_asgL (el_cat (ev_var rfl) h7 (el_lst (ea_cons (ev_isx rfl X (xa.ext E7) (.own _) (S.kit i 22 hi (by decide))) (ea_cons (ev_isx rfl X (xa.ext E7) (.own _) (S.kit i 23 hi (by decide))) (ea_cons (ev_isx rfl X (xa.ext E7) (.own _) (S.kit i 24 hi (by decide))) ea_nil))) (by simp)) (by simp)) fun l8 H8 n8 e8 h8 => ?_
    have E8 : Ex H H8 := E7.trans e8
    refine q_asgL (el_cat (ev_var rfl) h8 (el_lst (ea_cons (ev_isx rfl X (xa.ext E8) (.own _) (S.kit i 25 hi (by decide))) (ea_cons (ev_isx rfl X (xa.ext E8) (.own _) (S.kit i 26 hi (by decide))) (ea_cons (ev_isx rfl X (xa.ext E8) (.own _) (S.kit i 27 hi (by decide))) ea_nil))) (by simp)) (by simp)) fun l9 H9 n9 e9 h9 => ?_
    have E9 : Ex H H9 := E8.trans e9
    refine q_asgL (el_cat (ev_var rfl) h9 (el_lst (ea_cons (ev_isx rfl X (xa.ext E9) (.own _) (S.kit i 28 hi (by decide))) (ea_cons (ev_isx rfl X (xa.ext E9) (.own _) (S.kit i 29 hi (by decide))) ea_nil)) (by simp)) (by simp)) fun l10 H10 n10 e10 h10 => ?_
    have E10 : Ex H H10 := E9.trans e10
    have nn : H l10 = none := fresh_back E9 n10
    exact s_ret (ev_var rfl) fun H' e' => q l10 H' nn (E10.trans e') (e' _ _ h10)
theorem ok_bases (F : FnP K "_law_bases" sBases f fd) (T : Bl mg) (S : Kn K mg cl cE cM) : FnOk P w K mg base CX0 1 f fd ["_law_e"] (spBases K cl) := by
  refine F.ok scBases (fun vs H Q E h => ?_) (fun cdv A outer s H vs Q E hr h => ?_)
  · obtain ⟨a, i, fs, rfl, _⟩ := h
    rfl
  · obtain ⟨a, i, fs, rfl, hi, xa, q⟩ := h
    obtain ⟨B, nw, ini, bm, X⟩ := S.xc i hi
    refine ⟨_, pss_cons (ps_set (i := 1) scBases.nd rfl (Or.inl rfl) (pe_lst (pa_cons (pe_callB call_isX (by rfl) T.isi boot_isinstance (pa_cons (pv 0) (pa_cons (pe_glob (v := .ref cE) rfl S.gE rfl) pa_nil))) (pa_cons (pe_callB call_isX (by rfl) T.isi boot_isinstance (pa_cons (pv 0) (pa_cons (pe_bltn (v := .ty "ValueError") rfl S.ve Boot.«ValueError» rfl) pa_nil))) pa_nil)))) (pss_one (ps_ret (pe_op op_cat (pv 1) (pe_lst (pa_cons (pe_callB call_isX (by rfl) T.isi boot_isinstance (pa_cons (pv 0) (pa_cons (pe_glob (v := .ref cM) rfl S.gM rfl) pa_nil))) (pa_cons (pe_callB call_isX (by rfl) T.isi boot_isinstance (pa_cons (pv 0) (pa_cons (pe_bltn (v := .ty "LookupError") rfl S.le Boot.«LookupError» rfl) pa_nil))) pa_nil)))))), ?_⟩
    refine q_asgL (el_lst (ea_cons (ev_isx rfl X xa (.own _) (S.kE i hi)) (ea_cons (ev_isx rfl X xa (.ty _) (S.kV i hi)) ea_nil)) (by simp)) fun l0 H0 n0 e0 h0 => ?_
    refine s_retL (el_cat (ev_var rfl) h0 (el_lst (ea_cons (ev_isx rfl X (xa.ext e0) (.own _) (S.kM i hi)) (ea_cons (ev_isx rfl X (xa.ext e0) (.ty _) (S.kL i hi)) ea_nil)) (by simp)) (by simp)) fun p H1 hp e1 h1 => ?_
    exact q p H1 (fresh_back e0 hp) (e0.trans e1) h1
end
end K13

set_option Elab.async false
set_option linter.all false
set_option maxRecDepth 100000
set_option maxHeartbeats 8000000
namespace K13
open PySem PySem.Spec PyProof.Rows L2 Evl J
abbrev sPlain : Stmt := topS 41
abbrev sTold : Stmt := topS 42
/-! new objects, one behind another -/
def Mono (Φ : Addr → Hp → Prop) : Prop := ∀ a H H', Ex H H' → Φ a H → Φ a H'
def EvN (te : TE) (σ : L2.St) (H : Hp) (Φ : Addr → Hp → Prop) : Prop := ∀ H1, Ex H H1 → ∀ Q : VK, (∀ a H2, H1 a = none → Ex H1 H2 → Φ a H2 → Q (.ref a) H2) → te σ H1 Q
/-- each of some objects is as it should be -/
inductive All2 : List Addr → List (Addr → Hp → Prop) → Hp → Prop
  | nil {H : Hp} : All2 [] [] H
  | cons {a : Addr} {as : List Addr} {Φ : Addr → Hp → Prop} {Φs : List (Addr → Hp → Prop)} {H : Hp} : Φ a H → Mono Φ → All2 as Φs H → All2 (a :: as) (Φ :: Φs) H
theorem All2.ext {H H' : Hp} (e : Ex H H') : ∀ {as : List Addr} {Φs : List (Addr → Hp → Prop)}, All2 as Φs H → All2 as Φs H'
  | _, _, .nil => .nil
  | _, _, .cons h m r => .cons (m _ _ _ e h) m (All2.ext e r)
theorem All2.app {H : Hp} : ∀ {as bs : List Addr} {Φs Ψs : List (Addr → Hp → Prop)}, All2 as Φs H → All2 bs Ψs H → All2 (as ++ bs) (Φs ++ Ψs) H
  | _, _, _, _, .nil, s => s
  | _, _, _, _, .cons h m r, s => .cons h m (All2.app r s)
theorem All2.len {H : Hp} : ∀ {as : List Addr} {Φs : List (Addr → Hp → Prop)}, All2 as Φs H → as.length = Φs.length
  | _, _, .nil => rfl
  | _, _, .cons _ _ r => congrArg (· + 1) (All2.len r)
theorem All2.get {H : Hp} : ∀ {as : List Addr} {Φs : List (Addr → Hp → Prop)} {i : Nat} {Φ : Addr → Hp → Prop}, All2 as Φs H → Φs[i]? = some Φ → ∃ a, as[i]? = some a ∧ Φ a H
  | _, _, i, _, .nil, h => by simp at h
  | _, _, 0, _, .cons h m r, e => by
    simp at e
    subst e
    exact ⟨_, rfl, h⟩
  | _, _, i + 1, _, .cons h m r, e => by
    obtain ⟨a, h1, h2⟩ := All2.get (i := i) r (by simpa using e)
    exact ⟨a, by simpa using h1, h2⟩
def EvNA (ta : TA) (σ : L2.St) (H : Hp) (Φs : List (Addr → Hp → Prop)) : Prop := ∀ H1, Ex H H1 → ∀ Q : List V → Hp → Prop, (∀ as H2, Ex H1 H2 → All2 as Φs H2 → Q (as.map V.ref) H2) → ta σ H1 Q
section
variable {K : PySem.W.Frag} {σ : L2.St} {H : Hp} {te ta : TE} {tr : TA} {Φ : Addr → Hp → Prop} {Φs : List (Addr → Hp → Prop)}
theorem na_nil : EvNA tNil σ H [] := fun H1 _ Q q => q [] H1 (Ex.refl H1) .nil
theorem na_cons (h : EvN te σ H Φ) (m : Mono Φ) (hr : EvNA tr σ H Φs) : EvNA (tCons te tr) σ H (Φ :: Φs) := fun H1 e Q q =>
  h H1 e _ fun a H2 _ e2 p => hr H2 (e.trans e2) _ fun as H3 e3 ps => q (a :: as) H3 (e2.trans e3) (.cons (m _ _ _ e3 p) m ps)
/-- a list of new objects -/
def EvNL (te : TE) (σ : L2.St) (H : Hp) (Φs : List (Addr → Hp → Prop)) : Prop := ∀ H1, Ex H H1 → ∀ Q : VK, (∀ p as H2, H1 p = none → Ex H1 H2 → H2 p = some (.lst (as.map V.ref)) → All2 as Φs H2 → Q (.ref p) H2) → te σ H1 Q
theorem nl_lst (h : EvNA tr σ H Φs) (hz : Φs.length ≤ 1000) : EvNL (tLst tr) σ H Φs := fun H1 e Q q =>
  h H1 e _ fun as H2 e2 al => ⟨by rw [List.length_map, al.len]; exact sz_of (by omega), fun p hp => q p as _ (fresh_back e2 hp) (e2.trans (Ex.new hp)) upd_same (al.ext (Ex.new hp))⟩
theorem nl_cat {l : Addr} {as : List Addr} {Ψs : List (Addr → Hp → Prop)} {tb : TE} (ha : Ev ta σ H (.ref l)) (hl : H l = some (.lst (as.map V.ref))) (al : All2 as Φs H) (hb : EvNL tb σ H Ψs) (hz : Φs.length + Ψs.length ≤ 1000) : EvNL (tOp rCat ta tb) σ H (Φs ++ Ψs) := fun H1 e Q q =>
  ha H1 e _ fun H2 e2 => hb H2 (e.trans e2) _ fun p bs H3 hp e3 h3 bl => ⟨l, p, _, _, rfl, rfl, e3 l _ (e2 l _ (e l _ hl)), h3, by rw [List.length_map, List.length_map, al.len, bl.len]; exact sz_of (by omega), fun r hr => by
    rw [← List.map_append]
    exact q r _ _ (fresh_back (e2.trans e3) hr) ((e2.trans e3).trans (Ex.new hr)) upd_same (((al.ext ((e.trans e2).trans e3)).app bl).ext (Ex.new hr))⟩
/-- .. both lists new -/
theorem nl_cat2 {Ψs : List (Addr → Hp → Prop)} {tb : TE} (ha : EvNL ta σ H Φs) (hb : EvNL tb σ H Ψs) (hz : Φs.length + Ψs.length ≤ 1000) : EvNL (tOp rCat ta tb) σ H (Φs ++ Ψs) := fun H1 e Q q =>
  ha H1 e _ fun l as H2 hl e2 h2 al => hb H2 (e.trans e2) _ fun p bs H3 hp e3 h3 bl => ⟨l, p, _, _, rfl, rfl, e3 l _ h2, h3, by rw [List.length_map, List.length_map, al.len, bl.len]; exact sz_of (by omega), fun r hr => by
    rw [← List.map_append]
    exact q r _ _ (fresh_back (e2.trans e3) hr) ((e2.trans e3).trans (Ex.new hr)) upd_same (((al.ext e3).app bl).ext (Ex.new hr))⟩
theorem q_asgNL {i : Nat} {tz : TS} {D : Ends} (h : EvNL te σ H Φs) (k : ∀ p as H1, H p = none → Ex H H1 → H1 p = some (.lst (as.map V.ref)) → All2 as Φs H1 → tz D (σ.set i (some (.ref p))) H1) : tSeq (tAsg te (gName i)) tz D σ H := h H (Ex.refl H) _ k
theorem s_retNL {D : Ends} (h : EvNL te σ H Φs) (k : ∀ p as H1, H p = none → Ex H H1 → H1 p = some (.lst (as.map V.ref)) → All2 as Φs H1 → D.rt (.ref p) H1) : tRet te D σ H := h H (Ex.refl H) _ k
theorem s_evNL {Q : VK} (h : EvNL te σ H Φs) (k : ∀ p as H1, H p = none → Ex H H1 → H1 p = some (.lst (as.map V.ref)) → All2 as Φs H1 → Q (.ref p) H1) : te σ H Q := h H (Ex.refl H) _ k
/-- an error of the class at C whose fields hold such data -/
def Er (K : PySem.W.Frag) (C : Addr) (flds : List (Str × PyData)) (a : Addr) (H : Hp) : Prop := ∃ fs : List (Str × V), XAt H a C fs ∧ ∀ x d, flds.lookup x = some d → ∃ v, fs.lookup x = some v ∧ Dp K H v d
theorem er_mono {C : Addr} {flds : List (Str × PyData)} : Mono (Er K C flds) := fun a H H' e ⟨fs, xa, h⟩ => ⟨fs, xa.ext e, fun x d z => let ⟨v, h1, h2⟩ := h x d z; ⟨v, h1, dp_ext e h2⟩⟩
theorem en_x0 {C : Addr} : EvN (tX0 C) σ H (Er K C []) := fun H1 e Q q a hn => q a _ hn (Ex.new hn) ⟨[], .inl ⟨rfl, upd_same⟩, fun x d z => by simp at z⟩
theorem one_lookup {f x : Str} {α : Type} {d e : α} (h : ([(f, d)] : List (Str × α)).lookup x = some e) : x = f ∧ d = e := by
  by_cases q : x = f
  · subst q
    simp [List.lookup] at h
    exact ⟨rfl, h⟩
  · have q2 : (x == f) = false := by simpa using q
    simp [List.lookup, q2] at h
theorem en_x1 {C : Addr} {fl : Str} {n i : Nat} {v : V} {d : PyData} (h0 : σ[i]? = some (some v)) (dp : Dp K H v d) (hn : Dn n d) : EvN (tXMk C (spX1 K C fl n false) [] E0 (tCons (tVar i) tNil)) σ H (Er K C [(fl, d)]) := fun H1 e Q q =>
  ⟨v, h0, by simp, fun a ha => ⟨a, v, d, d, H1, rfl, upd_same, Ex.new ha, ha, dp_ext e dp, ⟨hn, rfl⟩, fun v' H' k xa dq =>
    ⟨rfl, q a H' ha (fun b o z => k b o (ne_of_none z ha) ((Ex.new ha) b o z)) ⟨_, xa, fun x d2 z => by
      obtain ⟨rfl, rfl⟩ := one_lookup z
      exact ⟨v', by simp [List.lookup], dq⟩⟩⟩⟩⟩
theorem en_x1r {C : Addr} {fl : Str} {n i : Nat} {v : V} {d : PyData} {ds : List PyData} (h0 : σ[i]? = some (some v)) (dp : Dp K H v d) (hd : d = .list ds ∨ d = .tuple ds) (hz : ds.length ≤ 1000) (hn : ∀ x ∈ ds, Dn n x) :
    EvN (tXMk C (spX1 K C fl n true) [] E0 (tCons (tVar i) tNil)) σ H (Er K C [(fl, .tuple ds)]) := fun H1 e Q q =>
  ⟨v, h0, by simp, fun a ha => ⟨a, v, d, .tuple ds, H1, rfl, upd_same, Ex.new ha, ha, dp_ext e dp, ⟨ds, hd, hz, hn, rfl⟩, fun v' H' k xa dq =>
    ⟨rfl, q a H' ha (fun b o z => k b o (ne_of_none z ha) ((Ex.new ha) b o z)) ⟨_, xa, fun x d2 z => by
      obtain ⟨rfl, rfl⟩ := one_lookup z
      exact ⟨v', by simp [List.lookup], dq⟩⟩⟩⟩⟩
theorem en_x2 {C : Addr} {f1 f2 : Str} {n i j : Nat} {u v : V} {du d : PyData} {ds : List PyData} (h0 : σ[i]? = some (some u)) (h1 : σ[j]? = some (some v)) (dpu : Dp K H u du) (dp : Dp K H v d) (hd : d = .list ds ∨ d = .tuple ds) (hz : ds.length ≤ 1000) (hn : ∀ x ∈ ds, Dn n x) (hf : (f1 == f2) = false) :
    EvN (tXMk C (spX2 K C f1 f2 n) [] E0 (tCons (tVar i) (tCons (tVar j) tNil))) σ H (Er K C [(f2, .tuple ds), (f1, du)]) := fun H1 e Q q =>
  ⟨u, h0, v, h1, by simp, fun a ha => ⟨a, u, v, du, d, ds, H1, rfl, upd_same, Ex.new ha, ha, dp_ext e dpu, dp_ext e dp, hd, hz, hn, fun v' H' k xa dq =>
    have ee : Ex H1 H' := fun b o z => k b o (ne_of_none z ha) ((Ex.new ha) b o z)
    ⟨rfl, q a H' ha ee ⟨_, xa, fun x d2 z => by
      by_cases q : x = f2
      · subst q
        simp [List.lookup] at z
        subst z
        exact ⟨v', by simp [List.lookup], dq⟩
      · have q2 : (x == f2) = false := by simpa using q
        simp only [List.lookup, q2] at z
        obtain ⟨rfl, rfl⟩ := one_lookup z
        exact ⟨u, by simp [List.lookup, q2], dp_ext (e.trans ee) dpu⟩⟩⟩⟩⟩
end
/-- how the classes are made -/
structure Mks (P : Program) (w : World) (K : PySem.W.Frag) (mg : Str → Option Value) (base : Heap) (cl : Nat → Addr) : Prop where
  m0 : ∀ (i : Nat) (x : Str), i < 11 → nms[i]? = some x → Mk0 K mg x (cl i)
  kept : Mkr P w K mg base CX0 7 "NotKept" (cl 11) ["self", "part", "members"] (spX2 K (cl 11) "part" "members" 2)
  mem : ∀ (i : Nat) (x : Str), 12 ≤ i → i < 14 → nms[i]? = some x → Mkr P w K mg base CX0 7 x (cl i) ["self", "members"] (spX1 K (cl i) "members" 2 true)
  nam : ∀ (i : Nat) (x : Str), (14 ≤ i ∧ i < 20) ∨ (25 ≤ i ∧ i < 29) → nms[i]? = some x → Mkr P w K mg base CX0 7 x (cl i) ["self", "name"] (spX1 K (cl i) "name" 2 false)
  pat : ∀ (i : Nat) (x : Str), 20 ≤ i → i < 23 → nms[i]? = some x → Mkr P w K mg base CX0 7 x (cl i) ["self", "path"] (spX1 K (cl i) "path" 2 true)
  plc : Mkr P w K mg base CX0 7 "BadText" (cl 23) ["self", "place"] (spX1 K (cl 23) "place" 2 false)
  spo : Mkr P w K mg base CX0 7 "Clash" (cl 24) ["self", "spots"] (spX1 K (cl 24) "spots" 2 true)
  num : Mkr P w K mg base CX0 7 "NoState" (cl 29) ["self", "number"] (spX1 K (cl 29) "number" 2 false)
section
variable {P : Program} {w : World} {K : PySem.W.Frag} {mg : Str → Option Value} {base : Heap} {f : Addr} {fd : FuncData} {cl : Nat → Addr} {cE cM : Addr}
def plainE (K : PySem.W.Frag) (cl : Nat → Addr) : List (Addr → Hp → Prop) := (List.range 11).map fun i => Er K (cl i) []
def toldE (K : PySem.W.Frag) (cl : Nat → Addr) (dw : PyData) (ds : List PyData) : List (Addr → Hp → Prop) :=
  [Er K (cl 11) [("members", .tuple ds), ("part", dw)], Er K (cl 12) [("members", .tuple ds)], Er K (cl 13) [("members", .tuple ds)], Er K (cl 14) [("name", dw)], Er K (cl 15) [("name", dw)], Er K (cl 16) [("name", dw)], Er K (cl 17) [("name", dw)],
    Er K (cl 18) [("name", dw)], Er K (cl 19) [("name", dw)], Er K (cl 20) [("path", .tuple ds)], Er K (cl 21) [("path", .tuple ds)], Er K (cl 22) [("path", .tuple ds)]]
def RetNL (Φs : List (Addr → Hp → Prop)) (H : Hp) (Q : VK) : Prop := ∀ p as H', H p = none → Ex H H' → H' p = some (.lst (as.map V.ref)) → All2 as Φs H' → Q (.ref p) H'
def spPlain (K : PySem.W.Frag) (cl : Nat → Addr) : Sp := fun vs H Q _ => vs = [] ∧ RetNL (plainE K cl) H Q
def spTold (K : PySem.W.Frag) (cl : Nat → Addr) : Sp := fun vs H Q _ => ∃ (u v : V) (dw d : PyData) (ds : List PyData), vs = [u, v] ∧ Dp K H u dw ∧ Dn 2 dw ∧ Dp K H v d ∧ (d = .list ds ∨ d = .tuple ds) ∧ ds.length ≤ 1000 ∧ (∀ x ∈ ds, Dn 2 x) ∧ RetNL (toldE K cl dw ds) H Q
abbrev NP : List Str := ["_law_found"]
abbrev NT : List Str := ["_law_word", "_law_some", "_law_found"]
theorem scPlain : FnScope NP [] (defScope sPlain) := ⟨rfl, rfl, rfl, by decide +kernel, rfl, by decide +kernel, by decide +kernel⟩
theorem scTold : FnScope NT ["_law_word", "_law_some"] (defScope sTold) := ⟨rfl, rfl, rfl, by decide +kernel, rfl, by decide +kernel, by decide +kernel⟩
theorem ok_plain (F : FnP K "_law_plain" sPlain f fd) (M : Mks P w K mg base cl) : FnOk P w K mg base CX0 1 f fd [] (spPlain K cl) := by
  refine F.ok scPlain (fun vs H Q E h => ?_) (fun cdv A outer s H vs Q E hr h => ?_)
  · obtain ⟨rfl, _⟩ := h
    rfl
  · obtain ⟨rfl, q⟩ := h
    refine ⟨_, pss_cons (ps_set (i := 0) scPlain.nd rfl (Or.inl rfl) (pe_lst (pa_cons (pe_mk0 (M.m0 0 _ (by decide) rfl) rfl) (pa_cons (pe_mk0 (M.m0 1 _ (by decide) rfl) rfl) (pa_cons (pe_mk0 (M.m0 2 _ (by decide) rfl) rfl) (pa_cons (pe_mk0 (M.m0 3 _ (by decide) rfl) rfl) (pa_cons (pe_mk0 (M.m0 4 _ (by decide) rfl) rfl) (pa_cons (pe_mk0 (M.m0 5 _ (by decide) rfl) rfl) pa_nil)))))))) (pss_one (ps_ret (pe_op op_cat (pv 0) (pe_lst (pa_cons (pe_mk0 (M.m0 6 _ (by decide) rfl) rfl) (pa_cons (pe_mk0 (M.m0 7 _ (by decide) rfl) rfl) (pa_cons (pe_mk0 (M.m0 8 _ (by decide) rfl) rfl) (pa_cons (pe_mk0 (M.m0 9 _ (by decide) rfl) rfl) (pa_cons (pe_mk0 (M.m0 10 _ (by decide) rfl) rfl) pa_nil))))))))), ?_⟩
    refine q_asgNL (nl_lst (na_cons (en_x0 (K := K)) er_mono (na_cons (en_x0 (K := K)) er_mono (na_cons (en_x0 (K := K)) er_mono (na_cons (en_x0 (K := K)) er_mono (na_cons (en_x0 (K := K)) er_mono (na_cons (en_x0 (K := K)) er_mono na_nil)))))) (by simp)) fun l as H1 n1 e1 h1 a1 => ?_
    refine s_retNL (nl_cat (ev_var rfl) h1 a1 (nl_lst (na_cons (en_x0 (K := K)) er_mono (na_cons (en_x0 (K := K)) er_mono (na_cons (en_x0 (K := K)) er_mono (na_cons (en_x0 (K := K)) er_mono (na_cons (en_x0 (K := K)) er_mono na_nil))))) (by simp)) (by simp)) fun p bs H2 n2 e2 h2 a2 => ?_
    exact q p bs H2 (fresh_back e1 n2) (e1.trans e2) h2 a2
theorem ok_told (F : FnP K "_law_told" sTold f fd) (M : Mks P w K mg base cl) : FnOk P w K mg base CX0 9 f fd ["_law_word", "_law_some"] (spTold K cl) := by
  refine F.ok scTold (fun vs H Q E h => ?_) (fun cdv A outer s H vs Q E hr h => ?_)
  · obtain ⟨u, v, dw, d, ds, rfl, _⟩ := h
    rfl
  · obtain ⟨u, v, dw, d, ds, rfl, dpw, hw, dp, hd, hz, hn, q⟩ := h
    refine ⟨_, pss_cons (ps_set (i := 2) scTold.nd rfl (Or.inl rfl) (pe_lst (pa_cons (pe_mkr M.kept hr rfl pass0 (pa_cons (pv 0) (pa_cons (pv 1) pa_nil))) (pa_cons (pe_mkr (M.mem 12 _ (by decide) (by decide) rfl) hr rfl pass0 (pa_cons (pv 1) pa_nil)) (pa_cons (pe_mkr (M.mem 13 _ (by decide) (by decide) rfl) hr rfl pass0 (pa_cons (pv 1) pa_nil)) (pa_cons (pe_mkr (M.nam 14 _ (by decide) rfl) hr rfl pass0 (pa_cons (pv 0) pa_nil)) (pa_cons (pe_mkr (M.nam 15 _ (by decide) rfl) hr rfl pass0 (pa_cons (pv 0) pa_nil)) pa_nil)))))))
      (pss_cons (ps_set (i := 2) scTold.nd rfl (Or.inl rfl) (pe_op op_cat (pv 2) (pe_lst (pa_cons (pe_mkr (M.nam 16 _ (by decide) rfl) hr rfl pass0 (pa_cons (pv 0) pa_nil)) (pa_cons (pe_mkr (M.nam 17 _ (by decide) rfl) hr rfl pass0 (pa_cons (pv 0) pa_nil)) (pa_cons (pe_mkr (M.nam 18 _ (by decide) rfl) hr rfl pass0 (pa_cons (pv 0) pa_nil)) (pa_cons (pe_mkr (M.nam 19 _ (by decide) rfl) hr rfl pass0 (pa_cons (pv 0) pa_nil)) pa_nil)))))))
      (pss_one (ps_ret (pe_op op_cat (pv 2) (pe_lst (pa_cons (pe_mkr (M.pat 20 _ (by decide) (by decide) rfl) hr rfl pass0 (pa_cons (pv 1) pa_nil)) (pa_cons (pe_mkr (M.pat 21 _ (by decide) (by decide) rfl) hr rfl pass0 (pa_cons (pv 1) pa_nil)) (pa_cons (pe_mkr (M.pat 22 _ (by decide) (by decide) rfl) hr rfl pass0 (pa_cons (pv 1) pa_nil)) pa_nil)))))))), ?_⟩
    refine q_asgNL (nl_lst (na_cons (en_x2 rfl rfl dpw dp hd hz hn (by decide)) er_mono (na_cons (en_x1r rfl dp hd hz hn) er_mono (na_cons (en_x1r rfl dp hd hz hn) er_mono (na_cons (en_x1 rfl dpw hw) er_mono (na_cons (en_x1 rfl dpw hw) er_mono na_nil))))) (by simp)) fun l as H1 n1 e1 h1 a1 => ?_
    refine q_asgNL (nl_cat (ev_var rfl) h1 a1 (nl_lst (na_cons (en_x1 rfl (dp_ext e1 dpw) hw) er_mono (na_cons (en_x1 rfl (dp_ext e1 dpw) hw) er_mono (na_cons (en_x1 rfl (dp_ext e1 dpw) hw) er_mono (na_cons (en_x1 rfl (dp_ext e1 dpw) hw) er_mono na_nil)))) (by simp)) (by simp)) fun l2 bs H2 n2 e2 h2 a2 => ?_
    refine s_retNL (nl_cat (ev_var rfl) h2 a2 (nl_lst (na_cons (en_x1r rfl (dp_ext (e1.trans e2) dp) hd hz hn) er_mono (na_cons (en_x1r rfl (dp_ext (e1.trans e2) dp) hd hz hn) er_mono (na_cons (en_x1r rfl (dp_ext (e1.trans e2) dp) hd hz hn) er_mono na_nil))) (by simp)) (by simp)) fun p cs H3 n3 e3 h3 a3 => ?_
    exact q p cs H3 (fresh_back (e1.trans e2) n3) ((e1.trans e2).trans e3) h3 a3
end
end K13

set_option Elab.async false
set_option linter.all false
set_option maxRecDepth 100000
set_option maxHeartbeats 8000000
/-! data by readings, repr, errors' fields -/
namespace K13
open PySem PySem.Spec PyProof.Rows L2 Evl J
section
variable {K : PySem.W.Frag} {σ : L2.St} {H : Hp} {te ta tb : TE} {tr : TA} {d : PyData} {ds es : List PyData}
def EvD (K : PySem.W.Frag) (te : TE) (σ : L2.St) (H : Hp) (d : PyData) : Prop := ∀ H1, Ex H H1 → ∀ Q : VK, (∀ v H2, Ex H1 H2 → Dp K H2 v d → Q v H2) → te σ H1 Q
def EvDA (K : PySem.W.Frag) (ta : TA) (σ : L2.St) (H : Hp) (ds : List PyData) : Prop := ∀ H1, Ex H H1 → ∀ Q : List V → Hp → Prop, (∀ vs H2, Ex H1 H2 → DpAll K H2 vs ds → Q vs H2) → ta σ H1 Q
def EvDL (K : PySem.W.Frag) (te : TE) (σ : L2.St) (H : Hp) (ds : List PyData) : Prop := ∀ H1, Ex H H1 → ∀ Q : VK, (∀ p xs H2, H1 p = none → Ex H1 H2 → H2 p = some (.lst xs) → DpAll K H2 xs ds → Q (.ref p) H2) → te σ H1 Q
theorem EvD.mono {H' : Hp} (h : EvD K te σ H d) (e : Ex H H') : EvD K te σ H' d := fun H1 e1 Q q => h H1 (e.trans e1) Q q
theorem ed_ev {v : V} (h : Ev te σ H v) (dp : Dp K H v d) : EvD K te σ H d := fun H1 e Q q => h H1 e _ fun H2 e2 => q v H2 e2 (dp_ext (e.trans e2) dp)
theorem ed_var {i : Nat} {v : V} (h : σ[i]? = some (some v)) (dp : Dp K H v d) : EvD K (tVar i) σ H d := ed_ev (ev_var h) dp
theorem ed_int {i : Int} : EvD K (tC (.int i)) σ H (.int i) := ed_ev ev_c (.int i)
theorem da_nil : EvDA K tNil σ H [] := fun H1 _ Q q => q [] H1 (Ex.refl H1) .nil
theorem da_cons (h : EvD K te σ H d) (hr : EvDA K tr σ H ds) : EvDA K (tCons te tr) σ H (d :: ds) := fun H1 e Q q =>
  h H1 e _ fun v H2 e2 dp => hr H2 (e.trans e2) _ fun vs H3 e3 da => q (v :: vs) H3 (e2.trans e3) (.cons (dp_ext e3 dp) da)
theorem ed_tup (h : EvDA K tr σ H ds) (hz : ds.length ≤ 1000) : EvD K (tTup tr) σ H (.tuple ds) := fun H1 e Q q =>
  h H1 e _ fun vs H2 e2 da => ⟨by rw [dpa_len da]; exact sz_of (by omega), fun p hp => q (.ref p) _ (e2.trans (Ex.new hp)) (.tup (st_of upd_same) (dpa_ext (Ex.new hp) da))⟩
theorem dl_lst (h : EvDA K tr σ H ds) (hz : ds.length ≤ 1000) : EvDL K (tLst tr) σ H ds := fun H1 e Q q =>
  h H1 e _ fun vs H2 e2 da => ⟨by rw [dpa_len da]; exact sz_of (by omega), fun p hp => q p vs _ (fresh_back e2 hp) (e2.trans (Ex.new hp)) upd_same (dpa_ext (Ex.new hp) da)⟩
theorem ed_dl (h : EvDL K te σ H ds) : EvD K te σ H (.list ds) := fun H1 e Q q => h H1 e _ fun p xs H2 _ e2 h2 da => q (.ref p) H2 e2 (.lst (sq_of h2) da)
theorem dpa_app {vs ws : List V} : ∀ {ds es : List PyData}, DpAll K H vs ds → DpAll K H ws es → DpAll K H (vs ++ ws) (ds ++ es) := by
  induction vs with
  | nil =>
    intro ds es h1 h2
    cases h1
    exact h2
  | cons v vs ih =>
    intro ds es h1 h2
    cases h1 with
    | cons h r => exact .cons h (ih r h2)
theorem dl_cat (ha : EvDL K ta σ H ds) (hb : EvDL K tb σ H es) (hz : ds.length + es.length ≤ 1000) : EvDL K (tOp rCat ta tb) σ H (ds ++ es) := fun H1 e Q q =>
  ha H1 e _ fun p xs H2 hp e2 h2 d2 => hb H2 (e.trans e2) _ fun r ys H3 hr e3 h3 d3 => ⟨p, r, xs, ys, rfl, rfl, e3 p _ h2, h3, by rw [dpa_len d2, dpa_len d3]; exact sz_of (by omega), fun l hl =>
    q l _ _ (fresh_back (e2.trans e3) hl) ((e2.trans e3).trans (Ex.new hl)) upd_same (dpa_app (dpa_ext (e3.trans (Ex.new hl)) d2) (dpa_ext (Ex.new hl) d3))⟩
/-- the left side a list that stands -/
theorem dl_cat1 {l : Addr} {xs : List V} (ha : Ev ta σ H (.ref l)) (hl : H l = some (.lst xs)) (da : DpAll K H xs ds) (hb : EvDL K tb σ H es) (hz : ds.length + es.length ≤ 1000) : EvDL K (tOp rCat ta tb) σ H (ds ++ es) := fun H1 e Q q =>
  ha H1 e _ fun H2 e2 => hb H2 (e.trans e2) _ fun r ys H3 hr e3 h3 d3 => ⟨l, r, xs, ys, rfl, rfl, e3 l _ (e2 l _ (e l _ hl)), h3, by rw [dpa_len da, dpa_len d3]; exact sz_of (by omega), fun m hm =>
    q m _ _ (fresh_back (e2.trans e3) hm) ((e2.trans e3).trans (Ex.new hm)) upd_same (dpa_app (dpa_ext (((e.trans e2).trans e3).trans (Ex.new hm)) da) (dpa_ext (Ex.new hm) d3))⟩
theorem dl_of {l : Addr} {xs : List V} (ha : Ev ta σ H (.ref l)) (hl : H l = some (.lst xs)) (da : DpAll K H xs ds) {l2 : Addr} {ys : List V} (hb : Ev tb σ H (.ref l2)) (hl2 : H l2 = some (.lst ys)) (db : DpAll K H ys es) (hz : ds.length + es.length ≤ 1000) : EvDL K (tOp rCat ta tb) σ H (ds ++ es) := fun H1 e Q q =>
  ha H1 e _ fun H2 e2 => hb H2 (e.trans e2) _ fun H3 e3 => ⟨l, l2, xs, ys, rfl, rfl, e3 l _ (e2 l _ (e l _ hl)), e3 l2 _ (e2 l2 _ (e l2 _ hl2)), by rw [dpa_len da, dpa_len db]; exact sz_of (by omega), fun m hm =>
    q m _ _ (fresh_back (e2.trans e3) hm) ((e2.trans e3).trans (Ex.new hm)) upd_same (dpa_app (dpa_ext (((e.trans e2).trans e3).trans (Ex.new hm)) da) (dpa_ext (((e.trans e2).trans e3).trans (Ex.new hm)) db))⟩
theorem dpa_rep {v : V} (h : Dp K H v d) : ∀ n : Nat, DpAll K H (List.replicate n v) (List.replicate n d)
  | 0 => .nil
  | n + 1 => .cons h (dpa_rep h n)
/-- [e] * n -/
theorem dl_rep {n : Nat} (h : EvDL K te σ H [d]) (hz : n ≤ 100) : EvDL K (tOp rRep te (tC (.int (n : Int)))) σ H (List.replicate n d) := fun H1 e Q q =>
  h H1 e _ fun p xs H2 hp e2 h2 da => by
    cases da with
    | @cons v _ _ _ hv hr =>
      cases hr
      refine ⟨p, (n : Int), [v], rfl, rfl, h2, by omega, by omega, by simp; exact sz_of (by omega), fun m hm => ?_⟩
      have e1 : ((n : Int).toNat) = n := Int.toNat_natCast n
      have e4 : (List.replicate n [v]).flatten = List.replicate n v := by
        clear e1 hm q h hz
        induction n with
        | zero => rfl
        | succ n ih => rw [List.replicate_succ, List.flatten_cons, ih]; rfl
      rw [e1, e4]
      exact q m _ _ (fresh_back e2 hm) (e2.trans (Ex.new hm)) upd_same (dpa_rep (dp_ext (Ex.new hm) hv) n)
/-- tuple(e) -/
theorem ed_tupleOf (h : EvD K te σ H d) (hd : d = .list ds ∨ d = .tuple ds) : EvD K (tThen te (kTup K)) σ H (.tuple ds) := fun H1 e Q q =>
  h H1 e _ fun v H2 e2 dp => by
    rcases hd with rfl | rfl
    · cases dp with
      | @lst a xs _ hs ha => exact .inl ⟨a, xs, rfl, hs, fun r hr => q (.ref r) _ (e2.trans (Ex.new hr)) (.tup (st_of upd_same) (dpa_ext (Ex.new hr) ha))⟩
    · cases dp with
      | @tup a xs _ hs ha => exact .inr ⟨a, xs, rfl, hs, q (.ref a) H2 e2 (.tup hs ha)⟩
/-- what repr asks -/
def okD (d : PyData) : Bool := d.showable && (!d.hasDict && (decide (d.shown.length ≤ 20000) && decide (d.depth ≤ 20)))
theorem ev_repr (h : EvD K te σ H d) (ok : okD d = true) : Ev (tCB (rRepr K) (tCons te tNil)) σ H (.str d.shown) := fun H1 e Q q => by
  obtain ⟨o1, o2⟩ := Bool.and_eq_true_iff.mp ok
  obtain ⟨o2, o3⟩ := Bool.and_eq_true_iff.mp o2
  obtain ⟨o3, o4⟩ := Bool.and_eq_true_iff.mp o3
  exact h H1 e _ fun v H2 e2 dp => ⟨v, d, rfl, dp, o1, by simpa using o2, sz_of (by have := of_decide_eq_true o3; omega), of_decide_eq_true o4, q H2 e2⟩
theorem et_same {s : Str} (h1 : Ev ta σ H (.str s)) (h2 : Ev tb σ H (.str s)) : EvT (tTest (tOp rNe ta tb)) σ H false :=
  et_is (et_test (ev_op h1 h2 (rv_ne rfl))) (by simp)
/-- a field of an error -/
theorem ed_fld {C : Addr} {flds : List (Str × PyData)} {a : Addr} {f : Str} {B nw ini : String} {bm : List Value} (h : Ev te σ H (.ref a)) (T : XC K B nw ini bm C) (no : PySem.W.findIn K (.ref C) f = some none) (er : Er K C flds a H) (hf : flds.lookup f = some d) :
    EvD K (tXFld K te f) σ H d := fun H1 e Q q => h H1 e _ fun H2 e2 => by
  obtain ⟨fs, xa, z⟩ := er_mono _ _ _ (e.trans e2) er
  obtain ⟨v, h1, h2⟩ := z f d hf
  exact ⟨a, C, fs, v, B, nw, ini, bm, rfl, T, xa, no, h1, q v H2 e2 h2⟩
theorem ed_fldN {C : Addr} {flds : List (Str × PyData)} {f : Str} {B nw ini : String} {bm : List Value} (h : EvN te σ H (Er K C flds)) (T : XC K B nw ini bm C) (no : PySem.W.findIn K (.ref C) f = some none) (hf : flds.lookup f = some d) :
    EvD K (tXFld K te f) σ H d := fun H1 e Q q => h H1 e _ fun a H2 _ e2 er => by
  obtain ⟨fs, xa, z⟩ := er
  obtain ⟨v, h1, h2⟩ := z f d hf
  exact ⟨a, C, fs, v, B, nw, ini, bm, rfl, T, xa, no, h1, q v H2 e2 h2⟩
/-- an error made of data that is made on the way -/
theorem en_x1d {C : Addr} {fl : Str} {n : Nat} (h : EvD K te σ H d) (hn : Dn n d) : EvN (tXMk C (spX1 K C fl n false) [] E0 (tCons te tNil)) σ H (Er K C [(fl, d)]) := fun H1 e Q q =>
  h H1 e _ fun v H2 e2 dp => ⟨by simp, fun a ha => ⟨a, v, d, d, H2, rfl, upd_same, Ex.new ha, ha, dp, ⟨hn, rfl⟩, fun v' H' k xa dq =>
    ⟨rfl, q a H' (fresh_back e2 ha) (e2.trans (fun b o z => k b o (ne_of_none z ha) ((Ex.new ha) b o z))) ⟨_, xa, fun x d2 z => by
      obtain ⟨rfl, rfl⟩ := one_lookup z
      exact ⟨v', by simp [List.lookup], dq⟩⟩⟩⟩⟩
theorem q_asgD {i : Nat} {tz : TS} {D : Ends} (h : EvDL K te σ H ds) (k : ∀ p xs H1, Ex H H1 → H1 p = some (.lst xs) → DpAll K H1 xs ds → tz D (σ.set i (some (.ref p))) H1) : tSeq (tAsg te (gName i)) tz D σ H := h H (Ex.refl H) _ fun p xs H1 _ e h1 da => k p xs H1 e h1 da
end
end K13

set_option Elab.async false
set_option linter.all false
set_option maxRecDepth 100000
set_option maxHeartbeats 8000000
namespace K13
open PySem PySem.Spec PyProof.Rows L2 Evl J
abbrev sLawKept : Stmt := topS 43
def menuW : List PyData := [.str "", .str "x", .str "no such grade", .none, .str (Txt.mul "x" 100), .tuple [.str "a"], .int 0]
def menuN : List Int := [0, 1, 7, 200, 10 ^ ((30 : Int).toNat)]
def menuS : List PyData := [.list [.str "a", .str "b"], .list [], .tuple [.str "a"], .list [.int 0, .int 1, .int 0], .tuple [.tuple [.str "x", .str "y"]]]
def itemsOf : PyData → List PyData
  | .list ds => ds
  | .tuple ds => ds
  | _ => []
theorem menu1 : (menuW.all fun dw => menuS.all fun d => okD (.tuple [dw, .tuple (itemsOf d)])) = true := by decide +kernel
theorem menu2 : (menuS.all fun d => okD (.list [.tuple (itemsOf d), .tuple (itemsOf d), .tuple (itemsOf d)])) = true := by decide +kernel
theorem menu3 : (menuW.all fun dw => okD dw) = true := by decide +kernel
theorem menu4 : (menuS.all fun d => okD (.tuple (itemsOf d))) = true := by decide +kernel
theorem menu5 : (menuW.all fun dw => menuN.all fun n => okD (.list [.tuple [.int n, .int 0], .int n, dw, dw, dw, dw])) = true := by decide +kernel
structure Bl3 (mg : Str → Option Value) : Prop where
  rep : mg "repr" = none
  rng : mg "range" = none
/-- the fields stand nowhere in the classes -/
def NoF (K : PySem.W.Frag) (cl : Nat → Addr) : Prop := ∀ (i : Nat) (f : Str), i < 30 → f ∈ ([("part" : Str), "members", "name", "path", "place", "spots", "number"] : List Str) → PySem.W.findIn K (.ref (cl i)) f = some none
def spLawKept (K : PySem.W.Frag) : Sp := fun vs H Q _ => ∃ (u v : V) (n : Int) (dw d : PyData) (ds : List PyData), vs = [u, .int n, v] ∧ Dp K H u dw ∧ Dp K H v d ∧ dw ∈ menuW ∧ d ∈ menuS ∧ n ∈ menuN ∧ Dn 2 dw ∧ (d = .list ds ∨ d = .tuple ds) ∧ itemsOf d = ds ∧ ds.length ≤ 1000 ∧ (∀ x ∈ ds, Dn 2 x) ∧ RetV (.bl true) H Q
section
variable {P : Program} {w : World} {K : PySem.W.Frag} {mg : Str → Option Value} {base : Heap} {f : Addr} {fd : FuncData} {cl : Nat → Addr} {cE cM : Addr}
abbrev NK4 : List Str := ["_law_word", "_law_number", "_law_some", "_law_told_here", "_law_k", "_law_names"]
theorem scK : FnScope NK4 ["_law_word", "_law_number", "_law_some"] (defScope sLawKept) := ⟨rfl, rfl, rfl, by decide +kernel, rfl, by decide +kernel, by decide +kernel⟩
theorem ok_lawKept (F : FnP K "_law_kept" sLawKept f fd) (T : Bl mg) (T2 : Bl3 mg) (S : Kn K mg cl cE cM) (N : NoF K cl) (M : Mks P w K mg base cl) (cT : Cal P w K mg base CX0 9 "_law_told" ["_law_word", "_law_some"] (spTold K cl)) : FnG P w K mg base CX0 10 f fd ["_law_word", "_law_number", "_law_some"] (spLawKept K) := by
  refine fng F scK (fun vs H Q E h => ?_) (fun cdv A outer s H vs Q E hgd hr h => ?_)
  · obtain ⟨u, v, n, dw, d, ds, rfl, _⟩ := h
    rfl
  · obtain ⟨u, v, n, dw, d, ds, rfl, dpw, dp, mw, ms, mn, hw, hd, hi, hz, hn, q⟩ := h
    have hr8 : Room 8 (A.deeper (envOfC "_law_kept" (defScope sLawKept) s.heap.objs.size f cdv)) := hr.mono (by decide)
    have hu65 : (A.deeper (envOfC "_law_kept" (defScope sLawKept) s.heap.objs.size f cdv)).units + 65 < cLine := by
      have := hr.un
      omega
    have ok1 : okD (.tuple [dw, .tuple ds]) = true := by
      have z := List.all_eq_true.mp (List.all_eq_true.mp menu1 dw mw) d ms
      rw [hi] at z
      exact z
    have ok2 : okD (.list [.tuple ds, .tuple ds, .tuple ds]) = true := by
      have z := List.all_eq_true.mp menu2 d ms
      rw [hi] at z
      exact z
    have ok3 : okD dw = true := List.all_eq_true.mp menu3 dw mw
    have ok4 : okD (.tuple ds) = true := by
      have z := List.all_eq_true.mp menu4 d ms
      rw [hi] at z
      exact z
    have ok5 : okD (.list [.tuple [.int n, .int 0], .int n, dw, dw, dw, dw]) = true := List.all_eq_true.mp (List.all_eq_true.mp menu5 dw mw) n mn
    have xc : ∀ i, i < 30 → ∃ (B nw ini : String) (bm : List Value), XC K B nw ini bm (cl i) := S.xc
    refine ⟨_, PSs.nox (pss_cons (ps_set (i := 3) scK.nd rfl (Or.inl rfl) (pe_cal cT hr rfl pass0 (pa_cons (pv 0) (pa_cons (pv 2) pa_nil)))) (pss_cons (ps_if (pt_cmpR op_ne (pe_callB (call_repr hgd hu65) (by rfl) T2.rep boot_repr (pa_cons (pe_tup (pa_cons (pe_xfld (pe_ix ix_list (pv 3) (pe_int) (fun _ _ => rfl))) (pa_cons (pe_xfld (pe_ix ix_list (pv 3) (pe_int) (fun _ _ => rfl))) pa_nil))) pa_nil)) (pe_callB (call_repr hgd hu65) (by rfl) T2.rep boot_repr (pa_cons (pe_tup (pa_cons (pv 0) (pa_cons (pe_tupleOf rfl T.tup (pv 2)) pa_nil))) pa_nil)) (nomark _)) (pss_one (ps_ret (pe_bl))) pss_nil) (pss_cons (ps_if (pt_cmpR op_ne (pe_callB (call_repr hgd hu65) (by rfl) T2.rep boot_repr (pa_cons (pe_lst (pa_cons (pe_xfld (pe_ix ix_list (pv 3) (pe_int) (fun _ _ => rfl))) (pa_cons (pe_xfld (pe_ix ix_list (pv 3) (pe_int) (fun _ _ => rfl))) (pa_cons (pe_xfld (pe_mkr M.spo hr8 rfl pass0 (pa_cons (pv 2) pa_nil))) pa_nil)))) pa_nil)) (pe_callB (call_repr hgd hu65) (by rfl) T2.rep boot_repr (pa_cons (pe_op op_rep (pe_lst (pa_cons (pe_tupleOf rfl T.tup (pv 2)) pa_nil)) (pe_int)) pa_nil)) (nomark _)) (pss_one (ps_ret (pe_bl))) pss_nil) (pss_cons (ps_for PassesOwn.never rfl (pi_range2 rfl T2.rng (pa_cons pe_int (pa_cons pe_int pa_nil))) (pg_name (i := 4) scK.nd rfl (Or.inl rfl)) (pss_one (ps_if (pt_cmpR op_ne (pe_callB (call_repr hgd hu65) (by rfl) T2.rep boot_repr (pa_cons (pe_xfld (pe_ix ix_list (pv 3) (pv 4) (fun _ _ => rfl))) pa_nil)) (pe_callB (call_repr hgd hu65) (by rfl) T2.rep boot_repr (pa_cons (pv 0) pa_nil)) (nomark _)) (pss_one (ps_ret (pe_bl))) pss_nil))) (pss_cons (ps_for PassesOwn.never rfl (pi_range2 rfl T2.rng (pa_cons pe_int (pa_cons pe_int pa_nil))) (pg_name (i := 4) scK.nd rfl (Or.inl rfl)) (pss_one (ps_if (pt_cmpR op_ne (pe_callB (call_repr hgd hu65) (by rfl) T2.rep boot_repr (pa_cons (pe_xfld (pe_ix ix_list (pv 3) (pv 4) (fun _ _ => rfl))) pa_nil)) (pe_callB (call_repr hgd hu65) (by rfl) T2.rep boot_repr (pa_cons (pe_tupleOf rfl T.tup (pv 2)) pa_nil)) (nomark _)) (pss_one (ps_ret (pe_bl))) pss_nil))) (pss_cons (ps_set (i := 5) scK.nd rfl (Or.inl rfl) (pe_lst (pa_cons (pe_xfld (pe_mkr (M.nam 25 _ (by decide) rfl) hr8 rfl pass0 (pa_cons (pv 0) pa_nil))) (pa_cons (pe_xfld (pe_mkr (M.nam 26 _ (by decide) rfl) hr8 rfl pass0 (pa_cons (pv 0) pa_nil))) (pa_cons (pe_xfld (pe_mkr (M.nam 27 _ (by decide) rfl) hr8 rfl pass0 (pa_cons (pv 0) pa_nil))) (pa_cons (pe_xfld (pe_mkr (M.nam 28 _ (by decide) rfl) hr8 rfl pass0 (pa_cons (pv 0) pa_nil))) pa_nil)))))) (pss_cons (ps_set (i := 3) scK.nd rfl (Or.inl rfl) (pe_lst (pa_cons (pe_xfld (pe_mkr M.plc hr8 rfl pass0 (pa_cons (pe_tup (pa_cons (pv 1) (pa_cons (pe_int) pa_nil))) pa_nil))) (pa_cons (pe_xfld (pe_mkr M.num hr8 rfl pass0 (pa_cons (pv 1) pa_nil))) pa_nil)))) (pss_one (ps_ret (pe_cmpR op_eq (pe_callB (call_repr hgd hu65) (by rfl) T2.rep boot_repr (pa_cons (pe_op op_cat (pv 3) (pv 5)) pa_nil)) (pe_callB (call_repr hgd hu65) (by rfl) T2.rep boot_repr (pa_cons (pe_op op_cat (pe_lst (pa_cons (pe_tup (pa_cons (pv 1) (pa_cons (pe_int) pa_nil))) (pa_cons (pv 1) pa_nil))) (pe_op op_rep (pe_lst (pa_cons (pv 0) pa_nil)) (pe_int))) pa_nil)) (nomark _))))))))))), ?_⟩
    refine ⟨u, rfl, v, rfl, u, v, dw, d, ds, rfl, dpw, hw, dp, hd, hz, hn, fun l as H1 n1 e1 h1 a1 => ?_⟩
    have dpw1 := dp_ext e1 dpw
    have dp1 := dp_ext e1 dp
    have item : ∀ (i : Nat) (Φ : Addr → Hp → Prop), (toldE K cl dw ds)[i]? = some Φ → ∃ a, (as.map V.ref)[i]? = some (.ref a) ∧ Φ a H1 := fun i Φ h => by
      obtain ⟨a, q1, q2⟩ := a1.get h
      exact ⟨a, by rw [List.getElem?_map, q1]; rfl, q2⟩
    obtain ⟨a0, g0, r0⟩ := item 0 _ rfl
    obtain ⟨a2, g2, r2⟩ := item 1 _ rfl
    obtain ⟨a3, g3, r3⟩ := item 2 _ rfl
    obtain ⟨B0, nw0, ini0, bm0, X0⟩ := xc 11 (by decide)
    obtain ⟨B2, nw2, ini2, bm2, X2⟩ := xc 12 (by decide)
    obtain ⟨B3, nw3, ini3, bm3, X3⟩ := xc 13 (by decide)
    obtain ⟨B4, nw4, ini4, bm4, X4⟩ := xc 24 (by decide)
    have at0 : Ev (tOp (rIxL K) (tVar 3) (tC (.int 0))) [some u, some (.int n), some v, some (.ref l), none, none] H1 (.ref a0) := ev_op (ev_var rfl) ev_c (rv_ixL (sq_of h1) (atI_nat (j := 0) g0))
    have at1 : Ev (tOp (rIxL K) (tVar 3) (tC (.int 1))) [some u, some (.int n), some v, some (.ref l), none, none] H1 (.ref a2) := ev_op (ev_var rfl) ev_c (rv_ixL (sq_of h1) (atI_nat (j := 1) g2))
    have at2 : Ev (tOp (rIxL K) (tVar 3) (tC (.int 2))) [some u, some (.int n), some v, some (.ref l), none, none] H1 (.ref a3) := ev_op (ev_var rfl) ev_c (rv_ixL (sq_of h1) (atI_nat (j := 2) g3))
    -- part, members
    refine q_when (et_same (ev_repr (ed_tup (da_cons (ed_fld at0 X0 (N 11 _ (by decide) (by simp)) r0 rfl) (da_cons (ed_fld at0 X0 (N 11 _ (by decide) (by simp)) r0 rfl) da_nil)) (by simp)) ok1)
      (ev_repr (ed_tup (da_cons (ed_var rfl dpw1) (da_cons (ed_tupleOf (ed_var rfl dp1) hd) da_nil)) (by simp)) ok1)) (fun z => nomatch z) (fun _ H2 e2 => ?_)
    have dpw2 := dp_ext e2 dpw1
    have dp2 := dp_ext e2 dp1
    -- members, members, spots
    refine q_when (et_same (ev_repr (ed_dl (dl_lst (da_cons (ed_fld (at1.mono e2) X2 (N 12 _ (by decide) (by simp)) (er_mono _ _ _ e2 r2) rfl) (da_cons (ed_fld (at2.mono e2) X3 (N 13 _ (by decide) (by simp)) (er_mono _ _ _ e2 r3) rfl)
      (da_cons (ed_fldN (en_x1r rfl dp2 hd hz hn) X4 (N 24 _ (by decide) (by simp)) rfl) da_nil))) (by simp))) ok2) (ev_repr (ed_dl (dl_rep (n := 3) (dl_lst (da_cons (ed_tupleOf (ed_var rfl dp2) hd) da_nil) (by simp)) (by decide))) ok2)) (fun z => nomatch z) (fun _ H3 e3 => ?_)
    have e13 := e2.trans e3
    -- names
    refine q_forR2 (lo := 3) (n := 9) (ea_cons ev_c (ea_cons ev_c ea_nil)) (by decide) (fun _ σ' H' => ∃ x, σ' = [some u, some (.int n), some v, some (.ref l), x, none] ∧ Ex H1 H') (fun H' e => ⟨none, rfl, e13.trans e⟩) ?_ ?_
    · rintro i σ' H' hi9 ⟨x, rfl, e⟩
      have hlt : i < 6 := by omega
      obtain ⟨a, ga, ra⟩ := item (3 + i) (Er K (cl (14 + i)) [("name", dw)]) (by
        rcases i with _ | _ | _ | _ | _ | _ | i <;> first | rfl | omega)
      obtain ⟨B', nw', ini', bm', X'⟩ := xc (14 + i) (by omega)
      have ix : ((3 : Int) + (i : Int)) = ((3 + i : Nat) : Int) := by omega
      have ata : Ev (tOp (rIxL K) (tVar 3) (tVar 4)) [some u, some (.int n), some v, some (.ref l), some (.int (3 + (i : Int))), none] H' (.ref a) := ev_op (ev_var rfl) (ev_var rfl) (rv_ixL (sq_of (e l _ h1)) (by rw [ix]; exact atI_nat ga))
      exact s_when (et_same (ev_repr (ed_fld ata X' (N (14 + i) _ (by omega) (by simp)) (er_mono _ _ _ e ra) rfl) ok3) (ev_repr (ed_var rfl (dp_ext e dpw1)) ok3)) (fun z => nomatch z) (fun _ H4 e4 => ⟨_, rfl, e.trans e4⟩)
    rintro σ' H4 ⟨x4, rfl, e4⟩
    -- paths
    refine q_forR2 (lo := 9) (n := 12) (ea_cons ev_c (ea_cons ev_c ea_nil)) (by decide) (fun _ σ' H' => ∃ x, σ' = [some u, some (.int n), some v, some (.ref l), x, none] ∧ Ex H1 H') (fun H' e => ⟨_, rfl, e4.trans e⟩) ?_ ?_
    · rintro i σ' H' hi9 ⟨x, rfl, e⟩
      have hlt : i < 3 := by omega
      obtain ⟨a, ga, ra⟩ := item (9 + i) (Er K (cl (20 + i)) [("path", .tuple ds)]) (by
        rcases i with _ | _ | _ | i <;> first | rfl | omega)
      obtain ⟨B', nw', ini', bm', X'⟩ := xc (20 + i) (by omega)
      have ix : ((9 : Int) + (i : Int)) = ((9 + i : Nat) : Int) := by omega
      have ata : Ev (tOp (rIxL K) (tVar 3) (tVar 4)) [some u, some (.int n), some v, some (.ref l), some (.int (9 + (i : Int))), none] H' (.ref a) := ev_op (ev_var rfl) (ev_var rfl) (rv_ixL (sq_of (e l _ h1)) (by rw [ix]; exact atI_nat ga))
      exact s_when (et_same (ev_repr (ed_fld ata X' (N (20 + i) _ (by omega) (by simp)) (er_mono _ _ _ e ra) rfl) ok4) (ev_repr (ed_tupleOf (ed_var rfl (dp_ext e dp1)) hd) ok4)) (fun z => nomatch z) (fun _ H5 e5 => ⟨_, rfl, e.trans e5⟩)
    rintro σ' H5 ⟨x5, rfl, e5⟩
    have dpw5 := dp_ext e5 dpw1
    obtain ⟨B5, nw5, ini5, bm5, X5⟩ := xc 25 (by decide)
    obtain ⟨B6, nw6, ini6, bm6, X6⟩ := xc 26 (by decide)
    obtain ⟨B7, nw7, ini7, bm7, X7⟩ := xc 27 (by decide)
    obtain ⟨B8, nw8, ini8, bm8, X8⟩ := xc 28 (by decide)
    obtain ⟨B9, nw9, ini9, bm9, X9⟩ := xc 23 (by decide)
    obtain ⟨Ba, nwa, inia, bma, Xa⟩ := xc 29 (by decide)
    refine q_asgD (ds := [dw, dw, dw, dw]) (dl_lst (da_cons (ed_fldN (en_x1 rfl dpw5 hw) X5 (N 25 _ (by decide) (by simp)) rfl) (da_cons (ed_fldN (en_x1 rfl dpw5 hw) X6 (N 26 _ (by decide) (by simp)) rfl) (da_cons (ed_fldN (en_x1 rfl dpw5 hw) X7 (N 27 _ (by decide) (by simp)) rfl)
      (da_cons (ed_fldN (en_x1 rfl dpw5 hw) X8 (N 28 _ (by decide) (by simp)) rfl) da_nil)))) (by simp)) fun l6 xs6 H6 e6 h6 d6 => ?_
    refine q_asgD (ds := [.tuple [.int n, .int 0], .int n]) (dl_lst (da_cons (ed_fldN (en_x1d (ed_tup (da_cons (ed_var rfl (.int n)) (da_cons ed_int da_nil)) (by simp)) (by simp [Dn])) X9 (N 23 _ (by decide) (by simp)) rfl)
      (da_cons (ed_fldN (en_x1 (d := .int n) rfl (.int n) (by simp [Dn])) Xa (N 29 _ (by decide) (by simp)) rfl) da_nil)) (by simp)) fun l7 xs7 H7 e7 h7 d7 => ?_
    have dpw7 := dp_ext (e6.trans e7) dpw5
    refine s_ret (ev_is (w := .bl true) (ev_op (ev_repr (ed_dl (dl_of (ev_var rfl) h7 d7 (ev_var rfl) (e7 _ _ h6) (dpa_ext e7 d6) (by simp))) ok5)
      (ev_repr (ed_dl (dl_cat (dl_lst (da_cons (ed_tup (da_cons (ed_var rfl (.int n)) (da_cons ed_int da_nil)) (by simp)) (da_cons (ed_var rfl (.int n)) da_nil)) (by simp)) (dl_rep (n := 4) (dl_lst (da_cons (ed_var rfl dpw7) da_nil) (by simp)) (by decide)) (by simp))) ok5) (rv_eq rfl)) (by simp)) fun H8 e8 => ?_
    exact q H8 ((((e1.trans e5).trans e6).trans e7).trans e8)
end
end K13

set_option Elab.async false
set_option linter.all false
set_option maxRecDepth 100000
set_option maxHeartbeats 8000000
namespace K13
open PySem PySem.Spec PyProof.Rows L2 Evl J
abbrev sLaw : Stmt := topS 44
/-! the part of the heap that is new -/
def Nw (H H2 : Hp) : Hp := fun b => match H b with
  | none => H2 b
  | some _ => none
theorem nw_at {H H2 : Hp} {b : Addr} (h : H b = none) : Nw H H2 b = H2 b := by simp [Nw, h]
theorem nw_off {H H2 : Hp} {b : Addr} {o : HO} (h : Nw H H2 b = some o) : H b = none ∧ H2 b = some o := by
  unfold Nw at h
  split at h
  · exact ⟨by assumption, h⟩
  · cases h
theorem nw_old {H H2 : Hp} {p : Addr} (h : H p ≠ none) : Nw H H2 p = none := by
  unfold Nw
  split
  · contradiction
  · rfl
theorem nw_up {H H2 H3 : Hp} (e : Ex H2 H3) : Ex (Nw H H2) (Nw H H3) := fun b o z => by
  obtain ⟨h1, h2⟩ := nw_off z
  rw [nw_at h1]
  exact e b o h2
theorem nw_down {H H1 H2 : Hp} (e : Ex H H1) : Ex (Nw H1 H2) (Nw H H2) := fun b o z => by
  obtain ⟨h1, h2⟩ := nw_off z
  rw [nw_at (fresh_back e h1)]
  exact h2
theorem nw_but {p : Addr} {H H2 H3 : Hp} (b : But p H2 H3) (hp : H p ≠ none) : Ex (Nw H H2) H3 := fun c o z => by
  obtain ⟨h1, h2⟩ := nw_off z
  exact b c o (fun q => hp (q ▸ h1)) h2
section
variable {K : PySem.W.Frag} {σ : L2.St} {H : Hp} {te ta tb : TE} {tr : TA} {d : PyData} {ds : List PyData}
/-- data made anew -/
def EvW (K : PySem.W.Frag) (te : TE) (σ : L2.St) (d : PyData) : Prop := ∀ H1, ∀ Q : VK, (∀ v H2, Ex H1 H2 → Dp K (Nw H1 H2) v d → Q v H2) → te σ H1 Q
def EvWA (K : PySem.W.Frag) (ta : TA) (σ : L2.St) (ds : List PyData) : Prop := ∀ H1, ∀ Q : List V → Hp → Prop, (∀ vs H2, Ex H1 H2 → DpAll K (Nw H1 H2) vs ds → Q vs H2) → ta σ H1 Q
theorem w_s {x : Str} : EvW K (tC (.str x)) σ (.str x) := fun H1 Q q => q _ H1 (Ex.refl H1) (.str x)
theorem w_n : EvW K (tC .non) σ .none := fun H1 Q q => q _ H1 (Ex.refl H1) .non
theorem w_i {i : Int} : EvW K (tC (.int i)) σ (.int i) := fun H1 Q q => q _ H1 (Ex.refl H1) (.int i)
theorem w_mul {x : Str} {n : Int} (ok : MulOk x n) : EvW K (tOp rMulS (tC (.str x)) (tC (.int n))) σ (.str (Txt.mul x n)) := fun H1 Q q => ⟨x, n, rfl, rfl, ok, q _ H1 (Ex.refl H1) (.str _)⟩
theorem w_pow {i j : Int} {C : Int → Int → Prop} {g : Int → Int → V} {r : Int} (hc : C i j) (hg : g i j = .int r) : EvW K (tOp (rI C g) (tC (.int i)) (tC (.int j))) σ (.int r) := fun H1 Q q => ⟨i, j, rfl, rfl, hc, by rw [hg]; exact q _ H1 (Ex.refl H1) (.int _)⟩
theorem w_nil : EvWA K tNil σ [] := fun H1 Q q => q [] H1 (Ex.refl H1) .nil
theorem w_cons (h : EvW K te σ d) (hr : EvWA K tr σ ds) : EvWA K (tCons te tr) σ (d :: ds) := fun H1 Q q =>
  h H1 _ fun v H2 e2 d2 => hr H2 _ fun vs H3 e3 d3 => q (v :: vs) H3 (e2.trans e3) (.cons (dp_ext (nw_up e3) d2) (dpa_ext (nw_down e2) d3))
theorem w_tup (h : EvWA K tr σ ds) (hz : ds.length ≤ 1000) : EvW K (tTup tr) σ (.tuple ds) := fun H1 Q q =>
  h H1 _ fun vs H2 e2 d2 => ⟨by rw [dpa_len d2]; exact sz_of (by omega), fun p hp => q (.ref p) _ (e2.trans (Ex.new hp)) (.tup (st_of (by rw [nw_at (fresh_back e2 hp)]; exact upd_same)) (dpa_ext (nw_up (Ex.new hp)) d2))⟩
theorem w_lst (h : EvWA K tr σ ds) (hz : ds.length ≤ 1000) : EvW K (tLst tr) σ (.list ds) := fun H1 Q q =>
  h H1 _ fun vs H2 e2 d2 => ⟨by rw [dpa_len d2]; exact sz_of (by omega), fun p hp => q (.ref p) _ (e2.trans (Ex.new hp)) (.lst (sq_of (by rw [nw_at (fresh_back e2 hp)]; exact upd_same)) (dpa_ext (nw_up (Ex.new hp)) d2))⟩
/-- one of a menu is drawn -/
theorem q_menu {tz : TS} {D : Ends} {i m : Nat} {u : Int} {p : Addr} (h : EvWA K tr σ ds) (hσ : σ[1]? = some (some (.ref p))) (hP : Pen H p m) (hm : m ≤ 1000000) (hu : u = (ds.length : Int)) (hz : 1 ≤ ds.length ∧ ds.length ≤ 1000)
    (k : ∀ v d H' B, Pen H' p (m + 1) → But p H H' → Ex B H' → B p = none → Dp K B v d → d ∈ ds → tz D (σ.set i (some v)) H') :
    tSeq (tAsg (tOp (rIxL K) (tLst tr) (tCall spDraw [] E0 (tCons (tVar 1) (tCons (tC (.int u)) tNil)))) (gName i)) tz D σ H := by
  have hp0 : H p ≠ none := by
    obtain ⟨c, ns, i, v, h1, _⟩ := hP
    rw [h1]
    simp
  refine h H _ fun vs H2 e2 d2 => ⟨by rw [dpa_len d2]; exact sz_of (by omega), fun l hl => ?_⟩
  have e3 : Ex H (upd H2 l (.lst vs)) := e2.trans (Ex.new hl)
  have lp : l ≠ p := fun z => by
    subst z
    exact hp0 (fresh_back e2 hl)
  refine ⟨_, hσ, p, u, m, rfl, by omega, by omega, hP.ext e3, hm, fun dg H3 b3 p3 g0 g1 => ?_⟩
  have h3 : H3 l = some (.lst vs) := b3 l _ lp upd_same
  obtain ⟨j, rfl⟩ : ∃ j : Nat, dg = (j : Int) := ⟨dg.toNat, by omega⟩
  have hj : j < vs.length := by
    rw [dpa_len d2]
    omega
  have hgv : vs[j]? = some vs[j] := List.getElem?_eq_getElem hj
  obtain ⟨d, hd, dp⟩ := dpa_get d2 hgv
  exact ⟨l, vs, (j : Int), vs[j], rfl, rfl, sq_of h3, atI_nat hgv, k vs[j] d H3 (Nw H H2) p3 ((But.of e3).trans b3) (nw_but ((But.of (Ex.new hl)).trans b3) hp0) (nw_old hp0) dp (List.mem_of_getElem? hd)⟩
theorem nl_of {sp : Sp} {Φs : List (Addr → Hp → Prop)} (h : ∀ H1, Ex H H1 → ∀ Q : VK, RetNL Φs H1 Q → sp [] H1 Q E0) : EvNL (tCall sp [] E0 tNil) σ H Φs := fun H1 e Q q => h H1 e Q q
/-- both sides new lists of data -/
theorem ev_neLL {xs ys : List V} {es : List PyData} (ha : EvL ta σ H xs) (hx : ∀ H1, DpAll K H1 xs ds) (hb : EvL tb σ H ys) (hy : ∀ H1, DpAll K H1 ys es) (s1 : SeqAt.shaped (.list ds) = true) (s2 : SeqAt.shaped (.list es) = true) :
    Ev (tOp (rNeD K) ta tb) σ H (.bl (!PyData.eqv (.list ds) (.list es))) :=
  ev_opLL ha hb fun p q H1 hp hq e => fun H2 e2 Q k => ⟨.list ds, .list es, .lst (sq_of (e2 p _ hp)) (hx H2), .lst (sq_of (e2 q _ hq)) (hy H2), s1, s2, k H2 (Ex.refl H2)⟩
end
theorem given_all {n : Nat} {v : Nat → V} : given n (fun _ => true) v = (List.range n).map v := by
  unfold given
  rw [List.filter_eq_self.mpr (fun _ _ => rfl)]
/-- all thirty -/
def everyE (K : PySem.W.Frag) (cl : Nat → Addr) (dw : PyData) (n : Int) (ds : List PyData) : List (Addr → Hp → Prop) :=
  (((plainE K cl ++ toldE K cl dw ds) ++ [Er K (cl 23) [("place", .int n)], Er K (cl 24) [("spots", .tuple ds)], Er K (cl 25) [("name", dw)]])) ++ [Er K (cl 26) [("name", dw)], Er K (cl 27) [("name", dw)], Er K (cl 28) [("name", dw)], Er K (cl 29) [("number", .int n)]]
theorem every_at {K : PySem.W.Frag} {cl : Nat → Addr} {dw : PyData} {n : Int} {ds : List PyData} {i : Nat} (hi : i < 30) : ∃ fl, (everyE K cl dw n ds)[i]? = some (Er K (cl i) fl) := by
  rcases i with _ | _ | _ | _ | _ | _ | _ | _ | _ | _ | _ | _ | _ | _ | _ | _ | _ | _ | _ | _ | _ | _ | _ | _ | _ | _ | _ | _ | _ | _ | i <;> first | exact ⟨_, rfl⟩ | omega
theorem mul_x : MulOk "x" 100 := by
  unfold MulOk
  exact ⟨by decide, fun _ _ => by decide, fun _ _ => by decide⟩
theorem menu6 {d : PyData} (h : d ∈ menuW) : Dn 2 d := by
  simp only [menuW, List.mem_cons, List.not_mem_nil, or_false] at h
  rcases h with rfl | rfl | rfl | rfl | rfl | rfl | rfl <;> simp [Dn]
theorem menu7 {d : PyData} (h : d ∈ menuS) : ∃ ds, (d = .list ds ∨ d = .tuple ds) ∧ itemsOf d = ds ∧ ds.length ≤ 1000 ∧ ∀ x ∈ ds, Dn 2 x := by
  simp only [menuS, List.mem_cons, List.not_mem_nil, or_false] at h
  rcases h with rfl | rfl | rfl | rfl | rfl
  · exact ⟨_, .inl rfl, rfl, by simp, by simp [Dn]⟩
  · exact ⟨_, .inl rfl, rfl, by simp, by simp [Dn]⟩
  · exact ⟨_, .inr rfl, rfl, by simp, by simp [Dn]⟩
  · exact ⟨_, .inl rfl, rfl, by simp, by simp [Dn]⟩
  · exact ⟨_, .inr rfl, rfl, by simp, by simp [Dn]⟩
/-- which one is it -/
def whichB (i : Nat) : List Bool := (List.range 30).map fun j => decide (j = i)
def whichD (i : Nat) : List PyData := (whichB i).map .bool
theorem which_eq (i : Nat) : bools i = (whichB i).map V.bl := by
  unfold bools whichB
  rw [List.map_map]
  rfl
theorem dp_bools {K : PySem.W.Frag} {H : Hp} (bs : List Bool) : DpAll K H (bs.map V.bl) (bs.map .bool) := dpa_bools bs
theorem leaf_bools (bs : List Bool) : (bs.map PyData.bool).all leaf = true := by
  rw [List.all_eq_true]
  intro x hx
  obtain ⟨b, _, rfl⟩ := List.mem_map.mp hx
  rfl
theorem eqv_self (bs : List Bool) : PyData.eqv (.list (bs.map .bool)) (.list (bs.map .bool)) = true := by
  simp only [PyData.eqv]
  rw [eqv_bools]
  simp
def spLaw (K : PySem.W.Frag) : Sp := fun vs H Q _ => ∃ (a : Addr) (ns : List Int), vs = [.ref a] ∧ SqL K H a (ns.map V.int) ∧ ∀ H', Q (.bl true) H'
section
variable {P : Program} {w : World} {K : PySem.W.Frag} {mg : Str → Option Value} {base : Heap} {f : Addr} {fd : FuncData} {cl : Nat → Addr} {cE cM : Addr}
abbrev NL : List Str := ["_law_script", "_law_pen_here", "_law_lap", "_law_word", "_law_number", "_law_some", "_law_every", "_law_k", "_law_j"]
theorem scLaw : FnScope NL ["_law_script"] (defScope sLaw) := ⟨rfl, rfl, rfl, by decide +kernel, rfl, by decide +kernel, by decide +kernel⟩
theorem ok_law (F : FnP K "law" sLaw f fd) (T : Bl mg) (T2 : Bl3 mg) (T3 : Bl2 mg) (S : Kn K mg cl cE cM) (M : Mks P w K mg base cl)
    (cPen : Cal P w K mg base CX0 1 "_law_pen" ["_law_script"] (spPen K)) (cDraw : Cal P w K mg base CX0 2 "_law_draw" ["_law_pen_here", "_law_under"] spDraw)
    (cKinds : Cal P w K mg base CX0 1 "_law_kinds" ["_law_e"] (spKinds K cl)) (cBases : Cal P w K mg base CX0 1 "_law_bases" ["_law_e"] (spBases K cl)) (cPlain : Cal P w K mg base CX0 1 "_law_plain" [] (spPlain K cl))
    (cTold : Cal P w K mg base CX0 9 "_law_told" ["_law_word", "_law_some"] (spTold K cl)) (cKept : CalG P w K mg base CX0 10 "_law_kept" ["_law_word", "_law_number", "_law_some"] (spLawKept K)) :
    FnG P w K mg base CX0 11 f fd ["_law_script"] (spLaw K) := by
  refine fng F scLaw (fun vs H Q E h => ?_) (fun cdv A outer s H vs Q E hgd hr10 h => ?_)
  · obtain ⟨a, ns, rfl, _⟩ := h
    rfl
  · obtain ⟨a, ns, rfl, hS, q⟩ := h
    have hr1 : Room 1 (A.deeper (envOfC "law" (defScope sLaw) s.heap.objs.size f cdv)) := hr10.mono (by decide)
    have hr2 : Room 2 (A.deeper (envOfC "law" (defScope sLaw) s.heap.objs.size f cdv)) := hr10.mono (by decide)
    have hr8 : Room 8 (A.deeper (envOfC "law" (defScope sLaw) s.heap.objs.size f cdv)) := hr10.mono (by decide)
    have hr9 : Room 9 (A.deeper (envOfC "law" (defScope sLaw) s.heap.objs.size f cdv)) := hr10.mono (by decide)
    have hu64 : (A.deeper (envOfC "law" (defScope sLaw) s.heap.objs.size f cdv)).units + 64 < cLine := by
      have := hr10.un
      omega
    refine ⟨_, PSs.nox (pss_cons (ps_set (i := 1) scLaw.nd rfl (Or.inl rfl) (pe_cal cPen hr1 rfl pass0 (pa_cons (pv 0) pa_nil))) (pss_cons (ps_for PassesOwn.never rfl (pi_range1 rfl T2.rng (pa_cons pe_int pa_nil)) (pg_name (i := 2) scLaw.nd rfl (Or.inl rfl)) (pss_cons (ps_set (i := 3) scLaw.nd rfl (Or.inl rfl) (pe_ix ix_list (pe_lst (pa_cons (pe_str) (pa_cons (pe_str) (pa_cons (pe_str) (pa_cons (pe_non) (pa_cons (pe_op op_mulS (pe_str) (pe_int)) (pa_cons (pe_tup (pa_cons (pe_str) pa_nil)) (pa_cons (pe_int) pa_nil)))))))) (pe_cal cDraw hr2 rfl pass0 (pa_cons (pv 1) (pa_cons pe_int pa_nil))) (fun _ _ => rfl))) (pss_cons (ps_set (i := 4) scLaw.nd rfl (Or.inl rfl) (pe_ix ix_list (pe_lst (pa_cons (pe_int) (pa_cons (pe_int) (pa_cons (pe_int) (pa_cons (pe_int) (pa_cons (pe_op op_pow (pe_int) (pe_int)) pa_nil)))))) (pe_cal cDraw hr2 rfl pass0 (pa_cons (pv 1) (pa_cons pe_int pa_nil))) (fun _ _ => rfl))) (pss_cons (ps_set (i := 5) scLaw.nd rfl (Or.inl rfl) (pe_ix ix_list (pe_lst (pa_cons (pe_lst (pa_cons (pe_str) (pa_cons (pe_str) pa_nil))) (pa_cons (pe_lst pa_nil) (pa_cons (pe_tup (pa_cons (pe_str) pa_nil)) (pa_cons (pe_lst (pa_cons (pe_int) (pa_cons (pe_int) (pa_cons (pe_int) pa_nil)))) (pa_cons (pe_tup (pa_cons (pe_tup (pa_cons (pe_str) (pa_cons (pe_str) pa_nil))) pa_nil)) pa_nil)))))) (pe_cal cDraw hr2 rfl pass0 (pa_cons (pv 1) (pa_cons pe_int pa_nil))) (fun _ _ => rfl))) (pss_cons (ps_set (i := 6) scLaw.nd rfl (Or.inl rfl) (pe_op op_cat (pe_op op_cat (pe_cal0 cPlain hr1 rfl pass0) (pe_cal cTold hr9 rfl pass0 (pa_cons (pv 3) (pa_cons (pv 5) pa_nil)))) (pe_lst (pa_cons (pe_mkr (M.plc) hr8 rfl pass0 (pa_cons (pv 4) pa_nil)) (pa_cons (pe_mkr (M.spo) hr8 rfl pass0 (pa_cons (pv 5) pa_nil)) (pa_cons (pe_mkr (M.nam 25 _ (by decide) rfl) hr8 rfl pass0 (pa_cons (pv 3) pa_nil)) pa_nil)))))) (pss_cons (ps_set (i := 6) scLaw.nd rfl (Or.inl rfl) (pe_op op_cat (pv 6) (pe_lst (pa_cons (pe_mkr (M.nam 26 _ (by decide) rfl) hr8 rfl pass0 (pa_cons (pv 3) pa_nil)) (pa_cons (pe_mkr (M.nam 27 _ (by decide) rfl) hr8 rfl pass0 (pa_cons (pv 3) pa_nil)) (pa_cons (pe_mkr (M.nam 28 _ (by decide) rfl) hr8 rfl pass0 (pa_cons (pv 3) pa_nil)) (pa_cons (pe_mkr (M.num) hr8 rfl pass0 (pa_cons (pv 4) pa_nil)) pa_nil))))))) (pss_cons (ps_for PassesOwn.never rfl (pi_range1 rfl T2.rng (pa_cons (pe_callB call_len_seq (by rfl) T3.len boot_len (pa_cons (pv 6) pa_nil)) pa_nil)) (pg_name (i := 7) scLaw.nd rfl (Or.inr rfl)) (pss_cons (ps_if (pt_cmpR (op_neD hu64) (pe_cal cKinds hr1 rfl pass0 (pa_cons (pe_ix ix_list (pv 6) (pv 7) (fun _ _ => rfl)) pa_nil)) (pe_lc (own := [("_law_j", 8)]) (g := gName 8) (tt := tYes) rfl scLaw.nd (pi_range1 rfl T2.rng (pa_cons (pe_callB call_len_seq (by rfl) T3.len boot_len (pa_cons (pv 6) pa_nil)) pa_nil)) (blkOk_by (N := NL) (sc := defScope sLaw) (by decide +kernel)) (fun _ _ _ _ _ => pg_name (i := 8) scLaw.nd rfl (Or.inl rfl)) (fun _ _ _ _ _ => pts_nil) (fun _ _ _ _ _ => pe_cmpR op_eq (pv 8) (pv 7) (nomark _))) (nomark _)) (pss_one (ps_ret (pe_bl))) pss_nil) (pss_one (ps_if (pt_cmpR (op_neD hu64) (pe_cal cBases hr1 rfl pass0 (pa_cons (pe_ix ix_list (pv 6) (pv 7) (fun _ _ => rfl)) pa_nil)) (pe_lst (pa_cons (pe_cmpR op_lt (pv 7) pe_int (nomark _)) (pa_cons (pe_cmpR op_lt (pv 7) pe_int (nomark _)) (pa_cons (pe_cmpR op_ge (pv 7) pe_int (nomark _)) (pa_cons (pe_cmpR op_ge (pv 7) pe_int (nomark _)) pa_nil))))) (nomark _)) (pss_one (ps_ret (pe_bl))) pss_nil)))) (pss_one (ps_if (PW.pt (pw_or (pt_cmpR op_ne (pe_callB call_len_seq (by rfl) T3.len boot_len (pa_cons (pv 6) pa_nil)) pe_int (nomark _)) (pw_or1 (pt_not (pt_val (pe_calG hgd cKept hr10 rfl pass0 (pa_cons (pv 3) (pa_cons (pv 4) (pa_cons (pv 5) pa_nil))))))))) (pss_one (ps_ret (pe_bl))) pss_nil))))))))) (pss_one (ps_ret (pe_bl))))), ?_⟩
    -- the pen
    refine ⟨_, rfl, a, ns, rfl, hS, fun p H1 hp e1 pen1 => ?_⟩
    refine q_forR1 (ea_cons ev_c ea_nil) (by decide) (fun i σ' H' => ∃ x2 x3 x4 x5 x6 x7 x8, σ' = [some (.ref a), some (.ref p), x2, x3, x4, x5, x6, x7, x8] ∧ Pen H' p (3 * i)) (fun H' e => ⟨_, _, _, _, _, _, _, rfl, pen1.ext e⟩) ?_ ?_
    · rintro i σ' H2 hi ⟨x2, x3, x4, x5, x6, x7, x8, rfl, pen2⟩
      refine q_menu (ds := menuW) (w_cons w_s (w_cons w_s (w_cons w_s (w_cons w_n (w_cons (w_mul mul_x) (w_cons (w_tup (w_cons w_s w_nil) (by simp)) (w_cons w_i w_nil))))))) rfl pen2 (by omega) rfl (by decide) fun u dw H3 B3 pen3 b3 eB3 nB3 dpw mw => ?_
      refine q_menu (ds := menuN.map .int) (w_cons w_i (w_cons w_i (w_cons w_i (w_cons w_i (w_cons (w_pow ⟨by decide, by decide, by decide⟩ rfl) w_nil))))) rfl pen3 (by omega) rfl (by decide) fun un dn H4 B4 pen4 b4 eB4 nB4 dpn mn => ?_
      obtain ⟨n, mnn, rfl⟩ := List.mem_map.mp mn
      cases dpn
      refine q_menu (ds := menuS) (w_cons (w_lst (w_cons w_s (w_cons w_s w_nil)) (by simp)) (w_cons (w_lst w_nil (by simp)) (w_cons (w_tup (w_cons w_s w_nil) (by simp)) (w_cons (w_lst (w_cons w_i (w_cons w_i (w_cons w_i w_nil))) (by simp)) (w_cons (w_tup (w_cons (w_tup (w_cons w_s (w_cons w_s w_nil)) (by simp)) w_nil) (by simp)) w_nil))))) rfl pen4 (by omega) rfl (by decide) fun v d H5 B5 pen5 b5 eB5 nB5 dps ms => ?_
      have dpw5 : Dp K H5 u dw := dp_ext ((b4.trans b5).ex eB3 nB3) dpw
      have dps5 : Dp K H5 v d := dp_ext eB5 dps
      obtain ⟨ds, hd, hit, hz, hn⟩ := menu7 ms
      have hw := menu6 mw
      -- all errors
      refine q_asgNL (nl_cat2 (nl_cat2 (Φs := plainE K cl) (Ψs := toldE K cl dw ds) (fun H1 e Q q => ⟨rfl, q⟩)
        (fun H1 e Q q => ⟨u, rfl, v, rfl, u, v, dw, d, ds, rfl, dp_ext e dpw5, hw, dp_ext e dps5, hd, hz, hn, q⟩) (by simp [plainE, toldE]))
        (nl_lst (na_cons (en_x1 (d := .int n) rfl (.int n) (by simp [Dn])) er_mono (na_cons (en_x1r rfl dps5 hd hz hn) er_mono (na_cons (en_x1 rfl dpw5 hw) er_mono na_nil))) (by simp)) (by simp [plainE, toldE])) fun l6 as6 H6 n6 e6 h6 a6 => ?_
      have dpw6 := dp_ext e6 dpw5
      refine q_asgNL (nl_cat (ev_var rfl) h6 a6 (nl_lst (na_cons (en_x1 rfl dpw6 hw) er_mono (na_cons (en_x1 rfl dpw6 hw) er_mono (na_cons (en_x1 rfl dpw6 hw) er_mono (na_cons (en_x1 (d := .int n) rfl (.int n) (by simp [Dn])) er_mono na_nil)))) (by simp)) (by simp [plainE, toldE])) fun l7 as7 H7 n7 e7 h7 a7 => ?_
      have a7 : All2 as7 (everyE K cl dw n ds) H7 := a7
      have len7 : (as7.map V.ref).length = 30 := by
        rw [List.length_map, a7.len]
        simp [everyE, plainE, toldE]
      have lenE : ∀ (x2 x7 x8 : Option V) H', Ex H7 H' → Ev (tCB (fun xs H Q => ∃ p ys, xs = [.ref p] ∧ (SqL K H p ys ∨ SqT K H p ys) ∧ Q (.int ys.length) H) (tCons (tVar 6) tNil)) [some (.ref a), some (.ref p), x2, some u, some (.int n), some v, some (.ref l7), x7, x8] H' (.int 30) := fun x2 x7 x8 H' e =>
        ev_is (ev_cb (ea_cons (ev_var rfl) ea_nil) (rc_len (.inl (sq_of (e l7 _ h7))))) (by rw [len7]; rfl)
      refine q_forR1 (ea_cons (lenE _ _ _ H7 (Ex.refl H7)) ea_nil) (by decide) (fun k σ' H' => ∃ x7 x8, σ' = [some (.ref a), some (.ref p), some (.int (i : Int)), some u, some (.int n), some v, some (.ref l7), x7, x8] ∧ Ex H7 H') (fun H' e => ⟨_, _, rfl, e⟩) ?_ ?_
      · rintro k σ' H' hk ⟨x7, x8, rfl, e8⟩
        have hk30 : k < 30 := by omega
        obtain ⟨fl, hfl⟩ := every_at (K := K) (cl := cl) (dw := dw) (n := n) (ds := ds) hk30
        obtain ⟨b, gb, rb⟩ := a7.get hfl
        have atk : Ev (tOp (rIxL K) (tVar 6) (tVar 7)) [some (.ref a), some (.ref p), some (.int (i : Int)), some u, some (.int n), some v, some (.ref l7), some (.int (k : Int)), x8] H' (.ref b) :=
          ev_op (ev_var rfl) (ev_var rfl) (rv_ixL (sq_of (e8 l7 _ h7)) (atI_nat (by rw [List.getElem?_map, gb]; rfl)))
        obtain ⟨fs, xa, _⟩ := er_mono _ _ _ e8 rb
        have kinds : EvL (tCall (spKinds K cl) [] E0 (tCons (tOp (rIxL K) (tVar 6) (tVar 7)) tNil)) [some (.ref a), some (.ref p), some (.int (i : Int)), some u, some (.int n), some v, some (.ref l7), some (.int (k : Int)), x8] H' ((whichB k).map V.bl) := fun H1 e Q q =>
          atk H1 e _ fun H2 e2 => ⟨b, k, fs, rfl, hk30, xa.ext (e.trans e2), fun p1 H3 hp1 e3 h3 => q p1 H3 (fresh_back e2 hp1) (e2.trans e3) (by rw [← which_eq]; exact h3)⟩
        have bases : ∀ H9, Ex H' H9 → EvL (tCall (spBases K cl) [] E0 (tCons (tOp (rIxL K) (tVar 6) (tVar 7)) tNil)) [some (.ref a), some (.ref p), some (.int (i : Int)), some u, some (.int n), some v, some (.ref l7), some (.int (k : Int)), x8] H9 ([decide (k < 25), decide (k < 25), decide (25 ≤ k), decide (25 ≤ k)].map V.bl) := fun H9 e9 H1 e Q q =>
          atk H1 (e9.trans e) _ fun H2 e2 => ⟨b, k, fs, rfl, hk30, xa.ext ((e9.trans e).trans e2), fun p1 H3 hp1 e3 h3 => q p1 H3 (fresh_back e2 hp1) (e2.trans e3) h3⟩
        refine q_when (b := false) (et_is (et_test (ev_neLL (ds := (whichB k).map .bool) (es := (whichB k).map .bool) kinds (fun H1 => dp_bools _)
          (el_lcR1 (n := 30) (fun _ => true) (fun j => .bl (decide (j = k))) (ea_cons (lenE _ _ _ H' e8) ea_nil) (by decide) (fun x => rfl) (fun j H1 e hj => fun H2 _ _ q => q H2 (Ex.refl H2)) (fun j H1 e hj _ => ev_is (ev_op (ev_var rfl) (ev_var rfl) (rv_eq rfl)) (by simp <;> omega)))
          (fun H1 => by
            rw [given_all]
            have := dp_bools (K := K) (H := H1) (whichB k)
            rw [← which_eq] at this
            exact this) (shaped_leaves (leaf_bools _)) (shaped_leaves (leaf_bools _)))) (by rw [eqv_self]; rfl)) (fun z => nomatch z) (fun _ H9 e9 => ?_)
        exact s_when (b := false) (et_is (et_test (ev_neLL (ds := [decide (k < 25), decide (k < 25), decide (25 ≤ k), decide (25 ≤ k)].map .bool) (es := [decide (k < 25), decide (k < 25), decide (25 ≤ k), decide (25 ≤ k)].map .bool) (bases H9 e9) (fun H1 => dp_bools _)
          (ys := [decide (k < 25), decide (k < 25), decide (25 ≤ k), decide (25 ≤ k)].map V.bl) (el_lst (ea_cons (ev_is (ev_op (ev_var rfl) ev_c rv_I0) (by simp <;> omega)) (ea_cons (ev_is (ev_op (ev_var rfl) ev_c rv_I0) (by simp <;> omega)) (ea_cons (ev_is (ev_op (ev_var rfl) ev_c rv_I0) (by simp <;> omega)) (ea_cons (ev_is (ev_op (ev_var rfl) ev_c rv_I0) (by simp <;> omega)) ea_nil)))) (by simp))
          (fun H1 => dp_bools _) (shaped_leaves (leaf_bools _)) (shaped_leaves (leaf_bools _)))) (by rw [eqv_self]; rfl)) (fun z => nomatch z) (fun _ H10 e10 => ⟨_, _, rfl, (e8.trans e9).trans e10⟩)
      · rintro σ' H8 ⟨x7, x8, rfl, e8⟩
        have e58 := (e6.trans e7).trans e8
        refine s_when (b := false) (et_is (et_or (et_test (ev_op (lenE _ _ _ H8 e8) ev_c (rv_ne rfl))) (fun _ => et_not (a := true) (et_B ?_))) (by simp)) (fun z => nomatch z) (fun _ H9 e9 => ⟨_, _, _, _, _, _, _, rfl, ?_⟩)
        · exact fun H1 e Q q => ⟨u, rfl, .int n, rfl, v, rfl, u, v, n, dw, d, ds, rfl, dp_ext (e58.trans e) dpw5, dp_ext (e58.trans e) dps5, mw, ms, mnn, hw, hd, hit, hz, hn, q⟩
        · exact pen5.ext (e58.trans e9)
    · rintro σ' H' ⟨x2, x3, x4, x5, x6, x7, x8, rfl, _⟩
      exact s_ret ev_c fun H2 _ => q H2
end
end K13

set_option Elab.async false
set_option linter.all false
set_option maxRecDepth 100000
set_option maxHeartbeats 4000000
namespace K13
open PySem PySem.Spec PyProof.Rows L2 J
/-! ### what the head is asked: the classes' facts, the defs, the __init__s -/
/-- the place of the i-th class in the top -/
def topOf (i : Nat) : Nat := if i < 25 then 4 + i else 5 + i
/-- a class's one def -/
def iniS (i : Nat) : Stmt := match topS (topOf i) with
  | .ClassDef _ _ _ body _ _ _ _ _ _ _ => (body.find? fun s => match s with
    | .FunctionDef .. => true
    | _ => false).getD (.Pass ⟨0, 0, 0, 0⟩)
  | s => s
abbrev InV : Type := Option (Str × Str × Arguments × FuncBody × Scope × Addr × List Str × Addr)
structure InD where
  x : Str
  qual : Str
  st : Stmt
def InD.val (d : InD) : InV := some ("__init__", d.qual, defArgs d.st, .stmts (defBody d.st), defScope d.st, mainGlobals, ["__class__"], builtinsNs)
def inF (K : PySem.W.Frag) (x : Str) : Addr := He.ma K (He.ga K x) "__init__"
def inW (K : PySem.W.Frag) (x : Str) : InV := match K.lookup (inF K x) with
  | some ⟨_, _, .func fd, _⟩ => some (fd.name, fd.qualname, fd.params, fd.body, fd.scope, fd.globals, fd.closure.map (·.1), fd.builtins)
  | _ => none
def noneB : Value → Bool
  | .none => true
  | _ => false
def cellB (K : PySem.W.Frag) (cc D : Addr) : Bool := match K.lookup cc with
  | some ⟨_, _, .cell (some (.ref E)), _⟩ => decide (E = D)
  | _ => false
def fileB (K : PySem.W.Frag) (file : Str) (cd : Value) : Bool := match cd with
  | .ref c => (match K.lookup c with
    | some ⟨_, _, .fields wv, _⟩ => (match wv[2]? with
      | some (Value.str z _) => decide (z = file)
      | _ => false)
    | _ => false)
  | _ => false
def closB (K : PySem.W.Frag) (D : Addr) (cl : List (Str × Addr)) : Bool := match cl with
  | [(_, cc)] => cellB K cc D
  | _ => false
def inB (K : PySem.W.Frag) (file : Str) (d : InD) : Bool := He.eqO (PySem.W.findIn K (.ref (He.ga K d.x)) "__init__") (some (some (.ref (inF K d.x)))) && (decide (PySem.W.typeIn K (.ref (inF K d.x)) = some (.type "function")) && (match K.lookup (inF K d.x) with
  | some ⟨_, _, .func fd, _⟩ => noneB fd.defaults && (PySem.W.codeIn K fd.code d.qual && (fileB K file fd.code && closB K (He.ga K d.x) fd.closure))
  | _ => false))
structure InF (K : PySem.W.Frag) (file : Str) (d : InD) (fd : FuncData) : Prop where
  find : PySem.W.findIn K (.ref (He.ga K d.x)) "__init__" = some (some (.ref (inF K d.x)))
  ty : PySem.W.typeIn K (.ref (inF K d.x)) = some (.type "function")
  ex : ∃ (oc : Value) (od : Option Addr) (kV doc pm : Value) (an : Option Addr) (cda : Addr) (ct : Value) (osl : Array (Option Value)) (cc : Addr) (cl : Value) (cld : Option Addr) (csl : Array (Option Value)) (ccl : Value) (cdd : Option Addr) (ccs : Array (Option Value)) (wv : Array Value) (tf : Tok),
    fd = PySem.W.ksFn "__init__" d.qual (defArgs d.st) (defBody d.st) (defScope d.st) .none kV doc pm an (.ref cda) ct cc ∧ K.lookup (inF K d.x) = some ⟨oc, od, .func fd, osl⟩ ∧ PySem.W.codeIn K (.ref cda) d.qual = true ∧ K.lookup cc = some ⟨cl, cld, .cell (some (.ref (He.ga K d.x))), csl⟩ ∧
    K.lookup cda = some ⟨ccl, cdd, .fields wv, ccs⟩ ∧ wv[2]? = some (.str file tf)
theorem cellB_ok {K : PySem.W.Frag} {cc D : Addr} (h : cellB K cc D = true) : ∃ cl cld csl, K.lookup cc = some ⟨cl, cld, .cell (some (.ref D)), csl⟩ := by
  unfold cellB at h
  split at h
  · rename_i cl cld E csl e
    have z := of_decide_eq_true h
    subst z
    exact ⟨cl, cld, csl, e⟩
  · cases h
theorem fileB_ok {K : PySem.W.Frag} {file : Str} {cd : Value} (h : fileB K file cd = true) : ∃ c ccl cdd ccs wv tf, cd = .ref c ∧ K.lookup c = some ⟨ccl, cdd, .fields wv, ccs⟩ ∧ wv[2]? = some (.str file tf) := by
  unfold fileB at h
  split at h
  · rename_i c
    split at h
    · rename_i ccl cdd wv ccs e
      split at h
      · rename_i z tf e2
        have y := of_decide_eq_true h
        subst y
        exact ⟨c, ccl, cdd, ccs, wv, tf, rfl, e, e2⟩
      · cases h
    · cases h
  · cases h
theorem noneB_ok {v : Value} (h : noneB v = true) : v = .none := by
  cases v <;> first | rfl | cases h
theorem in_ok {K : PySem.W.Frag} {file : Str} {d : InD} (e : inW K d.x = d.val) (c : inB K file d = true) : ∃ fd, InF K file d fd := by
  obtain ⟨c1, c2⟩ := He.ba c
  obtain ⟨c2, c3⟩ := He.ba c2
  unfold inW at e
  cases q : K.lookup (inF K d.x) with
  | none =>
    rw [q] at c3
    cases c3
  | some o =>
    obtain ⟨oc, od, dt, osl⟩ := o
    rw [q] at c3 e
    cases dt with
    | func fd =>
      obtain ⟨n1, n2, n3, n4, n5, n6, n7, n8, n9, n10, n11, n12, n13, n14, n15⟩ := fd
      have e2 : (some (n1, n2, n3, n4, n5, n6, n7.map (·.1), n15) : InV) = (some ("__init__", d.qual, defArgs d.st, .stmts (defBody d.st), defScope d.st, mainGlobals, ["__class__"], builtinsNs) : InV) := e
      simp only [Option.some.injEq, Prod.mk.injEq] at e2
      obtain ⟨h1, h2, h3, h4, h5, h6, h7, h8⟩ := e2
      subst h1 h2 h3 h4 h5 h6 h8
      have c4 : (noneB n8 && (PySem.W.codeIn K n13 d.qual && (fileB K file n13 && closB K (He.ga K d.x) n7))) = true := c3
      obtain ⟨k1, kA⟩ := He.ba c4
      obtain ⟨k2, kB⟩ := He.ba kA
      obtain ⟨k3, k4⟩ := He.ba kB
      obtain rfl := noneB_ok k1
      obtain ⟨cda, ccl, cdd, ccs, wv, tf, rfl, g1, g2⟩ := fileB_ok k3
      match n7, h7, k4 with
      | [(y, cc)], h7, k4 =>
        have hy : y = "__class__" := by simpa using h7
        subst hy
        obtain ⟨cl, cld, csl, g3⟩ := cellB_ok (show cellB K cc (He.ga K d.x) = true from k4)
        exact ⟨_, He.eqO_ok c1, of_decide_eq_true c2, _, _, _, _, _, _, _, _, _, _, _, _, _, _, _, _, _, _, rfl, q, k2, g3, g1, g2⟩
    | _ => cases c3
/-- a class over a base -/
def xcB (K : PySem.W.Frag) (bm : List Value) (nw : String) (C : Addr) : Bool :=
  PySem.W.excInitIn K C bm nw && (PySem.W.excOver K C bm && (PySem.W.hasDictIn K C && (He.eqO (PySem.W.findIn K (.ref C) "__setattr__") (some (some (.builtin "object.__setattr__"))) &&
  (He.eqO (PySem.W.findIn K (.ref C) "__getattribute__") (some (some (.builtin "BaseException.__getattribute__"))) && (He.eqO (PySem.W.findIn K (.ref C) "__getattr__") (some none) && (decide (PySem.W.subIn K (.ref C) (.type "BaseException") = some true) &&
  (He.eqO (PySem.W.findIn K (.ref C) "__class__") (some (some (.builtin "object.__class__"))) && (He.eqO (PySem.W.specialIn K (.builtin "object.__class__") "__get__") (some (some (.builtin "getset_descriptor.__get__"))) && (decide (PySem.W.takesIn K (.builtin "object.__class__") = some true) &&
  (decide (PySem.W.mroIn K C (.type "object") = some true) && (decide (PySem.W.typeIn K (.ref C) = some (.type "type")) && PySem.W.keepIn K (.ref C))))))))))))
theorem xcB_ok {K : PySem.W.Frag} {B nw ini : String} {bm : List Value} {C : Addr} (b : Bs B nw ini bm) (h : xcB K bm nw C = true) : XC K B nw ini bm C := by
  obtain ⟨c1, h⟩ := He.ba h
  obtain ⟨c2, h⟩ := He.ba h
  obtain ⟨c3, h⟩ := He.ba h
  obtain ⟨c4, h⟩ := He.ba h
  obtain ⟨c5, h⟩ := He.ba h
  obtain ⟨c6, h⟩ := He.ba h
  obtain ⟨c7, h⟩ := He.ba h
  obtain ⟨c8, h⟩ := He.ba h
  obtain ⟨c9, h⟩ := He.ba h
  obtain ⟨c10, h⟩ := He.ba h
  obtain ⟨c11, h⟩ := He.ba h
  obtain ⟨c12, c13⟩ := He.ba h
  exact ⟨b, c1, c2, c3, He.eqO_ok c4, He.eqO_ok c5, He.eqO_ok c6, of_decide_eq_true c7, He.eqO_ok c8, He.eqO_ok c9, of_decide_eq_true c10, of_decide_eq_true c11, of_decide_eq_true c12, c13⟩
/-- the i-th class -/
def clA (K : PySem.W.Frag) (i : Nat) : Addr := He.ga K (nms.getD i "")
def bmOf (i : Nat) : List Value := if i < 25 then mroV else mroL
def nwOf (i : Nat) : String := if i < 25 then "ValueError.__new__" else "LookupError.__new__"
def inOf (i : Nat) : String := if i < 25 then "ValueError.__init__" else "LookupError.__init__"
def bsOf (i : Nat) : String := if i < 25 then "ValueError" else "LookupError"
theorem bs_of (i : Nat) : Bs (bsOf i) (nwOf i) (inOf i) (bmOf i) := by
  unfold bsOf nwOf inOf bmOf
  split
  · exact bsV
  · exact bsL
def dOf (i : Nat) : InD := ⟨nms.getD i "", nms.getD i "" ++ ".__init__", iniS i⟩
def supB (K : PySem.W.Frag) (i : Nat) : Bool := He.eqO (PySem.W.ks_superIn K (clA K i) (clA K i) "__init__") (some (some (.builtin (inOf i)))) && (decide (PySem.W.subIn K (.ref (clA K i)) (.type (bsOf i)) = some true) && decide (PySem.W.mroIn K (clA K i) (.ref (clA K i)) = some true))
def frees : List Str := ["isinstance", "list", "tuple", "dict", "int", "len", "repr", "range", "super", "ValueError", "LookupError"]
def flds : List Str := ["part", "members", "name", "path", "place", "spots", "number"]
def clsB (K : PySem.W.Frag) : Bool := (List.range 30).all fun i => He.eqO (PySem.W.nsIn K mainGlobals (nms.getD i "")) (some (some (.ref (clA K i)))) && (xcB K (bmOf i) (nwOf i) (clA K i) && (flds.all fun f => He.eqO (PySem.W.findIn K (.ref (clA K i)) f) (some none)))
def kitB2 (K : PySem.W.Frag) (x : Str) : Bool := (List.range 30).all fun i => (List.range 30).all fun j => decide (PySem.W.kitOne K (.ref (clA K i)) (.ref (clA K j)) = some (decide (j = i)))
def basB (K : PySem.W.Frag) : Bool := (List.range 30).all fun i => decide (PySem.W.kitOne K (.ref (clA K i)) (.ref (He.ga K "NeargradesError")) = some (decide (i < 25))) && (decide (PySem.W.kitOne K (.ref (clA K i)) (.ref (He.ga K "NameMissing")) = some (decide (25 ≤ i))) &&
  (decide (PySem.W.kitOne K (.ref (clA K i)) (.type "ValueError") = some (decide (i < 25))) && decide (PySem.W.kitOne K (.ref (clA K i)) (.type "LookupError") = some (decide (25 ≤ i)))))
def pl0B (K : PySem.W.Frag) : Bool := (List.range 11).all fun i => PySem.W.excIn K (clA K i) (bmOf i) (nwOf i)
def iniIx : List Nat := [11, 12, 13, 14, 15, 16, 17, 18, 19, 20, 21, 22, 23, 24, 25, 26, 27, 28, 29]
def inD : List InD := iniIx.map dOf
def gloS : List Str := ["NeargradesError", "NameMissing", "_kept", "_kept_row", "_law_pen", "_law_next", "_law_draw", "_law_kinds", "_law_bases", "_law_plain", "_law_told", "_law_kept", "law"]
def mkD (x : Str) (i : Nat) : He.DefD := ⟨(x, none), x, x, defArgs (topS i), defBody (topS i), defScope (topS i), [], []⟩
def fnD : List He.DefD := [mkD "_kept" 1, mkD "_kept_row" 2, mkD "_law_pen" 36, mkD "_law_next" 37, mkD "_law_draw" 38, mkD "_law_kinds" 39, mkD "_law_bases" 40, mkD "_law_plain" 41, mkD "_law_told" 42, mkD "_law_kept" 43, mkD "law" 44]
def fileS : Str := PySem.Challenge.pw_neargrades_k13_errors.main.file
def allB (K : PySem.W.Frag) : Bool := clsB K && (kitB2 K "" && (basB K && (pl0B K && ((iniIx.all fun i => supB K i) && ((inD.all fun d => inB K fileS d) && ((frees.all fun x => He.eqO (PySem.W.nsIn K mainGlobals x) (some none)) &&
  ((gloS.all fun x => He.eqO (PySem.W.nsIn K mainGlobals x) (some (some (.ref (He.ga K x))))) && (He.eqO (PySem.W.nsIn K cStatics "thirdparty.any") (some none) && (fnD.all fun d => d.ok K)))))))))
abbrev Al3 : Type := Bool × List He.FnW × List InV
def obs3 (K : PySem.W.Frag) : Al3 := (allB K, fnD.map fun d => He.fnW K d.at_, inD.map fun d => inW K d.x)
def val3 : Al3 := (true, fnD.map He.DefD.val, inD.map InD.val)
def Says3 (K : PySem.W.Frag) : Prop := obs3 K = val3
def frA (g : Addr → Option Obj) : PySem.W.Frag := He.frG g (cStatics :: He.asD g 4)
def hk3 : PySem.W.Hook where
  α := Al3
  obs := fun s => obs3 (frA s.heap.get?)
  val := fun _ => val3
  says := fun _ h => ∃ K : PySem.W.Frag, K.In h ∧ Says3 K
  of := fun _ _ e => ⟨_, He.frG_in, e⟩
  keeps := fun _ _ _ ⟨K, hK, c⟩ k => ⟨K, PySem.W.Frag.In.keeps hK k, c⟩
def ob3 (s : PySem.W.SharedT) : Al3 := obs3 (frA (HandSHeadRun.getT s))
theorem ob3_eq (s : PySem.W.SharedT) : ob3 s = hk3.obs s.abs := by
  have e : HandSHeadRun.getT s = s.abs.heap.get? := funext fun a => HandSHeadRun.getT_eq s a
  unfold ob3
  rw [e] <;> rfl
end K13

set_option Elab.async false
set_option linter.all false
set_option maxRecDepth 100000
set_option maxHeartbeats 0
namespace K13
open PySem PySem.Spec PyProof.Rows L2 J
abbrev R13 : PySem.W.OpenRow := PySem.W.OpenLaw.row PySem.Challenge.rw_neargrades_k13_errors
def loose1 : List Str := ["_kept", "_kept_row", "NeargradesError", "BadScale", "BadImages", "BadTable", "BadPaper", "BadBlocks", "BadTurn", "BadDeed", "MixedScales", "MixedKinds", "TooMany", "NothingDone", "NotKept", "NotThrough", "NotLike", "NotSame", "NotIdempotent", "NoStep", "OpenState", "BadName", "TwiceTold", "BadKind", "BadValue", "BadSaying", "BadText"]
def loose2 : List Str := ["Clash", "NameMissing", "UnknownGrade", "UnknownName", "UnknownState", "NotTold", "NoState", "_law_pen", "_law_next", "_law_draw", "_law_kinds", "_law_bases", "_law_plain", "_law_told", "_law_kept", "__name__"]
def loose : List Str := loose1 ++ loose2
theorem run (w : World) : HandSHeadRun.RunEq R13 (PySem.W.view R13.prog [44]) hk3 ob3 9000 loose w := by
  intro os
  kernel_rfl
end K13

set_option Elab.async false
set_option linter.all false
set_option maxRecDepth 100000
set_option maxHeartbeats 8000000
namespace K13
open PySem PySem.Spec PyProof.Rows L2 J
section
variable {P : Program} {w : World} {K : PySem.W.Frag} {mg : Str → Option Value} {h base : Heap}
structure AllF (K : PySem.W.Frag) : Prop where
  cls : ∀ i, i < 30 → PySem.W.nsIn K mainGlobals (nms.getD i "") = some (some (.ref (clA K i))) ∧ XC K (bsOf i) (nwOf i) (inOf i) (bmOf i) (clA K i) ∧ ∀ f ∈ flds, PySem.W.findIn K (.ref (clA K i)) f = some none
  kit : ∀ i j, i < 30 → j < 30 → PySem.W.kitOne K (.ref (clA K i)) (.ref (clA K j)) = some (decide (j = i))
  bas : ∀ i, i < 30 → PySem.W.kitOne K (.ref (clA K i)) (.ref (He.ga K "NeargradesError")) = some (decide (i < 25)) ∧ PySem.W.kitOne K (.ref (clA K i)) (.ref (He.ga K "NameMissing")) = some (decide (25 ≤ i)) ∧
    PySem.W.kitOne K (.ref (clA K i)) (.type "ValueError") = some (decide (i < 25)) ∧ PySem.W.kitOne K (.ref (clA K i)) (.type "LookupError") = some (decide (25 ≤ i))
  pl0 : ∀ i, i < 11 → PySem.W.excIn K (clA K i) (bmOf i) (nwOf i) = true
  sup : ∀ i ∈ iniIx, PySem.W.ks_superIn K (clA K i) (clA K i) "__init__" = some (some (.builtin (inOf i))) ∧ PySem.W.subIn K (.ref (clA K i)) (.type (bsOf i)) = some true ∧ PySem.W.mroIn K (clA K i) (.ref (clA K i)) = some true
  ini : ∀ i ∈ iniIx, ∃ fd, InF K fileS (dOf i) fd
  fre : ∀ x ∈ frees, PySem.W.nsIn K mainGlobals x = some none
  glo : ∀ x ∈ gloS, PySem.W.nsIn K mainGlobals x = some (some (.ref (He.ga K x)))
  opq : PySem.W.nsIn K cStatics "thirdparty.any" = some none
  fn : ∀ (i : Nat) (d : He.DefD), fnD[i]? = some d → ∃ fd, FunD K d.name d.qual d.params d.body d.scope (d.dvs K) (d.kws K) (He.fAd K d.at_) fd
theorem all_of (c : Says3 K) : AllF K := by
  have c0 : allB K = true := congrArg (fun z : Al3 => z.1) c
  have e1 : fnD.map (fun d => He.fnW K d.at_) = fnD.map He.DefD.val := congrArg (fun z : Al3 => z.2.1) c
  have e2 : inD.map (fun d => inW K d.x) = inD.map InD.val := congrArg (fun z : Al3 => z.2.2) c
  obtain ⟨a1, c1⟩ := He.ba c0
  obtain ⟨a2, c2⟩ := He.ba c1
  obtain ⟨a3, c3⟩ := He.ba c2
  obtain ⟨a4, c4⟩ := He.ba c3
  obtain ⟨a5, c5⟩ := He.ba c4
  obtain ⟨a6, c6⟩ := He.ba c5
  obtain ⟨a7, c7⟩ := He.ba c6
  obtain ⟨a8, c8⟩ := He.ba c7
  obtain ⟨a9, a10⟩ := He.ba c8
  refine ⟨fun i hi => ?_, fun i j hi hj => ?_, fun i hi => ?_, fun i hi => ?_, fun i hi => ?_, fun i hi => ?_, fun x hx => ?_, fun x hx => ?_, He.eqO_ok a9, fun i d hd => ?_⟩
  · obtain ⟨b1, b2⟩ := He.ba (List.all_eq_true.mp a1 i (List.mem_range.mpr hi))
    obtain ⟨b2, b3⟩ := He.ba b2
    exact ⟨He.eqO_ok b1, xcB_ok (bs_of i) b2, fun f hf => He.eqO_ok (List.all_eq_true.mp b3 f hf)⟩
  · exact of_decide_eq_true (List.all_eq_true.mp (List.all_eq_true.mp a2 i (List.mem_range.mpr hi)) j (List.mem_range.mpr hj))
  · obtain ⟨b1, b2⟩ := He.ba (List.all_eq_true.mp a3 i (List.mem_range.mpr hi))
    obtain ⟨b2, b3⟩ := He.ba b2
    obtain ⟨b3, b4⟩ := He.ba b3
    exact ⟨of_decide_eq_true b1, of_decide_eq_true b2, of_decide_eq_true b3, of_decide_eq_true b4⟩
  · exact List.all_eq_true.mp a4 i (List.mem_range.mpr hi)
  · obtain ⟨b1, b2⟩ := He.ba (List.all_eq_true.mp a5 i hi)
    obtain ⟨b2, b3⟩ := He.ba b2
    exact ⟨He.eqO_ok b1, of_decide_eq_true b2, of_decide_eq_true b3⟩
  · have hm : dOf i ∈ inD := List.mem_map_of_mem hi
    obtain ⟨j, hj⟩ := List.mem_iff_getElem?.mp hm
    have q : (inD.map fun d => inW K d.x)[j]? = (inD.map InD.val)[j]? := by rw [e2]
    rw [List.getElem?_map, List.getElem?_map, hj] at q
    exact in_ok (Option.some.inj q) (List.all_eq_true.mp a6 _ hm)
  · exact He.eqO_ok (List.all_eq_true.mp a7 x hx)
  · exact He.eqO_ok (List.all_eq_true.mp a8 x hx)
  · have q : (fnD.map fun d => He.fnW K d.at_)[i]? = (fnD.map He.DefD.val)[i]? := by rw [e1]
    rw [List.getElem?_map, List.getElem?_map, hd] at q
    exact He.DefD.funD (Option.some.inj q) (List.all_eq_true.mp a10 d (List.mem_of_getElem? hd))
/-- what is known of the program and its names -/
structure Env3 (P : Program) (K : PySem.W.Frag) (mg : Str → Option Value) : Prop where
  file : ((P.main.file : Str) == fileS) = true
  top : (P.main.scope.names.lookup ("super" : Str)).isSome = false
  all : AllF K
  fre : ∀ x ∈ frees, mg x = none
  glo : ∀ x ∈ gloS, mg x = some (.ref (He.ga K x))
  cls : ∀ i, i < 30 → mg (nms.getD i "") = some (.ref (clA K i))
theorem env3 (h1 : ((P.main.file : Str) == fileS) = true) (h2 : (P.main.scope.names.lookup ("super" : Str)).isSome = false) (X : K.In h) (G : h.Ns mainGlobals mg) (c : Says3 K) : Env3 P K mg :=
  have A := all_of c
  ⟨h1, h2, A, fun x hx => PySem.W.mg_none_of X G (A.fre x hx), fun x hx => PySem.W.mg_of X G (A.glo x hx), fun i hi => PySem.W.mg_of X G (A.cls i hi).1⟩
theorem sup3 {i : Nat} {N : List Str} {fd : FuncData} (V : Env3 P K mg) (hi : i ∈ iniIx) (h30 : i < 30) (hsc : ScS N (defScope (iniS i))) (hp : ∃ ar, ((defArgs (iniS i)).posonlyargs ++ (defArgs (iniS i)).args).head? = some ar ∧ ar.arg = "self") (F : InF K fileS (dOf i) fd) :
    SupF P K mg (clA K i) (bsOf i) (nwOf i) (inOf i) (bmOf i) "__init__" (dOf i).qual (defArgs (iniS i)) (defBody (iniS i)) (defScope (iniS i)) (inF K (dOf i).x) fd N := by
  obtain ⟨oc, od, kV, doc, pm, an, cda, ct, osl, cc, cl, cld, csl, ccl, cdd, ccs, wv, tf, g1, g2, g3, g4, g5, g6⟩ := F.ex
  obtain ⟨s1, s2, s3⟩ := V.all.sup i hi
  exact ⟨(V.all.cls i h30).2.1, hsc, ⟨oc, od, .none, kV, doc, pm, an, cda, ct, osl, cc, cl, cld, csl, ccl, cdd, ccs, wv, fileS, tf, g1, g2, g3, g4, g5, g6, V.file⟩, hp, V.top, V.fre _ (by decide), V.all.opq, s1, s2, s3⟩
theorem bind3 {i : Nat} {N : List Str} {fd : FuncData} (F : InF K fileS (dOf i) fd)
    (hb : ∀ (kV doc pm : Value) (an : Option Addr) (cdv ct : Value) (cc : Addr) (us : List Value), us.length = N.length → bindArgs (PySem.W.ksFn "__init__" (dOf i).qual (defArgs (iniS i)) (defBody (iniS i)) (defScope (iniS i)) .none kV doc pm an cdv ct cc) ⟨us, []⟩ = pure (N.zip us)) : Binds K fd N [] := by
  obtain ⟨oc, od, kV, doc, pm, an, cda, ct, osl, cc, cl, cld, csl, ccl, cdd, ccs, wv, tf, rfl, _⟩ := F.ex
  exact .all (hb kV doc pm an (.ref cda) ct cc)
theorem mk_x1 {i : Nat} {fl pn : Str} {msg : Str} {jm : Nat} {p0 p1 p2 p3 p4 p5 q1 q2 q3 q4 q5 q6 r1 r2 r3 r4 : Pos} (V : Env3 P K mg) (hi : i ∈ iniIx) (h30 : i < 30) (hf : fl ∈ flds)
    (hB : defBody (iniS i) = [.Expr (.Call (.Attribute (.Call (.Name "super" p0) [] [] p1) "__init__" p2) [.Constant (.str msg) jm p3] [] p4) p5, .Assign [.Attribute (.Name "self" q1) fl q2] (.Call (.Name "_kept" q3) [.Name pn q4] [] q5) q6])
    (hsc : ScS ["self", pn] (defScope (iniS i))) (hp : ∃ ar, ((defArgs (iniS i)).posonlyargs ++ (defArgs (iniS i)).args).head? = some ar ∧ ar.arg = "self")
    (hb : ∀ (kV doc pm : Value) (an : Option Addr) (cdv ct : Value) (cc : Addr) (us : List Value), us.length = (["self", pn] : List Str).length → bindArgs (PySem.W.ksFn "__init__" (dOf i).qual (defArgs (iniS i)) (defBody (iniS i)) (defScope (iniS i)) .none kV doc pm an cdv ct cc) ⟨us, []⟩ = pure ((["self", pn] : List Str).zip us))
    (hsw : ∀ (L : Addr) (cd : Value) (cc : Addr), swapsWith (.Call (.Attribute (.Call (.Name "super" p0) [] [] p1) "__init__" p2) [.Constant (.str msg) jm p3] [] p4) none p5.line (envS (dOf i).qual (defScope (iniS i)) L (inF K (dOf i).x) cd cc) = pure false)
    (hform : ∀ (L : Addr) (cd : Value) (cc : Addr), ∃ pl, eval (.Call (.Attribute (.Call (.Name "super" p0) [] [] p1) "__init__" p2) [.Constant (.str msg) jm p3] [] p4) (envS (dOf i).qual (defScope (iniS i)) L (inF K (dOf i).x) cd cc) = (do
      let ov ← attributeBase (.Call (.Name "super" p0) [] [] p1) "__init__" (envS (dOf i).qual (defScope (iniS i)) L (inF K (dOf i).x) cd cc) (eval (.Call (.Name "super" p0) [] [] p1) (envS (dOf i).qual (defScope (iniS i)) L (inF K (dOf i).x) cd cc))
      standAt p2.atName
      let (fx, first) ← holding [ov] (getMethod ov "__init__" pl)
      callWith p4 fx first (backTo p4 (starEach [.Constant (.str msg) jm p3] (envS (dOf i).qual (defScope (iniS i)) L (inF K (dOf i).x) cd cc))) []))
    (hgk : (defScope (iniS i)).names.lookup ("_kept" : Str) = some .globalImplicit) (hv0 : Vis (defScope (iniS i)) "self") (hv1 : Vis (defScope (iniS i)) pn) (e1 : (pn == ("__debug__" : Str)) = false) (e2 : (pn == ("__classdict__" : Str)) = false)
    (c : Cal P w K mg base CX0 6 "_kept" ["value"] (spKept K 2)) : Mkr P w K mg base CX0 7 (nms.getD i "") (clA K i) ["self", pn] (spX1 K (clA K i) fl 2 false) := by
  obtain ⟨fd, F⟩ := V.all.ini i hi
  exact ⟨_, _, _, _, _, _, (V.all.cls i h30).2.1, F.find, F.ty, V.cls i h30, bind3 F hb, ok_x1 (x := "") (k := 6) hB (sup3 V hi h30 hsc hp F) (bind3 F hb) ((V.all.cls i h30).2.2 _ hf) hsw hform hgk hv0 hv1 e1 e2 c⟩
theorem mk_x1r {i : Nat} {fl pn : Str} {msg : Str} {jm : Nat} {p0 p1 p2 p3 p4 p5 q1 q2 q3 q4 q5 q6 r1 r2 r3 r4 : Pos} (V : Env3 P K mg) (hi : i ∈ iniIx) (h30 : i < 30) (hf : fl ∈ flds)
    (hB : defBody (iniS i) = [.Expr (.Call (.Attribute (.Call (.Name "super" p0) [] [] p1) "__init__" p2) [.Constant (.str msg) jm p3] [] p4) p5, .Assign [.Attribute (.Name "self" q1) fl q2] (.Call (.Name "_kept_row" q3) [.Name pn q4] [] q5) q6])
    (hsc : ScS ["self", pn] (defScope (iniS i))) (hp : ∃ ar, ((defArgs (iniS i)).posonlyargs ++ (defArgs (iniS i)).args).head? = some ar ∧ ar.arg = "self")
    (hb : ∀ (kV doc pm : Value) (an : Option Addr) (cdv ct : Value) (cc : Addr) (us : List Value), us.length = (["self", pn] : List Str).length → bindArgs (PySem.W.ksFn "__init__" (dOf i).qual (defArgs (iniS i)) (defBody (iniS i)) (defScope (iniS i)) .none kV doc pm an cdv ct cc) ⟨us, []⟩ = pure ((["self", pn] : List Str).zip us))
    (hsw : ∀ (L : Addr) (cd : Value) (cc : Addr), swapsWith (.Call (.Attribute (.Call (.Name "super" p0) [] [] p1) "__init__" p2) [.Constant (.str msg) jm p3] [] p4) none p5.line (envS (dOf i).qual (defScope (iniS i)) L (inF K (dOf i).x) cd cc) = pure false)
    (hform : ∀ (L : Addr) (cd : Value) (cc : Addr), ∃ pl, eval (.Call (.Attribute (.Call (.Name "super" p0) [] [] p1) "__init__" p2) [.Constant (.str msg) jm p3] [] p4) (envS (dOf i).qual (defScope (iniS i)) L (inF K (dOf i).x) cd cc) = (do
      let ov ← attributeBase (.Call (.Name "super" p0) [] [] p1) "__init__" (envS (dOf i).qual (defScope (iniS i)) L (inF K (dOf i).x) cd cc) (eval (.Call (.Name "super" p0) [] [] p1) (envS (dOf i).qual (defScope (iniS i)) L (inF K (dOf i).x) cd cc))
      standAt p2.atName
      let (fx, first) ← holding [ov] (getMethod ov "__init__" pl)
      callWith p4 fx first (backTo p4 (starEach [.Constant (.str msg) jm p3] (envS (dOf i).qual (defScope (iniS i)) L (inF K (dOf i).x) cd cc))) []))
    (hgk : (defScope (iniS i)).names.lookup ("_kept_row" : Str) = some .globalImplicit) (hv0 : Vis (defScope (iniS i)) "self") (hv1 : Vis (defScope (iniS i)) pn) (e1 : (pn == ("__debug__" : Str)) = false) (e2 : (pn == ("__classdict__" : Str)) = false)
    (c : Cal P w K mg base CX0 6 "_kept_row" ["values"] (spRow K 2)) : Mkr P w K mg base CX0 7 (nms.getD i "") (clA K i) ["self", pn] (spX1 K (clA K i) fl 2 true) := by
  obtain ⟨fd, F⟩ := V.all.ini i hi
  exact ⟨_, _, _, _, _, _, (V.all.cls i h30).2.1, F.find, F.ty, V.cls i h30, bind3 F hb, ok_x1r (k := 6) hB (sup3 V hi h30 hsc hp F) (bind3 F hb) ((V.all.cls i h30).2.2 _ hf) hsw hform hgk hv0 hv1 e1 e2 c⟩
theorem mk_x2 {i : Nat} {f1 f2 n1 n2 : Str} {msg : Str} {jm : Nat} {p0 p1 p2 p3 p4 p5 q1 q2 q3 q4 q5 q6 r1 r2 r3 r4 : Pos} (V : Env3 P K mg) (hi : i ∈ iniIx) (h30 : i < 30) (hf1 : f1 ∈ flds) (hf2 : f2 ∈ flds)
    (hB : defBody (iniS i) = [.Expr (.Call (.Attribute (.Call (.Name "super" p0) [] [] p1) "__init__" p2) [.Constant (.str msg) jm p3] [] p4) p5, .Assign [.Attribute (.Name "self" r1) f1 r2] (.Name n1 r3) r4, .Assign [.Attribute (.Name "self" q1) f2 q2] (.Call (.Name "_kept_row" q3) [.Name n2 q4] [] q5) q6])
    (hsc : ScS ["self", n1, n2] (defScope (iniS i))) (hp : ∃ ar, ((defArgs (iniS i)).posonlyargs ++ (defArgs (iniS i)).args).head? = some ar ∧ ar.arg = "self")
    (hb : ∀ (kV doc pm : Value) (an : Option Addr) (cdv ct : Value) (cc : Addr) (us : List Value), us.length = (["self", n1, n2] : List Str).length → bindArgs (PySem.W.ksFn "__init__" (dOf i).qual (defArgs (iniS i)) (defBody (iniS i)) (defScope (iniS i)) .none kV doc pm an cdv ct cc) ⟨us, []⟩ = pure ((["self", n1, n2] : List Str).zip us))
    (hsw : ∀ (L : Addr) (cd : Value) (cc : Addr), swapsWith (.Call (.Attribute (.Call (.Name "super" p0) [] [] p1) "__init__" p2) [.Constant (.str msg) jm p3] [] p4) none p5.line (envS (dOf i).qual (defScope (iniS i)) L (inF K (dOf i).x) cd cc) = pure false)
    (hform : ∀ (L : Addr) (cd : Value) (cc : Addr), ∃ pl, eval (.Call (.Attribute (.Call (.Name "super" p0) [] [] p1) "__init__" p2) [.Constant (.str msg) jm p3] [] p4) (envS (dOf i).qual (defScope (iniS i)) L (inF K (dOf i).x) cd cc) = (do
      let ov ← attributeBase (.Call (.Name "super" p0) [] [] p1) "__init__" (envS (dOf i).qual (defScope (iniS i)) L (inF K (dOf i).x) cd cc) (eval (.Call (.Name "super" p0) [] [] p1) (envS (dOf i).qual (defScope (iniS i)) L (inF K (dOf i).x) cd cc))
      standAt p2.atName
      let (fx, first) ← holding [ov] (getMethod ov "__init__" pl)
      callWith p4 fx first (backTo p4 (starEach [.Constant (.str msg) jm p3] (envS (dOf i).qual (defScope (iniS i)) L (inF K (dOf i).x) cd cc))) []))
    (hgk : (defScope (iniS i)).names.lookup ("_kept_row" : Str) = some .globalImplicit) (hv0 : Vis (defScope (iniS i)) "self") (hv1 : Vis (defScope (iniS i)) n1) (hv2 : Vis (defScope (iniS i)) n2) (e1 : (n1 == ("__debug__" : Str)) = false) (e2 : (n1 == ("__classdict__" : Str)) = false) (e3 : (n2 == ("__debug__" : Str)) = false) (e4 : (n2 == ("__classdict__" : Str)) = false)
    (c : Cal P w K mg base CX0 6 "_kept_row" ["values"] (spRow K 2)) : Mkr P w K mg base CX0 7 (nms.getD i "") (clA K i) ["self", n1, n2] (spX2 K (clA K i) f1 f2 2) := by
  obtain ⟨fd, F⟩ := V.all.ini i hi
  exact ⟨_, _, _, _, _, _, (V.all.cls i h30).2.1, F.find, F.ty, V.cls i h30, bind3 F hb, ok_x2 (k := 6) hB (sup3 V hi h30 hsc hp F) (bind3 F hb) ((V.all.cls i h30).2.2 _ hf1) ((V.all.cls i h30).2.2 _ hf2) hsw hform hgk hv0 hv1 hv2 e1 e2 e3 e4 c⟩
theorem mk_11 (V : Env3 P K mg) (c : Cal P w K mg base CX0 6 "_kept_row" ["values"] (spRow K 2)) : Mkr P w K mg base CX0 7 (nms.getD 11 "") (clA K 11) ["self", "part", "members"] (spX2 K (clA K 11) "part" "members" 2) :=
  mk_x2 V (by decide) (by decide) (by decide) (by decide) (by rfl) ⟨rfl, rfl, rfl, by decide +kernel, by decide +kernel, by decide +kernel, by decide +kernel, rfl, rfl, ⟨_, rfl⟩⟩ ⟨_, rfl, rfl⟩ (fun _ _ _ _ _ _ _ us hl => match us, hl with | [_, _, _], _ => rfl) (fun _ _ _ => rfl) (fun _ _ _ => ⟨_, rfl⟩) rfl (Or.inl rfl) (Or.inl rfl) (Or.inl rfl) (by decide) (by decide) (by decide) (by decide) c
theorem mk_12 (V : Env3 P K mg) (c : Cal P w K mg base CX0 6 "_kept_row" ["values"] (spRow K 2)) : Mkr P w K mg base CX0 7 (nms.getD 12 "") (clA K 12) ["self", "members"] (spX1 K (clA K 12) "members" 2 true) :=
  mk_x1r (r1 := ⟨0, 0, 0, 0⟩) (r2 := ⟨0, 0, 0, 0⟩) (r3 := ⟨0, 0, 0, 0⟩) (r4 := ⟨0, 0, 0, 0⟩) V (by decide) (by decide) (by decide) (by rfl) ⟨rfl, rfl, rfl, by decide +kernel, by decide +kernel, by decide +kernel, by decide +kernel, rfl, rfl, ⟨_, rfl⟩⟩ ⟨_, rfl, rfl⟩ (fun _ _ _ _ _ _ _ us hl => match us, hl with | [_, _], _ => rfl) (fun _ _ _ => rfl) (fun _ _ _ => ⟨_, rfl⟩) rfl (Or.inl rfl) (Or.inl rfl) (by decide) (by decide) c
theorem mk_13 (V : Env3 P K mg) (c : Cal P w K mg base CX0 6 "_kept_row" ["values"] (spRow K 2)) : Mkr P w K mg base CX0 7 (nms.getD 13 "") (clA K 13) ["self", "members"] (spX1 K (clA K 13) "members" 2 true) :=
  mk_x1r (r1 := ⟨0, 0, 0, 0⟩) (r2 := ⟨0, 0, 0, 0⟩) (r3 := ⟨0, 0, 0, 0⟩) (r4 := ⟨0, 0, 0, 0⟩) V (by decide) (by decide) (by decide) (by rfl) ⟨rfl, rfl, rfl, by decide +kernel, by decide +kernel, by decide +kernel, by decide +kernel, rfl, rfl, ⟨_, rfl⟩⟩ ⟨_, rfl, rfl⟩ (fun _ _ _ _ _ _ _ us hl => match us, hl with | [_, _], _ => rfl) (fun _ _ _ => rfl) (fun _ _ _ => ⟨_, rfl⟩) rfl (Or.inl rfl) (Or.inl rfl) (by decide) (by decide) c
theorem mk_14 (V : Env3 P K mg) (c : Cal P w K mg base CX0 6 "_kept" ["value"] (spKept K 2)) : Mkr P w K mg base CX0 7 (nms.getD 14 "") (clA K 14) ["self", "name"] (spX1 K (clA K 14) "name" 2 false) :=
  mk_x1 (r1 := ⟨0, 0, 0, 0⟩) (r2 := ⟨0, 0, 0, 0⟩) (r3 := ⟨0, 0, 0, 0⟩) (r4 := ⟨0, 0, 0, 0⟩) V (by decide) (by decide) (by decide) (by rfl) ⟨rfl, rfl, rfl, by decide +kernel, by decide +kernel, by decide +kernel, by decide +kernel, rfl, rfl, ⟨_, rfl⟩⟩ ⟨_, rfl, rfl⟩ (fun _ _ _ _ _ _ _ us hl => match us, hl with | [_, _], _ => rfl) (fun _ _ _ => rfl) (fun _ _ _ => ⟨_, rfl⟩) rfl (Or.inl rfl) (Or.inl rfl) (by decide) (by decide) c
theorem mk_15 (V : Env3 P K mg) (c : Cal P w K mg base CX0 6 "_kept" ["value"] (spKept K 2)) : Mkr P w K mg base CX0 7 (nms.getD 15 "") (clA K 15) ["self", "name"] (spX1 K (clA K 15) "name" 2 false) :=
  mk_x1 (r1 := ⟨0, 0, 0, 0⟩) (r2 := ⟨0, 0, 0, 0⟩) (r3 := ⟨0, 0, 0, 0⟩) (r4 := ⟨0, 0, 0, 0⟩) V (by decide) (by decide) (by decide) (by rfl) ⟨rfl, rfl, rfl, by decide +kernel, by decide +kernel, by decide +kernel, by decide +kernel, rfl, rfl, ⟨_, rfl⟩⟩ ⟨_, rfl, rfl⟩ (fun _ _ _ _ _ _ _ us hl => match us, hl with | [_, _], _ => rfl) (fun _ _ _ => rfl) (fun _ _ _ => ⟨_, rfl⟩) rfl (Or.inl rfl) (Or.inl rfl) (by decide) (by decide) c
theorem mk_16 (V : Env3 P K mg) (c : Cal P w K mg base CX0 6 "_kept" ["value"] (spKept K 2)) : Mkr P w K mg base CX0 7 (nms.getD 16 "") (clA K 16) ["self", "name"] (spX1 K (clA K 16) "name" 2 false) :=
  mk_x1 (r1 := ⟨0, 0, 0, 0⟩) (r2 := ⟨0, 0, 0, 0⟩) (r3 := ⟨0, 0, 0, 0⟩) (r4 := ⟨0, 0, 0, 0⟩) V (by decide) (by decide) (by decide) (by rfl) ⟨rfl, rfl, rfl, by decide +kernel, by decide +kernel, by decide +kernel, by decide +kernel, rfl, rfl, ⟨_, rfl⟩⟩ ⟨_, rfl, rfl⟩ (fun _ _ _ _ _ _ _ us hl => match us, hl with | [_, _], _ => rfl) (fun _ _ _ => rfl) (fun _ _ _ => ⟨_, rfl⟩) rfl (Or.inl rfl) (Or.inl rfl) (by decide) (by decide) c
theorem mk_17 (V : Env3 P K mg) (c : Cal P w K mg base CX0 6 "_kept" ["value"] (spKept K 2)) : Mkr P w K mg base CX0 7 (nms.getD 17 "") (clA K 17) ["self", "name"] (spX1 K (clA K 17) "name" 2 false) :=
  mk_x1 (r1 := ⟨0, 0, 0, 0⟩) (r2 := ⟨0, 0, 0, 0⟩) (r3 := ⟨0, 0, 0, 0⟩) (r4 := ⟨0, 0, 0, 0⟩) V (by decide) (by decide) (by decide) (by rfl) ⟨rfl, rfl, rfl, by decide +kernel, by decide +kernel, by decide +kernel, by decide +kernel, rfl, rfl, ⟨_, rfl⟩⟩ ⟨_, rfl, rfl⟩ (fun _ _ _ _ _ _ _ us hl => match us, hl with | [_, _], _ => rfl) (fun _ _ _ => rfl) (fun _ _ _ => ⟨_, rfl⟩) rfl (Or.inl rfl) (Or.inl rfl) (by decide) (by decide) c
theorem mk_18 (V : Env3 P K mg) (c : Cal P w K mg base CX0 6 "_kept" ["value"] (spKept K 2)) : Mkr P w K mg base CX0 7 (nms.getD 18 "") (clA K 18) ["self", "name"] (spX1 K (clA K 18) "name" 2 false) :=
  mk_x1 (r1 := ⟨0, 0, 0, 0⟩) (r2 := ⟨0, 0, 0, 0⟩) (r3 := ⟨0, 0, 0, 0⟩) (r4 := ⟨0, 0, 0, 0⟩) V (by decide) (by decide) (by decide) (by rfl) ⟨rfl, rfl, rfl, by decide +kernel, by decide +kernel, by decide +kernel, by decide +kernel, rfl, rfl, ⟨_, rfl⟩⟩ ⟨_, rfl, rfl⟩ (fun _ _ _ _ _ _ _ us hl => match us, hl with | [_, _], _ => rfl) (fun _ _ _ => rfl) (fun _ _ _ => ⟨_, rfl⟩) rfl (Or.inl rfl) (Or.inl rfl) (by decide) (by decide) c
theorem mk_19 (V : Env3 P K mg) (c : Cal P w K mg base CX0 6 "_kept" ["value"] (spKept K 2)) : Mkr P w K mg base CX0 7 (nms.getD 19 "") (clA K 19) ["self", "name"] (spX1 K (clA K 19) "name" 2 false) :=
  mk_x1 (r1 := ⟨0, 0, 0, 0⟩) (r2 := ⟨0, 0, 0, 0⟩) (r3 := ⟨0, 0, 0, 0⟩) (r4 := ⟨0, 0, 0, 0⟩) V (by decide) (by decide) (by decide) (by rfl) ⟨rfl, rfl, rfl, by decide +kernel, by decide +kernel, by decide +kernel, by decide +kernel, rfl, rfl, ⟨_, rfl⟩⟩ ⟨_, rfl, rfl⟩ (fun _ _ _ _ _ _ _ us hl => match us, hl with | [_, _], _ => rfl) (fun _ _ _ => rfl) (fun _ _ _ => ⟨_, rfl⟩) rfl (Or.inl rfl) (Or.inl rfl) (by decide) (by decide) c
theorem mk_20 (V : Env3 P K mg) (c : Cal P w K mg base CX0 6 "_kept_row" ["values"] (spRow K 2)) : Mkr P w K mg base CX0 7 (nms.getD 20 "") (clA K 20) ["self", "path"] (spX1 K (clA K 20) "path" 2 true) :=
  mk_x1r (r1 := ⟨0, 0, 0, 0⟩) (r2 := ⟨0, 0, 0, 0⟩) (r3 := ⟨0, 0, 0, 0⟩) (r4 := ⟨0, 0, 0, 0⟩) V (by decide) (by decide) (by decide) (by rfl) ⟨rfl, rfl, rfl, by decide +kernel, by decide +kernel, by decide +kernel, by decide +kernel, rfl, rfl, ⟨_, rfl⟩⟩ ⟨_, rfl, rfl⟩ (fun _ _ _ _ _ _ _ us hl => match us, hl with | [_, _], _ => rfl) (fun _ _ _ => rfl) (fun _ _ _ => ⟨_, rfl⟩) rfl (Or.inl rfl) (Or.inl rfl) (by decide) (by decide) c
theorem mk_21 (V : Env3 P K mg) (c : Cal P w K mg base CX0 6 "_kept_row" ["values"] (spRow K 2)) : Mkr P w K mg base CX0 7 (nms.getD 21 "") (clA K 21) ["self", "path"] (spX1 K (clA K 21) "path" 2 true) :=
  mk_x1r (r1 := ⟨0, 0, 0, 0⟩) (r2 := ⟨0, 0, 0, 0⟩) (r3 := ⟨0, 0, 0, 0⟩) (r4 := ⟨0, 0, 0, 0⟩) V (by decide) (by decide) (by decide) (by rfl) ⟨rfl, rfl, rfl, by decide +kernel, by decide +kernel, by decide +kernel, by decide +kernel, rfl, rfl, ⟨_, rfl⟩⟩ ⟨_, rfl, rfl⟩ (fun _ _ _ _ _ _ _ us hl => match us, hl with | [_, _], _ => rfl) (fun _ _ _ => rfl) (fun _ _ _ => ⟨_, rfl⟩) rfl (Or.inl rfl) (Or.inl rfl) (by decide) (by decide) c
theorem mk_22 (V : Env3 P K mg) (c : Cal P w K mg base CX0 6 "_kept_row" ["values"] (spRow K 2)) : Mkr P w K mg base CX0 7 (nms.getD 22 "") (clA K 22) ["self", "path"] (spX1 K (clA K 22) "path" 2 true) :=
  mk_x1r (r1 := ⟨0, 0, 0, 0⟩) (r2 := ⟨0, 0, 0, 0⟩) (r3 := ⟨0, 0, 0, 0⟩) (r4 := ⟨0, 0, 0, 0⟩) V (by decide) (by decide) (by decide) (by rfl) ⟨rfl, rfl, rfl, by decide +kernel, by decide +kernel, by decide +kernel, by decide +kernel, rfl, rfl, ⟨_, rfl⟩⟩ ⟨_, rfl, rfl⟩ (fun _ _ _ _ _ _ _ us hl => match us, hl with | [_, _], _ => rfl) (fun _ _ _ => rfl) (fun _ _ _ => ⟨_, rfl⟩) rfl (Or.inl rfl) (Or.inl rfl) (by decide) (by decide) c
theorem mk_23 (V : Env3 P K mg) (c : Cal P w K mg base CX0 6 "_kept" ["value"] (spKept K 2)) : Mkr P w K mg base CX0 7 (nms.getD 23 "") (clA K 23) ["self", "place"] (spX1 K (clA K 23) "place" 2 false) :=
  mk_x1 (r1 := ⟨0, 0, 0, 0⟩) (r2 := ⟨0, 0, 0, 0⟩) (r3 := ⟨0, 0, 0, 0⟩) (r4 := ⟨0, 0, 0, 0⟩) V (by decide) (by decide) (by decide) (by rfl) ⟨rfl, rfl, rfl, by decide +kernel, by decide +kernel, by decide +kernel, by decide +kernel, rfl, rfl, ⟨_, rfl⟩⟩ ⟨_, rfl, rfl⟩ (fun _ _ _ _ _ _ _ us hl => match us, hl with | [_, _], _ => rfl) (fun _ _ _ => rfl) (fun _ _ _ => ⟨_, rfl⟩) rfl (Or.inl rfl) (Or.inl rfl) (by decide) (by decide) c
theorem mk_24 (V : Env3 P K mg) (c : Cal P w K mg base CX0 6 "_kept_row" ["values"] (spRow K 2)) : Mkr P w K mg base CX0 7 (nms.getD 24 "") (clA K 24) ["self", "spots"] (spX1 K (clA K 24) "spots" 2 true) :=
  mk_x1r (r1 := ⟨0, 0, 0, 0⟩) (r2 := ⟨0, 0, 0, 0⟩) (r3 := ⟨0, 0, 0, 0⟩) (r4 := ⟨0, 0, 0, 0⟩) V (by decide) (by decide) (by decide) (by rfl) ⟨rfl, rfl, rfl, by decide +kernel, by decide +kernel, by decide +kernel, by decide +kernel, rfl, rfl, ⟨_, rfl⟩⟩ ⟨_, rfl, rfl⟩ (fun _ _ _ _ _ _ _ us hl => match us, hl with | [_, _], _ => rfl) (fun _ _ _ => rfl) (fun _ _ _ => ⟨_, rfl⟩) rfl (Or.inl rfl) (Or.inl rfl) (by decide) (by decide) c
theorem mk_25 (V : Env3 P K mg) (c : Cal P w K mg base CX0 6 "_kept" ["value"] (spKept K 2)) : Mkr P w K mg base CX0 7 (nms.getD 25 "") (clA K 25) ["self", "name"] (spX1 K (clA K 25) "name" 2 false) :=
  mk_x1 (r1 := ⟨0, 0, 0, 0⟩) (r2 := ⟨0, 0, 0, 0⟩) (r3 := ⟨0, 0, 0, 0⟩) (r4 := ⟨0, 0, 0, 0⟩) V (by decide) (by decide) (by decide) (by rfl) ⟨rfl, rfl, rfl, by decide +kernel, by decide +kernel, by decide +kernel, by decide +kernel, rfl, rfl, ⟨_, rfl⟩⟩ ⟨_, rfl, rfl⟩ (fun _ _ _ _ _ _ _ us hl => match us, hl with | [_, _], _ => rfl) (fun _ _ _ => rfl) (fun _ _ _ => ⟨_, rfl⟩) rfl (Or.inl rfl) (Or.inl rfl) (by decide) (by decide) c
theorem mk_26 (V : Env3 P K mg) (c : Cal P w K mg base CX0 6 "_kept" ["value"] (spKept K 2)) : Mkr P w K mg base CX0 7 (nms.getD 26 "") (clA K 26) ["self", "name"] (spX1 K (clA K 26) "name" 2 false) :=
  mk_x1 (r1 := ⟨0, 0, 0, 0⟩) (r2 := ⟨0, 0, 0, 0⟩) (r3 := ⟨0, 0, 0, 0⟩) (r4 := ⟨0, 0, 0, 0⟩) V (by decide) (by decide) (by decide) (by rfl) ⟨rfl, rfl, rfl, by decide +kernel, by decide +kernel, by decide +kernel, by decide +kernel, rfl, rfl, ⟨_, rfl⟩⟩ ⟨_, rfl, rfl⟩ (fun _ _ _ _ _ _ _ us hl => match us, hl with | [_, _], _ => rfl) (fun _ _ _ => rfl) (fun _ _ _ => ⟨_, rfl⟩) rfl (Or.inl rfl) (Or.inl rfl) (by decide) (by decide) c
theorem mk_27 (V : Env3 P K mg) (c : Cal P w K mg base CX0 6 "_kept" ["value"] (spKept K 2)) : Mkr P w K mg base CX0 7 (nms.getD 27 "") (clA K 27) ["self", "name"] (spX1 K (clA K 27) "name" 2 false) :=
  mk_x1 (r1 := ⟨0, 0, 0, 0⟩) (r2 := ⟨0, 0, 0, 0⟩) (r3 := ⟨0, 0, 0, 0⟩) (r4 := ⟨0, 0, 0, 0⟩) V (by decide) (by decide) (by decide) (by rfl) ⟨rfl, rfl, rfl, by decide +kernel, by decide +kernel, by decide +kernel, by decide +kernel, rfl, rfl, ⟨_, rfl⟩⟩ ⟨_, rfl, rfl⟩ (fun _ _ _ _ _ _ _ us hl => match us, hl with | [_, _], _ => rfl) (fun _ _ _ => rfl) (fun _ _ _ => ⟨_, rfl⟩) rfl (Or.inl rfl) (Or.inl rfl) (by decide) (by decide) c
theorem mk_28 (V : Env3 P K mg) (c : Cal P w K mg base CX0 6 "_kept" ["value"] (spKept K 2)) : Mkr P w K mg base CX0 7 (nms.getD 28 "") (clA K 28) ["self", "name"] (spX1 K (clA K 28) "name" 2 false) :=
  mk_x1 (r1 := ⟨0, 0, 0, 0⟩) (r2 := ⟨0, 0, 0, 0⟩) (r3 := ⟨0, 0, 0, 0⟩) (r4 := ⟨0, 0, 0, 0⟩) V (by decide) (by decide) (by decide) (by rfl) ⟨rfl, rfl, rfl, by decide +kernel, by decide +kernel, by decide +kernel, by decide +kernel, rfl, rfl, ⟨_, rfl⟩⟩ ⟨_, rfl, rfl⟩ (fun _ _ _ _ _ _ _ us hl => match us, hl with | [_, _], _ => rfl) (fun _ _ _ => rfl) (fun _ _ _ => ⟨_, rfl⟩) rfl (Or.inl rfl) (Or.inl rfl) (by decide) (by decide) c
theorem mk_29 (V : Env3 P K mg) (c : Cal P w K mg base CX0 6 "_kept" ["value"] (spKept K 2)) : Mkr P w K mg base CX0 7 (nms.getD 29 "") (clA K 29) ["self", "number"] (spX1 K (clA K 29) "number" 2 false) :=
  mk_x1 (r1 := ⟨0, 0, 0, 0⟩) (r2 := ⟨0, 0, 0, 0⟩) (r3 := ⟨0, 0, 0, 0⟩) (r4 := ⟨0, 0, 0, 0⟩) V (by decide) (by decide) (by decide) (by rfl) ⟨rfl, rfl, rfl, by decide +kernel, by decide +kernel, by decide +kernel, by decide +kernel, rfl, rfl, ⟨_, rfl⟩⟩ ⟨_, rfl, rfl⟩ (fun _ _ _ _ _ _ _ us hl => match us, hl with | [_, _], _ => rfl) (fun _ _ _ => rfl) (fun _ _ _ => ⟨_, rfl⟩) rfl (Or.inl rfl) (Or.inl rfl) (by decide) (by decide) c
end
end K13

set_option Elab.async false
set_option linter.all false
set_option maxRecDepth 100000
set_option maxHeartbeats 8000000
namespace K13
open PySem PySem.Spec PyProof.Rows L2 J
section
variable {P : Program} {w : World} {K : PySem.W.Frag} {mg : Str → Option Value} {h base : Heap}
theorem nms_get {i : Nat} {x : Str} (h : nms[i]? = some x) : nms.getD i "" = x := by
  rw [List.getD_eq_getElem?_getD, h]
  rfl
theorem nms_lt {i : Nat} {x : Str} (h : nms[i]? = some x) : i < 30 := (List.getElem?_eq_some_iff.mp h).1
theorem kn3 (V : Env3 P K mg) : Kn K mg (clA K) (He.ga K "NeargradesError") (He.ga K "NameMissing") where
  gl i x hx := by
    rw [← nms_get hx]
    exact V.cls i (nms_lt hx)
  xc i hi := ⟨_, _, _, _, (V.all.cls i hi).2.1⟩
  kit := V.all.kit
  gE := V.glo _ (by decide)
  gM := V.glo _ (by decide)
  kE i hi := (V.all.bas i hi).1
  kM i hi := (V.all.bas i hi).2.1
  kV i hi := (V.all.bas i hi).2.2.1
  kL i hi := (V.all.bas i hi).2.2.2
  ve := V.fre _ (by decide)
  le := V.fre _ (by decide)
theorem mks3 (V : Env3 P K mg) (c : Cal P w K mg base CX0 6 "_kept" ["value"] (spKept K 2)) (cr : Cal P w K mg base CX0 6 "_kept_row" ["values"] (spRow K 2)) : Mks P w K mg base (clA K) where
  m0 i x hi hx := ⟨_, _, _, _, (V.all.cls i (by omega)).2.1, V.all.pl0 i hi, by
    rw [← nms_get hx]
    exact V.cls i (by omega)⟩
  kept := mk_11 V cr
  mem i x h1 h2 hx := by
    rw [← nms_get hx]
    have q : i = 12 ∨ i = 13 := by omega
    rcases q with rfl | rfl
    · exact mk_12 V cr
    · exact mk_13 V cr
  nam i x h1 hx := by
    rw [← nms_get hx]
    have q : i = 14 ∨ i = 15 ∨ i = 16 ∨ i = 17 ∨ i = 18 ∨ i = 19 ∨ i = 25 ∨ i = 26 ∨ i = 27 ∨ i = 28 := by omega
    rcases q with rfl | rfl | rfl | rfl | rfl | rfl | rfl | rfl | rfl | rfl
    · exact mk_14 V c
    · exact mk_15 V c
    · exact mk_16 V c
    · exact mk_17 V c
    · exact mk_18 V c
    · exact mk_19 V c
    · exact mk_25 V c
    · exact mk_26 V c
    · exact mk_27 V c
    · exact mk_28 V c
  pat i x h1 h2 hx := by
    rw [← nms_get hx]
    have q : i = 20 ∨ i = 21 ∨ i = 22 := by omega
    rcases q with rfl | rfl | rfl
    · exact mk_20 V cr
    · exact mk_21 V cr
    · exact mk_22 V cr
  plc := mk_23 V c
  spo := mk_24 V cr
  num := mk_29 V c
theorem nof3 (V : Env3 P K mg) : NoF K (clA K) := fun i f hi hf => (V.all.cls i hi).2.2 f hf
theorem cal_mono {x : Str} {ps : List Str} {sp : Sp} {j k : Nat} (c : Cal P w K mg base CX0 j x ps sp) (h : j ≤ k) : Cal P w K mg base CX0 k x ps sp := by
  obtain ⟨f, fd, q1, q2, q3, q4⟩ := c.ex
  exact ⟨f, fd, q1, q2, q3, q4.mono h⟩
theorem facts3 {f : Addr} (h1 : ((P.main.file : Str) == fileS) = true) (h2 : (P.main.scope.names.lookup ("super" : Str)).isSome = false) (X : K.In h) (G : h.Ns mainGlobals mg) (hfa : mg ("law" : Str) = some (.ref f)) (c : Says3 K) :
    ∃ fd : FuncData, (∀ (s : Shared) (v : Value), BindsTo s fd ⟨[v], []⟩ [("_law_script", v)]) ∧ ∀ base : Heap, FnG P w K mg base CX0 11 f fd ["_law_script"] (spLaw K) := by
  have V : Env3 P K mg := env3 h1 h2 X G c
  obtain ⟨fd0, F0⟩ := V.all.fn 0 _ rfl
  obtain ⟨fd1, F1⟩ := V.all.fn 1 _ rfl
  obtain ⟨fd2, F2⟩ := V.all.fn 2 _ rfl
  obtain ⟨fd3, F3⟩ := V.all.fn 3 _ rfl
  obtain ⟨fd4, F4⟩ := V.all.fn 4 _ rfl
  obtain ⟨fd5, F5⟩ := V.all.fn 5 _ rfl
  obtain ⟨fd6, F6⟩ := V.all.fn 6 _ rfl
  obtain ⟨fd7, F7⟩ := V.all.fn 7 _ rfl
  obtain ⟨fd8, F8⟩ := V.all.fn 8 _ rfl
  obtain ⟨fd9, F9⟩ := V.all.fn 9 _ rfl
  obtain ⟨fd10, F10⟩ := V.all.fn 10 _ rfl
  have T : Bl mg := ⟨V.fre _ (by decide), V.fre _ (by decide), V.fre _ (by decide), V.fre _ (by decide)⟩
  have T2 : Bl2 mg := ⟨V.fre _ (by decide), V.fre _ (by decide), V.fre _ (by decide)⟩
  have T3 : Bl3 mg := ⟨V.fre _ (by decide), V.fre _ (by decide)⟩
  have e := hfa.symm.trans (V.glo "law" (by decide))
  cases e
  have b := FunD.bindsA (ps := ["_law_script"]) F10 fun _ _ _ _ _ _ us hl => match us, hl with | [_], _ => rfl
  refine ⟨fd10, fun s v => b s [v] rfl, fun base => ?_⟩
  obtain ⟨k1, k2⟩ := cal_kept (P := P) (w := w) (base := base) F0 F1 T (V.glo "_kept" (by decide)) (V.glo "_kept_row" (by decide)) 2
  have M : Mks P w K mg base (clA K) := mks3 V (cal_mono k1 (by decide)) k2
  have S := kn3 V
  have cPen : Cal P w K mg base CX0 1 "_law_pen" ["_law_script"] (spPen K) := ⟨_, _, V.glo _ (by decide), F2.kp, FunD.bindsN F2 fun _ _ _ _ _ _ us hl => match us, hl with | [_], _ => rfl, ok_pen F2 T2⟩
  have cNext : Cal P w K mg base CX0 1 "_law_next" ["_law_pen_here"] spNext := ⟨_, _, V.glo _ (by decide), F3.kp, FunD.bindsN F3 fun _ _ _ _ _ _ us hl => match us, hl with | [_], _ => rfl, ok_next F3 T2⟩
  have cDraw : Cal P w K mg base CX0 2 "_law_draw" ["_law_pen_here", "_law_under"] spDraw := ⟨_, _, V.glo _ (by decide), F4.kp, FunD.bindsN F4 fun _ _ _ _ _ _ us hl => match us, hl with | [_, _], _ => rfl, ok_draw F4 T2 cNext⟩
  have cKinds : Cal P w K mg base CX0 1 "_law_kinds" ["_law_e"] (spKinds K (clA K)) := ⟨_, _, V.glo _ (by decide), F5.kp, FunD.bindsN F5 fun _ _ _ _ _ _ us hl => match us, hl with | [_], _ => rfl, ok_kinds F5 T S⟩
  have cBases : Cal P w K mg base CX0 1 "_law_bases" ["_law_e"] (spBases K (clA K)) := ⟨_, _, V.glo _ (by decide), F6.kp, FunD.bindsN F6 fun _ _ _ _ _ _ us hl => match us, hl with | [_], _ => rfl, ok_bases F6 T S⟩
  have cPlain : Cal P w K mg base CX0 1 "_law_plain" [] (spPlain K (clA K)) := ⟨_, _, V.glo _ (by decide), F7.kp, FunD.bindsN F7 fun _ _ _ _ _ _ us hl => match us, hl with | [], _ => rfl, ok_plain F7 M⟩
  have cTold : Cal P w K mg base CX0 9 "_law_told" ["_law_word", "_law_some"] (spTold K (clA K)) := ⟨_, _, V.glo _ (by decide), F8.kp, FunD.bindsN F8 fun _ _ _ _ _ _ us hl => match us, hl with | [_, _], _ => rfl, ok_told F8 M⟩
  have cKept : CalG P w K mg base CX0 10 "_law_kept" ["_law_word", "_law_number", "_law_some"] (spLawKept K) := ⟨_, _, V.glo _ (by decide), F9.kp, FunD.bindsN F9 fun _ _ _ _ _ _ us hl => match us, hl with | [_, _, _], _ => rfl, ok_lawKept F9 T T3 S (nof3 V) M cTold⟩
  exact ok_law F10 T T3 T2 S M cPen cDraw cKinds cBases cPlain cTold cKept
end
end K13
open PySem PySem.W PySem.Calls PyProof.Rows
theorem PySem.Challenge.cw_neargrades_k13_errors_holds : PySem.Challenge.rw_neargrades_k13_errors.Holds := by
  w_on; o_law
  refine HandSHeadRun.head_any (r := K13.R13) (q := view K13.R13.prog [44]) (H := K13.hk3) (ob := K13.ob3) (M := 9000) (loose := K13.loose) (d := HandSHeadRun.topDef K13.R13.prog 44) (kwd := []) K13.ob3_eq
    (by kernel_rfl) (fun s => by kernel_rfl) K13.run (by kernel_rfl) (by kernel_rfl) (by kernel_rfl) (by rfl) (by first | assumption | decide +kernel) (by decide +kernel) ⟨rfl, rfl, rfl, rfl, rfl, by decide +kernel⟩ ?hw ?hc
  case hw => w_witness2
  case hc =>
    refine J.walk_G (l := PySem.Challenge.rw_neargrades_k13_errors) (n := 63) (k := 11) (x := "_law_script") (CX := L2.CX0) rfl (by decide) (by kernel_rfl) ⟨rfl, by decide, by decide⟩ ?F (fun _ _ _ _ z => z)
    intro w mg fa h Y G hmg0
    obtain ⟨K, KX, c⟩ := Y
    have hmg : mg ("law" : PySem.Str) = some (.ref fa) := by
      have e : (HandSHeadRun.topDef K13.R13.prog 44).name = ("law" : PySem.Str) := by kernel_rfl
      rw [← e]
      exact hmg0
    obtain ⟨fd, hb, hF⟩ := K13.facts3 (P := PySem.Challenge.rw_neargrades_k13_errors.prog) (w := w) (by kernel_rfl) (by kernel_rfl) KX G hmg c
    exact ⟨K, fd, K13.spLaw K, KX, hb, fun H a ns hl _ hS => ⟨a, ns, rfl, hS, fun _ => rfl⟩, fun base _ _ => hF base⟩

