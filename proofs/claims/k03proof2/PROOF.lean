import PyProof.Rows.All
import Wide.All
import OpenK.AllK
import Wide.FinOn
import KE.KExcInit
import KE.KExcIs
import KE.KExcPX
import KE.KExcSuper
import HandS.ForMost
import HandS.ExcOwn
import HandS.ExcValue
import HandS.ExcInit
import HandS.IsInst
import KE.KSuper
import HandS.HeadEnd
import HandS.Defaults
import PyProof.ReprRoads
import HandS.Wide
import HandS.Evl
import HandS.Conv
import HandS.Codes
import HandS.ClsMeth
import HandS.OwnEq
import HandS.MakeKwOnly
import HandS.Star
import HandS.ForDict
import HandS.ForList
import HandS.DictComp
import PySem.Challenge.RW_neargrades_k03_first_faults
import HandS.CallLocal
import HandS.TupMul
import HandS.TupAny
import HandS.Style
import HandS.Small
import HandS.Head0
import HandS.Head1
import HandS.Head2
import HandS.HeadHook1
import HandS.HeadHook2
set_option Elab.async false
set_option linter.all false
set_option maxRecDepth 100000
set_option maxHeartbeats 4000000
/-! J1: own exception objects as values: made by an own __init__ or without one, their fields, isinstance. -/
namespace J
open PySem PySem.Spec PyProof.Rows L2

/-- a built-in base with all that is known of it -/
structure Bs (B nw ini : String) (bm : List Value) : Prop where
  fb : ExcBaseFacts B nw ini bm
  st : StoreFacts B bm "object.__setattr__" "object"
  su : PySem.W.KxsFacts B ini
abbrev mroV : List Value := [.type "ValueError", .type "Exception", .type "BaseException", .type "object"]
abbrev mroL : List Value := [.type "LookupError", .type "Exception", .type "BaseException", .type "object"]
theorem bsV : Bs "ValueError" "ValueError.__new__" "ValueError.__init__" mroV := ⟨F.excBase_ValueError, F.store_ValueError, PySem.W.kxs_ValueError⟩
theorem bsL : Bs "LookupError" "LookupError.__new__" "LookupError.__init__" mroL := ⟨F.excBase_LookupError, F.store_LookupError, PySem.W.kxs_LookupError⟩
/-- what the written part says of an own exception class at C -/
structure XC (K : PySem.W.Frag) (B nw ini : String) (bm : List Value) (C : Addr) : Prop where
  bs : Bs B nw ini bm
  ini : PySem.W.excInitIn K C bm nw = true
  ovr : PySem.W.excOver K C bm = true
  hd : PySem.W.hasDictIn K C = true
  sa : PySem.W.findIn K (.ref C) "__setattr__" = some (some (.builtin "object.__setattr__"))
  ga : PySem.W.findIn K (.ref C) "__getattribute__" = some (some (.builtin "BaseException.__getattribute__"))
  gt : PySem.W.findIn K (.ref C) "__getattr__" = some none
  sb : PySem.W.subIn K (.ref C) (.type "BaseException") = some true
  ca : PySem.W.findIn K (.ref C) "__class__" = some (some (.builtin "object.__class__"))
  dn : PySem.W.specialIn K (.builtin "object.__class__") "__get__" = some (some (.builtin "getset_descriptor.__get__"))
  tk : PySem.W.takesIn K (.builtin "object.__class__") = some true
  mo : PySem.W.mroIn K C (.type "object") = some true
  ty : PySem.W.typeIn K (.ref C) = some (.type "type")
  kp : PySem.W.keepIn K (.ref C) = true

/-- an exception object of the class at C with the fields fs (none as yet: no dict) -/
def XAt (H : Hp) (a C : Addr) (fs : List (Str × V)) : Prop :=
  (fs = [] ∧ H a = some (exo a C none)) ∨ ∃ dx, H a = some (exo a C (some dx)) ∧ H dx = some (exd dx fs)
theorem XAt.ext {H H' : Hp} {a C : Addr} {fs : List (Str × V)} (h : XAt H a C fs) (k : ∀ b o, H b = some o → H' b = some o) : XAt H' a C fs := by
  rcases h with ⟨e, h⟩ | ⟨dx, h1, h2⟩
  · exact .inl ⟨e, k _ _ h⟩
  · exact .inr ⟨dx, k _ _ h1, k _ _ h2⟩
theorem XAt.inst {P : Program} {w : World} {H : Hp} {h : Heap} {a C : Addr} {fs : List (Str × V)} (x : XAt H a C fs) (ok : HOk P w H h) :
    ∃ ox od, PySem.W.InstAt h a ox C od ∧ (fs = [] ∧ od = none ∨ ∃ (o : Obj) (mA : Str → Option Value), od = some o ∧ (∀ y, PySem.W.lookIn y o = some (mA y)) ∧ ∀ f, RelO (fs.lookup f) (mA f)) := by
  rcases x with ⟨e, h1⟩ | ⟨dx, h1, h2⟩
  · obtain ⟨t1, ho⟩ := exo_at ok h1
    exact ⟨_, none, ⟨ho, rfl, rfl, trivial⟩, .inl ⟨e, rfl⟩⟩
  · obtain ⟨t1, ho⟩ := exo_at ok h1
    obtain ⟨mA, hns, rel⟩ := exd_at ok h2
    obtain ⟨od, hod, hl⟩ := lookIn_ns hns
    exact ⟨_, some od, ⟨ho, rfl, rfl, hod⟩, .inr ⟨od, mA, rfl, hl, rel⟩⟩

section
variable {X : Cx} {B nw ini : String} {bm : List Value}
/-- isinstance(e, c), e such an object -/
def rIsX (K : PySem.W.Frag) : List V → Hp → VK → Prop := fun xs H Q => ∃ (a C : Addr) (fs : List (Str × V)) (c : V) (cv : Value) (b : Bool) (B nw ini : String) (bm : List Value),
  xs = [.ref a, c] ∧ XC K B nw ini bm C ∧ XAt H a C fs ∧ ClsV c cv ∧ PySem.W.kitOne K (.ref C) cv = some b ∧ Q (.bl b) H
theorem call_isX : CallR X (.builtin "isinstance") (rIsX X.K) := by
  intro pins s σ H xs us Q I r h
  obtain ⟨a, C, fs, c, cv, b, B, nw, ini, bm, rfl, T, x, k, e, q⟩ := h
  obtain ⟨u1, u2, rfl, r1, r2⟩ := vals2 r
  have e2 := k.eq r2
  subst e2
  obtain rfl : u1 = Value.ref a := r1
  obtain ⟨ox, od, J, _⟩ := x.inst I.hok
  have hcl : (PySem.W.clsIn X.K C).isSome = true := by
    have h := T.hd
    unfold PySem.W.hasDictIn at h
    cases hc : PySem.W.clsIn X.K C with
    | none => rw [hc] at h; cases h
    | some cd => rfl
  exact PySem.W.kia_one (PySem.W.kitx_exc hcl T.ga T.gt T.sb T.ca T.dn T.tk T.mo) I.kIn J e (fun z => nomatch z) fun tk => ⟨.bl b, H, I.tok tk, rfl, q⟩
/-- e.f, e such an object -/
def tXFld (K : PySem.W.Frag) (te : TE) (f : Str) : TE := fun σ H Q => te σ H fun x H1 => ∃ (a C : Addr) (fs : List (Str × V)) (v : V) (B nw ini : String) (bm : List Value),
  x = .ref a ∧ XC K B nw ini bm C ∧ XAt H1 a C fs ∧ PySem.W.findIn K (.ref C) f = some none ∧ fs.lookup f = some v ∧ Q v H1
theorem pe_xfld {e : Expr} {te : TE} {pos : Pos} {f : Str} (he : PE X e te) (hb : attributeBase e f X.env (eval e X.env) = eval e X.env := by rfl) : PE X (.Attribute e f pos) (tXFld X.K te f) := by
  refine ⟨fun pins s σ H Q I h => ?_⟩
  refine attr_of hb (thn (he.run pins s σ H _ I h) fun u s1 hh => ?_)
  obtain ⟨x, H1, I1, rx, a, C, fs, v, B, nw, ini, bm, rfl, T, xa, hno, l, q⟩ := hh
  obtain rfl : u = Value.ref a := rx
  obtain ⟨ox, od, Ji, hc⟩ := xa.inst I1.hok
  rcases hc with ⟨e0, _⟩ | ⟨o, mA, rfl, hl, rel⟩
  · rw [e0] at l
    cases l
  · obtain ⟨u, hu, ru⟩ := RelO.some_of (v := v) (o := mA f) (by rw [← l]; exact rel f)
    have fo := PySem.W.findObj_own T.hd hno rfl (by rw [hl, hu])
    exact HandSPX.exc_get I1.kIn Ji T.ga T.gt T.sb fo (handed_of ru) ⟨v, H1, I1.tok _, ru, q⟩

/-- C(), the class without an own __init__ -/
def tX0 (C : Addr) : TE := fun σ H Q => ∀ a, H a = none → Q (.ref a) (upd H a (exo a C none))
theorem pe_x0 {C : Addr} {x : Str} {p pos : Pos} (T : XC X.K B nw ini bm C) (xc : PySem.W.excIn X.K C bm nw = true) (gC : X.mg x = some (.ref C)) (hg : Gl X x) (hdb : (x == ("__debug__" : Str)) = false := by decide) :
    PE X (.Call (.Name x p) [] [] pos) (tX0 C) := by
  refine ⟨fun pins s σ H Q I h => ?_⟩
  refine wpAny_Call_Name_kw (ld_glob I hg gC ?_ hdb)
  refine PySem.W.callWith_K0 I.kIn T.kp ?_
  obtain ⟨bm', N, nm, qn, bs, hdct, sn, sub, ab, col, dd, k0, k1, k2, k3, k5, mN, hC, hN, hni, Tl⟩ := exc_obj I.kIn xc
  refine wpAny_call_exc_subT T.bs.fb Tl hC hN hni (fun h' a hm => ?_) (by show 0 ≤ sizeLine; exact Nat.zero_le _)
  have hn : H a = none := I.hok.gone hm.new
  obtain ⟨t, ht, _, _⟩ := hm.there
  exact ⟨.ref a, upd H a (exo a C none), I.laidN hm.keeps hm.new hn (exo_ok ht), rfl, h a hn⟩

/-- C(e, ..), by the own __init__ that keeps sp -/
def tXMk (C : Addr) (sp : Sp) (dvs : List V) (E : XK) (ta : TA) : TE := fun σ H Q => ta σ H fun vs H1 => vs.length ≤ 1000 ∧ ∀ a, H1 a = none →
  sp (.ref a :: (vs ++ dvs)) (upd H1 a (exo a C none)) (fun v H2 => v = .non ∧ Q (.ref a) H2) E
variable {CX : CXT} {k : Nat} {fI C : Addr} {fd : FuncData} {ps : List Str} {sp : Sp} {ds : List Value} {dvs : List V} {E : XK} {x : Str} {p pos : Pos} {e : Expr} {es : List Expr} {ta : TA}
theorem pe_xmk (T : XC X.K B nw ini bm C) (iC : PySem.W.findIn X.K (.ref C) "__init__" = some (some (.ref fI))) (tI : PySem.W.typeIn X.K (.ref fI) = some (.type "function"))
    (G : FnOk X.prog X.w X.K X.mg X.base CX k fI fd ps sp) (hr : Room (k + 1) X.A) (hb : Binds X.K fd ps ds) (hd : Vals dvs ds) (hx : Passes CX X E) (hg : Gl X x) (hm : X.mg x = some (.ref C)) (ha : PA X (e :: es) ta)
    (hdb : (x == ("__debug__" : Str)) = false := by decide) (he : starEach (e :: es) X.env = (false, eval e X.env) :: starEach es X.env := by rfl) (hpl : (backTo pos (starEach es X.env)).any (·.1) = false := by rfl) :
    PE X (.Call (.Name x p) (e :: es) [] pos) (tXMk C sp dvs E ta) := by
  refine ⟨fun pins s σ H Q I h => ?_⟩
  refine wpAny_Call_Name_kw (ld_glob I hg hm ?_ hdb)
  refine PySem.W.callWith_K (h₀ := X.base) I.ok.mod.kin T.kp (thn (ha.run pos pins s σ H _ I h) fun us s1 ⟨vs, H1, I1, r1, hz, q1⟩ => ⟨I1.kIn, ?_⟩) he hpl
  show wpAny _ _ (call (.ref C) us) _ _ _
  obtain ⟨nm, N, qn, bs, bmr, hdct, sn, sub, ab, col, dd, k0, k1, k2, k3, k5, hC, hT⟩ := PySem.W.excInit_of I1.kIn T.ini
  obtain ⟨hp, g, dr, tk, os⟩ := s1
  have up1 : hp.objs.size ≤ hp.objs.size + 1 := Nat.le_succ _
  have fresh := I1.hok.fresh up1
  have asks := q1 (hp.objs.size + 1) fresh
  have stays : ∀ b o, hp.get? b = some o → ((hp.push (PySem.W.kdv_tup us)).push (PySem.HandSPX.excO C hp.objs.size)).get? b = some o :=
    fun b o w => Heap.get?_push_of_some _ (Heap.get?_push_of_some _ w)
  have there : ((hp.push (PySem.W.kdv_tup us)).push (PySem.HandSPX.excO C hp.objs.size)).get? (hp.objs.size + 1) = some (PySem.HandSPX.excO C hp.objs.size) := by heap_get
  have I2 : Inv X pins σ (upd H1 (hp.objs.size + 1) (exo (hp.objs.size + 1) C none)) ⟨(hp.push (PySem.W.kdv_tup us)).push (PySem.HandSPX.excO C hp.objs.size), g, dr, tk, os⟩ :=
    I1.laid (t' := tk) (h' := (hp.push (PySem.W.kdv_tup us)).push (PySem.HandSPX.excO C hp.objs.size)) stays up1 (exo_ok there)
  have rel : Vals (V.ref (hp.objs.size + 1) :: (vs ++ dvs)) (Value.ref (hp.objs.size + 1) :: (us ++ ds)) := .cons rfl (r1.append hd)
  have many : (Value.ref (hp.objs.size + 1) :: us ++ ds).length = ps.length := by
    have w := rel.length
    rw [G.len _ _ _ _ asks] at w
    exact w.symm
  have short : us.length ≤ sizeLine := by
    rw [← Paired.length r1, sizeLine_eq]
    omega
  have bound := hb _ (Value.ref (hp.objs.size + 1) :: us) I2.kIn many
  have ran := G.run _ X.stack _ _ ⟨Value.ref (hp.objs.size + 1) :: us, []⟩ (Value.ref (hp.objs.size + 1) :: (us ++ ds)) _ _ E (hr.make C us []) (I2.env0.make C us []) bound rel asks
  refine wpAny_call (PySem.HandSPX.call_own T.bs.fb hT hC (PySem.W.looks_findIn I1.kIn iC) (fun self => PySem.W.bind_fn I1.kIn self tI) short (codeAny_mono ran fun r s' hq' => ?_))
  cases r with
  | error er => exact hx pins σ _ _ er s' I2 hq'
  | ok fl =>
    cases fl with
    | ret u =>
      obtain ⟨v, H2, os2, bare2, un2, hok2, rv, ev, q2⟩ := hq'
      subst ev
      exact ⟨rv, .ref (hp.objs.size + 1), H2, I2.call' (ch := []) os2 un2 hok2 bare2 (fun b z => absurd z (by simp)), rfl, q2⟩
    | next => exact False.elim hq'
    | brk => exact False.elim hq'
    | cont => exact False.elim hq'
end
end J

set_option Elab.async false
set_option linter.all false
set_option maxRecDepth 100000
set_option maxHeartbeats 4000000
/-! J2: a field of such an object is stored. -/
namespace J
open PySem PySem.Spec PyProof.Rows L2
section
open Builtin Builtin.ObjectAttr
variable {prog : Program} {w : World} {A : Around} {R : Result → Shared → Prop} {hp : Heap} {g : Array GenState} {d : Drawn} {t : Nat} {os : OsState} {B nw ini : String} {bm : List Value} {K : PySem.W.Frag}
theorem cls_of {C : Addr} (h : PySem.W.hasDictIn K C = true) : ∃ cd, PySem.W.clsIn K C = some cd ∧ cd.hasDict = true := PySem.W.any_some h
/-- the object has no dict as yet -/
theorem put0 {f : Str} {tk : Tok} {v : Value} {x C : Addr} {fv : Array Value} (T : XC K B nw ini bm C) (Kx : K.In hp) (ox : hp.get? x = some { cls := .ref C, data := .fields fv }) (no : PySem.W.findIn K (.ref C) f = some none)
    (k : ∀ h1 t1 dx, (∀ b o, b ≠ x → hp.get? b = some o → h1.get? b = some o) → hp.objs.size ≤ dx → dx ≠ x → h1.get? x = some { cls := .ref C, dict := some dx, data := .fields fv } →
      h1.Ns1 dx (fun y => if y = f then some v else none) → R (.ok (.ret .none)) ⟨h1, g, d, t1, os⟩) :
    codeAny (model prog w) A (.call (.builtin "object.__setattr__") ⟨[.ref x, .str f tk, v], []⟩) R ⟨hp, g, d, t, os⟩ := by
  obtain ⟨cd, ec, dd⟩ := cls_of T.hd
  have far : x ≠ hp.objs.size := Nat.ne_of_lt (Heap.lt_size ox)
  have look : PySem.W.Looks (model prog w) hp (classData C) cd := PySem.W.looks_clsIn Kx ec
  refine PySem.W.osa_openX (s := ⟨hp, g, d, t, os⟩) (od := none) (r := none) T.bs.st Kx ⟨ox, rfl, rfl, trivial⟩ T.ovr (by unfold PySem.W.takerIn; rw [no]; rfl) fun b => ?_
  obtain ⟨c1, c2, c3, c4, c5, c6, c7, c8, c9, c10, c11⟩ := cd
  dsimp only at dd
  subst dd
  dsimp only
  unfold storeInOwnDict ownDictForStores
  repeat (first | with_reducible refine PySem.HandSPX.store_in_new ?_ ?_ | with_reducible refine wpAny_loadPart_at ox ?_ | with_reducible refine look.at ?_ | wp_step)
  · exact ⟨_, #[], _, (Heap.get?_update_ne _ _ _ _ far.symm).trans (Heap.get?_push_at rfl rfl), rfl, fun e he => absurd he (by simp), fun _ => rfl⟩
  · intro h1 t1 n1 sb
    have ox1 : (hp.push { cls := .type "dict", data := .dict #[] }).get? x = some { cls := .ref C, data := .fields fv } := Heap.get?_push_of_some _ ox
    refine k h1 t1 hp.objs.size (fun b o hb ho => ?_) (Nat.le_refl _) far.symm ?_ n1
    · exact (sb.2 b (Nat.ne_of_lt (Heap.lt_size ho))).trans ((Heap.get?_update_ne _ _ _ _ hb).trans (Heap.get?_push_of_some _ ho))
    · exact (sb.2 x far).trans (Heap.get?_update_self _ ox1 rfl)
/-- it has one -/
theorem put1 {f : Str} {tk : Tok} {v : Value} {x C dx : Addr} {fv : Array Value} {m0 : Str → Option Value} {nl : List Str} (T : XC K B nw ini bm C) (Kx : K.In hp) (ox : hp.get? x = some { cls := .ref C, dict := some dx, data := .fields fv })
    (ns : hp.Ns1 dx m0) (hw : Within m0 nl) (hz : nl.length ≤ 1000) (no : PySem.W.findIn K (.ref C) f = some none)
    (k : ∀ h1 t1, (∀ b o, b ≠ dx → hp.get? b = some o → h1.get? b = some o) → h1.Ns1 dx (fun y => if y = f then some v else m0 y) → R (.ok (.ret .none)) ⟨h1, g, d, t1, os⟩) :
    codeAny (model prog w) A (.call (.builtin "object.__setattr__") ⟨[.ref x, .str f tk, v], []⟩) R ⟨hp, g, d, t, os⟩ := by
  obtain ⟨cd, ec, dd⟩ := cls_of T.hd
  obtain ⟨oD, _, _, hoD, _, _⟩ := ns.count hw
  have look : PySem.W.Looks (model prog w) hp (classData C) cd := PySem.W.looks_clsIn Kx ec
  refine PySem.W.osa_openX (s := ⟨hp, g, d, t, os⟩) (od := some oD) (r := none) T.bs.st Kx ⟨ox, rfl, rfl, hoD⟩ T.ovr (by unfold PySem.W.takerIn; rw [no]; rfl) fun b => ?_
  obtain ⟨c1, c2, c3, c4, c5, c6, c7, c8, c9, c10, c11⟩ := cd
  dsimp only at dd
  subst dd
  dsimp only
  unfold storeInOwnDict ownDictForStores
  repeat (first | with_reducible refine PySem.OEX.store_in_old ns hw hz ?_ | with_reducible refine wpAny_loadPart_at ox ?_ | with_reducible refine look.at ?_ | wp_step)
  intro h1 t1 n1 sb
  exact k h1 t1 (fun b o hb ho => (sb.2 b hb).trans ho) n1
end
section
variable {X : Cx} {pins : List (Addr × Obj)} {σ : L2.St} {H : Hp} {s : Shared} {a C dx : Addr} {f : Str} {y : V} {u : Value} {fs : List (Str × V)} {Q : Unit → Shared → Prop} {E : Value → Shared → Prop} {A : Around} {B nw ini : String} {bm : List Value}
theorem st0 (T : XC X.K B nw ini bm C) (I : Inv X pins σ H s) (e : H a = some (exo a C none)) (no : PySem.W.findIn X.K (.ref C) f = some none) (ry : RelV y u)
    (h : ∀ dx s', H dx = none → dx ≠ a → Inv X pins σ (upd (upd H dx (exd dx [(f, y)])) a (exo a C (some dx))) s' → Q () s') : wpAny (model X.prog X.w) A (setAttr (.ref a) f u) Q E s := by
  obtain ⟨t1, ho⟩ := exo_at I.hok e
  obtain ⟨hp, g, d, t, os⟩ := s
  refine PySem.W.set_plain I.kIn (ox := { cls := .ref C, dict := none, data := .fields #[.ref t1, .none, .none, .none, .bool false, .none] }) (od := none) ⟨ho, rfl, rfl, trivial⟩ T.sa ?_
  refine put0 T I.kIn ho no (fun h1 tk1 dx k dn dne hx hn => ?_)
  have hnd : H dx = none := I.hok.fresh dn
  have nd : ∀ {b : Addr} {o : Obj}, hp.get? b = some o → b ≠ dx := fun {b o} q => Nat.ne_of_lt (Nat.lt_of_lt_of_le (Heap.lt_size q) dn)
  have na : ∀ {b : Addr}, H b = none → b ≠ a := fun {b} n z => by
    rw [z, e] at n
    cases n
  have Un1 : Un X.fs [] H (upd (upd H dx (exd dx [(f, y)])) a (exo a C (some dx))) hp h1 :=
    { keep := fun b o q n _ _ => k b o (na n) q,
      slot := fun b o q n _ _ => ⟨o.slots, k b o (na n) q⟩,
      free := fun b o q n _ => (upd_ne (na n)).trans ((upd_ne (nd q)).trans n),
      there := fun b o q _ => by
        rcases Classical.em (b = a) with hb | hb
        · subst hb
          exact ⟨_, hx⟩
        · exact ⟨o, k b o hb q⟩,
      tups := fun b xs q => (upd_ne (at_ne e q exo_tup)).trans ((upd_ne (ne_of_none q hnd)).trans q),
      frzs := fun b o v q => (upd_ne (at_ne e q exo_frz)).trans ((upd_ne (ne_of_none q hnd)).trans q),
      tbls := fun b ps q => ⟨#[], by rw [upd_ne (at_ne e q exo_tbl), upd_ne (ne_of_none q hnd), q]; simp⟩ }
  refine h dx _ hnd dne (I.un (t' := tk1) Un1 fun b o q => ?_)
  by_cases hb : b = a
  · subst hb
    rw [upd_same] at q
    cases q
    exact exo_ok hx
  · rw [upd_ne hb] at q
    by_cases hd : b = dx
    · subst hd
      rw [upd_same] at q
      cases q
      exact exd_ok hn (relO_put (fs := []) ry fun g => True.intro)
    · rw [upd_ne hd] at q
      refine (I.hok b o q).stay (fun c v hc z => k c v ?_ z) (fun c hc => ?_) fun c xs hc => ?_
      · rcases hc with hc | hc
        · rw [hc]
          exact hb
        · exact at_ne e hc exo_own
      · exact (upd_ne (at_ne e hc exo_own)).trans ((upd_ne (ne_of_none hc hnd)).trans hc)
      · exact (upd_ne (at_ne e hc exo_tup)).trans ((upd_ne (ne_of_none hc hnd)).trans hc)
theorem st1 (T : XC X.K B nw ini bm C) (I : Inv X pins σ H s) (e : H a = some (exo a C (some dx))) (ed : H dx = some (exd dx fs)) (hl : fs.length ≤ 900) (no : PySem.W.findIn X.K (.ref C) f = some none) (ry : RelV y u)
    (h : ∀ s', Inv X pins σ (upd H dx (exd dx ((f, y) :: fs))) s' → Q () s') : wpAny (model X.prog X.w) A (setAttr (.ref a) f u) Q E s := by
  obtain ⟨t1, ho⟩ := exo_at I.hok e
  obtain ⟨mA, hns, rel⟩ := exd_at I.hok ed
  have hw := within_of rel
  obtain ⟨hp, g, d, t, os⟩ := s
  obtain ⟨oD, _, _, hoD, _, _⟩ := hns.count hw
  refine PySem.W.set_plain I.kIn (ox := { cls := .ref C, dict := some dx, data := .fields #[.ref t1, .none, .none, .none, .bool false, .none] }) (od := some oD) ⟨ho, rfl, rfl, hoD⟩ T.sa ?_
  refine put1 T I.kIn ho hns hw (by rw [List.length_map]; omega) no (fun h1 tk1 k hn => ?_)
  have hd : ∃ o, h1.get? dx = some o := by
    obtain ⟨o, _, _, e1, _⟩ := hn
    exact ⟨o, e1⟩
  exact h _ (I.write (t' := tk1) (x := dx) (e := dx) (o := exd dx ((f, y) :: fs)) (by rw [ed]; exact True.intro) (.inl rfl) k hd (exd_ok hn (relO_put ry rel)))
end
/-- o.f = e -/
def tXSet (K : PySem.W.Frag) (f : Str) (to te : TE) : TS := fun D σ H => te σ H fun y H1 => to σ H1 fun x H2 => ∃ (a C : Addr) (B nw ini : String) (bm : List Value), x = .ref a ∧ XC K B nw ini bm C ∧ PySem.W.findIn K (.ref C) f = some none ∧
  ((H2 a = some (exo a C none) ∧ ∀ dx, H2 dx = none → dx ≠ a → D.nx σ (upd (upd H2 dx (exd dx [(f, y)])) a (exo a C (some dx)))) ∨
    ∃ (dx : Addr) (fs : List (Str × V)), H2 a = some (exo a C (some dx)) ∧ H2 dx = some (exd dx fs) ∧ fs.length ≤ 900 ∧ D.nx σ (upd H2 dx (exd dx ((f, y) :: fs))))
theorem ps_xset {X : Cx} {o e : Expr} {to te : TE} {f : Str} {p pos : Pos} (ho : PE X o to) (he : PE X e te) (hs : swapsWith e (some (.Attribute o f p)) pos.line X.env = pure false := by rfl) :
    PS X (.Assign [.Attribute o f p] e pos) (tXSet X.K f to te) := by
  refine ⟨fun pins s σ H D I h => ?_⟩
  refine plainObj_wpAny_Assign_Attribute (thn (he.run pins s σ H _ I h) fun v s1 ⟨y, H1, I1, r1, q1⟩ => thn (ho.run pins s1 σ H1 _ I1 q1) fun u s2 hh => ?_) hs
  obtain ⟨x, H2, I2, r2, a, C, B, nw, ini, bm, rfl, T, no, q⟩ := hh
  obtain rfl : u = Value.ref a := r2
  rcases q with ⟨ea, q⟩ | ⟨dx, fs, ea, ed, hl, q⟩
  · exact st0 T I2 ea no r1 fun dx s' n ne J => ⟨σ, _, J, q dx n ne⟩
  · exact st1 T I2 ea ed hl no r1 fun s' J => ⟨σ, _, J, q⟩
end J

set_option Elab.async false
set_option linter.all false
set_option maxRecDepth 100000
set_option maxHeartbeats 4000000
/-! J3: an __init__ whose first row is super().__init__(a text); what follows by the layer. -/
namespace J
open PySem PySem.Spec PyProof.Rows L2

/-- the frame of such an __init__ -/
abbrev envS (qual : Str) (scope : Scope) (L f : Addr) (cd : Value) (cc : Addr) : Env := PySem.W.ksEnv qual scope L f cd cc
/-- its context -/
def cxS (CX : CXT) (P : Program) (w : World) (K : PySem.W.Frag) (mg : Str → Option Value) (base : Heap) (N : List Str) (qual : Str) (scope : Scope) (f : Addr) (cd : Value) (cc : Addr) (A : Around) (outer : List Env) (s : Shared) (H : Hp) (E : XK) : Cx where
  prog := P
  w := w
  K := K
  mg := mg
  base := base
  A := A.deeper (envS qual scope s.heap.objs.size f cd cc)
  N := N
  s_0 := s
  H_0 := H
  env := envS qual scope s.heap.objs.size f cd cc
  outer := outer
  stack := envS qual scope s.heap.objs.size f cd cc :: outer
  ex := []
  fn := fun _ => false
  calm := true
  pn := []
  xe := fun e z => wpAny (model P w) (A.deeper (envS qual scope s.heap.objs.size f cd cc)) (leaving (envS qual scope s.heap.objs.size f cd cc) e) (fun _ y => CX outer H s E e y) (fun e2 y => CX outer H s E e2 y) z
/-- what its scope must be: the parameters alone, super, __class__ -/
structure ScS (N : List Str) (sc : Scope) : Prop where
  kind : sc.kind = .function
  co : sc.isCoroutine = false
  gen : sc.isGenerator = false
  nd : N.Nodup
  par : ∀ x ∈ N, sc.names.lookup x = some .local
  nocell : ∀ y ∈ sc.names, y.2 ≠ .cell
  free : ∀ y ∈ sc.names, y.2 = .free → y.1 = ("__class__" : Str)
  sup : sc.names.lookup ("super" : Str) = some .globalImplicit
  cls : sc.names.lookup ("__class__" : Str) = some .free
  one : ∃ r : List Str, N = ("self" : Str) :: r
theorem zip_get {ps : List Str} {us : List Value} {i : Nat} {x : Str} {u : Value} (nd : ps.Nodup) (hl : ps.length = us.length) (h : ps[i]? = some x) (hu : us[i]? = some u) : (ps.zip us).reverse.lookup x = some u := by
  have keys : ((ps.zip us).map (·.1)).Nodup := by
    rw [List.map_fst_zip (Nat.le_of_eq hl)]
    exact nd
  have go : ∀ {ps : List Str} {us : List Value} {i : Nat}, ps.Nodup → ps[i]? = some x → us[i]? = some u → (ps.zip us).lookup x = some u := by
    intro ps
    induction ps with
    | nil =>
      intro us i _ h _
      simp at h
    | cons p ps ih =>
      intro us i nd h hu
      cases us with
      | nil => simp at hu
      | cons v us =>
        cases i with
        | zero =>
          simp at h hu
          subst h hu
          simp [List.lookup]
        | succ i =>
          have h1 : ps[i]? = some x := by simpa using h
          have ne : (x == p) = false := by
            have hm : x ∈ ps := (List.getElem?_eq_some_iff.mp h1).2 ▸ List.getElem_mem _
            have := (List.nodup_cons.mp nd).1
            simp only [beq_eq_false_iff_ne, ne_eq]
            intro z
            subst z
            exact this hm
          show (match x == p with | true => some v | false => (ps.zip us).lookup x) = some u
          rw [ne]
          exact ih (List.nodup_cons.mp nd).2 h1 (by simpa using hu)
  rw [lookup_reverse_of_nodup (ps.zip us) keys x]
  exact go nd h hu

section
variable {CX : CXT} {P : Program} {w : World} {K : PySem.W.Frag} {mg : Str → Option Value} {base : Heap} {N : List Str} {qual : Str} {scope : Scope} {f cc : Addr} {cd : Value} {A : Around} {outer : List Env} {s : Shared} {H : Hp} {E : XK} {us : List Value} {vs : List V}
theorem inv_s {h1 : Heap} {tk : Nat} {D : Addr} {cl : Value} {cld : Option Addr} {csl : Array (Option Value)} (S : ScS N scope) (hd : A.handled = none) (e0 : Env0 P w K mg base A outer s H) (hl : vs.length = N.length) (r : Vals vs us)
    (kc : K.lookup cc = some ⟨cl, cld, .cell (some (.ref D)), csl⟩) (ns : h1.Ns s.heap.objs.size fun x => (N.zip us).reverse.lookup x) (hk : ∀ b o, s.heap.get? b = some o → h1.get? b = some o) :
    Inv (cxS CX P w K mg base N qual scope f cd cc A outer s H E) [] (L2.start N vs) H { s with heap := h1, toks := tk } := by
  have nx : ∀ b : Addr, b ∉ (cxS CX P w K mg base N qual scope f cd cc A outer s H E).ex := fun b z => absurd (show b ∈ ([] : List Addr) from z) (by simp)
  have one : ∀ {y : Str} {c : Addr}, ([("__class__", cc)] : List (Str × Addr)).lookup y = some c → y = "__class__" ∧ c = cc := by
    intro y c z
    by_cases q : y = "__class__"
    · subst q
      exact ⟨rfl, (Option.some.inj z).symm⟩
    · have q2 : (y == ("__class__" : Str)) = false := by simpa using q
      simp [List.lookup, q2] at z
  have cellB : base.get? cc = some ⟨cl, cld, .cell (some (.ref D)), csl⟩ := e0.mod.kin _ _ kc
  have hst : L2.start N vs = vs.map some := by
    unfold L2.start
    rw [hl, Nat.sub_self]
    simp
  refine ⟨⟨e0.mod, S.kind, rfl, rfl, Nat.le_refl _, fun y z c h2 h3 => ?_, fun y hy => ?_, fun y c z => ?_, fun _ => hd, Around.frames_deeper e0.frames, .inr ⟨rfl, rfl⟩, fun b z => absurd z (nx b), e0.bs, e0.bsz, fun b _ _ => nx b, fun b z => absurd z (nx b), e0.funs, e0.frf⟩,
    rfl, e0.bare, Un.kept hk, ⟨_, ns, fun i y v h2 h3 h4 => ?_⟩, fun y c z => ?_, e0.hok.fresh (Nat.le_refl _), fun y c z => ?_, fun p hp => absurd (show p ∈ ([] : List (Addr × Obj)) from hp) (by simp), e0.hok.kept hk, ?_⟩
  · rw [(one h2).1, (one h3).1]
  · have hy2 : scope.names.lookup y = some .cell ∨ scope.names.lookup y = some .free := hy
    rcases hy2 with z | z
    · exact absurd rfl (S.nocell _ (PySem.mem_of_lookup z))
    · have e : y = "__class__" := S.free _ (PySem.mem_of_lookup z) rfl
      exact ⟨cc, by rw [e]; rfl⟩
  · cases z
  · rw [hst, List.getElem?_map] at h3
    cases e : vs[i]? with
    | none =>
      rw [e] at h3
      cases h3
    | some a =>
      rw [e] at h3
      cases h3
      obtain ⟨u, hu, rv⟩ := r.get e
      have hlen : N.length = us.length := by rw [← hl, r.length]
      exact ⟨u, rv, .inl ⟨S.par _ ((List.getElem?_eq_some_iff.mp h2).2 ▸ List.getElem_mem _), zip_get S.nd hlen h2 hu⟩⟩
  · rw [(one z).2]
    exact ⟨_, _, hk _ _ (e0.bs _ _ cellB).1, rfl⟩
  · rw [(one z).2]
    exact (e0.bs _ _ cellB).2
  · rw [hst, List.length_map]
    exact hl
/-- what the written part says of an __init__ with super() -/
structure SupF (P : Program) (K : PySem.W.Frag) (mg : Str → Option Value) (C : Addr) (B nw ini : String) (bm : List Value) (name qual : Str) (params : Arguments) (body : List Stmt) (scope : Scope) (f : Addr) (fd : FuncData) (N : List Str) : Prop where
  xc : XC K B nw ini bm C
  sc : ScS N scope
  ex : ∃ (oc : Value) (od : Option Addr) (dV kV doc pm : Value) (an : Option Addr) (cda : Addr) (ct : Value) (osl : Array (Option Value)) (cc : Addr) (cl : Value) (cld : Option Addr) (csl : Array (Option Value)) (ccl : Value) (cdd : Option Addr) (ccs : Array (Option Value)) (wv : Array Value) (file : Str) (tf : Tok),
    fd = PySem.W.ksFn name qual params body scope dV kV doc pm an (.ref cda) ct cc ∧ K.lookup f = some ⟨oc, od, .func fd, osl⟩ ∧ PySem.W.codeIn K (.ref cda) qual = true ∧ K.lookup cc = some ⟨cl, cld, .cell (some (.ref C)), csl⟩ ∧
    K.lookup cda = some ⟨ccl, cdd, .fields wv, ccs⟩ ∧ wv[2]? = some (.str file tf) ∧ ((P.main.file : Str) == file) = true
  hp : ∃ ar, (params.posonlyargs ++ params.args).head? = some ar ∧ ar.arg = "self"
  top : (P.main.scope.names.lookup ("super" : Str)).isSome = false
  sup : mg "super" = none
  opq : PySem.W.nsIn K cStatics "thirdparty.any" = some none
  met : PySem.W.ks_superIn K C C "__init__" = some (some (.builtin ini))
  isB : PySem.W.subIn K (.ref C) (.type B) = some true
  self : PySem.W.mroIn K C (.ref C) = some true
variable {B nw ini : String} {bm : List Value} {C : Addr} {name : Str} {params : Arguments} {scope : Scope} {fd : FuncData} {k : Nat} {sp : Sp} {rest : List Stmt} {msg : Str} {jm : Nat} {p0 p1 p2 p3 p4 p5 : Pos}
theorem fn_sup (F : SupF P K mg C B nw ini bm name qual params (.Expr (.Call (.Attribute (.Call (.Name "super" p0) [] [] p1) "__init__" p2) [.Constant (.str msg) jm p3] [] p4) p5 :: rest) scope f fd N)
    (len : ∀ vs H Q E, sp vs H Q E → vs.length = N.length) (hbind : Binds K fd N [])
    (hsw : ∀ (L : Addr) (cd : Value) (cc : Addr), swapsWith (.Call (.Attribute (.Call (.Name "super" p0) [] [] p1) "__init__" p2) [.Constant (.str msg) jm p3] [] p4) none p5.line (envS qual scope L f cd cc) = pure false)
    (hform : ∀ (L : Addr) (cd : Value) (cc : Addr), ∃ pl, eval (.Call (.Attribute (.Call (.Name "super" p0) [] [] p1) "__init__" p2) [.Constant (.str msg) jm p3] [] p4) (envS qual scope L f cd cc) = (do
      let ov ← attributeBase (.Call (.Name "super" p0) [] [] p1) "__init__" (envS qual scope L f cd cc) (eval (.Call (.Name "super" p0) [] [] p1) (envS qual scope L f cd cc))
      standAt p2.atName
      let (fx, first) ← holding [ov] (getMethod ov "__init__" pl)
      callWith p4 fx first (backTo p4 (starEach [.Constant (.str msg) jm p3] (envS qual scope L f cd cc))) []))
    (hbody : ∀ (cd : Value) (cc : Addr) (A : Around) (outer : List Env) (s : Shared) (H : Hp) (vs : List V) (Q : VK) (E : XK), Room k (A.deeper (envS qual scope s.heap.objs.size f cd cc)) → sp vs H Q E →
      (∃ a ws, vs = .ref a :: ws ∧ H a = some (exo a C none)) ∧ ∃ t, PSs (cxS CX P w K mg base N qual scope f cd cc A outer s H E) rest t ∧ t { nx := fun _ H' => Q .non H', rt := Q } (L2.start N vs) H) :
    FnOk P w K mg base CX (k + 1) f fd N sp := by
  obtain ⟨oc, od, dV, kV, doc, pm, an, cda, ct, osl, cc, cl, cld, csl, ccl, cdd, ccs, wv, file, tf, rfl, lk, hcd, kc, kd, hw, hfile⟩ := F.ex
  refine ⟨len, fun A outer s H args us vs Q E hr e0 hb r hsp => ?_⟩
  have hl := len _ _ _ _ hsp
  have KX : K.In s.heap := e0.mod.kin.keeps fun b o e => (e0.bs b o e).1
  have lim : s.heap.NoLimit := e0.mod.nolimit.keeps fun b o e => (e0.bs b o e).1
  have hus : N.length = us.length := by rw [← hl, r.length]
  obtain ⟨⟨a, ws, hva, ha⟩, t, ht, hq⟩ := hbody (.ref cda) cc A outer s H vs Q E (hr.deeper _) hsp
  refine PySem.ks_codeAny_call_defAt (fd := PySem.W.ksFn name qual params _ scope dV kV doc pm an (.ref cda) ct cc) (binds := N.zip us) hr.depth (KX _ _ lk) rfl lim (PySem.W.codeRec_of KX hcd) rfl hb F.sc.nocell (fun y hy => F.sc.par _ (List.of_mem_zip hy).1) (fun h1 ns hk => ?_) F.sc.co F.sc.gen F.sc.kind
  have I0 : Inv (cxS CX P w K mg base N qual scope f (.ref cda) cc A outer s H E) [] (L2.start N vs) H { s with heap := h1, toks := s.toks + (N.zip us).length } := inv_s F.sc hr.hd e0 hl r kc ns hk
  obtain ⟨t1, hx⟩ := exo_at I0.hok ha
  obtain ⟨cdC, ec, _⟩ := cls_of F.xc.hd
  have K1 : K.In h1 := I0.kIn
  obtain ⟨oC, oC1, oC2⟩ : ∃ o, h1.get? C = some o ∧ o.data = .cls cdC := by
    unfold PySem.W.clsIn at ec
    split at ec
    · rename_i q1 q2 q3 q4 ho
      cases ec
      exact ⟨_, K1 _ _ ho, rfl⟩
    · cases ec
  have hself : (N.zip us).reverse.lookup ("self" : Str) = some (.ref a) := by
    obtain ⟨rN, eN⟩ := F.sc.one
    subst eN hva
    cases r with
    | @cons _ u0 _ ur ra rw' =>
      obtain rfl : u0 = Value.ref a := ra
      exact zip_get (i := 0) F.sc.nd hus rfl rfl
  obtain ⟨ar, ar1, ar2⟩ := F.hp
  have hs1 : scope.names.lookup ("self" : Str) = some .local := F.sc.par _ (by obtain ⟨rN, eN⟩ := F.sc.one; rw [eN]; exact List.mem_cons_self ..)
  obtain ⟨pl, hpl⟩ := hform s.heap.objs.size (.ref cda) cc
  refine PySem.ks_wpAt_execs_cons (PySem.ks_wpAt_Expr_any (PySem.ks_wpAt_MethodCall (pl := pl) ?_ hpl) (by show (scope.kind == ScopeKind.module && _) = false; rw [F.sc.kind]; rfl) (hsw _ _ _))
  refine PySem.ks_wpAt_super_base (env := envS qual scope s.heap.objs.size f (.ref cda) cc) F.sc.sup F.sc.cls (by decide) rfl (K1 _ _ lk) rfl ar1 rfl (K1 _ _ kd) rfl hw hfile F.top ?_
  obtain ⟨mb, mb1, mb2⟩ := I0.mod.blt
  refine PySem.W.ks_loadName_global F.sc.kind F.sc.sup (Calls.loadGlobal_builtin (env := envS qual scope s.heap.objs.size f (.ref cda) cc) (I0.mod.glob.keeps I0.bk) F.sup (mb1.keeps I0.bk) ((mb2 _ (by decide)).trans PyProof.Rows.Boot.«super») ⟨rfl, ?_⟩)
  refine wpAny_loadName_free F.sc.kind F.sc.cls rfl ⟨_, K1 _ _ kc, rfl⟩ ?_
  rw [ar2]
  refine wpAny_loadName_local F.sc.kind hs1 ns hself ?_
  refine PySem.ks_wpAny_isType_cls oC1 oC2 ⟨rfl, ?_⟩
  refine PySem.ks_wpAny_call_super oC1 oC2 hx rfl (fun c z => nomatch z) (PySem.W.looks_mroIn K1 F.self) (fun h2 e2 k2 => ?_)
  have I1 := I0.kept (t' := s.toks + (N.zip us).length) k2
  have K2 : K.In h2 := I1.kIn
  have J : PySem.W.InstAt h2 a _ C none := ⟨k2 _ _ hx, rfl, rfl, trivial⟩
  have hmet := F.met
  unfold PySem.W.ks_superIn at hmet
  rw [ec] at hmet
  refine PySem.W.kxs_getMethod F.xc.bs.su e2 (PySem.W.looks_opaque K2 F.opq) (l₀ := cdC.mro) (fun A Q E s k q => wpAny_bind ((PySem.W.looks_clsIn K2 ec) A _ E s k (wpAny_pure q))) rfl K2 hmet (J.type.andThen (PySem.W.looks_subIn K2 F.isB)) (PySem.W.ks_ne K2 J ec) (by decide) ?_
  have k3 : ∀ b o, h2.get? b = some o → (h2.push (PySem.W.kxs_mw ini a)).get? b = some o := fun b o z => Heap.get?_push_of_some _ z
  have I2 := I1.kept (t' := s.toks + (N.zip us).length + 1) k3
  have ue : h2.objs.size ≠ s.heap.objs.size := Nat.ne_of_gt (show s.heap.objs.size < h2.objs.size from I1.lt)
  have I3 : Inv (cxS CX P w K mg base N qual scope f (.ref cda) cc A outer s H E) [(h2.objs.size, PySem.W.kxs_mw ini a)] (L2.start N vs) H _ := I2.pins_of (fun p hp => by
    have e : p = (h2.objs.size, PySem.W.kxs_mw ini a) := by simpa using hp
    subst e
    exact ⟨Heap.get?_push_at rfl rfl, I1.hok.fresh (Nat.le_refl _), ue, I1.nofs (Nat.le_refl _), fun v z => nomatch z⟩)
  have he : starEach [.Constant (.str msg) jm p3] (envS qual scope s.heap.objs.size f (.ref cda) cc) = (false, eval (.Constant (.str msg) jm p3) (envS qual scope s.heap.objs.size f (.ref cda) cc)) :: starEach [] (envS qual scope s.heap.objs.size f (.ref cda) cc) := rfl
  have pa : PA (cxS CX P w K mg base N qual scope f (.ref cda) cc A outer s H E) [.Constant (.str msg) jm p3] (tCons (tC (.str msg)) tNil) := pa_cons pe_str pa_nil
  have arg := pa.run p4 _ _ _ _ (fun ws H' => ws = [.str msg] ∧ H' = H) I3 ⟨rfl, rfl⟩
  show wpAny _ _ (callWith p4 (Value.ref h2.objs.size) [] (backTo p4 (starEach [.Constant (.str msg) jm p3] (envS qual scope s.heap.objs.size f (.ref cda) cc))) []) _ _ _
  rw [he]
  have arg2 : wpAny (model P w) (A.deeper (envS qual scope s.heap.objs.size f (.ref cda) cc)) (spliced (backTo p4 ((false, eval (.Constant (.str msg) jm p3) (envS qual scope s.heap.objs.size f (.ref cda) cc)) :: starEach [] (envS qual scope s.heap.objs.size f (.ref cda) cc)))) _ _ _ := arg
  refine PySem.W.kxs_callWith (i := ini) (x := a) (u := h2.objs.size) (by rfl) (PySem.Calls.evalArgs_plain (thn arg2 fun us2 s2 hh => ?_))
  obtain ⟨vs2, H2, I4, r2, rfl, eH⟩ := hh
  rw [eH] at I4
  obtain ⟨hu, _⟩ := I4.pin (h2.objs.size, PySem.W.kxs_mw ini a) (List.mem_append.mpr (.inr List.mem_cons_self))
  refine ⟨hu, ?_⟩
  obtain ⟨t4, hx4⟩ := exo_at I4.hok ha
  obtain ⟨nm, N4, qn, bs, bmr, hdct, sn, sub, ab, col, dd, k0, k1, k2', k3', k5, hC, hT⟩ := PySem.W.excInit_of I4.kIn F.xc.ini
  have short : us2.length ≤ sizeLine := by
    rw [← Paired.length r2, sizeLine_eq]
    simp
  obtain ⟨hp4, g4, d4, tk4, os4⟩ := s2
  refine wpAny_call (codeAny_of_tree ?_)
  show wpAny _ _ (callAny (.ref h2.objs.size) ⟨us2, []⟩) _ _ _
  simp only [callAny]
  refine wpAny_bind (wpAny_load hu ?_)
  have mw1 : (Value.type "method-wrapper" == Value.type "method" || Value.type "method-wrapper" == Value.type "builtin_function_or_method" || Value.type "method-wrapper" == Value.type "method-wrapper") = true := by decide
  simp only [PySem.W.kxs_mw, mw1, if_true]
  refine PySem.W.KFB.if_so (by decide) ?_
  refine wpAny_bind (PySem.W.check_bound_init F.xc.bs.fb.toExcCallFacts hC hx4 rfl ?_)
  refine wpAny_bind (wpAny_pure (wpAny_pure ?_))
  refine ⟨plainId_quiet F.xc.bs.fb.init.plain _, codeAny_builtin F.xc.bs.fb.initEntry ?_⟩
  refine PySem.W.exc_init_tree (cls := .ref C) (t0 := t4) (dv := none) (c2 := .none) (c3 := .none) (b4 := .bool false) hx4 short fun h5 k5 e5 _ => ?_
  have J5 := I4.write (t' := tk4) (x := a) (e := a) (o := exo a C none) (by rw [ha]; exact True.intro) (.inl rfl) k5 ⟨_, e5⟩ (exo_ok e5)
  have same : upd H a (exo a C none) = H := by
    funext b
    by_cases hb : b = a
    · rw [hb, upd_same, ha]
    · rw [upd_ne hb]
  rw [same] at J5
  refine PySem.wpAt_of_wpAny (wpAny_mono (ht.run _ _ (L2.start N vs) H _ J5 hq) (fun fl s' hs => ?_) fun e s' hs => hs)
  have fin : ∀ {σ' : L2.St} {H' : Hp} {v : V} {u : Value} {pins : List (Addr × Obj)}, Inv (cxS CX P w K mg base N qual scope f (.ref cda) cc A outer s H E) pins σ' H' s' → RelV v u → Q v H' → CE outer P w H s Q u s' :=
    fun {σ' H' v u pins} J rv q => ⟨v, H', J.os, J.bare, J.base, J.hok, rv, q⟩
  cases fl with
  | ret u =>
    obtain ⟨v, σ', H', J, rv, q⟩ := hs
    exact fin J rv q
  | next =>
    obtain ⟨σ', H', J, q⟩ := hs
    exact fin (v := V.non) (u := Value.none) J rfl q
  | brk =>
    obtain ⟨_, _, _, q⟩ := hs
    exact False.elim q
  | cont =>
    obtain ⟨_, _, _, q⟩ := hs
    exact False.elim q
end
end J

set_option Elab.async false
set_option linter.all false
set_option maxRecDepth 100000
set_option maxHeartbeats 4000000
/-! J4: defs that know that no repr runs around them; repr of data. -/
namespace J
open PySem PySem.Spec PyProof.Rows L2

/-- a def's promise, asked only where no container's repr is under way -/
structure FnG (P : Program) (w : World) (K : PySem.W.Frag) (mg : Str → Option Value) (base : Heap) (CX : CXT) (k : Nat) (f : Addr) (fd : FuncData) (ps : List Str) (sp : Sp) : Prop where
  len : ∀ vs H Q E, sp vs H Q E → vs.length = ps.length
  go : ∀ (A : Around) (outer : List Env) (s : Shared) (H : Hp) (args : Args) (us : List Value) (vs : List V) (Q : VK) (E : XK), A.guards = some [] → Room k A → Env0 P w K mg base A outer s H →
    BindsTo s fd args (ps.zip us) → Vals vs us → sp vs H Q E → codeAny (model P w) A (.call (.ref f) args) (CR CX outer P w H s Q E) s
section
variable {CX : CXT} {P : Program} {w : World} {K : PySem.W.Frag} {mg : Str → Option Value} {base : Heap} {j k : Nat} {f : Addr} {fd : FuncData} {N ps : List Str} {sp : Sp}
theorem FnG.of (F : FnOk P w K mg base CX k f fd ps sp) : FnG P w K mg base CX k f fd ps sp :=
  ⟨F.len, fun A outer s H args us vs Q E _ hr => F.run A outer s H args us vs Q E hr⟩
theorem FnG.up (F : FnG P w K mg base CX j f fd ps sp) (h : j ≤ k) : FnG P w K mg base CX k f fd ps sp :=
  ⟨F.len, fun A outer s H args us vs Q E hg hr => F.go A outer s H args us vs Q E hg (hr.mono h)⟩
/-- from the body -/
theorem fng {x qual : Str} {params : Arguments} {body : List Stmt} {scope : Scope} {dvs : List V} {kws : List (Str × V)} (F : FunD K x qual params body scope dvs kws f fd) (S : FnScope N ps scope)
    (len : ∀ vs H Q E, sp vs H Q E → vs.length = ps.length)
    (hbody : ∀ (cdv : Value) (A : Around) (outer : List Env) (s : Shared) (H : Hp) (vs : List V) (Q : VK) (E : XK), (A.deeper (envOfC qual scope s.heap.objs.size f cdv)).guards = some [] → Room k (A.deeper (envOfC qual scope s.heap.objs.size f cdv)) → sp vs H Q E →
      ∃ t, PSs (cxOf CX P w K mg base N qual scope f cdv A outer s H E) body t ∧ t { nx := fun _ H' => Q .non H', rt := Q } (L2.start N vs) H) : FnG P w K mg base CX (k + 1) f fd ps sp := by
  obtain ⟨oc, od, dV, kV, doc, pm, an, cdv, ct, osl, rfl, lk, hcd, _, _⟩ := F.ex
  refine ⟨len, fun A outer s H args us vs Q E hgd hr e0 hb r hsp => ?_⟩
  have many := len _ _ _ _ hsp
  have KX : K.In s.heap := e0.mod.kin.keeps fun b o e => (e0.bs b o e).1
  have free : s.heap.NoLimit := e0.mod.nolimit.keeps fun b o e => (e0.bs b o e).1
  have slots : ∀ y ∈ ps.zip us, scope.names.lookup y.1 = some .local ∨ (scope.names.lookup y.1 = some .cell ∧ ((cellsFrom (s.heap.objs.size + 1) scope.names []).lookup y.1).isSome = true) := by
    rintro ⟨n, v⟩ hy
    rcases S.par n (List.of_mem_zip hy).1 with q | q
    · exact .inl q
    · exact .inr ⟨q, PySem.W.cellsFrom_some _ _ _ (.inl q)⟩
  have bound := hb
  refine codeAny_call_function hr.depth (KX _ _ lk) rfl S.co S.gen rfl (PySem.W.codeRec_of KX hcd) (bound _ _ _ _ (wpAny_newFunctionEnv_cells S.kind slots fun env he s1 x => ?_))
  subst he
  obtain ⟨t, ht, hq⟩ := hbody cdv A outer s H vs Q E hgd (hr.deeper _) hsp
  have I0 : Inv (cxOf CX P w K mg base N qual scope f cdv A outer s H E) [] (L2.start N vs) H s1 := inv_start S hr.hd e0 many r x
  refine ⟨free.keeps x.toInCall.keep, codeAny_func (wpAny_mono (ht.run [] s1 (L2.start N vs) H _ I0 hq) (fun fl s' hs => ?_) fun e s' hs => hs)⟩
  have ends : ∀ {σ' : L2.St} {H' : Hp} {v : V} {u : Value}, Inv (cxOf CX P w K mg base N qual scope f cdv A outer s H E) [] σ' H' s' → RelV v u → Q v H' → CE outer P w H s Q u s' :=
    fun {σ' H' v u} J rv q => ⟨v, H', J.os, J.bare, J.base, J.hok, rv, q⟩
  cases fl with
  | ret u =>
    obtain ⟨v, σ', H', J, rv, q⟩ := hs
    exact ends J rv q
  | next =>
    obtain ⟨σ', H', J, q⟩ := hs
    exact ends (v := V.non) (u := Value.none) J rfl q
  | brk =>
    obtain ⟨_, _, _, q⟩ := hs
    exact False.elim q
  | cont =>
    obtain ⟨_, _, _, q⟩ := hs
    exact False.elim q
end
section
variable {X : Cx} {CX : CXT} {k : Nat} {f : Addr} {fd : FuncData} {ps : List Str} {sp : Sp} {dvs : List V} {ds : List Value} {E : XK} {x : Str} {p pos : Pos} {e : Expr} {es : List Expr} {t : TA}
/-- a call of such a def -/
theorem pe_callG (hgd : X.A.guards = some []) (F : FnG X.prog X.w X.K X.mg X.base CX k f fd ps sp) (hr : Room k X.A) (hg : Gl X x) (hm : X.mg x = some (.ref f)) (hk : PySem.W.keepIn X.K (.ref f) = true) (hb : Binds X.K fd ps ds) (hd : Vals dvs ds) (hx : Passes CX X E)
    (ha : PA X (e :: es) t) (hdb : (x == ("__debug__" : Str)) = false := by decide) (he : starEach (e :: es) X.env = (false, eval e X.env) :: starEach es X.env := by rfl) (hpl : (backTo pos (starEach es X.env)).any (·.1) = false := by rfl) :
    PE X (.Call (.Name x p) (e :: es) [] pos) (tCall sp dvs E t) := by
  refine ⟨fun pins s σ H Q I h => wpAny_Call_Name_kw (ld_glob I hg hm ?_ hdb)⟩
  refine PySem.W.callWith_K (h₀ := X.base) I.ok.mod.kin hk (thn (ha.run pos pins s σ H _ I h) fun us s1 ⟨vs, H1, I1, r, q⟩ => ⟨I1.kIn, ?_⟩) he hpl
  have rr : Vals (vs ++ dvs) (us ++ ds) := r.append hd
  have many : (us ++ ds).length = ps.length := by rw [← rr.length]; exact F.len _ _ _ _ q
  refine wpAny_call (codeAny_mono (F.go X.A X.stack s1 H1 ⟨us, []⟩ (us ++ ds) (vs ++ dvs) Q E hgd hr I1.env0 (hb s1 us I1.kIn many) rr q) fun r2 s2 hq => ?_)
  cases r2 with
  | error e => exact hx pins σ H1 s1 e s2 I1 hq
  | ok fl =>
    cases fl with
    | ret u => exact I1.after hq
    | next => exact False.elim hq
    | brk => exact False.elim hq
    | cont => exact False.elim hq
/-- repr of data -/
def rRepr (K : PySem.W.Frag) : List V → Hp → VK → Prop := fun xs H Q => ∃ (x : V) (d : PyData), xs = [x] ∧ Dp K H x d ∧ d.showable = true ∧ d.hasDict = false ∧ d.shown.length ≤ sizeLine ∧ d.depth ≤ 20 ∧ Q (.str d.shown) H
theorem call_repr (hgd : X.A.guards = some []) (hu : X.A.units + 65 < cLine) : CallR X (.builtin "repr") (rRepr X.K) := by
  intro pins s σ H xs us Q I r h
  obtain ⟨x, d, rfl, dp, sh, nd, sz, dz, q⟩ := h
  obtain ⟨u, rfl, rx⟩ := vals1 r
  cases dp with
  | non =>
    cases rx
    exact P.repr_of_none ⟨.str _, H, I.tok _, ⟨_, rfl⟩, by simpa only [PyData.shown] using q⟩
  | bl b =>
    cases rx
    exact P.repr_of_bool ⟨.str _, H, I.tok _, ⟨_, rfl⟩, by simpa only [PyData.shown] using q⟩
  | int i =>
    obtain ⟨t, rfl⟩ := rx
    exact P.repr_of_int (by simpa [PyData.showable] using sh) ⟨.str _, H, I.tok _, ⟨_, rfl⟩, by simpa only [PyData.shown] using q⟩
  | str y =>
    obtain ⟨t, rfl⟩ := rx
    exact P.repr_of_str ⟨.str _, H, I.tok _, ⟨_, rfl⟩, by simpa only [PyData.shown] using q⟩ (by simpa only [PyData.shown] using sz)
  | lst hs ha =>
    obtain ⟨as, rd⟩ := Dp.reads I _ _ _ (Dp.lst hs ha) rx
    cases rx
    exact repr_of_reads' rd sh (PyData.noDict_hsm nd) hgd (by omega) (fun _ _ z => z) (fun h2 t2 k2 kp => ⟨.str _, H, I.kept (t' := k2) kp, ⟨_, rfl⟩, q⟩) sz
  | tup hs ha =>
    obtain ⟨as, rd⟩ := Dp.reads I _ _ _ (Dp.tup hs ha) rx
    cases rx
    exact repr_of_reads' rd sh (PyData.noDict_hsm nd) hgd (by omega) (fun _ _ z => z) (fun h2 t2 k2 kp => ⟨.str _, H, I.kept (t' := k2) kp, ⟨_, rfl⟩, q⟩) sz
end
end J

set_option Elab.async false
set_option linter.all false
set_option maxRecDepth 100000
set_option maxHeartbeats 4000000
/-! J5: a law's end, its def's promise asked where no repr runs. -/
namespace J
open PySem PySem.Spec PyProof.Rows L2
section
variable {P : Program} {w : World} {K : PySem.W.Frag} {mg mb : Str → Option Value} {CX : CXT} {k : Nat} {fa a : Addr} {fd : FuncData} {x : Str} {sp : Sp} {s : Shared} {vs : List Value} {ns : List Int}
/-- from one abstract heap -/
theorem call_at {H : Hp} (KX : K.In s.heap) (hns : s.heap.Ns mainGlobals mg) (hb : s.heap.Ns builtinsNs mb) (hbb : ∀ x : Str, x ≠ "__name__" → mb x = bootBuiltins x) (hlim : s.heap.NoLimit) (hg : s.gens = #[])
    (ha : s.heap.get? a = some { cls := .type "list", data := .seq vs.toArray }) (hr : Room k callerA) (hbind : ∀ (s : Shared) (u : Value), BindsTo s fd ⟨[u], []⟩ [(x, u)])
    (F : ∀ base : Heap, K.In base → base.Ns mainGlobals mg → FnG P w K mg base CX k fa fd [x] sp) (hO : Only H) (ok : HOk P w H s.heap) (only : ∀ b, H b ≠ none → b = a) (hK : H a ≠ none → K.lookup a = none)
    (ask : sp [.ref a] H (fun v _ => v = .bl true) fun _ _ _ => False) (hCX : ∀ e z, CX [] H s (fun _ _ _ => False) e z → False) :
    codeAny (model P w) callerA (.call (.ref fa) ⟨[.ref a], []⟩) (fun r z => r = .ok (.ret (.bool true)) ∧ OldK s.heap z.heap ∧ z.os = s.os ∧ AllBare z.gens) s := by
  have untracked : ∀ b o, s.heap.get? b = some o → (b = a → H a = none) → (hidT s.heap H).get? b = some o := fun b o e n => hidT_get e (by
    cases q : H b with
    | none => rfl
    | some u =>
      have z : b = a := only b (by rw [q]; simp)
      have y := n z
      rw [← z, q] at y
      cases y)
  have dicts : ∀ {b : Addr} {o : Obj} {es : Array DictEntry} {ep : Nat}, s.heap.get? b = some o → o.data = .dict es ep → (hidT s.heap H).get? b = some o := fun {b o es ep} e d => untracked b o e (fun z => by
    rw [z, ha] at e
    cases e
    cases d)
  have spaces : ∀ {b : Addr} {m : Str → Option Value}, s.heap.Ns b m → (hidT s.heap H).Ns b m := fun {b m} ⟨o, es, ep, e, d, r⟩ => ⟨o, es, ep, dicts e d, d, r⟩
  have inB : K.In (hidT s.heap H) := fun b o e => untracked b o (KX b o e) (fun z => by
    cases q : H a with
    | none => rfl
    | some u =>
      have y := hK (by rw [q]; simp)
      rw [← z] at y
      rw [y] at e
      cases e)
  have hM : Mod K mg (hidT s.heap H) := ⟨inB, spaces hns, ⟨mb, spaces hb, hbb⟩, let ⟨mc, h1, h2⟩ := hlim; ⟨mc, spaces h1, h2⟩⟩
  have e0 : Env0 P w K mg (hidT s.heap H) callerA [] s H := ⟨rfl, hM, fun b o e => of_hidT e, Nat.le_of_eq (hidT_size _ _), trivial, fun b z => absurd (show b ∈ ([] : List Addr) from z) (by simp), ok, .of_eq hg⟩
  have run := (F _ inB (spaces hns)).go callerA [] s H ⟨[.ref a], []⟩ [.ref a] [.ref a] _ _ rfl hr e0 (hbind s (.ref a)) (.cons rfl .nil) ask
  refine codeAny_mono run fun r z h => ?_
  cases r with
  | error e => exact (hCX e z h).elim
  | ok fl =>
    cases fl with
    | next => exact False.elim h
    | brk => exact False.elim h
    | cont => exact False.elim h
    | ret u =>
      obtain ⟨v, H2, os, bare, un, ok2, rv, rfl⟩ := h
      obtain rfl : u = Value.bool true := rv
      refine ⟨rfl, OldK.of_keep fun b o e => ?_, os, bare⟩
      cases q : H b with
      | none => exact un.keep b o e q (by intro z; exact absurd (show b ∈ ([] : List Addr) from z) (by simp)) (by simp)
      | some u =>
        rcases hO b with z | ⟨ob, ys, z⟩
        · rw [q] at z
          cases z
        · obtain ⟨e1, _⟩ := ok b _ z
          obtain ⟨e2, _⟩ := ok2 b _ (un.frzs b ob _ z)
          rw [e] at e1
          cases e1
          exact e2
theorem call_law (KX : K.In s.heap) (hns : s.heap.Ns mainGlobals mg) (hb : s.heap.Ns builtinsNs mb) (hbb : ∀ x : Str, x ≠ "__name__" → mb x = bootBuiltins x) (hlim : s.heap.NoLimit) (hg : s.gens = #[])
    (ha : s.heap.get? a = some { cls := .type "list", data := .seq vs.toArray }) (hi : IntsAre vs ns) (hl : ns.length ≤ sizeLine) (hr : Room k callerA) (hbind : ∀ (s : Shared) (u : Value), BindsTo s fd ⟨[u], []⟩ [(x, u)])
    (F : ∀ base : Heap, K.In base → base.Ns mainGlobals mg → FnG P w K mg base CX k fa fd [x] sp)
    (ask : ∀ H : Hp, Only H → SqL K H a (ns.map V.int) → sp [.ref a] H (fun v _ => v = .bl true) fun _ _ _ => False) (hCX : ∀ H e z, CX [] H s (fun _ _ _ => False) e z → False) :
    codeAny (model P w) callerA (.call (.ref fa) ⟨[.ref a], []⟩) (fun r z => r = .ok (.ret (.bool true)) ∧ OldK s.heap z.heap ∧ z.os = s.os ∧ AllBare z.gens) s := by
  cases hk : K.lookup a with
  | some o =>
    have e := KX a o hk
    rw [ha] at e
    cases e
    have hO : Only (fun _ => none) := fun _ => .inl rfl
    refine call_at (H := fun _ => none) KX hns hb hbb hlim hg ha hr hbind F hO (fun b u z => nomatch (show (none : Option HO) = some u from z)) (fun b z => absurd rfl z) (fun z => absurd rfl z) (ask _ hO (.inr ⟨_, vs.toArray, _, hk, rfl, rfl, rfl, ?_, ?_⟩)) fun e z => hCX _ e z
    · rw [List.size_toArray, hi.length]
      exact hl
    · simpa using vals_ints hi
  | none =>
    let H1 : Hp := fun b => if b = a then some (.frz { cls := .type "list", data := .seq vs.toArray } (.lst (ns.map V.int))) else none
    have at1 : H1 a = some (.frz { cls := .type "list", data := .seq vs.toArray } (.lst (ns.map V.int))) := if_pos rfl
    have off : ∀ b, b ≠ a → H1 b = none := fun b h => if_neg h
    have hO : Only H1 := fun b => by
      by_cases h : b = a
      · exact .inr ⟨_, _, by rw [h]; exact at1⟩
      · exact .inl (off b h)
    refine call_at (H := H1) KX hns hb hbb hlim hg ha hr hbind F hO (fun b u z => ?_) (fun b z => ?_) (fun _ => hk) (ask _ hO (.inl (.inr ⟨_, at1⟩))) fun e z => hCX _ e z
    · by_cases h : b = a
      · subst h
        rw [at1] at z
        cases z
        exact ⟨ha, by rw [List.length_map]; exact hl, vs, _, vals_ints hi, ha⟩
      · rw [off b h] at z
        cases z
    · by_cases h : b = a
      · exact h
      · exact absurd (off b h) z
end
/-- the law's walk: a head by facts, the law's def by FnG -/
theorem walk_G {l : PySem.W.OpenLaw} {n k : Nat} {q : Program} {loose : List Str} {XP : (Str → Option Value) → Heap → Prop} {YP : World → Heap → Prop} {d : DefRec} {CX : CXT} {x : Str}
    (hn : l.most = some n) (hn2 : n ≤ sizeLine) (hdf : d.params.defaults = []) (hr : Room k callerA)
    (F : ∀ (w : World) (mg : Str → Option Value) (fa : Addr) (h : Heap), YP w h → h.Ns mainGlobals mg → mg d.name = some (.ref fa) →
      ∃ (K : PySem.W.Frag) (fd : FuncData) (sp : Sp), K.In h ∧ (∀ (s : Shared) (u : Value), BindsTo s fd ⟨[u], []⟩ [(x, u)]) ∧
        (∀ (H : Hp) (a : Addr) (ns : List Int), ns.length ≤ n → Only H → SqL K H a (ns.map V.int) → sp [.ref a] H (fun v _ => v = .bl true) fun _ _ _ => False) ∧
        ∀ base : Heap, K.In base → base.Ns mainGlobals mg → FnG l.prog w K mg base CX k fa fd [x] sp)
    (hCX : ∀ (H : Hp) (s : Shared) (e : Value) (z : Shared), CX [] H s (fun _ _ _ => False) e z → False) :
    PySem.W.WalkO q loose XP YP l.row.toRowW d [] (fun f vs => PySem.call f vs) := by
  refine Att.attach_call hn hdf fun w s₀ s₁ mg mb fa o pm cd doc a vs ns G Y ho hd hcd hmg hobj hints hlen hg => ?_
  obtain ⟨K, fd, sp, KX, hb, hsp, hF⟩ := F w mg fa _ Y G.T.g hmg
  refine call_law KX G.T.g G.T.b G.T.builtins G.T.nolimit hg hobj hints (Nat.le_trans hlen hn2) hr hb hF (fun H hO hS => ?_) (fun H e z => ?_)
  · exact hsp H a ns hlen hO hS
  · exact hCX H s₁ e z
end J

set_option Elab.async false
set_option linter.all false
set_option maxRecDepth 100000
set_option maxHeartbeats 4000000
/-! J6: calls in short, data, comprehensions. -/
namespace J
open PySem PySem.Spec PyProof.Rows L2 Evl

/-- a def of the module's, with its promise -/
structure Cal (P : Program) (w : World) (K : PySem.W.Frag) (mg : Str → Option Value) (base : Heap) (CX : CXT) (k : Nat) (x : Str) (ps : List Str) (sp : Sp) : Prop where
  ex : ∃ (f : Addr) (fd : FuncData), mg x = some (.ref f) ∧ PySem.W.keepIn K (.ref f) = true ∧ Binds K fd ps [] ∧ FnOk P w K mg base CX k f fd ps sp
structure CalG (P : Program) (w : World) (K : PySem.W.Frag) (mg : Str → Option Value) (base : Heap) (CX : CXT) (k : Nat) (x : Str) (ps : List Str) (sp : Sp) : Prop where
  ex : ∃ (f : Addr) (fd : FuncData), mg x = some (.ref f) ∧ PySem.W.keepIn K (.ref f) = true ∧ Binds K fd ps [] ∧ FnG P w K mg base CX k f fd ps sp
/-- an own exception class with its own __init__ -/
structure Mkr (P : Program) (w : World) (K : PySem.W.Frag) (mg : Str → Option Value) (base : Heap) (CX : CXT) (k : Nat) (x : Str) (C : Addr) (ps : List Str) (sp : Sp) : Prop where
  ex : ∃ (B nw ini : String) (bm : List Value) (f : Addr) (fd : FuncData), XC K B nw ini bm C ∧ PySem.W.findIn K (.ref C) "__init__" = some (some (.ref f)) ∧ PySem.W.typeIn K (.ref f) = some (.type "function") ∧
    mg x = some (.ref C) ∧ Binds K fd ps [] ∧ FnOk P w K mg base CX k f fd ps sp
/-- one without -/
structure Mk0 (K : PySem.W.Frag) (mg : Str → Option Value) (x : Str) (C : Addr) : Prop where
  ex : ∃ (B nw ini : String) (bm : List Value), XC K B nw ini bm C ∧ PySem.W.excIn K C bm nw = true ∧ mg x = some (.ref C)
theorem pss_no {X : Cx} {b : List Stmt} : PSs X b (fun _ _ _ => False) := ⟨fun _ _ _ _ _ _ h => h.elim⟩
theorem ps_no {X : Cx} {b : Stmt} : PS X b (fun _ _ _ => False) := ⟨fun _ _ _ _ _ _ h => h.elim⟩
section
variable {X : Cx} {CX : CXT} {k : Nat} {x : Str} {C : Addr} {ps : List Str} {sp : Sp} {E : XK} {p pos : Pos} {e : Expr} {es : List Expr} {t : TA}
theorem pe_cal (c : Cal X.prog X.w X.K X.mg X.base CX k x ps sp) (hr : Room k X.A) (hg : Gl X x) (hx : Passes CX X E) (ha : PA X (e :: es) t)
    (hdb : (x == ("__debug__" : Str)) = false := by decide) (he : starEach (e :: es) X.env = (false, eval e X.env) :: starEach es X.env := by rfl) (hpl : (backTo pos (starEach es X.env)).any (·.1) = false := by rfl) :
    PE X (.Call (.Name x p) (e :: es) [] pos) (tCall sp [] E t) := by
  obtain ⟨f, fd, hm, hk, hb, F⟩ := c.ex
  exact pe_call F hr hg hm hk hb .nil hx ha hdb he hpl
theorem pe_cal0 (c : Cal X.prog X.w X.K X.mg X.base CX k x ps sp) (hr : Room k X.A) (hg : Gl X x) (hx : Passes CX X E) (hdb : (x == ("__debug__" : Str)) = false := by decide) :
    PE X (.Call (.Name x p) [] [] pos) (tCall sp [] E tNil) := by
  obtain ⟨f, fd, hm, hk, hb, F⟩ := c.ex
  exact pe_call0 F hr hg hm hk hb .nil hx hdb
theorem pe_calG (hgd : X.A.guards = some []) (c : CalG X.prog X.w X.K X.mg X.base CX k x ps sp) (hr : Room k X.A) (hg : Gl X x) (hx : Passes CX X E) (ha : PA X (e :: es) t)
    (hdb : (x == ("__debug__" : Str)) = false := by decide) (he : starEach (e :: es) X.env = (false, eval e X.env) :: starEach es X.env := by rfl) (hpl : (backTo pos (starEach es X.env)).any (·.1) = false := by rfl) :
    PE X (.Call (.Name x p) (e :: es) [] pos) (tCall sp [] E t) := by
  obtain ⟨f, fd, hm, hk, hb, F⟩ := c.ex
  exact pe_callG hgd F hr hg hm hk hb .nil hx ha hdb he hpl
theorem pe_mkr (c : Mkr X.prog X.w X.K X.mg X.base CX k x C ps sp) (hr : Room (k + 1) X.A) (hg : Gl X x) (hx : Passes CX X E) (ha : PA X (e :: es) t)
    (hdb : (x == ("__debug__" : Str)) = false := by decide) (he : starEach (e :: es) X.env = (false, eval e X.env) :: starEach es X.env := by rfl) (hpl : (backTo pos (starEach es X.env)).any (·.1) = false := by rfl) :
    PE X (.Call (.Name x p) (e :: es) [] pos) (tXMk C sp [] E t) := by
  obtain ⟨B, nw, ini, bm, f, fd, T, iC, tI, hm, hb, F⟩ := c.ex
  exact pe_xmk T iC tI F hr hb .nil hx hg hm ha hdb he hpl
theorem pe_mk0 (c : Mk0 X.K X.mg x C) (hg : Gl X x) (hdb : (x == ("__debug__" : Str)) = false := by decide) : PE X (.Call (.Name x p) [] [] pos) (tX0 C) := by
  obtain ⟨B, nw, ini, bm, T, xc, gC⟩ := c.ex
  exact pe_x0 T xc gC hg hdb
/-- a text, many times -/
def rMulS : R2 := fun x y H Q => ∃ (z : Str) (n : Int), x = .str z ∧ y = .int n ∧ MulOk z n ∧ Q (.str (Txt.mul z n)) H
theorem op_mulS : OpR X (binaryOp .Mult) rMulS := by
  intro pins s σ H x y v u Q I rx ry h
  obtain ⟨z, n, rfl, rfl, ok, q⟩ := h
  obtain ⟨t, rfl⟩ := rx
  obtain ⟨t2, rfl⟩ := ry
  exact SB.mul ok fun t3 k => ⟨.str _, H, I.tok k, ⟨_, rfl⟩, q⟩
end

/-! ### data -/
section
variable {K : PySem.W.Frag} {H H' : Hp}
mutual
theorem dp_ext (e : Ex H H') : ∀ {v : V} {d : PyData}, Dp K H v d → Dp K H' v d
  | _, _, .non => .non
  | _, _, .bl b => .bl b
  | _, _, .int i => .int i
  | _, _, .str x => .str x
  | _, _, .lst h a => .lst (ex_l e h) (dpa_ext e a)
  | _, _, .tup h a => .tup (ex_t e h) (dpa_ext e a)
theorem dpa_ext (e : Ex H H') : ∀ {vs : List V} {ds : List PyData}, DpAll K H vs ds → DpAll K H' vs ds
  | _, _, .nil => .nil
  | _, _, .cons h r => .cons (dp_ext e h) (dpa_ext e r)
end
theorem dpa_len : ∀ {vs : List V} {ds : List PyData}, DpAll K H vs ds → vs.length = ds.length
  | _, _, .nil => rfl
  | _, _, .cons _ r => congrArg (· + 1) (dpa_len r)
theorem dpa_get : ∀ {vs : List V} {ds : List PyData} {i : Nat} {v : V}, DpAll K H vs ds → vs[i]? = some v → ∃ d, ds[i]? = some d ∧ Dp K H v d
  | _, _, i, v, .nil, h => by simp at h
  | _, _, 0, v, .cons h r, e => ⟨_, rfl, by simp at e; exact e ▸ h⟩
  | _, _, i + 1, v, .cons h r, e => by
    obtain ⟨d, h1, h2⟩ := dpa_get (i := i) r (by simpa using e)
    exact ⟨d, by simpa using h1, h2⟩
theorem dpa_of : ∀ {vs : List V} {ds : List PyData}, vs.length = ds.length → (∀ (i : Nat) v d, vs[i]? = some v → ds[i]? = some d → Dp K H v d) → DpAll K H vs ds
  | [], [], _, _ => .nil
  | [], _ :: _, h, _ => by simp at h
  | _ :: _, [], h, _ => by simp at h
  | v :: vs, d :: ds, h, f => .cons (f 0 v d rfl rfl) (dpa_of (by simpa using h) fun i v d h1 h2 => f (i + 1) v d (by simpa using h1) (by simpa using h2))
/-- data of so many stories, no container longer than a thousand -/
def Dn : Nat → PyData → Prop
  | _, .none => True
  | _, .bool _ => True
  | _, .int _ => True
  | _, .str _ => True
  | _, .dict _ => False
  | 0, _ => False
  | n + 1, .list ds => ds.length ≤ 1000 ∧ ∀ x ∈ ds, Dn n x
  | n + 1, .tuple ds => ds.length ≤ 1000 ∧ ∀ x ∈ ds, Dn n x
/-- what isinstance asks of data -/
theorem tyx_dp : ∀ {v : V} {d : PyData}, Dp K H v d → ∃ t : String, TyX K H v (.type t) ∧
    t = (match d with | .none => "NoneType" | .bool _ => "bool" | .int _ => "int" | .str _ => "str" | .list _ => "list" | .tuple _ => "tuple" | .dict _ => "dict")
  | _, _, .non => ⟨_, .base .non, rfl⟩
  | _, _, .bl b => ⟨_, .base (.bl b), rfl⟩
  | _, _, .int i => ⟨_, .base (.int i), rfl⟩
  | _, _, .str x => ⟨_, .base (.str x), rfl⟩
  | _, _, .lst h _ => ⟨"list", by
      rcases h with (h | ⟨o, h⟩) | h
      · exact .base (.lst h)
      · exact .base (.frz h)
      · obtain ⟨o, its, n, ho, hc, _⟩ := h
        exact .kList ho hc, rfl⟩
  | _, _, .tup h _ => ⟨"tuple", by
      rcases h with (h | ⟨o, h⟩) | h
      · exact .base (.tup h)
      · exact .fTuple h
      · obtain ⟨o, its, n, ho, hc, _⟩ := h
        exact .kTuple ho hc, rfl⟩
end

/-! ### comprehensions: each item to a value of which R is true -/
/-- whatever is made of it, by an extension of the heap, with Φ -/
def EvP (te : TE) (σ : L2.St) (H : Hp) (Φ : V → Hp → Prop) : Prop := ∀ H1, Ex H H1 → ∀ Q : VK, (∀ v H2, Ex H1 H2 → Φ v H2 → Q v H2) → te σ H1 Q
section
variable {K : PySem.W.Frag} {σ : L2.St} {H : Hp} {te : TE} {vs : List Nat} {j : Nat} {xs : List V} {a : Addr} (R : Nat → V → Hp → Prop)
/-- the list as it has grown -/
def Grown (H : Hp) (D : Addr) (n : Nat) (H2 : Hp) : Prop := H D = none ∧ Ex H H2 ∧ ∃ acc, H2 D = some (.lst acc) ∧ acc.length = n ∧ ∀ (i : Nat) y, acc[i]? = some y → R i y H2
theorem grown_step (mono : ∀ i y H H', Ex H H' → R i y H → R i y H') {D : Addr} {n : Nat} {H2 H3 : Hp} {y : V} (g : Grown R H D n H2) (hn : n < 50000) (e : Ex H2 H3) (r : R n y H3)
    (keep : ∀ i y (H4 : Hp) acc acc', H4 D = some (.lst acc) → R i y H4 → R i y (upd H4 D (.lst acc'))) :
    ∃ acc, H3 D = some (.lst acc) ∧ acc.length < sizeLine ∧ Grown R H D (n + 1) (upd H3 D (.lst (acc ++ [y]))) := by
  obtain ⟨h1, h2, acc, h3, h4, h5⟩ := g
  have h6 := e D _ h3
  refine ⟨acc, h6, sz_lt (by omega), h1, Ex.mut (h2.trans e) h1, acc ++ [y], upd_same, by rw [List.length_append, h4]; rfl, fun i z hz => ?_⟩
  by_cases hi : i < acc.length
  · rw [List.getElem?_append_left hi] at hz
    exact keep _ _ _ _ _ h6 (mono _ _ _ _ e (h5 i z hz))
  · have hi2 : i = acc.length := by
      have := (List.getElem?_eq_some_iff.mp hz).1
      rw [List.length_append] at this
      simp at this
      omega
    subst hi2
    rw [List.getElem?_append_right (Nat.le_refl _), Nat.sub_self] at hz
    simp at hz
    subst hz
    rw [h4]
    exact keep _ _ _ _ _ h6 r
end
end J

set_option Elab.async false
set_option linter.all false
set_option maxRecDepth 100000
set_option maxHeartbeats 4000000
/-! J7: data made anew, comprehensions over data. -/
namespace J
open PySem PySem.Spec PyProof.Rows L2 Evl
open Classical in
/-- of H what stands in B already, and what is new since H0 -/
noncomputable def rst (B H0 H : Hp) : Hp := fun b => if B b ≠ none ∨ H0 b = none then H b else none
theorem rst_in {B H0 H : Hp} {b : Addr} (h : B b ≠ none ∨ H0 b = none) : rst B H0 H b = H b := by
  unfold rst
  exact if_pos h
theorem rst_some {B H0 H : Hp} {b : Addr} {o : HO} (h : rst B H0 H b = some o) : (B b ≠ none ∨ H0 b = none) ∧ H b = some o := by
  unfold rst at h
  split at h
  · exact ⟨by assumption, h⟩
  · cases h
theorem rst_ex {B H0 H : Hp} : Ex (rst B H0 H) H := fun _ _ h => (rst_some h).2
theorem rst_base {B H0 H : Hp} (e : Ex B H) : Ex B (rst B H0 H) := fun b o h => by
  rw [rst_in (.inl (by rw [h]; simp))]
  exact e b o h
theorem rst_mono {B H0 H1 H2 H3 : Hp} (d : ∀ b, H1 b = none → H0 b = none) (e : ∀ b o, (B b ≠ none ∨ H0 b = none) → H2 b = some o → H3 b = some o) : Ex (rst B H1 H2) (rst B H0 H3) := fun b o h => by
  obtain ⟨h1, h2⟩ := rst_some h
  have h3 : B b ≠ none ∨ H0 b = none := h1.elim .inl fun z => .inr (d b z)
  rw [rst_in h3]
  exact e b o h3 h2
/-- data, put together of what stood in B and of what is new since H0 -/
def Dq (K : PySem.W.Frag) (B H0 H : Hp) (v : V) (d : PyData) : Prop := Dp K (rst B H0 H) v d
section
variable {K : PySem.W.Frag} {B H0 H H1 H2 H3 : Hp} {v : V} {d : PyData}
theorem Dq.dp (h : Dq K B H0 H v d) : Dp K H v d := dp_ext rst_ex h
theorem Dq.of (h : Dp K B v d) (e : Ex B H) : Dq K B H0 H v d := dp_ext (rst_base e) h
theorem Dq.mono (h : Dq K B H1 H2 v d) (d1 : ∀ b, H1 b = none → H0 b = none) (e : ∀ b o, (B b ≠ none ∨ H0 b = none) → H2 b = some o → H3 b = some o) : Dq K B H0 H3 v d := dp_ext (rst_mono d1 e) h
theorem Dq.ext (h : Dq K B H0 H v d) (e : Ex H H1) : Dq K B H0 H1 v d := h.mono (fun _ z => z) fun b o _ z => e b o z
theorem ex_dom (e : Ex H H1) : ∀ b, H1 b = none → H b = none := fun _ z => fresh_back e z
end
section
variable {K : PySem.W.Frag} {σ : L2.St} {te : TE} {vs : List Nat} {j : Nat} {xs : List V} {ds : List PyData} {a : Addr}
/-- the invariant of such a comprehension: B below, H ahead, D the list -/
def Lg (K : PySem.W.Frag) (ds : List PyData) (B H : Hp) (D : Addr) (n : Nat) (H2 : Hp) : Prop :=
  H D = none ∧ Ex H H2 ∧ ∃ acc, H2 D = some (.lst acc) ∧ acc.length = n ∧ ∀ (i : Nat) y d, acc[i]? = some y → ds[i]? = some d → Dq K B (upd H D (.lst [])) H2 y d
theorem lg_start {B H : Hp} {D : Addr} (hD : H D = none) : Lg K ds B H D 0 (upd H D (.lst [])) := ⟨hD, Ex.new hD, [], upd_same, rfl, fun i y d h => by simp at h⟩
theorem lg_step {B H H2 H3 : Hp} {D : Addr} {n : Nat} {y : V} {d : PyData} (eB : Ex B H) (g : Lg K ds B H D n H2) (hn : n < 50000) (e : Ex H2 H3) (hd : ds[n]? = some d) (r : Dq K B H2 H3 y d) :
    ∃ acc, H3 D = some (.lst acc) ∧ acc.length < sizeLine ∧ Lg K ds B H D (n + 1) (upd H3 D (.lst (acc ++ [y]))) := by
  obtain ⟨h1, h2, acc, h3, h4, h5⟩ := g
  have h6 := e D _ h3
  have off : ∀ b o, (B b ≠ none ∨ upd H D (.lst []) b = none) → H3 b = some o → upd H3 D (.lst (acc ++ [y])) b = some o := fun b o hb z => by
    have hbD : b ≠ D := fun q => by
      subst q
      rcases hb with hb | hb
      · cases hB : B b with
        | none => exact hb hB
        | some o2 =>
          have := eB b o2 hB
          rw [h1] at this
          cases this
      · rw [upd_same] at hb
        cases hb
    rw [upd_ne hbD]
    exact z
  have dom2 : ∀ b, H2 b = none → upd H D (.lst []) b = none := fun b z => by
    by_cases hb : b = D
    · subst hb
      rw [h3] at z
      cases z
    · rw [upd_ne hb]
      exact fresh_back h2 z
  refine ⟨acc, h6, sz_lt (by omega), h1, Ex.mut (h2.trans e) h1, acc ++ [y], upd_same, by rw [List.length_append, h4]; rfl, fun i z d2 hz hd2 => ?_⟩
  by_cases hi : i < acc.length
  · rw [List.getElem?_append_left hi] at hz
    exact (h5 i z d2 hz hd2).mono (fun b q => q) fun b o hb q => off b o hb (e b o q)
  · have hi2 : i = acc.length := by
      have := (List.getElem?_eq_some_iff.mp hz).1
      rw [List.length_append] at this
      simp at this
      omega
    subst hi2
    rw [List.getElem?_append_right (Nat.le_refl _), Nat.sub_self] at hz
    simp at hz
    subst hz
    rw [h4, hd] at hd2
    cases hd2
    exact r.mono dom2 off
/-- what the whole list is -/
theorem lg_end {B H H2 : Hp} {D : Addr} (eB : Ex B H) (g : Lg K ds B H D ds.length H2) : ∃ ys, H2 D = some (.lst ys) ∧ DpAll K (rst B H H2) ys ds := by
  obtain ⟨h1, h2, acc, h3, h4, h5⟩ := g
  refine ⟨acc, h3, dpa_of h4 fun i v d hv hd => (h5 i v d hv hd).mono (fun b z => ?_) fun b o _ z => z⟩
  by_cases hb : b = D
  · rw [hb]
    exact h1
  · rw [upd_ne hb] at z
    exact z
/-- an element's promise -/
def ElP (K : PySem.W.Frag) (xs : List V) (ds : List PyData) (B : Hp) (te : TE) (σ : L2.St) (vs : List Nat) (j : Nat) : Prop :=
  ∀ (i : Nat) (x : V) (d : PyData) (H1 : Hp), xs[i]? = some x → ds[i]? = some d → Dp K B x d → Ex B H1 → ∀ Q : VK, (∀ y H2, Ex H1 H2 → Dq K B H1 H2 y d → Q y H2) → te ((wipe σ vs).set j (some x)) H1 Q
theorem lc_dq {B H : Hp} {tl : TE} {Q : VK} (eB : Ex B H) (hv : ∀ H1, Ex H H1 → ∀ Q : VK, (∀ H2, Ex H1 H2 → Q (.ref a) H2) → tl σ H1 Q) (hx : SqL K B a xs) (hd : DpAll K B xs ds) (hz : xs.length ≤ 1000) (hw : ∀ x, wipe ((wipe σ vs).set j (some x)) vs = wipe σ vs)
    (el : ElP K xs ds B te σ vs j) (k : ∀ p H2 ys, H p = none → Ex H H2 → H2 p = some (.lst ys) → DpAll K (rst B H H2) ys ds → Q (.ref p) H2) : tLc (iList K tl) (gName j) tYes te vs σ H Q :=
  hv H (Ex.refl H) _ fun H0 e0 => ⟨a, rfl, ⟨xs, ex_l (eB.trans e0) hx⟩, fun D hD => by
    have len := dpa_len hd
    refine lc_list (xs := xs) (Lg K ds B H0 D) (lg_start hD) (fun i H2 _ g => ex_l ((eB.trans e0).trans g.2.1) hx) (fun i x H2 hi g => ⟨hw x, ?_⟩) (fun H2 g => ?_)
    · have hil := (List.getElem?_eq_some_iff.mp hi).1
      obtain ⟨d, h1, h2⟩ := dpa_get hd hi
      show te _ H2 _
      refine el i x d H2 hi h1 h2 ((eB.trans e0).trans g.2.1) _ fun y H3 e3 dq => ?_
      exact lg_step (eB.trans e0) g (by omega) e3 h1 dq
    · rw [len] at g
      obtain ⟨ys, h1, h2⟩ := lg_end (eB.trans e0) g
      exact k D H2 ys (fresh_back e0 hD) (e0.trans g.2.1) h1 (dpa_ext (rst_mono (fun b z => fresh_back e0 z) fun b o _ z => z) h2)⟩
theorem lc_dqT {B H : Hp} {tl : TE} {Q : VK} (eB : Ex B H) (hv : ∀ H1, Ex H H1 → ∀ Q : VK, (∀ H2, Ex H1 H2 → Q (.ref a) H2) → tl σ H1 Q) (hx : SqT K B a xs) (hd : DpAll K B xs ds) (hz : xs.length ≤ 1000) (hw : ∀ x, wipe ((wipe σ vs).set j (some x)) vs = wipe σ vs)
    (el : ElP K xs ds B te σ vs j) (k : ∀ p H2 ys, H p = none → Ex H H2 → H2 p = some (.lst ys) → DpAll K (rst B H H2) ys ds → Q (.ref p) H2) : tLc (iTup K tl) (gName j) tYes te vs σ H Q :=
  hv H (Ex.refl H) _ fun H0 e0 => ⟨a, rfl, ⟨xs, ex_t (eB.trans e0) hx⟩, fun D hD => by
    have len := dpa_len hd
    refine lc_tup (xs := xs) (Lg K ds B H0 D) (lg_start hD) (fun i H2 _ g => ex_t ((eB.trans e0).trans g.2.1) hx) (fun i x H2 hi g => ⟨hw x, ?_⟩) (fun H2 g => ?_)
    · have hil := (List.getElem?_eq_some_iff.mp hi).1
      obtain ⟨d, h1, h2⟩ := dpa_get hd hi
      show te _ H2 _
      refine el i x d H2 hi h1 h2 ((eB.trans e0).trans g.2.1) _ fun y H3 e3 dq => ?_
      exact lg_step (eB.trans e0) g (by omega) e3 h1 dq
    · rw [len] at g
      obtain ⟨ys, h1, h2⟩ := lg_end (eB.trans e0) g
      exact k D H2 ys (fresh_back e0 hD) (e0.trans g.2.1) h1 (dpa_ext (rst_mono (fun b z => fresh_back e0 z) fun b o _ z => z) h2)⟩
end
end J

set_option Elab.async false
set_option linter.all false
set_option maxRecDepth 100000
set_option maxHeartbeats 4000000
/-! J8: more of what readings evaluate to; a law's pen. -/
namespace J
open PySem PySem.Spec PyProof.Rows L2 Evl
section
variable {K : PySem.W.Frag} {σ : L2.St} {H : Hp} {ta tb : TE}
theorem rc_int {i : Int} : RC (fun xs H Q => (∃ i, xs = [.int i] ∧ Q (.int i) H) ∨ ∃ k, xs = [.bl k] ∧ Q (.int (if k then 1 else 0)) H) [.int i] H (.int i) := fun H1 _ _ q => .inl ⟨i, rfl, q H1 (Ex.refl H1)⟩
theorem rc_len {p : Addr} {ys : List V} (h : SqL K H p ys ∨ SqT K H p ys) : RC (fun xs H Q => ∃ p ys, xs = [.ref p] ∧ (SqL K H p ys ∨ SqT K H p ys) ∧ Q (.int ys.length) H) [.ref p] H (.int ys.length) :=
  fun H1 e _ q => ⟨p, ys, rfl, h.elim (fun z => .inl (ex_l e z)) (fun z => .inr (ex_t e z)), q H1 (Ex.refl H1)⟩
/-- leaves: no containers -/
def leaf : PyData → Bool
  | .none | .bool _ | .int _ => true
  | _ => false
theorem lay_leaf : ∀ {d : PyData}, leaf d = true → d.canLay0 = true ∧ d.depth = 0
  | .none, _ => by simp [PyData.canLay0, PyData.depth]
  | .bool _, _ => by simp [PyData.canLay0, PyData.depth]
  | .int _, _ => by simp [PyData.canLay0, PyData.depth]
  | .str _, h => by simp [leaf] at h
  | .list _, h => by simp [leaf] at h
  | .tuple _, h => by simp [leaf] at h
  | .dict _, h => by simp [leaf] at h
theorem lay_leaves : ∀ {ds : List PyData}, ds.all leaf = true → PyData.canLayAll0 ds = true ∧ PyData.depthAll ds ≤ 1
  | [], _ => by simp [PyData.canLayAll0, PyData.depthAll]
  | d :: ds, h => by
    rw [List.all_cons, Bool.and_eq_true] at h
    obtain ⟨h1, h2⟩ := lay_leaf h.1
    obtain ⟨h3, h4⟩ := lay_leaves h.2
    constructor
    · simp [PyData.canLayAll0, h1, h3]
    · simp only [PyData.depthAll]
      omega
theorem shaped_leaves {ds : List PyData} (h : ds.all leaf = true) : SeqAt.shaped (.list ds) = true := by
  obtain ⟨h1, h2⟩ := lay_leaves h
  unfold SeqAt.shaped
  rw [Bool.and_eq_true]
  refine ⟨by simpa [PyData.canLay0] using h1, decide_eq_true ?_⟩
  simp only [PyData.depth]
  omega
theorem eqv_bools : ∀ (xs ys : List Bool), PyData.eqvAll (xs.map .bool) (ys.map .bool) = decide (xs = ys)
  | [], [] => rfl
  | [], _ :: _ => rfl
  | _ :: _, [] => rfl
  | x :: xs, y :: ys => by
    simp only [List.map_cons, PyData.eqvAll, PyData.eqv, eqv_bools xs ys, List.cons.injEq]
    by_cases h : x = y <;> by_cases h2 : xs = ys <;> simp [h, h2]
theorem dpa_ints : ∀ ns : List Int, DpAll K H (ns.map V.int) (ns.map .int)
  | [] => .nil
  | n :: ns => .cons (.int n) (dpa_ints ns)
theorem dpa_bools : ∀ ns : List Bool, DpAll K H (ns.map V.bl) (ns.map .bool)
  | [] => .nil
  | n :: ns => .cons (.bl n) (dpa_bools ns)
/-- != of data, the right side a new list -/
theorem ev_neL {x : V} {d e : PyData} {ys : List V} {es : List PyData} (ha : Ev ta σ H x) (hd : Dp K H x d) (hb : EvL tb σ H ys) (hy : DpAll K H ys es) (s1 : SeqAt.shaped d = true) (s2 : SeqAt.shaped (.list es) = true) :
    Ev (tOp (rNeD K) ta tb) σ H (.bl (!PyData.eqv d (.list es))) :=
  ev_opL ha hb fun p H1 hp e => fun H2 e2 Q q => ⟨d, .list es, dp_ext (e.trans e2) hd, .lst (sq_of (e2 p _ hp)) (dpa_ext (e.trans e2) hy), s1, s2, q H2 (Ex.refl H2)⟩
end
/-! ### a law's pen: its cells, the place, what is left -/
def But (p : Addr) (H H' : Hp) : Prop := ∀ b o, b ≠ p → H b = some o → H' b = some o
theorem But.trans {p : Addr} {H H1 H2 : Hp} (a : But p H H1) (b : But p H1 H2) : But p H H2 := fun c o h z => b c o h (a c o h z)
theorem But.of {p : Addr} {H H1 : Hp} (e : Ex H H1) : But p H H1 := fun c o _ z => e c o z
theorem But.upd {p : Addr} {H : Hp} {o : HO} : But p H (upd H p o) := fun c q h z => by rw [upd_ne h]; exact z
/-- the heap that the pen is no part of goes on -/
theorem But.ex {p : Addr} {B H H1 : Hp} (a : But p H H1) (e : Ex B H) (h : B p = none) : Ex B H1 := fun c o z => a c o (ne_of_none z h) (e c o z)
def Pen (H : Hp) (p : Addr) (m : Nat) : Prop := ∃ (c : Addr) (ns : List Int) (i v : Int), H p = some (.lst [.ref c, .int i, .int v]) ∧ H c = some (.lst (ns.map V.int)) ∧ c ≠ p ∧ ns.length ≤ 60 ∧ 0 ≤ i ∧ i ≤ (m : Int)
theorem Pen.ext {H H' : Hp} {p : Addr} {m : Nat} (h : Pen H p m) (e : Ex H H') : Pen H' p m := by
  obtain ⟨c, ns, i, v, h1, h2, h3⟩ := h
  exact ⟨c, ns, i, v, e _ _ h1, e _ _ h2, h3⟩
def spPen (K : PySem.W.Frag) : Sp := fun vs H Q _ => ∃ (a : Addr) (ns : List Int), vs = [.ref a] ∧ SqL K H a (ns.map V.int) ∧ ∀ p H', H p = none → Ex H H' → Pen H' p 0 → Q (.ref p) H'
def spNext : Sp := fun vs H Q _ => ∃ (p c : Addr) (ns : List Int) (i v : Int), vs = [.ref p] ∧ H p = some (.lst [.ref c, .int i, .int v]) ∧ H c = some (.lst (ns.map V.int)) ∧ c ≠ p ∧ ns.length ≤ 60 ∧ 0 ≤ i ∧ i ≤ 1000000 ∧
  ∀ (r : Int) H', But p H H' → H' p = some (.lst [.ref c, .int (i + 1), .int v]) → Q (.int r) H'
def spDraw : Sp := fun vs H Q _ => ∃ (p : Addr) (u : Int) (m : Nat), vs = [.ref p, .int u] ∧ 1 ≤ u ∧ u ≤ 100000 ∧ Pen H p m ∧ m ≤ 1000000 ∧
  ∀ (d : Int) H', But p H H' → Pen H' p (m + 1) → 0 ≤ d → d < u → Q (.int d) H'
end J

set_option Elab.async false
set_option linter.all false
set_option maxRecDepth 100000
set_option maxHeartbeats 8000000
/-! J9g: data and new objects by readings (of no law): the general part of K13d, and J9. -/
namespace K13
open PySem PySem.Spec PyProof.Rows L2 Evl J
/-! new objects, one behind another -/
def Mono (Φ : Addr → Hp → Prop) : Prop := ∀ a H H', Ex H H' → Φ a H → Φ a H'
def EvN (te : TE) (σ : L2.St) (H : Hp) (Φ : Addr → Hp → Prop) : Prop := ∀ H1, Ex H H1 → ∀ Q : VK, (∀ a H2, H1 a = none → Ex H1 H2 → Φ a H2 → Q (.ref a) H2) → te σ H1 Q
/-- each of some objects is as it should be -/
inductive All2 : List Addr → List (Addr → Hp → Prop) → Hp → Prop
  | nil {H : Hp} : All2 [] [] H
  | cons {a : Addr} {as : List Addr} {Φ : Addr → Hp → Prop} {Φs : List (Addr → Hp → Prop)} {H : Hp} : Φ a H → Mono Φ → All2 as Φs H → All2 (a :: as) (Φ :: Φs) H
theorem All2.ext {H H' : Hp} (e : Ex H H') : ∀ {as : List Addr} {Φs : List (Addr → Hp → Prop)}, All2 as Φs H → All2 as Φs H'
  | _, _, .nil => .nil
  | _, _, .cons h m r => .cons (m _ _ _ e h) m (All2.ext e r)
theorem All2.app {H : Hp} : ∀ {as bs : List Addr} {Φs Ψs : List (Addr → Hp → Prop)}, All2 as Φs H → All2 bs Ψs H → All2 (as ++ bs) (Φs ++ Ψs) H
  | _, _, _, _, .nil, s => s
  | _, _, _, _, .cons h m r, s => .cons h m (All2.app r s)
theorem All2.len {H : Hp} : ∀ {as : List Addr} {Φs : List (Addr → Hp → Prop)}, All2 as Φs H → as.length = Φs.length
  | _, _, .nil => rfl
  | _, _, .cons _ _ r => congrArg (· + 1) (All2.len r)
theorem All2.get {H : Hp} : ∀ {as : List Addr} {Φs : List (Addr → Hp → Prop)} {i : Nat} {Φ : Addr → Hp → Prop}, All2 as Φs H → Φs[i]? = some Φ → ∃ a, as[i]? = some a ∧ Φ a H
  | _, _, i, _, .nil, h => by simp at h
  | _, _, 0, _, .cons h m r, e => by
    simp at e
    subst e
    exact ⟨_, rfl, h⟩
  | _, _, i + 1, _, .cons h m r, e => by
    obtain ⟨a, h1, h2⟩ := All2.get (i := i) r (by simpa using e)
    exact ⟨a, by simpa using h1, h2⟩
def EvNA (ta : TA) (σ : L2.St) (H : Hp) (Φs : List (Addr → Hp → Prop)) : Prop := ∀ H1, Ex H H1 → ∀ Q : List V → Hp → Prop, (∀ as H2, Ex H1 H2 → All2 as Φs H2 → Q (as.map V.ref) H2) → ta σ H1 Q
section
variable {K : PySem.W.Frag} {σ : L2.St} {H : Hp} {te ta : TE} {tr : TA} {Φ : Addr → Hp → Prop} {Φs : List (Addr → Hp → Prop)}
theorem na_nil : EvNA tNil σ H [] := fun H1 _ Q q => q [] H1 (Ex.refl H1) .nil
theorem na_cons (h : EvN te σ H Φ) (m : Mono Φ) (hr : EvNA tr σ H Φs) : EvNA (tCons te tr) σ H (Φ :: Φs) := fun H1 e Q q =>
  h H1 e _ fun a H2 _ e2 p => hr H2 (e.trans e2) _ fun as H3 e3 ps => q (a :: as) H3 (e2.trans e3) (.cons (m _ _ _ e3 p) m ps)
/-- a list of new objects -/
def EvNL (te : TE) (σ : L2.St) (H : Hp) (Φs : List (Addr → Hp → Prop)) : Prop := ∀ H1, Ex H H1 → ∀ Q : VK, (∀ p as H2, H1 p = none → Ex H1 H2 → H2 p = some (.lst (as.map V.ref)) → All2 as Φs H2 → Q (.ref p) H2) → te σ H1 Q
theorem nl_lst (h : EvNA tr σ H Φs) (hz : Φs.length ≤ 1000) : EvNL (tLst tr) σ H Φs := fun H1 e Q q =>
  h H1 e _ fun as H2 e2 al => ⟨by rw [List.length_map, al.len]; exact sz_of (by omega), fun p hp => q p as _ (fresh_back e2 hp) (e2.trans (Ex.new hp)) upd_same (al.ext (Ex.new hp))⟩
theorem nl_cat {l : Addr} {as : List Addr} {Ψs : List (Addr → Hp → Prop)} {tb : TE} (ha : Ev ta σ H (.ref l)) (hl : H l = some (.lst (as.map V.ref))) (al : All2 as Φs H) (hb : EvNL tb σ H Ψs) (hz : Φs.length + Ψs.length ≤ 1000) : EvNL (tOp rCat ta tb) σ H (Φs ++ Ψs) := fun H1 e Q q =>
  ha H1 e _ fun H2 e2 => hb H2 (e.trans e2) _ fun p bs H3 hp e3 h3 bl => ⟨l, p, _, _, rfl, rfl, e3 l _ (e2 l _ (e l _ hl)), h3, by rw [List.length_map, List.length_map, al.len, bl.len]; exact sz_of (by omega), fun r hr => by
    rw [← List.map_append]
    exact q r _ _ (fresh_back (e2.trans e3) hr) ((e2.trans e3).trans (Ex.new hr)) upd_same (((al.ext ((e.trans e2).trans e3)).app bl).ext (Ex.new hr))⟩
/-- .. both lists new -/
theorem nl_cat2 {Ψs : List (Addr → Hp → Prop)} {tb : TE} (ha : EvNL ta σ H Φs) (hb : EvNL tb σ H Ψs) (hz : Φs.length + Ψs.length ≤ 1000) : EvNL (tOp rCat ta tb) σ H (Φs ++ Ψs) := fun H1 e Q q =>
  ha H1 e _ fun l as H2 hl e2 h2 al => hb H2 (e.trans e2) _ fun p bs H3 hp e3 h3 bl => ⟨l, p, _, _, rfl, rfl, e3 l _ h2, h3, by rw [List.length_map, List.length_map, al.len, bl.len]; exact sz_of (by omega), fun r hr => by
    rw [← List.map_append]
    exact q r _ _ (fresh_back (e2.trans e3) hr) ((e2.trans e3).trans (Ex.new hr)) upd_same (((al.ext e3).app bl).ext (Ex.new hr))⟩
theorem q_asgNL {i : Nat} {tz : TS} {D : Ends} (h : EvNL te σ H Φs) (k : ∀ p as H1, H p = none → Ex H H1 → H1 p = some (.lst (as.map V.ref)) → All2 as Φs H1 → tz D (σ.set i (some (.ref p))) H1) : tSeq (tAsg te (gName i)) tz D σ H := h H (Ex.refl H) _ k
theorem s_retNL {D : Ends} (h : EvNL te σ H Φs) (k : ∀ p as H1, H p = none → Ex H H1 → H1 p = some (.lst (as.map V.ref)) → All2 as Φs H1 → D.rt (.ref p) H1) : tRet te D σ H := h H (Ex.refl H) _ k
theorem s_evNL {Q : VK} (h : EvNL te σ H Φs) (k : ∀ p as H1, H p = none → Ex H H1 → H1 p = some (.lst (as.map V.ref)) → All2 as Φs H1 → Q (.ref p) H1) : te σ H Q := h H (Ex.refl H) _ k
/-- an error of the class at C whose fields hold such data -/
def Er (K : PySem.W.Frag) (C : Addr) (flds : List (Str × PyData)) (a : Addr) (H : Hp) : Prop := ∃ fs : List (Str × V), XAt H a C fs ∧ ∀ x d, flds.lookup x = some d → ∃ v, fs.lookup x = some v ∧ Dp K H v d
theorem er_mono {C : Addr} {flds : List (Str × PyData)} : Mono (Er K C flds) := fun a H H' e ⟨fs, xa, h⟩ => ⟨fs, xa.ext e, fun x d z => let ⟨v, h1, h2⟩ := h x d z; ⟨v, h1, dp_ext e h2⟩⟩
theorem en_x0 {C : Addr} : EvN (tX0 C) σ H (Er K C []) := fun H1 e Q q a hn => q a _ hn (Ex.new hn) ⟨[], .inl ⟨rfl, upd_same⟩, fun x d z => by simp at z⟩
theorem one_lookup {f x : Str} {α : Type} {d e : α} (h : ([(f, d)] : List (Str × α)).lookup x = some e) : x = f ∧ d = e := by
  by_cases q : x = f
  · subst q
    simp [List.lookup] at h
    exact ⟨rfl, h⟩
  · have q2 : (x == f) = false := by simpa using q
    simp [List.lookup, q2] at h
end
section
variable {K : PySem.W.Frag} {σ : L2.St} {H : Hp} {te ta tb : TE} {tr : TA} {d : PyData} {ds es : List PyData}
def EvD (K : PySem.W.Frag) (te : TE) (σ : L2.St) (H : Hp) (d : PyData) : Prop := ∀ H1, Ex H H1 → ∀ Q : VK, (∀ v H2, Ex H1 H2 → Dp K H2 v d → Q v H2) → te σ H1 Q
def EvDA (K : PySem.W.Frag) (ta : TA) (σ : L2.St) (H : Hp) (ds : List PyData) : Prop := ∀ H1, Ex H H1 → ∀ Q : List V → Hp → Prop, (∀ vs H2, Ex H1 H2 → DpAll K H2 vs ds → Q vs H2) → ta σ H1 Q
def EvDL (K : PySem.W.Frag) (te : TE) (σ : L2.St) (H : Hp) (ds : List PyData) : Prop := ∀ H1, Ex H H1 → ∀ Q : VK, (∀ p xs H2, H1 p = none → Ex H1 H2 → H2 p = some (.lst xs) → DpAll K H2 xs ds → Q (.ref p) H2) → te σ H1 Q
theorem EvD.mono {H' : Hp} (h : EvD K te σ H d) (e : Ex H H') : EvD K te σ H' d := fun H1 e1 Q q => h H1 (e.trans e1) Q q
theorem ed_ev {v : V} (h : Ev te σ H v) (dp : Dp K H v d) : EvD K te σ H d := fun H1 e Q q => h H1 e _ fun H2 e2 => q v H2 e2 (dp_ext (e.trans e2) dp)
theorem ed_var {i : Nat} {v : V} (h : σ[i]? = some (some v)) (dp : Dp K H v d) : EvD K (tVar i) σ H d := ed_ev (ev_var h) dp
theorem ed_int {i : Int} : EvD K (tC (.int i)) σ H (.int i) := ed_ev ev_c (.int i)
theorem da_nil : EvDA K tNil σ H [] := fun H1 _ Q q => q [] H1 (Ex.refl H1) .nil
theorem da_cons (h : EvD K te σ H d) (hr : EvDA K tr σ H ds) : EvDA K (tCons te tr) σ H (d :: ds) := fun H1 e Q q =>
  h H1 e _ fun v H2 e2 dp => hr H2 (e.trans e2) _ fun vs H3 e3 da => q (v :: vs) H3 (e2.trans e3) (.cons (dp_ext e3 dp) da)
theorem ed_tup (h : EvDA K tr σ H ds) (hz : ds.length ≤ 1000) : EvD K (tTup tr) σ H (.tuple ds) := fun H1 e Q q =>
  h H1 e _ fun vs H2 e2 da => ⟨by rw [dpa_len da]; exact sz_of (by omega), fun p hp => q (.ref p) _ (e2.trans (Ex.new hp)) (.tup (st_of upd_same) (dpa_ext (Ex.new hp) da))⟩
theorem dl_lst (h : EvDA K tr σ H ds) (hz : ds.length ≤ 1000) : EvDL K (tLst tr) σ H ds := fun H1 e Q q =>
  h H1 e _ fun vs H2 e2 da => ⟨by rw [dpa_len da]; exact sz_of (by omega), fun p hp => q p vs _ (fresh_back e2 hp) (e2.trans (Ex.new hp)) upd_same (dpa_ext (Ex.new hp) da)⟩
theorem ed_dl (h : EvDL K te σ H ds) : EvD K te σ H (.list ds) := fun H1 e Q q => h H1 e _ fun p xs H2 _ e2 h2 da => q (.ref p) H2 e2 (.lst (sq_of h2) da)
theorem dpa_app {vs ws : List V} : ∀ {ds es : List PyData}, DpAll K H vs ds → DpAll K H ws es → DpAll K H (vs ++ ws) (ds ++ es) := by
  induction vs with
  | nil =>
    intro ds es h1 h2
    cases h1
    exact h2
  | cons v vs ih =>
    intro ds es h1 h2
    cases h1 with
    | cons h r => exact .cons h (ih r h2)
theorem dl_cat (ha : EvDL K ta σ H ds) (hb : EvDL K tb σ H es) (hz : ds.length + es.length ≤ 1000) : EvDL K (tOp rCat ta tb) σ H (ds ++ es) := fun H1 e Q q =>
  ha H1 e _ fun p xs H2 hp e2 h2 d2 => hb H2 (e.trans e2) _ fun r ys H3 hr e3 h3 d3 => ⟨p, r, xs, ys, rfl, rfl, e3 p _ h2, h3, by rw [dpa_len d2, dpa_len d3]; exact sz_of (by omega), fun l hl =>
    q l _ _ (fresh_back (e2.trans e3) hl) ((e2.trans e3).trans (Ex.new hl)) upd_same (dpa_app (dpa_ext (e3.trans (Ex.new hl)) d2) (dpa_ext (Ex.new hl) d3))⟩
/-- the left side a list that stands -/
theorem dl_cat1 {l : Addr} {xs : List V} (ha : Ev ta σ H (.ref l)) (hl : H l = some (.lst xs)) (da : DpAll K H xs ds) (hb : EvDL K tb σ H es) (hz : ds.length + es.length ≤ 1000) : EvDL K (tOp rCat ta tb) σ H (ds ++ es) := fun H1 e Q q =>
  ha H1 e _ fun H2 e2 => hb H2 (e.trans e2) _ fun r ys H3 hr e3 h3 d3 => ⟨l, r, xs, ys, rfl, rfl, e3 l _ (e2 l _ (e l _ hl)), h3, by rw [dpa_len da, dpa_len d3]; exact sz_of (by omega), fun m hm =>
    q m _ _ (fresh_back (e2.trans e3) hm) ((e2.trans e3).trans (Ex.new hm)) upd_same (dpa_app (dpa_ext (((e.trans e2).trans e3).trans (Ex.new hm)) da) (dpa_ext (Ex.new hm) d3))⟩
theorem dl_of {l : Addr} {xs : List V} (ha : Ev ta σ H (.ref l)) (hl : H l = some (.lst xs)) (da : DpAll K H xs ds) {l2 : Addr} {ys : List V} (hb : Ev tb σ H (.ref l2)) (hl2 : H l2 = some (.lst ys)) (db : DpAll K H ys es) (hz : ds.length + es.length ≤ 1000) : EvDL K (tOp rCat ta tb) σ H (ds ++ es) := fun H1 e Q q =>
  ha H1 e _ fun H2 e2 => hb H2 (e.trans e2) _ fun H3 e3 => ⟨l, l2, xs, ys, rfl, rfl, e3 l _ (e2 l _ (e l _ hl)), e3 l2 _ (e2 l2 _ (e l2 _ hl2)), by rw [dpa_len da, dpa_len db]; exact sz_of (by omega), fun m hm =>
    q m _ _ (fresh_back (e2.trans e3) hm) ((e2.trans e3).trans (Ex.new hm)) upd_same (dpa_app (dpa_ext (((e.trans e2).trans e3).trans (Ex.new hm)) da) (dpa_ext (((e.trans e2).trans e3).trans (Ex.new hm)) db))⟩
theorem dpa_rep {v : V} (h : Dp K H v d) : ∀ n : Nat, DpAll K H (List.replicate n v) (List.replicate n d)
  | 0 => .nil
  | n + 1 => .cons h (dpa_rep h n)
/-- [e] * n -/
theorem dl_rep {n : Nat} (h : EvDL K te σ H [d]) (hz : n ≤ 100) : EvDL K (tOp rRep te (tC (.int (n : Int)))) σ H (List.replicate n d) := fun H1 e Q q =>
  h H1 e _ fun p xs H2 hp e2 h2 da => by
    cases da with
    | @cons v _ _ _ hv hr =>
      cases hr
      refine ⟨p, (n : Int), [v], rfl, rfl, h2, by omega, by omega, by simp; exact sz_of (by omega), fun m hm => ?_⟩
      have e1 : ((n : Int).toNat) = n := Int.toNat_natCast n
      have e4 : (List.replicate n [v]).flatten = List.replicate n v := by
        clear e1 hm q h hz
        induction n with
        | zero => rfl
        | succ n ih => rw [List.replicate_succ, List.flatten_cons, ih]; rfl
      rw [e1, e4]
      exact q m _ _ (fresh_back e2 hm) (e2.trans (Ex.new hm)) upd_same (dpa_rep (dp_ext (Ex.new hm) hv) n)
/-- tuple(e) -/
theorem ed_tupleOf (h : EvD K te σ H d) (hd : d = .list ds ∨ d = .tuple ds) : EvD K (tThen te (kTup K)) σ H (.tuple ds) := fun H1 e Q q =>
  h H1 e _ fun v H2 e2 dp => by
    rcases hd with rfl | rfl
    · cases dp with
      | @lst a xs _ hs ha => exact .inl ⟨a, xs, rfl, hs, fun r hr => q (.ref r) _ (e2.trans (Ex.new hr)) (.tup (st_of upd_same) (dpa_ext (Ex.new hr) ha))⟩
    · cases dp with
      | @tup a xs _ hs ha => exact .inr ⟨a, xs, rfl, hs, q (.ref a) H2 e2 (.tup hs ha)⟩
/-- what repr asks -/
def okD (d : PyData) : Bool := d.showable && (!d.hasDict && (decide (d.shown.length ≤ 20000) && decide (d.depth ≤ 20)))
theorem ev_repr (h : EvD K te σ H d) (ok : okD d = true) : Ev (tCB (rRepr K) (tCons te tNil)) σ H (.str d.shown) := fun H1 e Q q => by
  obtain ⟨o1, o2⟩ := Bool.and_eq_true_iff.mp ok
  obtain ⟨o2, o3⟩ := Bool.and_eq_true_iff.mp o2
  obtain ⟨o3, o4⟩ := Bool.and_eq_true_iff.mp o3
  exact h H1 e _ fun v H2 e2 dp => ⟨v, d, rfl, dp, o1, by simpa using o2, sz_of (by have := of_decide_eq_true o3; omega), of_decide_eq_true o4, q H2 e2⟩
theorem et_same {s : Str} (h1 : Ev ta σ H (.str s)) (h2 : Ev tb σ H (.str s)) : EvT (tTest (tOp rNe ta tb)) σ H false :=
  et_is (et_test (ev_op h1 h2 (rv_ne rfl))) (by simp)
/-- a field of an error -/
theorem ed_fld {C : Addr} {flds : List (Str × PyData)} {a : Addr} {f : Str} {B nw ini : String} {bm : List Value} (h : Ev te σ H (.ref a)) (T : XC K B nw ini bm C) (no : PySem.W.findIn K (.ref C) f = some none) (er : Er K C flds a H) (hf : flds.lookup f = some d) :
    EvD K (tXFld K te f) σ H d := fun H1 e Q q => h H1 e _ fun H2 e2 => by
  obtain ⟨fs, xa, z⟩ := er_mono _ _ _ (e.trans e2) er
  obtain ⟨v, h1, h2⟩ := z f d hf
  exact ⟨a, C, fs, v, B, nw, ini, bm, rfl, T, xa, no, h1, q v H2 e2 h2⟩
theorem ed_fldN {C : Addr} {flds : List (Str × PyData)} {f : Str} {B nw ini : String} {bm : List Value} (h : EvN te σ H (Er K C flds)) (T : XC K B nw ini bm C) (no : PySem.W.findIn K (.ref C) f = some none) (hf : flds.lookup f = some d) :
    EvD K (tXFld K te f) σ H d := fun H1 e Q q => h H1 e _ fun a H2 _ e2 er => by
  obtain ⟨fs, xa, z⟩ := er
  obtain ⟨v, h1, h2⟩ := z f d hf
  exact ⟨a, C, fs, v, B, nw, ini, bm, rfl, T, xa, no, h1, q v H2 e2 h2⟩
theorem q_asgD {i : Nat} {tz : TS} {D : Ends} (h : EvDL K te σ H ds) (k : ∀ p xs H1, Ex H H1 → H1 p = some (.lst xs) → DpAll K H1 xs ds → tz D (σ.set i (some (.ref p))) H1) : tSeq (tAsg te (gName i)) tz D σ H := h H (Ex.refl H) _ fun p xs H1 _ e h1 da => k p xs H1 e h1 da
end
end K13

set_option Elab.async false
set_option linter.all false
set_option maxRecDepth 100000
set_option maxHeartbeats 4000000
/-! S1: x in o by o's own __contains__; C.f(..) by a class's name. -/
namespace S
open PySem PySem.Spec PyProof.Rows L2 Evl J ClX StX
/-- o's own __contains__ tells so -/
def rInOwn (C : Addr) (sp : Sp) (E : XK) (neg : Bool) : R2 := fun x y H Q => ∃ a dx fs, y = .ref a ∧ H a = some (.ins C dx fs) ∧ sp [.ref a, x] H (fun v H' => ∃ b, v = .bl b ∧ Q (.bl (if neg then !b else b)) H') E
def tCFun (C : Addr) (sp : Sp) (dvs : List V) (E : XK) (ta : TE) (t : TA) : TE := fun σ H Q => ta σ H fun x H1 => x = .ref C ∧ t σ H1 fun vs H2 => sp (vs ++ dvs) H2 Q E
section
variable {X : Cx} {CX : CXT} {k : Nat} {C f : Addr} {fd : FuncData} {ps : List Str} {sp : Sp} {E : XK} {mc : Value} {o e : Expr} {es : List Expr} {m : Str} {pos apos : Pos} {ta : TE} {t : TA} {pl : Sem Bool} {dvs : List V} {ds : List Value}
theorem op_inOwn (F : FnOk X.prog X.w X.K X.mg X.base CX k f fd ps sp) (hr : Room k X.A) (hs : PySem.W.findIn X.K (.ref C) "__contains__" = some (some (.ref f))) (hf : PySem.W.isFn X.K (.ref f) = true) (hb : Binds X.K fd ps []) (hx : Passes CX X E) :
    OpR X (compareOp .In) (rInOwn C sp E false) := by
  intro pins s σ H x y v u Q I rx ry ⟨a, dx, fs, ey, ha, h⟩
  subst ey
  obtain rfl : u = Value.ref a := ry
  obtain ⟨mA, J, _⟩ := ins_get I.hok ha
  obtain ⟨od, J, _⟩ := J.look
  obtain ⟨m, hF⟩ := I.fr
  refine PySem.W.in_K hF I.ok.mod.kin J hs hf (thn (run_fn (us := [.ref a, v]) (vs := [.ref a, x]) F hr hb .nil hx I (.cons rfl (.cons rx .nil)) h) fun r s' ⟨z, H', I', rz, b, ez, q⟩ => ?_)
  subst ez
  obtain rfl : r = Value.bool b := rz
  exact wpAny_truthy_bool ⟨.bl b, H', I', rfl, q⟩
theorem op_niOwn (F : FnOk X.prog X.w X.K X.mg X.base CX k f fd ps sp) (hr : Room k X.A) (hs : PySem.W.findIn X.K (.ref C) "__contains__" = some (some (.ref f))) (hf : PySem.W.isFn X.K (.ref f) = true) (hb : Binds X.K fd ps []) (hx : Passes CX X E) :
    OpR X (compareOp .NotIn) (rInOwn C sp E true) := by
  intro pins s σ H x y v u Q I rx ry ⟨a, dx, fs, ey, ha, h⟩
  subst ey
  obtain rfl : u = Value.ref a := ry
  obtain ⟨mA, J, _⟩ := ins_get I.hok ha
  obtain ⟨od, J, _⟩ := J.look
  obtain ⟨m, hF⟩ := I.fr
  refine PySem.W.notIn_K hF I.ok.mod.kin J hs hf (thn (run_fn (us := [.ref a, v]) (vs := [.ref a, x]) F hr hb .nil hx I (.cons rfl (.cons rx .nil)) h) fun r s' ⟨z, H', I', rz, b, ez, q⟩ => ?_)
  subst ez
  obtain rfl : r = Value.bool b := rz
  exact wpAny_truthy_bool ⟨.bl (!b), H', I', rfl, q⟩
/-- C.f(e, ..), f a plain def of C's -/
theorem pe_cfun (he : PE X o ta) (r : CRead X.K C mc) (c : PySem.W.findCls X.K (.ref C) mc m = some (.val (.ref f))) (hk : PySem.W.keepIn X.K (.ref f) = true) (F : FnOk X.prog X.w X.K X.mg X.base CX k f fd ps sp) (hr : Room k X.A) (hb : Binds X.K fd ps ds) (hd : Vals dvs ds) (hx : Passes CX X E) (ha : PA X (e :: es) t)
    (hst : starEach (e :: es) X.env = (false, eval e X.env) :: starEach es X.env := by rfl) (hpl : (backTo pos (starEach es X.env)).any (·.1) = false := by rfl)
    (ht : eval (.Call (.Attribute o m apos) (e :: es) [] pos) X.env = (do
      let ov ← eval o X.env
      standAt apos.atName
      let (f, first) ← holding [ov] (getMethod ov m pl)
      callWith pos f first (backTo pos (starEach (e :: es) X.env)) (backToKw pos (keywordEach [] X.env))) := by rfl) :
    PE X (.Call (.Attribute o m apos) (e :: es) [] pos) (tCFun C sp dvs E ta t) := by
  refine ⟨fun pins s σ H Q I h => ?_⟩
  refine PySem.W.methodCall_KW (pl := pl) (thn (he.run pins s σ H _ I h) fun u s1 ⟨x, H1, I1, rx, ex, q⟩ => ?_) ht
  subst ex
  obtain rfl : u = Value.ref C := rx
  refine PySem.W.method_cls I1.kIn r.ga (PySem.W.cls_value I1.kIn r.rd c rfl ?_)
  have I2 := I1.tok (s1.toks + 1)
  refine PySem.W.callWith_K (first := []) (h₀ := X.base) I2.ok.mod.kin hk (thn (ha.run pos pins _ σ H1 _ I2 q) fun us s2 ⟨vs, H2, I3, rv, q2⟩ => ⟨I3.kIn, ?_⟩) hst hpl
  exact run_fn F hr hb hd hx I3 rv q2
end
end S

set_option Elab.async false
set_option linter.all false
set_option maxRecDepth 100000
set_option maxHeartbeats 4000000
/-! S2: a class's defs in short; a scale's object. -/
namespace S
open PySem PySem.Spec PyProof.Rows L2 Evl J ClX StX
/-- a class's def, with its promise -/
structure MCal (P : Program) (w : World) (K : PySem.W.Frag) (mg : Str → Option Value) (base : Heap) (CX : CXT) (k : Nat) (C : Addr) (m : Str) (ps : List Str) (sp : Sp) : Prop where
  ex : ∃ (f : Addr) (fd : FuncData), Cls K C ∧ Meth K C m f ∧ Binds K fd ps [] ∧ FnOk P w K mg base CX k f fd ps sp
/-- what of an instance's class is read: its fields stand in no class -/
structure ClsF (K : PySem.W.Frag) (C : Addr) (fl : List Str) : Prop where
  cl : Cls K C
  no : ∀ f ∈ fl, NoAttr K C f
section
variable {X : Cx} {CX : CXT} {k : Nat} {C : Addr} {m : Str} {ps : List Str} {sp : Sp} {E : XK} {o e : Expr} {es : List Expr} {pos apos : Pos} {ta : TE} {t : TA} {pl : Sem Bool}
theorem MCal.mono {P : Program} {w : World} {K : PySem.W.Frag} {mg : Str → Option Value} {base : Heap} {j : Nat} (c : MCal P w K mg base CX j C m ps sp) (h : j ≤ k) : MCal P w K mg base CX k C m ps sp := by
  obtain ⟨f, fd, q1, q2, q3, q4⟩ := c.ex
  exact ⟨f, fd, q1, q2, q3, q4.mono h⟩
theorem pe_mcal (c : MCal X.prog X.w X.K X.mg X.base CX k C m ps sp) (he : PE X o ta) (hr : Room k X.A) (hx : Passes CX X E) (ha : PA X (e :: es) t)
    (hst : starEach (e :: es) X.env = (false, eval e X.env) :: starEach es X.env := by rfl) (hpl : (backTo pos (starEach es X.env)).any (·.1) = false := by rfl)
    (ht : eval (.Call (.Attribute o m apos) (e :: es) [] pos) X.env = (do
      let ov ← eval o X.env
      standAt apos.atName
      let (f, first) ← holding [ov] (getMethod ov m pl)
      callWith pos f first (backTo pos (starEach (e :: es) X.env)) (backToKw pos (keywordEach [] X.env))) := by rfl) :
    PE X (.Call (.Attribute o m apos) (e :: es) [] pos) (tMeth C m sp [] E ta t) := by
  obtain ⟨f, fd, q1, q2, q3, q4⟩ := c.ex
  exact pe_meth he q1 q2 q4 hr q3 .nil hx ha hst hpl ht
theorem pe_mcal0 (c : MCal X.prog X.w X.K X.mg X.base CX k C m ps sp) (he : PE X o ta) (hr : Room k X.A) (hx : Passes CX X E)
    (ht : eval (.Call (.Attribute o m apos) [] [] pos) X.env = (do
      let ov ← eval o X.env
      standAt apos.atName
      let (f, first) ← holding [ov] (getMethod ov m pl)
      callWith pos f first (backTo pos (starEach [] X.env)) (backToKw pos (keywordEach [] X.env))) := by rfl) :
    PE X (.Call (.Attribute o m apos) [] [] pos) (tMeth C m sp [] E ta tNil) := by
  obtain ⟨f, fd, q1, q2, q3, q4⟩ := c.ex
  exact pe_meth0 he q1 q2 q4 hr q3 .nil hx ht
theorem op_niM (c : MCal X.prog X.w X.K X.mg X.base CX k C "__contains__" ps sp) (hr : Room k X.A) (hx : Passes CX X E) : OpR X (compareOp .NotIn) (rInOwn C sp E true) := by
  obtain ⟨f, fd, q1, q2, q3, q4⟩ := c.ex
  exact op_niOwn q4 hr q2.at_ q2.fn q3 hx
theorem op_inM (c : MCal X.prog X.w X.K X.mg X.base CX k C "__contains__" ps sp) (hr : Room k X.A) (hx : Passes CX X E) : OpR X (compareOp .In) (rInOwn C sp E false) := by
  obtain ⟨f, fd, q1, q2, q3, q4⟩ := c.ex
  exact op_inOwn q4 hr q2.at_ q2.fn q3 hx
end
/-! ### readings -/
section
variable {K : PySem.W.Frag} {σ : L2.St} {H : Hp} {te ta tb : TE} {t : TA} {a C dx : Addr} {fs : List (Str × V)} {v z : V} {f m : Str} {sp : Sp} {vs : List V}
theorem ev_fld (h : Ev te σ H (.ref a)) (c : Cls K C) (n : NoAttr K C f) (ha : H a = some (.ins C dx fs)) (l : fs.lookup f = some v) : Ev (tFld K te f) σ H v := fun H1 e Q q =>
  h H1 e _ fun H2 e2 => ⟨a, C, dx, fs, v, rfl, e2 _ _ (e _ _ ha), c, n, l, q H2 e2⟩
/-- o.m(..) whose promise tells one value -/
theorem ev_mcal (h : Ev te σ H (.ref a)) (hA : EvA t σ H vs) (ha : H a = some (.ins C dx fs)) (l : fs.lookup m = none) (s : ∀ H1, Ex H H1 → ∀ Q : VK, RetV z H1 Q → sp (.ref a :: vs ++ []) H1 Q E0) : Ev (tMeth C m sp [] E0 te t) σ H z := fun H1 e Q q =>
  h H1 e _ fun H2 e2 => ⟨a, dx, fs, rfl, e2 _ _ (e _ _ ha), l, hA H2 (e.trans e2) _ fun H3 e3 => s H3 ((e.trans e2).trans e3) Q fun H4 e4 => q H4 ((e2.trans e3).trans e4)⟩
theorem el_mcal {xs : List V} (h : Ev te σ H (.ref a)) (hA : EvA t σ H vs) (ha : H a = some (.ins C dx fs)) (l : fs.lookup m = none) (s : ∀ H1, Ex H H1 → ∀ Q : VK, RetL xs H1 Q → sp (.ref a :: vs ++ []) H1 Q E0) : EvL (tMeth C m sp [] E0 te t) σ H xs := fun H1 e Q q =>
  h H1 e _ fun H2 e2 => ⟨a, dx, fs, rfl, e2 _ _ (e _ _ ha), l, hA H2 (e.trans e2) _ fun H3 e3 => s H3 ((e.trans e2).trans e3) Q fun p H4 n4 e4 h4 => q p H4 (fresh_back (e2.trans e3) n4) ((e2.trans e3).trans e4) h4⟩
theorem ev_dget {d : Addr} {kvs : List (Key × V)} {key : Key} (h : Ev ta σ H (.ref d)) (hk : Ev tb σ H (kV key)) (hd : H d = some (.dK kvs)) (hv : valV kvs key = some v) : Ev (tDGet ta tb) σ H v := fun H1 e Q q =>
  h H1 e _ fun H2 e2 => hk H2 (e.trans e2) _ fun H3 e3 => ⟨d, v, rfl, by rw [← hv]; exact DGet.k (e3 _ _ (e2 _ _ (e _ _ hd))), q H3 (e2.trans e3)⟩
theorem ev_din {d : Addr} {kvs : List (Key × V)} {key : Key} (hk : Ev tb σ H (kV key)) (h : Ev ta σ H (.ref d)) (hd : H d = some (.dK kvs)) : Ev (tDIn tb ta) σ H (.bl (valV kvs key).isSome) := fun H1 e Q q =>
  hk H1 e _ fun H2 e2 => h H2 (e.trans e2) _ fun H3 e3 => ⟨d, _, rfl, DGet.k (e3 _ _ (e2 _ _ (e _ _ hd))), q H3 (e2.trans e3)⟩
theorem ev_isi {u w : String} {b : Bool} (h : Ev te σ H v) (ty : ∀ H1, Ex H H1 → TyX K H1 v (.type w)) (kb : kitB w u = some b) : Ev (tCB (rIsi K) (tCons te (tCons (tC (.ty u)) tNil))) σ H (.bl b) := fun H1 e Q q =>
  h H1 e _ fun H2 e2 => ⟨v, .ty u, .type w, .type u, b, rfl, .ty u, ty H2 (e.trans e2), kit_ty kb, q H2 e2⟩
theorem ev_niO {b : Bool} {x : V} (hx : Ev ta σ H x) (h : Ev tb σ H (.ref a)) (ha : H a = some (.ins C dx fs)) (s : ∀ H1, Ex H H1 → ∀ Q : VK, RetV (.bl b) H1 Q → sp [.ref a, x] H1 Q E0) : Ev (tOp (rInOwn C sp E0 true) ta tb) σ H (.bl (!b)) := fun H1 e Q q =>
  hx H1 e _ fun H2 e2 => h H2 (e.trans e2) _ fun H3 e3 => ⟨a, dx, fs, rfl, e3 _ _ (e2 _ _ (e _ _ ha)), s H3 ((e.trans e2).trans e3) _ fun H4 e4 => ⟨b, rfl, q H4 ((e2.trans e3).trans e4)⟩⟩
end
/-! ### a scale's object -/
def tab (rows : List (List Str)) : PyData := .tuple (rows.map fun r => .tuple (r.map .str))
/-- the places of the grades -/
def plc : List Str → Nat → List (Key × V)
  | [], _ => []
  | x :: r, i => (Sum.inr x, .int (i : Int)) :: plc r (i + 1)
structure Wf (G : List Str) (J : List (List Str)) : Prop where
  len : J.length = G.length
  row : ∀ r ∈ J, r.length = G.length
  at_ : ∀ r ∈ J, ∀ x ∈ r, x ∈ G
def ap (G : List Str) (J : List (List Str)) (x y : Str) : Str := (J.getD (G.idxOf x) []).getD (G.idxOf y) ""
/-- none of the scales' defs is hidden by a field -/
def mths : List Str := ["_place", "join", "then", "grades", "joined", "_put_together", "__contains__", "meet", "met", "only"]
/-- a scale, as far as its first six fields tell -/
structure ScAt (K : PySem.W.Frag) (C : Addr) (H : Hp) (a : Addr) (G : List Str) (J T : List (List Str)) (lo hi : Str) : Prop where
  ex : ∃ (dx : Addr) (fs : List (Str × V)) (g d : Addr) (j t : V), H a = some (.ins C dx fs) ∧ fs.lookup ("_grades" : Str) = some (.ref g) ∧ SqT K H g (G.map .str) ∧ fs.lookup ("_places" : Str) = some (.ref d) ∧ H d = some (.dK (plc G 0)) ∧
    fs.lookup ("_joins" : Str) = some j ∧ Dp K H j (tab J) ∧ fs.lookup ("_products" : Str) = some t ∧ Dp K H t (tab T) ∧ fs.lookup ("none" : Str) = some (.str lo) ∧ fs.lookup ("nearest" : Str) = some (.str hi) ∧ ∀ m ∈ mths, fs.lookup m = none
  nd : G.Nodup
  sz : G.length ≤ 8
  wj : Wf G J
  wt : Wf G T
  lo : lo ∈ G
  hi : hi ∈ G
theorem ScAt.ext {K : PySem.W.Frag} {C : Addr} {H H' : Hp} {a : Addr} {G : List Str} {J T : List (List Str)} {lo hi : Str} (h : ScAt K C H a G J T lo hi) (e : Ex H H') : ScAt K C H' a G J T lo hi := by
  obtain ⟨dx, fs, g, d, j, t, h1, h2, h3, h4, h5, h6, h7, h8, h9, h10⟩ := h.ex
  exact ⟨⟨dx, fs, g, d, j, t, e _ _ h1, h2, ex_t e h3, h4, e _ _ h5, h6, dp_ext e h7, h8, dp_ext e h9, h10⟩, h.nd, h.sz, h.wj, h.wt, h.lo, h.hi⟩
theorem plc_none {x : Str} : ∀ {G : List Str} {i : Nat}, x ∉ G → valV (plc G i) (Sum.inr x) = none
  | [], _, _ => rfl
  | y :: r, i, h => by
    have hy : y ≠ x := fun z => h (by rw [z]; exact List.mem_cons_self)
    have hr : x ∉ r := fun z => h (List.mem_cons_of_mem _ z)
    have ih := plc_none (i := i + 1) hr
    unfold valV at ih ⊢
    unfold plc
    rw [List.find?_cons_of_neg]
    · exact ih
    · simpa using hy
theorem plc_some {x : Str} : ∀ {G : List Str} {i : Nat}, x ∈ G → valV (plc G i) (Sum.inr x) = some (.int ((i + G.idxOf x : Nat) : Int))
  | [], _, h => by simp at h
  | y :: r, i, h => by
    unfold valV plc
    by_cases hy : y = x
    · subst hy
      rw [List.find?_cons_of_pos (by simp)]
      simp
    · have hr : x ∈ r := by
        rcases List.mem_cons.mp h with z | z
        · exact absurd z.symm hy
        · exact z
      have ih := plc_some (i := i + 1) hr
      unfold valV at ih
      rw [List.find?_cons_of_neg (by simpa using hy), ih, List.idxOf_cons]
      have : (y == x) = false := by simpa using hy
      simp only [this, cond_false]
      congr 2
      omega
theorem idx_lt {G : List Str} {x : Str} (h : x ∈ G) : G.idxOf x < G.length := List.idxOf_lt_length_iff.mpr h
theorem ap_mem {G : List Str} {J : List (List Str)} {x y : Str} (w : Wf G J) (hx : x ∈ G) (hy : y ∈ G) : ap G J x y ∈ G := by
  unfold ap
  have h1 : G.idxOf x < J.length := by rw [w.len]; exact idx_lt hx
  have e1 : J.getD (G.idxOf x) [] = J[G.idxOf x] := by rw [List.getD_eq_getElem?_getD, List.getElem?_eq_getElem h1]; rfl
  rw [e1]
  have m1 : J[G.idxOf x] ∈ J := List.getElem_mem h1
  have h2 : G.idxOf y < (J[G.idxOf x]).length := by rw [w.row _ m1]; exact idx_lt hy
  rw [List.getD_eq_getElem?_getD, List.getElem?_eq_getElem h2]
  exact w.at_ _ m1 _ (List.getElem_mem h2)
/-- the entry at two grades' places -/
theorem tab_at {K : PySem.W.Frag} {H : Hp} {G : List Str} {J : List (List Str)} {j : V} {x y : Str} (w : Wf G J) (dp : Dp K H j (tab J)) (hx : x ∈ G) (hy : y ∈ G) :
    ∃ p r ys zs, j = .ref p ∧ SqT K H p ys ∧ atI ys (G.idxOf x : Int) = some (.ref r) ∧ SqT K H r zs ∧ atI zs (G.idxOf y : Int) = some (.str (ap G J x y)) := by
  have h1 : G.idxOf x < J.length := by rw [w.len]; exact idx_lt hx
  have m1 : J[G.idxOf x] ∈ J := List.getElem_mem h1
  have h2 : G.idxOf y < (J[G.idxOf x]).length := by rw [w.row _ m1]; exact idx_lt hy
  have ea : ap G J x y = (J[G.idxOf x])[G.idxOf y] := by
    unfold ap
    have e1 : J.getD (G.idxOf x) [] = J[G.idxOf x] := by rw [List.getD_eq_getElem?_getD, List.getElem?_eq_getElem h1]; rfl
    rw [e1, List.getD_eq_getElem?_getD, List.getElem?_eq_getElem h2]
    rfl
  unfold tab at dp
  cases dp with
  | @tup p ys _ hs ha =>
    have hl := dpa_len ha
    rw [List.length_map] at hl
    have hv : ys[G.idxOf x]? = some ys[G.idxOf x] := List.getElem?_eq_getElem (by omega)
    obtain ⟨d1, hd1, dp1⟩ := dpa_get ha hv
    rw [List.getElem?_map, List.getElem?_eq_getElem h1] at hd1
    obtain rfl := Option.some.inj hd1
    generalize hyx : ys[G.idxOf x] = u at *
    cases dp1 with
    | @tup r zs _ hs2 ha2 =>
      have hl2 := dpa_len ha2
      rw [List.length_map] at hl2
      have hv2 : zs[G.idxOf y]? = some zs[G.idxOf y] := List.getElem?_eq_getElem (by omega)
      obtain ⟨d2, hd2, dp2⟩ := dpa_get ha2 hv2
      rw [List.getElem?_map, List.getElem?_eq_getElem h2] at hd2
      obtain rfl := Option.some.inj hd2
      generalize hyz : zs[G.idxOf y] = z at *
      cases dp2
      exact ⟨p, r, ys, zs, rfl, hs, atI_nat hv, hs2, by rw [ea]; exact atI_nat hv2⟩
end S

set_option Elab.async false
set_option linter.all false
set_option maxRecDepth 100000
set_option maxHeartbeats 8000000
/-! S3: a scale's defs: __contains__, _place, join, then, grades. -/
namespace K03
open PySem PySem.Spec PyProof.Rows L2 Evl J ClX StX S
def topS (i : Nat) : Stmt := PySem.Challenge.pw_neargrades_k03_first_faults.main.body.getD i (.Pass ⟨0, 0, 0, 0⟩)
def methS (c j : Nat) : Stmt := match topS c with
  | .ClassDef _ _ _ body _ _ _ _ _ _ _ => body.getD j (.Pass ⟨0, 0, 0, 0⟩)
  | s => s
abbrev FnP (K : PySem.W.Frag) (x : Str) (st : Stmt) (f : Addr) (fd : FuncData) : Prop := FunD K x x (defArgs st) (defBody st) (defScope st) [] [] f fd
abbrev FnM (K : PySem.W.Frag) (x q : Str) (st : Stmt) (f : Addr) (fd : FuncData) : Prop := FunD K x q (defArgs st) (defBody st) (defScope st) [] [] f fd
structure Bl (mg : Str → Option Value) : Prop where
  isi : mg "isinstance" = none
  str : mg "str" = none
  lst : mg "list" = none
  tup : mg "tuple" = none
  int : mg "int" = none
  len : mg "len" = none
  rng : mg "range" = none
abbrev sHas : Stmt := methS 17 1
abbrev sGrades : Stmt := methS 17 4
abbrev sJoin : Stmt := methS 17 5
abbrev sThen : Stmt := methS 17 6
abbrev sPlace : Stmt := methS 17 11
def fldN : List Str := ["none", "nearest", "_grades", "_places", "_joins", "_products", "_meets", "_onlys"]
def spHas (K : PySem.W.Frag) (C : Addr) : Sp := fun vs H Q _ => ∃ (a : Addr) (x : Str) (G : List Str) (J T : List (List Str)) (lo hi : Str), vs = [.ref a, .str x] ∧ ScAt K C H a G J T lo hi ∧ RetV (.bl (decide (x ∈ G))) H Q
def spPlace (K : PySem.W.Frag) (C : Addr) : Sp := fun vs H Q _ => ∃ (a : Addr) (x : Str) (G : List Str) (J T : List (List Str)) (lo hi : Str), vs = [.ref a, .str x] ∧ ScAt K C H a G J T lo hi ∧ x ∈ G ∧ RetV (.int (G.idxOf x : Int)) H Q
def spJoin (K : PySem.W.Frag) (C : Addr) (then_ : Bool) : Sp := fun vs H Q _ => ∃ (a : Addr) (x y : Str) (G : List Str) (J T : List (List Str)) (lo hi : Str), vs = [.ref a, .str x, .str y] ∧ ScAt K C H a G J T lo hi ∧ x ∈ G ∧ y ∈ G ∧ RetV (.str (ap G (if then_ then T else J) x y)) H Q
def spGrades (K : PySem.W.Frag) (C : Addr) : Sp := fun vs H Q _ => ∃ (a : Addr) (G : List Str) (J T : List (List Str)) (lo hi : Str), vs = [.ref a] ∧ ScAt K C H a G J T lo hi ∧ RetL (G.map V.str) H Q
section
variable {P : Program} {w : World} {K : PySem.W.Frag} {mg : Str → Option Value} {base : Heap} {f : Addr} {fd : FuncData} {C : Addr}
abbrev NHas : List Str := ["self", "x"]
abbrev NPlace : List Str := ["self", "grade"]
abbrev NJoin : List Str := ["self", "a", "b"]
theorem scHas : FnScope NHas ["self", "x"] (defScope sHas) := ⟨rfl, rfl, rfl, by decide +kernel, rfl, by decide +kernel, by decide +kernel⟩
theorem scPlace : FnScope NPlace ["self", "grade"] (defScope sPlace) := ⟨rfl, rfl, rfl, by decide +kernel, rfl, by decide +kernel, by decide +kernel⟩
theorem scJoin : FnScope NJoin ["self", "a", "b"] (defScope sJoin) := ⟨rfl, rfl, rfl, by decide +kernel, rfl, by decide +kernel, by decide +kernel⟩
theorem scThen : FnScope NJoin ["self", "a", "b"] (defScope sThen) := ⟨rfl, rfl, rfl, by decide +kernel, rfl, by decide +kernel, by decide +kernel⟩
theorem scGrades : FnScope ["self"] ["self"] (defScope sGrades) := ⟨rfl, rfl, rfl, by decide +kernel, rfl, by decide +kernel, by decide +kernel⟩
theorem ok_has (F : FnM K "__contains__" "Scale.__contains__" sHas f fd) (T : Bl mg) (cf : ClsF K C fldN) : FnOk P w K mg base CX0 1 f fd ["self", "x"] (spHas K C) := by
  refine F.ok scHas (fun vs H Q E h => ?_) (fun cdv A outer s H vs Q E hr h => ?_)
  · obtain ⟨a, x, G, J, T, lo, hi, rfl, _⟩ := h
    rfl
  · obtain ⟨a, x, G, J, T', lo, hi, rfl, sc, q⟩ := h
    have hu : (A.deeper (envOfC "Scale.__contains__" (defScope sHas) s.heap.objs.size f cdv)).units + 1 < cLine := by
      have := hr.un
      omega
    refine ⟨_, pss_one (ps_ret (pe_and (pe_callB call_isi (by rfl) T.isi boot_isinstance (pa_cons (pv 1) (pa_cons (pe_bltn (v := .ty "str") (by rfl) T.str Boot.«str» rfl) pa_nil))) (pe_one (pe_cmp (pc_din hu (pv 1) (pe_fld (pv 0) rfl)))))), ?_⟩
    obtain ⟨dx, fs, g, d, j, t, h1, h2, h3, h4, h5, _⟩ := sc.ex
    refine s_ret (ev_is (w := .bl (decide (x ∈ G))) (ev_andV (ev_isi (ev_var rfl) (fun H1 e => .base (.str x)) (by decide +kernel : kitB "str" "str" = some true)) (fun _ => ev_din (key := Sum.inr x) (ev_var rfl) (ev_fld (ev_var rfl) cf.cl (cf.no _ (by decide)) h1 h4) h5)) ?_) fun H2 e2 => q H2 e2
    by_cases hx : x ∈ G
    · rw [plc_some hx]
      simp [hx]
    · rw [plc_none hx]
      simp [hx]
theorem ok_place (F : FnM K "_place" "Scale._place" sPlace f fd) (cf : ClsF K C fldN) (cH : MCal P w K mg base CX0 1 C "__contains__" ["self", "x"] (spHas K C)) : FnOk P w K mg base CX0 2 f fd ["self", "grade"] (spPlace K C) := by
  refine F.ok scPlace (fun vs H Q E h => ?_) (fun cdv A outer s H vs Q E hr h => ?_)
  · obtain ⟨a, x, G, J, T, lo, hi, rfl, _⟩ := h
    rfl
  · obtain ⟨a, x, G, J, T', lo, hi, rfl, sc, hx, q⟩ := h
    have hu : (A.deeper (envOfC "Scale._place" (defScope sPlace) s.heap.objs.size f cdv)).units + 1 < cLine := by
      have := hr.un
      omega
    refine ⟨_, pss_cons (ps_if (pt_cmpR (op_niM cH hr pass0) (pv 1) (pv 0) rfl) pss_no pss_nil) (pss_one (ps_ret (pe_dget hu (pe_fld (pv 0) rfl) (pv 1) (fun _ _ => rfl)))), ?_⟩
    obtain ⟨dx, fs, g, d, j, t, h1, h2, h3, h4, h5, _⟩ := sc.ex
    refine q_when (b := false) (et_test (ev_is (ev_niO (b := decide (x ∈ G)) (ev_var rfl) (ev_var rfl) h1 (fun H1 e Q q => ⟨a, x, G, J, T', lo, hi, rfl, sc.ext e, q⟩)) (by simp [hx]))) (fun z => nomatch z) (fun _ H1 e1 => ?_)
    exact s_ret (ev_is (ev_dget (key := Sum.inr x) (ev_fld (ev_var rfl) cf.cl (cf.no _ (by decide)) (e1 _ _ h1) h4) (ev_var rfl) (e1 _ _ h5) (plc_some hx)) (by simp)) fun H2 e2 => q H2 (e1.trans e2)
theorem ok_join (F : FnM K "join" "Scale.join" sJoin f fd) (cf : ClsF K C fldN) (cP : MCal P w K mg base CX0 2 C "_place" ["self", "grade"] (spPlace K C)) : FnOk P w K mg base CX0 3 f fd ["self", "a", "b"] (spJoin K C false) := by
  refine F.ok scJoin (fun vs H Q E h => ?_) (fun cdv A outer s H vs Q E hr h => ?_)
  · obtain ⟨a, x, y, G, J, T, lo, hi, rfl, _⟩ := h
    rfl
  · obtain ⟨a, x, y, G, J, T', lo, hi, rfl, sc, hx, hy, q⟩ := h
    refine ⟨_, pss_one (ps_ret (pe_ix ix_tup (pe_ix ix_tup (pe_fld (pv 0) rfl) (pe_mcal cP (pv 0) hr pass0 (pa_cons (pv 1) pa_nil)) (fun _ _ => rfl)) (pe_mcal cP (pv 0) hr pass0 (pa_cons (pv 2) pa_nil)) (fun _ _ => rfl))), ?_⟩
    obtain ⟨dx, fs, g, d, j, t, h1, h2, h3, h4, h5, h6, h7, h8, h9, h10, h11, hm⟩ := sc.ex
    obtain ⟨p, r, ys, zs, rfl, t1, t2, t3, t4⟩ := tab_at sc.wj h7 hx hy
    have pl : ∀ i z, z ∈ G → ([some (V.ref a), some (V.str x), some (V.str y)] : L2.St)[i]? = some (some (V.str z)) → Ev (tMeth C "_place" (spPlace K C) [] E0 (tVar 0) (tCons (tVar i) tNil)) [some (.ref a), some (.str x), some (.str y)] H (.int (G.idxOf z : Int)) := fun i z hz hi =>
      ev_mcal (ev_var rfl) (ea_cons (ev_var hi) ea_nil) h1 (hm _ (by decide)) fun H1 e Q q => ⟨a, z, G, J, T', lo, _, rfl, sc.ext e, hz, q⟩
    exact s_ret (ev_op (ev_op (ev_fld (ev_var rfl) cf.cl (cf.no _ (by decide)) h1 h6) (pl 1 x hx rfl) (rv_ixT t1 t2)) (pl 2 y hy rfl) (rv_ixT t3 t4)) fun H2 e2 => q H2 e2
theorem ok_then (F : FnM K "then" "Scale.then" sThen f fd) (cf : ClsF K C fldN) (cP : MCal P w K mg base CX0 2 C "_place" ["self", "grade"] (spPlace K C)) : FnOk P w K mg base CX0 3 f fd ["self", "a", "b"] (spJoin K C true) := by
  refine F.ok scThen (fun vs H Q E h => ?_) (fun cdv A outer s H vs Q E hr h => ?_)
  · obtain ⟨a, x, y, G, J, T, lo, hi, rfl, _⟩ := h
    rfl
  · obtain ⟨a, x, y, G, J, T', lo, hi, rfl, sc, hx, hy, q⟩ := h
    refine ⟨_, pss_one (ps_ret (pe_ix ix_tup (pe_ix ix_tup (pe_fld (pv 0) rfl) (pe_mcal cP (pv 0) hr pass0 (pa_cons (pv 1) pa_nil)) (fun _ _ => rfl)) (pe_mcal cP (pv 0) hr pass0 (pa_cons (pv 2) pa_nil)) (fun _ _ => rfl))), ?_⟩
    obtain ⟨dx, fs, g, d, j, t, h1, h2, h3, h4, h5, h6, h7, h8, h9, h10, h11, hm⟩ := sc.ex
    obtain ⟨p, r, ys, zs, rfl, t1, t2, t3, t4⟩ := tab_at sc.wt h9 hx hy
    have pl : ∀ i z, z ∈ G → ([some (V.ref a), some (V.str x), some (V.str y)] : L2.St)[i]? = some (some (V.str z)) → Ev (tMeth C "_place" (spPlace K C) [] E0 (tVar 0) (tCons (tVar i) tNil)) [some (.ref a), some (.str x), some (.str y)] H (.int (G.idxOf z : Int)) := fun i z hz hi =>
      ev_mcal (ev_var rfl) (ea_cons (ev_var hi) ea_nil) h1 (hm _ (by decide)) fun H1 e Q q => ⟨a, z, G, J, T', lo, _, rfl, sc.ext e, hz, q⟩
    exact s_ret (ev_op (ev_op (ev_fld (ev_var rfl) cf.cl (cf.no _ (by decide)) h1 h8) (pl 1 x hx rfl) (rv_ixT t1 t2)) (pl 2 y hy rfl) (rv_ixT t3 t4)) fun H2 e2 => q H2 e2
theorem ok_grades (F : FnM K "grades" "Scale.grades" sGrades f fd) (T : Bl mg) (cf : ClsF K C fldN) : FnOk P w K mg base CX0 1 f fd ["self"] (spGrades K C) := by
  refine F.ok scGrades (fun vs H Q E h => ?_) (fun cdv A outer s H vs Q E hr h => ?_)
  · obtain ⟨a, G, J, T, lo, hi, rfl, _⟩ := h
    rfl
  · obtain ⟨a, G, J, T', lo, hi, rfl, sc, q⟩ := h
    refine ⟨_, pss_one (ps_ret (pe_callTy call_list_of rfl T.lst Boot.«list» (pa_cons (pe_fld (pv 0) rfl) pa_nil))), ?_⟩
    obtain ⟨dx, fs, g, d, j, t, h1, h2, h3, h4, h5, _⟩ := sc.ex
    exact ⟨_, rfl, a, C, dx, fs, .ref g, rfl, h1, cf.cl, cf.no _ (by decide), h2, g, _, rfl, .inr h3, fun l hl => q l _ hl (Ex.new hl) upd_same⟩
end
end K03

set_option Elab.async false
set_option linter.all false
set_option maxRecDepth 100000
set_option maxHeartbeats 4000000
/-! S4: comprehensions of data (each item its own data), dicts of new lists; truth, tails. -/
namespace S
open PySem PySem.Spec PyProof.Rows L2 Evl J ClX StX
section
variable {K : PySem.W.Frag} {σ : L2.St} {B H : Hp} {te tl ta : TE} {d : PyData} {es ds : List PyData} {vs : List Nat} {j : Nat} {xs : List V} {a : Addr} {v : V}
/-- data, put together of what stood in B and of what is new -/
def EvQ (K : PySem.W.Frag) (te : TE) (σ : L2.St) (B : Hp) (d : PyData) : Prop := ∀ H1, Ex B H1 → ∀ Q : VK, (∀ v H2, Ex H1 H2 → Dq K B H1 H2 v d → Q v H2) → te σ H1 Q
def EvQL (K : PySem.W.Frag) (te : TE) (σ : L2.St) (B : Hp) (es : List PyData) : Prop := ∀ H1, Ex B H1 → ∀ Q : VK, (∀ p ys H2, H1 p = none → Ex H1 H2 → H2 p = some (.lst ys) → DpAll K (rst B H1 H2) ys es → Q (.ref p) H2) → te σ H1 Q
theorem qd_ev (h : Ev te σ B v) (dp : Dp K B v d) : EvQ K te σ B d := fun H1 e Q q => h H1 e _ fun H2 e2 => q v H2 e2 (Dq.of dp (e.trans e2))
theorem qd_tup (h : EvQL K te σ B es) : EvQ K (tThen te (kTup K)) σ B (.tuple es) := fun H1 e Q q =>
  h H1 e _ fun p ys H2 hp e2 h2 da => .inl ⟨p, ys, rfl, sq_of h2, fun r hr => q (.ref r) _ (e2.trans (Ex.new hr)) (.tup (xs := ys) (st_of (by rw [rst_in (.inr (fresh_back e2 hr)), upd_same])) (dpa_ext (rst_mono (fun b z => z) fun b o _ z => (Ex.new hr) b o z) da))⟩
theorem qd_to (h : EvQ K te σ B d) : K13.EvD K te σ B d := fun H1 e Q q => h H1 e _ fun v H2 e2 dq => q v H2 e2 dq.dp
theorem qd_lc (hv : Ev tl σ B (.ref a)) (hx : SqL K B a xs) (len : xs.length = es.length) (hz : xs.length ≤ 1000) (hw : ∀ x, wipe ((wipe σ vs).set j (some x)) vs = wipe σ vs)
    (el : ∀ (i : Nat) (x : V) (e : PyData), xs[i]? = some x → es[i]? = some e → EvQ K te ((wipe σ vs).set j (some x)) B e) : EvQL K (tLc (iList K tl) (gName j) tYes te vs) σ B es := fun H1 eB Q k =>
  hv H1 eB _ fun H0 e0 => ⟨a, rfl, ⟨xs, ex_l (eB.trans e0) hx⟩, fun D hD => by
    refine lc_list (xs := xs) (Lg K es B H0 D) (lg_start hD) (fun i H2 _ g => ex_l ((eB.trans e0).trans g.2.1) hx) (fun i x H2 hi g => ⟨hw x, ?_⟩) (fun H2 g => ?_)
    · have hil := (List.getElem?_eq_some_iff.mp hi).1
      have h1 : es[i]? = some es[i] := List.getElem?_eq_getElem (by omega)
      show te _ H2 _
      refine el i x _ hi h1 H2 ((eB.trans e0).trans g.2.1) _ fun y H3 e3 dq => ?_
      exact lg_step (eB.trans e0) g (by omega) e3 h1 dq
    · rw [len] at g
      obtain ⟨ys, h1, h2⟩ := lg_end (eB.trans e0) g
      exact k D ys H2 (fresh_back e0 hD) (e0.trans g.2.1) h1 (dpa_ext (rst_mono (fun b z => fresh_back e0 z) fun b o _ z => z) h2)⟩
/-! ### truth, tails -/
theorem et_list {xs : List V} {p : Addr} (h : Ev te σ H (.ref p)) (hs : SqL K H p xs) : EvT (fun σ H Q => te σ H fun x H' => ∃ k, TruV K x H' k ∧ Q k H') σ H (!xs.isEmpty) := fun H1 e Q q =>
  h H1 e _ fun H2 e2 => ⟨_, .inl ⟨xs, ex_l (e.trans e2) hs, rfl⟩, q H2 e2⟩
theorem cut_tail (x : V) (r : List V) : cutV (x :: r) (some 1) none = r := by
  unfold cutV
  have e : HT.sIx (x :: r).length 0 (some 1) = min 1 (x :: r).length := HT.sIx_nat (x :: r).length 0 1
  have e2 : HT.sIx (x :: r).length (x :: r).length none = (x :: r).length := rfl
  rw [e, e2]
  have : min 1 (x :: r).length = 1 := by simp
  rw [this]
  simp
/-! ### a dict comprehension: keys texts, values new lists -/
/-- the dict as it has grown: key i has a list of as i -/
def Dg (H : Hp) (gs : List Str) (as : Str → List V) (D : Addr) (n : Nat) (H2 : Hp) : Prop :=
  H D = none ∧ Ex H H2 ∧ ∃ kvs, H2 D = some (.dK kvs) ∧ kvs.length ≤ n ∧ ∀ i x, i < n → gs[i]? = some x → ∃ l, valV kvs (Sum.inr x) = some (.ref l) ∧ l ≠ D ∧ H2 l = some (.lst (as x))
theorem valV_put {kvs : List (Key × V)} {k k2 : Key} {v : V} : valV (putK kvs k v) k2 = if k2 = k then some v else valV kvs k2 := by
  unfold putK valV
  split
  · rename_i h
    induction kvs with
    | nil => simp at h
    | cons p r ih =>
      obtain ⟨q, u⟩ := p
      by_cases hq : q = k
      · subst hq
        by_cases h2 : k2 = q
        · subst h2
          simp
        · have h3 : q ≠ k2 := fun z => h2 z.symm
          simp only [List.map_cons, if_true, h2, if_false]
          rw [List.find?_cons_of_neg (by simpa using h3), List.find?_cons_of_neg (by simpa using h3)]
          congr 1
          clear ih h
          induction r with
          | nil => rfl
          | cons p r ih2 =>
            obtain ⟨q2, u2⟩ := p
            by_cases hq2 : q2 = q
            · subst hq2
              simp only [List.map_cons, if_true]
              rw [List.find?_cons_of_neg (by simpa using h3), List.find?_cons_of_neg (by simpa using h3), ih2]
            · simp only [List.map_cons, hq2, if_false]
              by_cases hk : q2 = k2
              · rw [List.find?_cons_of_pos (by simpa using hk), List.find?_cons_of_pos (by simpa using hk)]
              · rw [List.find?_cons_of_neg (by simpa using hk), List.find?_cons_of_neg (by simpa using hk), ih2]
      · have hr : (r.any fun kv => decide (kv.1 = k)) = true := by simpa [hq] using h
        have ih := ih hr
        simp only [List.map_cons, hq, if_false]
        by_cases hk : q = k2
        · subst hk
          rw [List.find?_cons_of_pos (by simp), List.find?_cons_of_pos (by simp), if_neg hq]
        · rw [List.find?_cons_of_neg (by simpa using hk), List.find?_cons_of_neg (by simpa using hk)]
          exact ih
  · rename_i h
    rw [List.find?_append]
    by_cases h2 : k2 = k
    · subst h2
      have : (kvs.find? fun kv => decide (kv.1 = k2)) = none := by
        rw [List.find?_eq_none]
        intro p hp z
        apply h
        rw [List.any_eq_true]
        exact ⟨p, hp, z⟩
      rw [this]
      simp
    · simp only [h2, if_false]
      cases kvs.find? fun kv => decide (kv.1 = k2) with
      | some p => simp
      | none =>
        have h3 : k ≠ k2 := fun z => h2 z.symm
        simp [h3]
theorem putK_len {kvs : List (Key × V)} {k : Key} {v : V} : (putK kvs k v).length ≤ kvs.length + 1 := by
  unfold putK
  split
  · simp
  · simp
/-- {x: [..] for x in list of texts} -/
theorem dc_lists {tk : TE} {gs : List Str} {as : Str → List V} (hv : Ev tl σ H (.ref a)) (hx : SqL K H a (gs.map V.str)) (hz : gs.length ≤ 1000) (hw : ∀ x, wipe ((wipe σ vs).set j (some x)) vs = wipe σ vs)
    (ek : ∀ x, x ∈ gs → Ev tk ((wipe σ vs).set j (some (.str x))) H (.str x)) (el : ∀ x, x ∈ gs → EvL te ((wipe σ vs).set j (some (.str x))) H (as x))
    {Q : VK} (k : ∀ D H2 kvs, H D = none → Ex H H2 → H2 D = some (.dK kvs) → (∀ x, x ∈ gs → ∃ l, valV kvs (Sum.inr x) = some (.ref l) ∧ H2 l = some (.lst (as x))) → Q (.ref D) H2) : tDc (iList K tl) (gName j) tYes tk te vs σ H Q := by
  refine hv H (Ex.refl H) _ fun H0 e0 => ⟨a, rfl, ⟨_, ex_l e0 hx⟩, fun D hD => ?_⟩
  refine ⟨fun i m H' => m = gs.length - i ∧ i ≤ gs.length ∧ Dg H0 gs as D i H', ⟨gs.length, by simp, Nat.zero_le _, hD, Ex.new hD, [], upd_same, Nat.le_refl _, fun i x hi => absurd hi (Nat.not_lt_zero _)⟩, ?_⟩
  rintro i m H' ⟨rfl, hi, g0, g1, kvs, g2, g3, g4⟩
  have q := ex_l (e0.trans g1) hx
  by_cases hlt : i < gs.length
  · refine .inr ⟨⟨gs.map V.str, .str gs[i], q, by simp [hlt]⟩, fun H5 => Dg H0 gs as D (i + 1) H5, fun H5 p' => ⟨gs.length - (i + 1), by omega, rfl, hlt, p'⟩, fun x H5 y => ?_⟩
    obtain ⟨e5, y⟩ := y
    subst e5
    have hxi : x = .str gs[i] := by
      have := y (gs.map V.str) q
      simpa [hlt] using this.symm
    subst hxi
    have mem : gs[i] ∈ gs := List.getElem_mem hlt
    refine ⟨hw _, ?_⟩
    show tk _ H5 _
    refine ek _ mem H5 (e0.trans g1) _ fun H6 e6 => el _ mem H6 ((e0.trans g1).trans e6) _ fun l H7 nl e7 h7 => ?_
    have d7 := e7 _ _ (e6 _ _ g2)
    have nlD : l ≠ D := fun z => by
      subst z
      have := e6 _ _ g2
      rw [nl] at this
      cases this
    refine ⟨kvs, Sum.inr gs[i], rfl, d7, sz_lt (by omega), g0, Ex.mut ((g1.trans e6).trans e7) g0, _, upd_same, Nat.le_trans putK_len (by omega), fun n x hn hx2 => ?_⟩
    by_cases hnx : x = gs[i]
    · subst hnx
      exact ⟨l, by rw [valV_put, if_pos rfl], nlD, by rw [upd_ne nlD]; exact h7⟩
    · have hne : n ≠ i := fun z => by
        subst z
        rw [List.getElem?_eq_getElem hlt] at hx2
        exact hnx (Option.some.inj hx2).symm
      obtain ⟨l2, q1, q2, q3⟩ := g4 n x (by omega) hx2
      refine ⟨l2, ?_, q2, by rw [upd_ne q2]; exact e7 _ _ (e6 _ _ q3)⟩
      rw [valV_put, if_neg (fun z => hnx (Sum.inr.inj z))]
      exact q1
  · have e : i = gs.length := by omega
    subst e
    refine .inl ⟨⟨_, q, by simp⟩, k D H' kvs (fresh_back e0 g0) (e0.trans g1) g2 fun x hx2 => ?_⟩
    obtain ⟨n, hn, rfl⟩ := List.getElem_of_mem hx2
    obtain ⟨l, q1, _, q3⟩ := g4 n gs[n] hn (List.getElem?_eq_getElem hn)
    exact ⟨l, q1, q3⟩
end
end S
namespace S
open PySem PySem.Spec PyProof.Rows L2 Evl J ClX StX
section
variable {K : PySem.W.Frag} {σ : L2.St} {H : Hp} {te : TE} {a : Addr}
theorem el_tail {x : V} {r : List V} (h : Ev te σ H (.ref a)) (hs : SqL K H a (x :: r)) : EvL (tSl (rSlL K) te (tPart (tC (.int 1))) tNoPart) σ H r := by
  have z := el_sl h (eo_some (ev_c (v := .int 1))) eo_none hs
  rw [cut_tail] at z
  exact z
theorem given_all {n : Nat} {v : Nat → V} : given n (fun _ => true) v = (List.range n).map v := by
  unfold given
  rw [List.filter_eq_self.mpr (fun _ _ => rfl)]
theorem range_items {α β : Type} (f : α → β) (d : α) (xs : List α) : (List.range xs.length).map (fun i => f (xs.getD i d)) = xs.map f := by
  apply List.ext_getElem
  · simp
  · intro i h1 h2
    have h3 : i < xs.length := by simpa using h2
    simp [List.getD_eq_getElem?_getD, List.getElem?_eq_getElem h3]
/-- [f(x) for x in xs] -/
theorem el_map {α : Type} {g : α → V} {f : α → V} {d : α} {xs : List α} {tl : TE} {j : Nat} {vs : List Nat} (h : Ev tl σ H (.ref a)) (hx : SqL K H a (xs.map g)) (hz : xs.length ≤ 1000) (hw : ∀ x, wipe ((wipe σ vs).set j (some x)) vs = wipe σ vs)
    (he : ∀ x H1, Ex H H1 → x ∈ xs → Ev te ((wipe σ vs).set j (some (g x))) H1 (f x)) : EvL (tLc (iList K tl) (gName j) tYes te vs) σ H (xs.map f) := by
  have z := el_lcL (K := K) (te := te) (t := tYes) (fun _ => true) (fun i => f (xs.getD i d)) h hx (by rw [List.length_map]; omega) hw (fun i x H1 e hi => fun H2 _ _ q => q H2 (Ex.refl H2)) (fun i x H1 e hi _ => by
    rw [List.getElem?_map] at hi
    cases hg : xs[i]? with
    | none =>
      rw [hg] at hi
      cases hi
    | some y =>
      rw [hg] at hi
      obtain rfl := Option.some.inj hi
      rw [List.getD_eq_getElem?_getD, hg]
      exact he y H1 e (List.mem_of_getElem? hg))
  rw [given_all, List.length_map, range_items] at z
  exact z
/-- [x for x in xs if p(x)] -/
theorem el_filter {α : Type} {g f : α → V} {d : α} {xs : List α} {pr : α → Bool} {tl : TE} {t : TT} {j : Nat} {vs : List Nat} (h : Ev tl σ H (.ref a)) (hx : SqL K H a (xs.map g)) (hz : xs.length ≤ 1000) (hw : ∀ x, wipe ((wipe σ vs).set j (some x)) vs = wipe σ vs)
    (ht : ∀ x H1, Ex H H1 → x ∈ xs → EvT t ((wipe σ vs).set j (some (g x))) H1 (pr x)) (he : ∀ x H1, Ex H H1 → x ∈ xs → pr x = true → Ev te ((wipe σ vs).set j (some (g x))) H1 (f x)) : EvL (tLc (iList K tl) (gName j) t te vs) σ H ((xs.filter pr).map f) := by
  have at_ : ∀ i x, (xs.map g)[i]? = some x → ∃ y, xs[i]? = some y ∧ x = g y := fun i x hi => by
    rw [List.getElem?_map] at hi
    cases hg : xs[i]? with
    | none =>
      rw [hg] at hi
      cases hi
    | some y =>
      rw [hg] at hi
      exact ⟨y, hg, (Option.some.inj hi).symm⟩
  have gd : ∀ i y, xs[i]? = some y → xs.getD i d = y := fun i y h => by rw [List.getD_eq_getElem?_getD, h]; rfl
  have z := el_lcL (K := K) (te := te) (t := t) (fun i => pr (xs.getD i d)) (fun i => f (xs.getD i d)) h hx (by rw [List.length_map]; omega) hw (fun i x H1 e hi => by
    obtain ⟨y, hy, rfl⟩ := at_ i x hi
    rw [gd i y hy]
    exact ht y H1 e (List.mem_of_getElem? hy)) (fun i x H1 e hi hp => by
    obtain ⟨y, hy, rfl⟩ := at_ i x hi
    rw [gd i y hy] at hp ⊢
    exact he y H1 e (List.mem_of_getElem? hy) hp)
  have e : given (xs.map g).length (fun i => pr (xs.getD i d)) (fun i => f (xs.getD i d)) = (xs.filter pr).map f := by
    unfold given
    rw [List.length_map]
    have e1 : (List.range xs.length).map (fun i => xs.getD i d) = xs := by
      have := range_items (fun x : α => x) d xs
      simpa using this
    have e2 : ((List.range xs.length).filter fun i => pr (xs.getD i d)).map (fun i => xs.getD i d) = xs.filter pr := by
      conv => rhs; rw [← e1]
      rw [List.filter_map]
      rfl
    rw [← e2, List.map_map]
    rfl
  rw [e] at z
  exact z
end
/-- a row of grades put together -/
def put (G : List Str) (J : List (List Str)) (e : Str) : List Str → Str
  | [] => e
  | x :: r => r.foldl (ap G J) x
theorem fold_mem {G : List Str} {J : List (List Str)} (w : Wf G J) : ∀ {r : List Str} {x : Str}, x ∈ G → (∀ y ∈ r, y ∈ G) → r.foldl (ap G J) x ∈ G
  | [], _, hx, _ => hx
  | y :: r, x, hx, h => fold_mem (r := r) (x := ap G J x y) w (ap_mem w hx (h y List.mem_cons_self)) fun z hz => h z (List.mem_cons_of_mem _ hz)
theorem put_mem {G : List Str} {J : List (List Str)} {e : Str} (w : Wf G J) (he : e ∈ G) {xs : List Str} (h : ∀ y ∈ xs, y ∈ G) : put G J e xs ∈ G := by
  cases xs with
  | nil => exact he
  | cons x r => exact fold_mem w (h x List.mem_cons_self) fun z hz => h z (List.mem_cons_of_mem _ hz)
theorem idx_get {G : List Str} {x : Str} (h : x ∈ G) : G[G.idxOf x]? = some x := by
  rw [List.getElem?_eq_getElem (idx_lt h), List.getElem_idxOf]
theorem idx_str {G : List Str} {x : Str} (h : x ∈ G) : atI (G.map V.str) (G.idxOf x : Int) = some (.str x) := atI_nat (by rw [List.getElem?_map, idx_get h]; rfl)
end S

set_option Elab.async false
set_option linter.all false
set_option maxRecDepth 100000
set_option maxHeartbeats 8000000
/-! S5: within, joined, _put_together, _grades_below. -/
namespace K03
open PySem PySem.Spec PyProof.Rows L2 Evl J ClX StX S
abbrev sPut : Stmt := methS 17 12
abbrev sJoined : Stmt := methS 17 7
abbrev sWithin : Stmt := topS 9
abbrev sBelow : Stmt := topS 18
def spPut (K : PySem.W.Frag) (C : Addr) : Sp := fun vs H Q _ => ∃ (a l : Addr) (tb : V) (e : Str) (xs G : List Str) (J T U : List (List Str)) (lo hi : Str), vs = [.ref a, tb, .ref l, .str e] ∧ ScAt K C H a G J T lo hi ∧ Dp K H tb (tab U) ∧ Wf G U ∧ SqL K H l (xs.map V.str) ∧
  (∀ x ∈ xs, x ∈ G) ∧ xs.length ≤ 100 ∧ RetV (.str (put G U e xs)) H Q
def spJoined (K : PySem.W.Frag) (C : Addr) : Sp := fun vs H Q _ => ∃ (a l : Addr) (xs G : List Str) (J T : List (List Str)) (lo hi : Str), vs = [.ref a, .ref l] ∧ ScAt K C H a G J T lo hi ∧ SqL K H l (xs.map V.str) ∧ (∀ x ∈ xs, x ∈ G) ∧ xs.length ≤ 100 ∧ RetV (.str (put G J lo xs)) H Q
def spWithin (K : PySem.W.Frag) (C : Addr) : Sp := fun vs H Q _ => ∃ (a : Addr) (x y : Str) (G : List Str) (J T : List (List Str)) (lo hi : Str), vs = [.ref a, .str x, .str y] ∧ ScAt K C H a G J T lo hi ∧ x ∈ G ∧ y ∈ G ∧ RetV (.bl (decide (ap G J x y = y))) H Q
/-- the grades within a grade -/
def lowerOf (G : List Str) (J : List (List Str)) (x : Str) : List Str := G.filter fun a => decide (ap G J a x = x)
def BelowAt (G : List Str) (J : List (List Str)) (D : Addr) (H : Hp) : Prop := ∃ kvs, H D = some (.dK kvs) ∧ ∀ x, x ∈ G → ∃ l, valV kvs (Sum.inr x) = some (.ref l) ∧ H l = some (.lst ((lowerOf G J x).map V.str))
def spBelow (K : PySem.W.Frag) (C : Addr) : Sp := fun vs H Q _ => ∃ (a : Addr) (G : List Str) (J T : List (List Str)) (lo hi : Str), vs = [.ref a] ∧ ScAt K C H a G J T lo hi ∧ ∀ D H', H D = none → Ex H H' → BelowAt G J D H' → Q (.ref D) H'
section
variable {P : Program} {w : World} {K : PySem.W.Frag} {mg : Str → Option Value} {base : Heap} {f : Addr} {fd : FuncData} {C : Addr}
abbrev NPut : List Str := ["self", "table", "row", "empty", "places", "told", "place", "grade"]
abbrev NJd : List Str := ["self", "row"]
abbrev NWi : List Str := ["scale", "a", "b"]
abbrev NBe : List Str := ["scale", "grades", "b", "a"]
theorem scPut : FnScope NPut ["self", "table", "row", "empty"] (defScope sPut) := ⟨rfl, rfl, rfl, by decide +kernel, rfl, by decide +kernel, by decide +kernel⟩
theorem scJd : FnScope NJd ["self", "row"] (defScope sJoined) := ⟨rfl, rfl, rfl, by decide +kernel, rfl, by decide +kernel, by decide +kernel⟩
theorem scWi : FnScope NWi ["scale", "a", "b"] (defScope sWithin) := ⟨rfl, rfl, rfl, by decide +kernel, rfl, by decide +kernel, by decide +kernel⟩
theorem scBe : FnScope NBe ["scale"] (defScope sBelow) := ⟨rfl, rfl, rfl, by decide +kernel, rfl, by decide +kernel, by decide +kernel⟩
theorem ok_put (F : FnM K "_put_together" "Scale._put_together" sPut f fd) (cf : ClsF K C fldN) (cP : MCal P w K mg base CX0 2 C "_place" ["self", "grade"] (spPlace K C)) : FnOk P w K mg base CX0 3 f fd ["self", "table", "row", "empty"] (spPut K C) := by
  refine F.ok scPut (fun vs H Q E h => ?_) (fun cdv A outer s H vs Q E hr h => ?_)
  · obtain ⟨a, l, tb, e, xs, G, J, T, U, lo, hi, rfl, _⟩ := h
    rfl
  · obtain ⟨a, l, tb, e, xs, G, J, T, U, lo, hi, rfl, sc, dU, wU, hS, hG, hz, q⟩ := h
    have hu : (A.deeper (envOfC "Scale._put_together" (defScope sPut) s.heap.objs.size f cdv)).units + 1 < cLine := by
      have := hr.un
      omega
    refine ⟨_, PSs.nox (pss_cons (ps_setLc (i := 4) (own := [("grade", 7)]) (g := gName 7) (tt := tYes) rfl scPut.nd rfl rfl rfl (pi_list (pv 2)) (blkOk_by (N := NPut) (sc := defScope sPut) (by decide +kernel)) (fun _ _ _ _ _ => pg_name (i := 7) scPut.nd rfl (Or.inl rfl)) (fun _ _ _ _ _ => pts_nil) (fun _ _ _ _ _ => pe_mcal cP (pv 0) hr pass0 (pa_cons (pv 7) pa_nil)))
      (pss_cons (ps_if (pt_not (pt_truth (pv 4) (fun _ => rfl))) (pss_one (ps_ret (pv 3))) pss_nil)
      (pss_cons (ps_set (i := 5) scPut.nd rfl (Or.inl rfl) (pe_ix ix_tup (pe_fld (pv 0) rfl) (pe_ix ix_list (pv 4) pe_int (fun _ _ => rfl)) (fun _ _ => rfl)))
      (pss_cons (ps_for PassesOwn.never rfl (pi_list (pe_slice sl_list (pv 4) (po_some pe_int) po_none)) (pg_name (i := 6) scPut.nd rfl (Or.inl rfl)) (pss_one (ps_set (i := 5) scPut.nd rfl (Or.inl rfl) (pe_ix ix_tup (pe_ix ix_tup (pv 1) (pe_dget hu (pe_fld (pv 0) rfl) (pv 5) (fun _ _ => rfl)) (fun _ _ => rfl)) (pv 6) (fun _ _ => rfl)))))
      (pss_one (ps_ret (pv 5))))))), ?_⟩
    obtain ⟨dx, fs, g, d, j, t, h1, h2, h3, h4, h5, h6, h7, h8, h9, h10, h11, hm⟩ := sc.ex
    have hPlaces := h4
    refine q_asgL (el_map (d := "") (g := V.str) (f := fun x => .int (G.idxOf x : Int)) (ev_var rfl) hS (by omega) (fun x => rfl) (fun x H1 e hx => ev_mcal (ev_var rfl) (ea_cons (ev_var rfl) ea_nil) (e _ _ h1) (hm _ (by decide)) fun H2 e2 Q q => ⟨a, x, G, J, T, lo, hi, rfl, (sc.ext e).ext e2, hG x hx, q⟩)) fun p H1 n1 e1 hp => ?_
    cases xs with
    | nil => exact q_when (b := true) (et_is (et_not (et_list (ev_var rfl) (sq_of hp))) rfl) (fun _ H2 e2 => s_ret (ev_var rfl) fun H3 e3 => q H3 ((e1.trans e2).trans e3)) (fun z => nomatch z)
    | cons x r =>
      have hx : x ∈ G := hG x List.mem_cons_self
      have hrG : ∀ y ∈ r, y ∈ G := fun y hy => hG y (List.mem_cons_of_mem _ hy)
      refine q_when (b := false) (et_is (et_not (et_list (ev_var rfl) (sq_of hp))) rfl) (fun z => nomatch z) (fun _ H2 e2 => ?_)
      have e02 := e1.trans e2
      refine q_asg (ev_op (ev_fld (ev_var rfl) cf.cl (cf.no _ (by decide)) (e02 _ _ h1) h2) (ev_op (ev_var rfl) ev_c (rv_ixL (sq_of (e2 _ _ hp)) (atI_nat (j := 0) rfl))) (rv_ixT (ex_t e02 h3) (idx_str hx))) fun H3 e3 => ?_
      have e03 := e02.trans e3
      refine q_forNLn (xs := r.map fun y => .int (G.idxOf y : Int)) (el_tail (ev_var rfl) (sq_of ((e2.trans e3) _ _ hp)))
        (fun p2 i σ' H' => ∃ x6, σ' = [some (.ref a), some tb, some (.ref l), some (.str e), some (.ref p), some (.str ((r.take i).foldl (ap G U) x)), x6, none] ∧ Ex H3 H' ∧ H' p2 = some (.lst (r.map fun y => .int (G.idxOf y : Int))))
        (fun p2 H4 n4 e4 h4 => ⟨none, rfl, e4, h4⟩) (fun p2 i σ' H' _ ⟨x6, _, _, h4⟩ => sq_of h4) ?_ ?_
      · rintro p2 i v σ' H' hv ⟨x6, rfl, e4, h4⟩
        rw [List.getElem?_map] at hv
        cases hy : r[i]? with
        | none =>
          rw [hy] at hv
          cases hv
        | some y =>
          rw [hy] at hv
          obtain rfl := Option.some.inj hv
          have yG : y ∈ G := hrG y (List.mem_of_getElem? hy)
          have e04 := e03.trans e4
          have hPl := hPlaces
          have tG : (r.take i).foldl (ap G U) x ∈ G := fold_mem wU hx fun z hz => hrG z (List.mem_of_mem_take hz)
          obtain ⟨pu, ru, ys, zs, rfl, t1, t2, t3, t4⟩ := tab_at wU dU tG yG
          have step : (r.take (i + 1)).foldl (ap G U) x = ap G U ((r.take i).foldl (ap G U) x) y := by
            rw [List.take_add_one, hy, List.foldl_append]
            rfl
          refine s_asg (ev_op (ev_op (ev_var rfl) (ev_is (ev_dget (key := Sum.inr _) (ev_fld (ev_var rfl) cf.cl (cf.no _ (by decide)) (e04 _ _ h1) hPl) (ev_var rfl) (e04 _ _ h5) (plc_some tG)) (by simp)) (rv_ixT (ex_t e04 t1) t2)) (ev_var rfl) (rv_ixT (ex_t e04 t3) t4)) fun H5 e5 => ⟨_, by rw [step]; rfl, e4.trans e5, e5 _ _ h4⟩
      · rintro p2 σ' H' ⟨x6, rfl, e4, h4⟩
        refine s_ret (ev_var rfl) fun H5 e5 => ?_
        have := q H5 ((e03.trans e4).trans e5)
        rw [List.length_map, List.take_length]
        exact this
theorem ok_joined (F : FnM K "joined" "Scale.joined" sJoined f fd) (cf : ClsF K C fldN) (cU : MCal P w K mg base CX0 3 C "_put_together" ["self", "table", "row", "empty"] (spPut K C)) : FnOk P w K mg base CX0 4 f fd ["self", "row"] (spJoined K C) := by
  refine F.ok scJd (fun vs H Q E h => ?_) (fun cdv A outer s H vs Q E hr h => ?_)
  · obtain ⟨a, l, xs, G, J, T, lo, hi, rfl, _⟩ := h
    rfl
  · obtain ⟨a, l, xs, G, J, T, lo, hi, rfl, sc, hS, hG, hz, q⟩ := h
    refine ⟨_, pss_one (ps_ret (pe_mcal cU (pv 0) hr pass0 (pa_cons (pe_fld (pv 0) rfl) (pa_cons (pv 1) (pa_cons (pe_fld (pv 0) rfl) pa_nil))))), ?_⟩
    obtain ⟨dx, fs, g, d, j, t, h1, h2, h3, h4, h5, h6, h7, h8, h9, h10, h11, hm⟩ := sc.ex
    exact s_ret (ev_mcal (ev_var rfl) (ea_cons (ev_fld (ev_var rfl) cf.cl (cf.no _ (by decide)) h1 h6) (ea_cons (ev_var rfl) (ea_cons (ev_fld (ev_var rfl) cf.cl (cf.no _ (by decide)) h1 h10) ea_nil))) h1 (hm _ (by decide))
      fun H1 e Q q => ⟨a, l, j, lo, xs, G, J, T, J, lo, hi, rfl, sc.ext e, dp_ext e h7, sc.wj, ex_l e hS, hG, hz, q⟩) fun H2 e2 => q H2 e2
theorem ok_within (F : FnP K "within" sWithin f fd) (cJ : MCal P w K mg base CX0 3 C "join" ["self", "a", "b"] (spJoin K C false)) : FnOk P w K mg base CX0 4 f fd ["scale", "a", "b"] (spWithin K C) := by
  refine F.ok scWi (fun vs H Q E h => ?_) (fun cdv A outer s H vs Q E hr h => ?_)
  · obtain ⟨a, x, y, G, J, T, lo, hi, rfl, _⟩ := h
    rfl
  · obtain ⟨a, x, y, G, J, T, lo, hi, rfl, sc, hx, hy, q⟩ := h
    refine ⟨_, pss_one (ps_ret (pe_cmpR op_eq (pe_mcal cJ (pv 0) hr pass0 (pa_cons (pv 1) (pa_cons (pv 2) pa_nil))) (pv 2) (nomark _))), ?_⟩
    obtain ⟨dx, fs, g, d, j, t, h1, h2, h3, h4, h5, h6, h7, h8, h9, h10, h11, hm⟩ := sc.ex
    exact s_ret (ev_is (w := .bl (decide (ap G J x y = y))) (ev_op (ev_mcal (ev_var rfl) (ea_cons (ev_var rfl) (ea_cons (ev_var rfl) ea_nil)) h1 (hm _ (by decide)) fun H1 e Q q => ⟨a, x, y, G, J, T, lo, hi, rfl, sc.ext e, hx, hy, q⟩) (ev_var rfl) (rv_eq rfl)) (by simp)) fun H2 e2 => q H2 e2
theorem ok_below (F : FnP K "_grades_below" sBelow f fd) (cG : MCal P w K mg base CX0 1 C "grades" ["self"] (spGrades K C)) (cW : Cal P w K mg base CX0 4 "within" ["scale", "a", "b"] (spWithin K C)) : FnOk P w K mg base CX0 5 f fd ["scale"] (spBelow K C) := by
  refine F.ok scBe (fun vs H Q E h => ?_) (fun cdv A outer s H vs Q E hr h => ?_)
  · obtain ⟨a, G, J, T, lo, hi, rfl, _⟩ := h
    rfl
  · obtain ⟨a, G, J, T, lo, hi, rfl, sc, q⟩ := h
    have hr1 : Room 1 (A.deeper (envOfC "_grades_below" (defScope sBelow) s.heap.objs.size f cdv)) := hr.mono (by decide)
    refine ⟨_, pss_cons (ps_set (i := 1) scBe.nd rfl (Or.inr rfl) (pe_mcal0 cG (pv 0) hr1 pass0))
      (pss_one (ps_ret (pe_dc (own := [("b", 2)]) (g := gName 2) (tt := tYes) (tv := tLc (iList K (tVar 1)) (gName 3) (tB (tCall (spWithin K C) [] E0 (tCons (tVar 0) (tCons (tVar 3) (tCons (tVar 2) tNil))))) (tVar 3) [3]) rfl scBe.nd (pi_list (pv 1)) (blkOk_by (N := NBe) (sc := defScope sBelow) (by decide +kernel)) (fun _ _ _ _ _ => pg_name (i := 2) scBe.nd rfl (Or.inr rfl)) (fun _ _ _ _ _ => pts_nil) (fun _ _ _ _ _ => pv 2)
        (fun _ _ _ _ _ => by exact pe_lc (own := [("a", 3)]) (g := gName 3) (wi := iList K (tVar 1)) rfl scBe.nd (pi_list (pv 1)) (blkOk_by (N := NBe) (by rfl)) (fun _ _ _ _ _ => pg_name (i := 3) scBe.nd rfl (Or.inl rfl)) (fun _ _ _ _ _ => pts_one (pt_val (pe_cal cW hr rfl pass0 (pa_cons (pv 0) (pa_cons (pv 3) (pa_cons (pv 2) pa_nil)))))) (fun _ _ _ _ _ => pv 3))))), ?_⟩
    obtain ⟨dx, fs, g, d, j, t, h1, h2, h3, h4, h5, h6, h7, h8, h9, h10, h11, hm⟩ := sc.ex
    refine q_asgL (el_mcal (ev_var rfl) ea_nil h1 (hm _ (by decide)) fun H1 e Q q => ⟨a, G, J, T, lo, hi, rfl, sc.ext e, q⟩) fun p H1 n1 e1 hp => ?_
    have sc1 := sc.ext e1
    have sz := sc.sz
    refine dc_lists (gs := G) (as := fun x => (lowerOf G J x).map V.str) (ev_var rfl) (sq_of hp) (by omega) (fun x => rfl) (fun x hx => ev_var rfl) (fun x hx => ?_) (fun D H2 kvs n2 e2 hD hv => q D H2 (fresh_back e1 n2) (e1.trans e2) ⟨kvs, hD, hv⟩)
    exact el_filter (d := "") (g := V.str) (f := V.str) (pr := fun y => decide (ap G J y x = x)) (ev_var rfl) (sq_of hp) (by omega) (fun x => rfl)
      (fun y H2 e2 hy => et_B (ev_call (ea_cons (ev_var rfl) (ea_cons (ev_var rfl) (ea_cons (ev_var rfl) ea_nil))) fun H3 e3 Q q E => ⟨a, y, x, G, J, T, lo, hi, rfl, (sc1.ext e2).ext e3, hy, hx, fun H4 e4 => q H4 e4⟩)) (fun y H2 e2 hy _ => ev_var rfl)
end
end K03

set_option Elab.async false
set_option linter.all false
set_option maxRecDepth 100000
set_option maxHeartbeats 8000000
/-! S6: _meet_rows, _only_rows. -/
namespace S
open PySem PySem.Spec PyProof.Rows L2 Evl J ClX StX
theorem inV_str {d : Str} : ∀ {xs : List Str}, inV (.str d) (xs.map V.str) = decide (d ∈ xs)
  | [] => by simp [inV]
  | x :: r => by
    have ih := inV_str (d := d) (xs := r)
    unfold inV at ih ⊢
    simp only [List.map_cons, List.any_cons, List.mem_cons] at ih ⊢
    rw [ih]
    by_cases h : d = x
    · subst h
      simp [eqV]
    · have h2 : x ≠ d := fun z => h z.symm
      simp [eqV, h, h2]
theorem flat_strs {xs : List Str} : (xs.map V.str).all flatV = true := by
  rw [List.all_eq_true]
  intro v hv
  obtain ⟨x, _, rfl⟩ := List.mem_map.mp hv
  rfl
section
variable {K : PySem.W.Frag} {σ : L2.St} {B H : Hp} {te tl ta tb : TE} {vs : List Nat} {j : Nat} {a : Addr}
theorem qd_map {α : Type} {g : α → V} {F : α → PyData} {xs : List α} (hv : Ev tl σ B (.ref a)) (hx : SqL K B a (xs.map g)) (hz : xs.length ≤ 1000) (hw : ∀ x, wipe ((wipe σ vs).set j (some x)) vs = wipe σ vs)
    (el : ∀ y ∈ xs, EvQ K te ((wipe σ vs).set j (some (g y))) B (F y)) : EvQL K (tLc (iList K tl) (gName j) tYes te vs) σ B (xs.map F) := by
  refine qd_lc hv hx (by simp) (by simpa using hz) hw fun i x e hi he => ?_
  rw [List.getElem?_map] at hi he
  cases hg : xs[i]? with
  | none =>
    rw [hg] at hi
    cases hi
  | some y =>
    rw [hg] at hi he
    obtain rfl := Option.some.inj hi
    obtain rfl := Option.some.inj he
    exact el y (List.mem_of_getElem? hg)
/-- x in a list of texts -/
theorem et_inL {d : Str} {xs : List Str} {l : Addr} (h : Ev ta σ H (.str d)) (h2 : Ev tb σ H (.ref l)) (hl : H l = some (.lst (xs.map V.str))) : EvT (tTest (tOp (rIn K false) ta tb)) σ H (decide (d ∈ xs)) := by
  have z := et_test (ev_op h h2 (rv_isL (K := K) (sq_of hl) rfl flat_strs))
  rw [inV_str] at z
  exact z
end
/-- o.m(a new list), told by one value -/
theorem ev_mcalL {σ : L2.St} {H : Hp} {te tl : TE} {a C dx : Addr} {fs : List (Str × V)} {z : V} {m : Str} {sp : Sp} {xs : List V} (h : Ev te σ H (.ref a)) (hA : EvL tl σ H xs) (ha : H a = some (.ins C dx fs)) (l : fs.lookup m = none)
    (s : ∀ p H1, Ex H H1 → H1 p = some (.lst xs) → ∀ Q : VK, RetV z H1 Q → sp [.ref a, .ref p] H1 Q E0) : Ev (tMeth C m sp [] E0 te (tCons tl tNil)) σ H z := fun H1 e Q q =>
  h H1 e _ fun H2 e2 => ⟨a, dx, fs, rfl, e2 _ _ (e _ _ ha), l, hA H2 (e.trans e2) _ fun p H3 n3 e3 h3 => s p H3 ((e.trans e2).trans e3) h3 Q fun H4 e4 => q H4 ((e2.trans e3).trans e4)⟩
end S
namespace K03
open PySem PySem.Spec PyProof.Rows L2 Evl J ClX StX S
abbrev sMeetR : Stmt := topS 19
abbrev sOnlyR : Stmt := topS 20
def meetOf (G : List Str) (J : List (List Str)) (lo a b : Str) : Str := put G J lo ((lowerOf G J a).filter fun d => decide (d ∈ lowerOf G J b))
def onlyOf (G : List Str) (J T : List (List Str)) (lo a b : Str) : Str := put G J lo (G.filter fun d => decide (ap G T a d ∈ lowerOf G J b))
def rowsOf (G : List Str) (F : Str → Str → Str) : List (List Str) := G.map fun a => G.map fun b => F a b
def spRowsOf (K : PySem.W.Frag) (C : Addr) (only : Bool) : Sp := fun vs H Q _ => ∃ (a : Addr) (G : List Str) (J T : List (List Str)) (lo hi : Str), vs = [.ref a] ∧ ScAt K C H a G J T lo hi ∧
  ∀ v H', Ex H H' → Dp K H' v (tab (rowsOf G (if only then onlyOf G J T lo else meetOf G J lo))) → Q v H'
theorem tab_rows {G : List Str} {F : Str → Str → Str} : tab (rowsOf G F) = .tuple (G.map fun a => .tuple (G.map fun b => .str (F a b))) := by
  unfold tab rowsOf
  rw [List.map_map]
  congr 1
  apply List.map_congr_left
  intro a _
  simp
section
variable {P : Program} {w : World} {K : PySem.W.Frag} {mg : Str → Option Value} {base : Heap} {f : Addr} {fd : FuncData} {C : Addr}
abbrev NMr : List Str := ["scale", "grades", "below", "a", "b", "d"]
theorem scMr : FnScope NMr ["scale"] (defScope sMeetR) := ⟨rfl, rfl, rfl, by decide +kernel, rfl, by decide +kernel, by decide +kernel⟩
theorem scOr : FnScope NMr ["scale"] (defScope sOnlyR) := ⟨rfl, rfl, rfl, by decide +kernel, rfl, by decide +kernel, by decide +kernel⟩
abbrev rM3 (K : PySem.W.Frag) : TE := tLc (iList K (tDGet (tVar 2) (tVar 3))) (gName 5) (tTest (tOp (rIn K false) (tVar 5) (tDGet (tVar 2) (tVar 4)))) (tVar 5) [5]
abbrev rM2 (K : PySem.W.Frag) (C : Addr) (r3 : TE) : TE := tLc (iList K (tVar 1)) (gName 4) tYes (tMeth C "joined" (spJoined K C) [] E0 (tVar 0) (tCons r3 tNil)) [4]
abbrev rO3 (K : PySem.W.Frag) (C : Addr) : TE := tLc (iList K (tVar 1)) (gName 5) (tTest (tOp (rIn K false) (tMeth C "then" (spJoin K C true) [] E0 (tVar 0) (tCons (tVar 3) (tCons (tVar 5) tNil))) (tDGet (tVar 2) (tVar 4)))) (tVar 5) [5]
theorem ok_meetR (F : FnP K "_meet_rows" sMeetR f fd) (T0 : Bl mg) (cG : MCal P w K mg base CX0 1 C "grades" ["self"] (spGrades K C)) (cB : Cal P w K mg base CX0 5 "_grades_below" ["scale"] (spBelow K C)) (cJ : MCal P w K mg base CX0 4 C "joined" ["self", "row"] (spJoined K C)) : FnOk P w K mg base CX0 6 f fd ["scale"] (spRowsOf K C false) := by
  refine F.ok scMr (fun vs H Q E h => ?_) (fun cdv A outer s H vs Q E hr h => ?_)
  · obtain ⟨a, G, J, T, lo, hi, rfl, _⟩ := h
    rfl
  · obtain ⟨a, G, J, T, lo, hi, rfl, sc, q⟩ := h
    have hr1 : Room 1 (A.deeper (envOfC "_meet_rows" (defScope sMeetR) s.heap.objs.size f cdv)) := hr.mono (by decide)
    have hr4 : Room 4 (A.deeper (envOfC "_meet_rows" (defScope sMeetR) s.heap.objs.size f cdv)) := hr.mono (by decide)
    have hu : (A.deeper (envOfC "_meet_rows" (defScope sMeetR) s.heap.objs.size f cdv)).units + 1 < cLine := by
      have := hr.un
      omega
    refine ⟨_, pss_cons (ps_set (i := 1) scMr.nd rfl (Or.inr rfl) (pe_mcal0 cG (pv 0) hr1 pass0)) (pss_cons (ps_set (i := 2) scMr.nd rfl (Or.inr rfl) (pe_cal cB hr rfl pass0 (pa_cons (pv 0) pa_nil)))
      (pss_one (ps_ret (pe_tupleOf rfl T0.tup (pe_lc (own := [("a", 3)]) (g := gName 3) (tt := tYes) (te := tThen (rM2 K C (rM3 K)) (kTup K)) rfl scMr.nd (pi_list (pv 1)) (blkOk_by (N := NMr) (sc := defScope sMeetR) (by decide +kernel)) (fun _ _ _ _ _ => pg_name (i := 3) scMr.nd rfl (Or.inr rfl)) (fun _ _ _ _ _ => pts_nil)
        (fun _ _ _ _ _ => by exact pe_tupleOf rfl T0.tup (pe_lc (own := [("b", 4)]) (g := gName 4) (tt := tYes) (wi := iList K (tVar 1)) (te := tMeth C "joined" (spJoined K C) [] E0 (tVar 0) (tCons (rM3 K) tNil)) rfl scMr.nd (pi_list (pv 1)) (blkOk_by (N := NMr) (by rfl)) (fun _ _ _ _ _ => pg_name (i := 4) scMr.nd rfl (Or.inr rfl)) (fun _ _ _ _ _ => pts_nil)
          (fun _ _ _ _ _ => by exact pe_mcal cJ (pv 0) hr4 pass0 (pa_cons (pe_lc (own := [("d", 5)]) (g := gName 5) (wi := iList K (tDGet (tVar 2) (tVar 3))) (tt := tTest (tOp (rIn K false) (tVar 5) (tDGet (tVar 2) (tVar 4)))) (te := tVar 5) rfl scMr.nd (pi_list (pe_dget hu (pv 2) (pv 3) (fun _ _ => rfl))) (blkOk_by (N := NMr) (by rfl)) (fun _ _ _ _ _ => pg_name (i := 5) scMr.nd rfl (Or.inl rfl))
            (fun _ _ _ _ _ => by exact pts_one (pt_cmpR op_in_seq (pv 5) (pe_dget hu (pv 2) (pv 4) (fun _ _ => rfl)) rfl)) (fun _ _ _ _ _ => pv 5)) pa_nil))))))))), ?_⟩
    obtain ⟨dx, fs, g, d, j, t, h1, h2, h3, h4, h5, h6, h7, h8, h9, h10, h11, hm⟩ := sc.ex
    refine q_asgL (el_mcal (ev_var rfl) ea_nil h1 (hm _ (by decide)) fun H1 e Q q => ⟨a, G, J, T, lo, hi, rfl, sc.ext e, q⟩) fun p H1 n1 e1 hp => ?_
    have sc1 := sc.ext e1
    refine ⟨_, rfl, a, G, J, T, lo, hi, rfl, sc1, fun D H2 n2 e2 bl => ?_⟩
    have sc2 := sc1.ext e2
    have hp2 := e2 _ _ hp
    have ha2 := e2 _ _ (e1 _ _ h1)
    have sz := sc.sz
    obtain ⟨kvs, hD, hk⟩ := bl
    have low : ∀ x, (lowerOf G J x).length ≤ 8 := fun x => Nat.le_trans (List.length_filter_le _ _) sz
    have main : EvQ K (tThen (tLc (iList K (tVar 1)) (gName 3) tYes (tThen (rM2 K C (rM3 K)) (kTup K)) [3]) (kTup K)) [some (.ref a), some (.ref p), some (.ref D), none, none, none] H2 (tab (rowsOf G (meetOf G J lo))) := by
      rw [tab_rows]
      refine qd_tup (qd_map (g := V.str) (xs := G) (ev_var rfl) (sq_of hp2) (by omega) (fun x => rfl) fun x hx => qd_tup (qd_map (g := V.str) (xs := G) (ev_var rfl) (sq_of hp2) (by omega) (fun x => rfl) fun y hy => ?_))
      obtain ⟨lx, kx, hx2⟩ := hk x hx
      obtain ⟨ly, ky, hy2⟩ := hk y hy
      refine qd_ev (ev_mcalL (ev_var rfl) (el_filter (d := "") (g := V.str) (f := V.str) (xs := lowerOf G J x) (pr := fun d => decide (d ∈ lowerOf G J y)) (ev_dget (key := Sum.inr x) (ev_var rfl) (ev_var rfl) hD kx) (sq_of hx2) (Nat.le_trans (low x) (by omega)) (fun x => rfl)
        (fun d H3 e3 hd => et_inL (ev_var rfl) (ev_dget (key := Sum.inr y) (ev_var rfl) (ev_var rfl) (e3 _ _ hD) ky) (e3 _ _ hy2)) (fun d H3 e3 hd _ => ev_var rfl)) ha2 (hm _ (by decide))
        (fun l H3 e3 h3 Q q => ⟨a, l, _, G, J, T, lo, hi, rfl, sc2.ext e3, sq_of h3, fun z hz => (List.mem_filter.mp (List.mem_filter.mp hz).1).1, Nat.le_trans (List.length_filter_le _ _) (Nat.le_trans (low x) (by omega)), q⟩)) (.str _)
    exact main H2 (Ex.refl H2) _ fun v H3 e3 dq => q v H3 ((e1.trans e2).trans e3) dq.dp
theorem ok_onlyR (F : FnP K "_only_rows" sOnlyR f fd) (T0 : Bl mg) (cG : MCal P w K mg base CX0 1 C "grades" ["self"] (spGrades K C)) (cB : Cal P w K mg base CX0 5 "_grades_below" ["scale"] (spBelow K C)) (cT : MCal P w K mg base CX0 3 C "then" ["self", "a", "b"] (spJoin K C true)) (cJ : MCal P w K mg base CX0 4 C "joined" ["self", "row"] (spJoined K C)) : FnOk P w K mg base CX0 6 f fd ["scale"] (spRowsOf K C true) := by
  refine F.ok scOr (fun vs H Q E h => ?_) (fun cdv A outer s H vs Q E hr h => ?_)
  · obtain ⟨a, G, J, T, lo, hi, rfl, _⟩ := h
    rfl
  · obtain ⟨a, G, J, T, lo, hi, rfl, sc, q⟩ := h
    have hr1 : Room 1 (A.deeper (envOfC "_only_rows" (defScope sOnlyR) s.heap.objs.size f cdv)) := hr.mono (by decide)
    have hr4 : Room 4 (A.deeper (envOfC "_only_rows" (defScope sOnlyR) s.heap.objs.size f cdv)) := hr.mono (by decide)
    have hr3 : Room 3 (A.deeper (envOfC "_only_rows" (defScope sOnlyR) s.heap.objs.size f cdv)) := hr.mono (by decide)
    have hu : (A.deeper (envOfC "_only_rows" (defScope sOnlyR) s.heap.objs.size f cdv)).units + 1 < cLine := by
      have := hr.un
      omega
    refine ⟨_, pss_cons (ps_set (i := 1) scOr.nd rfl (Or.inr rfl) (pe_mcal0 cG (pv 0) hr1 pass0)) (pss_cons (ps_set (i := 2) scOr.nd rfl (Or.inr rfl) (pe_cal cB hr rfl pass0 (pa_cons (pv 0) pa_nil)))
      (pss_one (ps_ret (pe_tupleOf rfl T0.tup (pe_lc (own := [("a", 3)]) (g := gName 3) (tt := tYes) (te := tThen (rM2 K C (rO3 K C)) (kTup K)) rfl scOr.nd (pi_list (pv 1)) (blkOk_by (N := NMr) (sc := defScope sOnlyR) (by decide +kernel)) (fun _ _ _ _ _ => pg_name (i := 3) scOr.nd rfl (Or.inr rfl)) (fun _ _ _ _ _ => pts_nil)
        (fun _ _ _ _ _ => by exact pe_tupleOf rfl T0.tup (pe_lc (own := [("b", 4)]) (g := gName 4) (tt := tYes) (wi := iList K (tVar 1)) (te := tMeth C "joined" (spJoined K C) [] E0 (tVar 0) (tCons (rO3 K C) tNil)) rfl scOr.nd (pi_list (pv 1)) (blkOk_by (N := NMr) (by rfl)) (fun _ _ _ _ _ => pg_name (i := 4) scOr.nd rfl (Or.inr rfl)) (fun _ _ _ _ _ => pts_nil)
          (fun _ _ _ _ _ => by exact pe_mcal cJ (pv 0) hr4 pass0 (pa_cons (pe_lc (own := [("d", 5)]) (g := gName 5) (wi := iList K (tVar 1)) (tt := tTest (tOp (rIn K false) (tMeth C "then" (spJoin K C true) [] E0 (tVar 0) (tCons (tVar 3) (tCons (tVar 5) tNil))) (tDGet (tVar 2) (tVar 4)))) (te := tVar 5) rfl scOr.nd (pi_list (pv 1)) (blkOk_by (N := NMr) (by rfl)) (fun _ _ _ _ _ => pg_name (i := 5) scOr.nd rfl (Or.inl rfl))
            (fun _ _ _ _ _ => by exact pts_one (pt_cmpR op_in_seq (pe_mcal cT (pv 0) hr3 pass0 (pa_cons (pv 3) (pa_cons (pv 5) pa_nil))) (pe_dget hu (pv 2) (pv 4) (fun _ _ => rfl)) rfl)) (fun _ _ _ _ _ => pv 5)) pa_nil))))))))), ?_⟩
    obtain ⟨dx, fs, g, d, j, t, h1, h2, h3, h4, h5, h6, h7, h8, h9, h10, h11, hm⟩ := sc.ex
    refine q_asgL (el_mcal (ev_var rfl) ea_nil h1 (hm _ (by decide)) fun H1 e Q q => ⟨a, G, J, T, lo, hi, rfl, sc.ext e, q⟩) fun p H1 n1 e1 hp => ?_
    have sc1 := sc.ext e1
    refine ⟨_, rfl, a, G, J, T, lo, hi, rfl, sc1, fun D H2 n2 e2 bl => ?_⟩
    have sc2 := sc1.ext e2
    have hp2 := e2 _ _ hp
    have ha2 := e2 _ _ (e1 _ _ h1)
    have sz := sc.sz
    obtain ⟨kvs, hD, hk⟩ := bl
    have low : ∀ x, (lowerOf G J x).length ≤ 8 := fun x => Nat.le_trans (List.length_filter_le _ _) sz
    have main : EvQ K (tThen (tLc (iList K (tVar 1)) (gName 3) tYes (tThen (rM2 K C (rO3 K C)) (kTup K)) [3]) (kTup K)) [some (.ref a), some (.ref p), some (.ref D), none, none, none] H2 (tab (rowsOf G (onlyOf G J T lo))) := by
      rw [tab_rows]
      refine qd_tup (qd_map (g := V.str) (xs := G) (ev_var rfl) (sq_of hp2) (by omega) (fun x => rfl) fun x hx => qd_tup (qd_map (g := V.str) (xs := G) (ev_var rfl) (sq_of hp2) (by omega) (fun x => rfl) fun y hy => ?_))
      obtain ⟨ly, ky, hy2⟩ := hk y hy
      refine qd_ev (ev_mcalL (ev_var rfl) (el_filter (d := "") (g := V.str) (f := V.str) (xs := G) (pr := fun d => decide (ap G T x d ∈ lowerOf G J y)) (ev_var rfl) (sq_of hp2) (by omega) (fun x => rfl)
        (fun d H3 e3 hd => et_inL (ev_mcal (ev_var rfl) (ea_cons (ev_var rfl) (ea_cons (ev_var rfl) ea_nil)) (e3 _ _ ha2) (hm _ (by decide)) fun H4 e4 Q q => ⟨a, x, d, G, J, T, lo, hi, rfl, (sc2.ext e3).ext e4, hx, hd, q⟩) (ev_dget (key := Sum.inr y) (ev_var rfl) (ev_var rfl) (e3 _ _ hD) ky) (e3 _ _ hy2)) (fun d H3 e3 hd _ => ev_var rfl)) ha2 (hm _ (by decide))
        (fun l H3 e3 h3 Q q => ⟨a, l, _, G, J, T, lo, hi, rfl, sc2.ext e3, sq_of h3, fun z hz => (List.mem_filter.mp hz).1, Nat.le_trans (List.length_filter_le _ _) (by omega), q⟩)) (.str _)
    exact main H2 (Ex.refl H2) _ fun v H3 e3 dq => q v H3 ((e1.trans e2).trans e3) dq.dp
end
end K03

set_option Elab.async false
set_option linter.all false
set_option maxRecDepth 100000
set_option maxHeartbeats 8000000
/-! S7: a scale's __init__. -/
namespace S
open PySem PySem.Spec PyProof.Rows L2 Evl J ClX StX
/-! all but one object -/
def dl (a : Addr) (H : Hp) : Hp := fun b => if b = a then none else H b
theorem dl_ne {a b : Addr} {H : Hp} (h : b ≠ a) : dl a H b = H b := if_neg h
theorem dl_self {a : Addr} {H : Hp} : dl a H a = none := if_pos rfl
theorem dl_some {a b : Addr} {H : Hp} {o : HO} (h : dl a H b = some o) : b ≠ a ∧ H b = some o := by
  unfold dl at h
  split at h
  · cases h
  · exact ⟨by assumption, h⟩
theorem dl_ex {a : Addr} {H : Hp} : Ex (dl a H) H := fun b o z => (dl_some z).2
theorem dl_of {a : Addr} {B H : Hp} (e : Ex B H) (h : B a = none) : Ex B (dl a H) := fun b o z => by
  rw [dl_ne (ne_of_none z h)]
  exact e b o z
theorem dl_but {a : Addr} {H H' : Hp} (b : But a H H') : Ex (dl a H) (dl a H') := fun c o z => by
  obtain ⟨h1, h2⟩ := dl_some z
  rw [dl_ne h1]
  exact b c o h1 h2
theorem dl_upd {a : Addr} {H : Hp} {o : HO} : dl a (upd H a o) = dl a H := by
  funext b
  unfold dl
  split
  · rfl
  · rename_i h
    rw [upd_ne h]
theorem dl_rst {a : Addr} {H H1 : Hp} (h : H a ≠ none) : Ex (rst (dl a H) H H1) (dl a H1) := fun b o z => by
  obtain ⟨h1, h2⟩ := rst_some z
  rw [dl_ne]
  · exact h2
  · intro q
    subst q
    rcases h1 with h1 | h1
    · exact h1 dl_self
    · exact h h1
section
variable {K : PySem.W.Frag} {σ : L2.St} {H B : Hp} {ta tv te : TE} {a C dx : Addr} {fs : List (Str × V)} {v : V} {f : Str} {tz : TS} {D : Ends} {xs : List V} {d : PyData}
theorem q_fld (h : Ev tv σ H v) (ho : Ev ta σ H (.ref a)) (ha : H a = some (.ins C dx fs)) (c : Cls K C) (n : NoAttr K C f) (hz : fs.length < 1000) (k : ∀ H1, Ex H H1 → tz D σ (upd H1 a (.ins C dx (putF f v fs)))) : tSeq (sFld K ta tv f) tz D σ H :=
  h H (Ex.refl H) _ fun H1 e1 => ho H1 e1 _ fun H2 e2 => ⟨a, C, dx, fs, rfl, e2 _ _ (e1 _ _ ha), c, n, hz, k H2 (e1.trans e2)⟩
theorem s_fldG {D : Ends} (h : ∀ Q : VK, (∀ v H1, Ex H H1 → Dp K (dl a H1) v d → Q v H1) → tv σ H Q) (ho : Ev ta σ H (.ref a)) (ha : H a = some (.ins C dx fs)) (c : Cls K C) (n : NoAttr K C f) (hz : fs.length < 1000) (k : ∀ v H1, Ex H H1 → Dp K (dl a H1) v d → D.nx σ (upd H1 a (.ins C dx (putF f v fs)))) : sFld K ta tv f D σ H :=
  h _ fun v H1 e1 dv => ho H1 e1 _ fun H2 e2 => ⟨a, C, dx, fs, rfl, e2 _ _ (e1 _ _ ha), c, n, hz, k v H2 (e1.trans e2) (dp_ext (dl_but (But.of e2)) dv)⟩
theorem q_fldG (h : ∀ Q : VK, (∀ v H1, Ex H H1 → Dp K (dl a H1) v d → Q v H1) → tv σ H Q) (ho : Ev ta σ H (.ref a)) (ha : H a = some (.ins C dx fs)) (c : Cls K C) (n : NoAttr K C f) (hz : fs.length < 1000) (k : ∀ v H1, Ex H H1 → Dp K (dl a H1) v d → tz D σ (upd H1 a (.ins C dx (putF f v fs)))) : tSeq (sFld K ta tv f) tz D σ H :=
  s_fldG (D := { D with nx := tz D }) h ho ha c n hz k
/-- from data put together of what stands but for a -/
theorem of_qd (h : EvQ K tv σ (dl a H) d) (ha : H a ≠ none) : ∀ Q : VK, (∀ v H1, Ex H H1 → Dp K (dl a H1) v d → Q v H1) → tv σ H Q := fun Q q => h H dl_ex Q fun v H1 e1 dq => q v H1 e1 (dp_ext (dl_rst ha) dq)
theorem qd_tupOf {es : List PyData} (h : Ev te σ B v) (dp : Dp K B v (.list es)) : EvQ K (tThen te (kTup K)) σ B (.tuple es) := fun H1 e Q q =>
  h H1 e _ fun H2 e2 => by
    cases dp with
    | @lst p xs _ hs ha =>
      exact .inl ⟨p, xs, rfl, ex_l (e.trans e2) hs, fun r hr => q (.ref r) _ (e2.trans (Ex.new hr)) (.tup (xs := xs) (st_of (by rw [rst_in (.inr (fresh_back e2 hr)), upd_same])) (dpa_ext (rst_base ((e.trans e2).trans (Ex.new hr))) ha))⟩
/-- tuple([tuple(row) for row in rows]) -/
theorem qd_rows {J : List (List Str)} {tl : TE} {vs : List Nat} {j : Nat} (h : Ev tl σ B v) (dp : Dp K B v (.list (J.map fun r => .list (r.map .str)))) (hz : J.length ≤ 1000) (hj : ∀ x : V, ((wipe σ vs).set j (some x))[j]? = some (some x)) (hw : ∀ x, wipe ((wipe σ vs).set j (some x)) vs = wipe σ vs) :
    EvQ K (tThen (tLc (iList K tl) (gName j) tYes (tThen (tVar j) (kTup K)) vs) (kTup K)) σ B (tab J) := by
  cases dp with
  | @lst p xs _ hs ha =>
    have hl := dpa_len ha
    rw [List.length_map] at hl
    unfold tab
    refine qd_tup (qd_lc h hs (by simpa using hl) (by omega) hw fun i x e hi he => ?_)
    obtain ⟨d2, hd2, dp2⟩ := dpa_get ha hi
    rw [List.getElem?_map] at he hd2
    cases hg : J[i]? with
    | none =>
      rw [hg] at he
      cases he
    | some r =>
      rw [hg] at he hd2
      obtain rfl := Option.some.inj he
      obtain rfl := Option.some.inj hd2
      exact qd_tupOf (ev_var (hj x)) dp2
theorem plc_app {x : Str} : ∀ {G : List Str} {i : Nat}, plc (G ++ [x]) i = plc G i ++ [(Sum.inr x, .int ((i + G.length : Nat) : Int))]
  | [], i => by simp [plc]
  | y :: r, i => by
    have e : i + 1 + r.length = i + (r.length + 1) := by omega
    simp only [List.cons_append, plc, plc_app (G := r), List.length_cons, e]
theorem put_new {G : List Str} {i : Nat} {x : Str} {v : V} (h : x ∉ G) : putK (plc G i) (Sum.inr x) v = plc G i ++ [(Sum.inr x, v)] := by
  unfold putK
  rw [if_neg]
  intro z
  rw [List.any_eq_true] at z
  obtain ⟨p, hp, e⟩ := z
  have : ∀ {G : List Str} {i : Nat}, p ∈ plc G i → ∃ y ∈ G, p.1 = Sum.inr y := by
    intro G
    induction G with
    | nil =>
      intro i h
      simp [plc] at h
    | cons y r ih =>
      intro i h
      rcases List.mem_cons.mp h with q | q
      · exact ⟨y, List.mem_cons_self, by rw [q]⟩
      · obtain ⟨z, hz, e⟩ := ih q
        exact ⟨z, List.mem_cons_of_mem _ hz, e⟩
  obtain ⟨y, hy, ey⟩ := this hp
  have e2 := of_decide_eq_true e
  rw [ey] at e2
  exact h (Sum.inr.inj e2 ▸ hy)
/-- {xs[i]: i for i in range(len(xs))} -/
theorem dc_places {gs : List Str} {ta : TA} {tk tv : TE} {vs : List Nat} {j : Nat} (nd : gs.Nodup) (hz : gs.length ≤ 1000) (hn : EvA ta σ H [.int (gs.length : Int)]) (hw : ∀ x, wipe ((wipe σ vs).set j (some x)) vs = wipe σ vs)
    (ek : ∀ (i : Nat) x, gs[i]? = some x → Ev tk ((wipe σ vs).set j (some (.int (i : Int)))) H (.str x)) (el : ∀ i : Nat, Ev tv ((wipe σ vs).set j (some (.int (i : Int)))) H (.int (i : Int)))
    {Q : VK} (k : ∀ D H2, H D = none → Ex H H2 → H2 D = some (.dK (plc gs 0)) → Q (.ref D) H2) : tDc (iRng1 ta) (gName j) tYes tk tv vs σ H Q := by
  refine hn H (Ex.refl H) _ fun H0 e0 => ⟨(gs.length : Int), rfl, by omega, by omega, fun D hD => ?_⟩
  refine ⟨fun i m H' => m = gs.length - i ∧ i ≤ gs.length ∧ H0 D = none ∧ Ex H0 H' ∧ H' D = some (.dK (plc (gs.take i) 0)), ⟨gs.length, by simp, Nat.zero_le _, hD, Ex.new hD, by simpa [plc] using upd_same⟩, ?_⟩
  rintro i m H' ⟨rfl, hi, g0, g1, g2⟩
  by_cases hlt : i < gs.length
  · refine .inr ⟨(show i < ((gs.length : Nat) : Int).toNat by simpa using hlt), fun H5 => i + 1 ≤ gs.length ∧ H0 D = none ∧ Ex H0 H5 ∧ H5 D = some (.dK (plc (gs.take (i + 1)) 0)), fun H5 p' => ⟨gs.length - (i + 1), by omega, rfl, p'.1, p'.2⟩, fun x H5 y => ?_⟩
    obtain ⟨e5, ex⟩ := y
    subst e5
    have ex2 : x = .int (i : Int) := by
      rw [ex]
      simp
    subst ex2
    have hg : gs[i]? = some gs[i] := List.getElem?_eq_getElem hlt
    refine ⟨hw _, ?_⟩
    show tk _ H5 _
    refine ek i _ hg H5 (e0.trans g1) _ fun H6 e6 => el i H6 ((e0.trans g1).trans e6) _ fun H7 e7 => ?_
    have d7 := e7 _ _ (e6 _ _ g2)
    have ni : gs[i] ∉ gs.take i := fun z => by
      obtain ⟨n, hn, e⟩ := List.getElem_of_mem z
      have h1 : n < i := by
        rw [List.length_take] at hn
        omega
      rw [List.getElem_take] at e
      have := (List.getElem_inj nd).mp e
      omega
    have lp : (plc (gs.take i) 0).length ≤ 2000 := by
      have : ∀ (G : List Str) (n : Nat), (plc G n).length = G.length := by
        intro G
        induction G with
        | nil => intro n; rfl
        | cons y r ih => intro n; simp [plc, ih]
      rw [this, List.length_take]
      omega
    refine ⟨_, Sum.inr gs[i], rfl, d7, sz_lt (by omega), hlt, g0, Ex.mut ((g1.trans e6).trans e7) g0, ?_⟩
    rw [upd_same, put_new ni, List.take_add_one, hg]
    show _ = some (HO.dK (plc (gs.take i ++ [gs[i]]) 0))
    rw [plc_app, List.length_take]
    have : min i gs.length = i := by omega
    rw [this, Nat.zero_add]
  · have e : i = gs.length := by omega
    subst e
    refine .inl ⟨(show ((gs.length : Nat) : Int).toNat ≤ gs.length by simp), k D H' (fresh_back e0 g0) (e0.trans g1) ?_⟩
    rw [List.take_length] at g2
    exact g2
end
end S

set_option Elab.async false
set_option linter.all false
set_option maxRecDepth 100000
set_option maxHeartbeats 8000000
/-! S8: Scale.__init__. -/
namespace S
open PySem PySem.Spec PyProof.Rows L2 Evl J ClX StX
section
variable {K : PySem.W.Frag} {H : Hp} {a C dx : Addr} {fs : List (Str × V)} {f g : Str} {v : V} {r : Option V}
theorem lk_same : (putF f v fs).lookup f = some v := by rw [lookup_putF, if_pos rfl]
theorem lk (h : g ≠ f) (e : fs.lookup g = r) : (putF f v fs).lookup g = r := by rw [lookup_putF, if_neg h]; exact e
theorem sql_dl {p : Addr} {xs : List V} (ha : H a = some (.ins C dx fs)) (h : SqL K H p xs) : SqL K (dl a H) p xs := by
  rcases h with (h | ⟨o, h⟩) | h
  · have hp : p ≠ a := fun z => by
      rw [z, ha] at h
      cases h
    exact .inl (.inl (by rw [dl_ne hp]; exact h))
  · have hp : p ≠ a := fun z => by
      rw [z, ha] at h
      cases h
    exact .inl (.inr ⟨o, by rw [dl_ne hp]; exact h⟩)
  · exact .inr h
theorem sqt_dl {p : Addr} {xs : List V} (ha : H a = some (.ins C dx fs)) (h : SqT K H p xs) : SqT K (dl a H) p xs := by
  rcases h with (h | ⟨o, h⟩) | h
  · have hp : p ≠ a := fun z => by
      rw [z, ha] at h
      cases h
    exact .inl (.inl (by rw [dl_ne hp]; exact h))
  · have hp : p ≠ a := fun z => by
      rw [z, ha] at h
      cases h
    exact .inl (.inr ⟨o, by rw [dl_ne hp]; exact h⟩)
  · exact .inr h
theorem q_fldX {σ : L2.St} {ta tv : TE} {tz : TS} {E : Ends} {φ : V → Hp → Hp → Prop} (h : ∀ Q : VK, (∀ v H1, Ex H H1 → φ v H H1 → Q v H1) → tv σ H Q) (ho : Ev ta σ H (.ref a)) (ha : H a = some (.ins C dx fs)) (c : Cls K C) (n : NoAttr K C f) (hz : fs.length < 1000)
    (mono : ∀ v H1 H2, Ex H1 H2 → φ v H H1 → φ v H H2) (k : ∀ v H1, Ex H H1 → φ v H H1 → tz E σ (upd H1 a (.ins C dx (putF f v fs)))) : tSeq (sFld K ta tv f) tz E σ H :=
  h _ fun v H1 e1 dv => ho H1 e1 _ fun H2 e2 => ⟨a, C, dx, fs, rfl, e2 _ _ (e1 _ _ ha), c, n, hz, k v H2 (e1.trans e2) (mono v H1 H2 e2 dv)⟩
mutual
theorem dp_dl (ha : H a = some (.ins C dx fs)) : ∀ {v : V} {d : PyData}, Dp K H v d → Dp K (dl a H) v d
  | _, _, .non => .non
  | _, _, .bl b => .bl b
  | _, _, .int i => .int i
  | _, _, .str x => .str x
  | _, _, .lst h r => .lst (sql_dl ha h) (dpa_dl ha r)
  | _, _, .tup h r => .tup (sqt_dl ha h) (dpa_dl ha r)
theorem dpa_dl (ha : H a = some (.ins C dx fs)) : ∀ {vs : List V} {ds : List PyData}, DpAll K H vs ds → DpAll K (dl a H) vs ds
  | _, _, .nil => .nil
  | _, _, .cons h r => .cons (dp_dl ha h) (dpa_dl ha r)
end
theorem dpa_strs : ∀ G : List Str, DpAll K H (G.map V.str) (G.map .str)
  | [] => .nil
  | x :: r => .cons (.str x) (dpa_strs r)
theorem strs_of : ∀ {G : List Str} {xs : List V}, DpAll K H xs (G.map .str) → xs = G.map V.str
  | [], _, .nil => rfl
  | x :: r, _, .cons (.str _) h => by rw [strs_of h]; rfl
end
end S
namespace K03
open PySem PySem.Spec PyProof.Rows L2 Evl J ClX StX S
abbrev sInit : Stmt := methS 17 0
/-- a scale, whole -/
structure Made (K : PySem.W.Frag) (C : Addr) (H : Hp) (a : Addr) (G : List Str) (J T : List (List Str)) (lo hi : Str) : Prop where
  sc : ScAt K C H a G J T lo hi
  mo : ∃ (dx : Addr) (fs : List (Str × V)) (mv ov : V), H a = some (.ins C dx fs) ∧ fs.lookup ("_meets" : Str) = some mv ∧ Dp K H mv (tab (rowsOf G (meetOf G J lo))) ∧ fs.lookup ("_onlys" : Str) = some ov ∧ Dp K H ov (tab (rowsOf G (onlyOf G J T lo)))
def rowsL (J : List (List Str)) : PyData := .list (J.map fun r => .list (r.map .str))
def spInit (K : PySem.W.Frag) (C : Addr) : Sp := fun vs H Q _ => ∃ (a dx lg : Addr) (vj vt : V) (G : List Str) (J T : List (List Str)) (lo hi : Str), vs = [.ref a, .ref lg, vj, vt, .str lo, .str hi] ∧ H a = some (.ins C dx []) ∧ SqL K H lg (G.map V.str) ∧ Dp K H vj (rowsL J) ∧ Dp K H vt (rowsL T) ∧
  G.Nodup ∧ G.length ≤ 8 ∧ Wf G J ∧ Wf G T ∧ lo ∈ G ∧ hi ∈ G ∧ ∀ H', But a H H' → Made K C H' a G J T lo hi → Q .non H'
section
variable {P : Program} {w : World} {K : PySem.W.Frag} {mg : Str → Option Value} {base : Heap} {f : Addr} {fd : FuncData} {C : Addr}
abbrev NIn : List Str := ["self", "grades", "joins", "products", "none", "nearest", "place", "row"]
theorem scIn : FnScope NIn ["self", "grades", "joins", "products", "none", "nearest"] (defScope sInit) := ⟨rfl, rfl, rfl, by decide +kernel, rfl, by decide +kernel, by decide +kernel⟩
theorem flen {fs : List (Str × V)} {f : Str} {v : V} {n : Nat} (h : fs.length ≤ n) : (putF f v fs).length ≤ n + 1 := by
  induction fs generalizing n with
  | nil => simp [putF]
  | cons p r ih =>
    obtain ⟨g, x⟩ := p
    unfold putF
    split
    · simp at h ⊢
      omega
    · cases n with
      | zero => simp at h
      | succ n =>
        have := ih (n := n) (by simpa using h)
        simpa using this
theorem lt_th {fs : List (Str × V)} {n : Nat} (h : fs.length ≤ n) (hn : n < 1000) : fs.length < 1000 := by omega
theorem ne_mth : ∀ m ∈ mths, ∀ x ∈ fldN, m ≠ x := by decide +kernel
/-- the six first fields -/
structure Six (fs : List (Str × V)) (g D : Addr) (j t : V) (lo hi : Str) : Prop where
  gr : fs.lookup ("_grades" : Str) = some (.ref g)
  pl : fs.lookup ("_places" : Str) = some (.ref D)
  jo : fs.lookup ("_joins" : Str) = some j
  pr : fs.lookup ("_products" : Str) = some t
  lo : fs.lookup ("none" : Str) = some (.str lo)
  hi : fs.lookup ("nearest" : Str) = some (.str hi)
  no : ∀ m ∈ mths, fs.lookup m = none
theorem Six.put {fs : List (Str × V)} {g D : Addr} {j t v : V} {lo hi f : Str} (s : Six fs g D j t lo hi) (h : f = "_meets" ∨ f = "_onlys") : Six (putF f v fs) g D j t lo hi := by
  rcases h with rfl | rfl
  · exact ⟨lk (by decide) s.gr, lk (by decide) s.pl, lk (by decide) s.jo, lk (by decide) s.pr, lk (by decide) s.lo, lk (by decide) s.hi, fun m hm => lk (ne_mth m hm _ (by decide)) (s.no m hm)⟩
  · exact ⟨lk (by decide) s.gr, lk (by decide) s.pl, lk (by decide) s.jo, lk (by decide) s.pr, lk (by decide) s.lo, lk (by decide) s.hi, fun m hm => lk (ne_mth m hm _ (by decide)) (s.no m hm)⟩
abbrev fs2 (lo hi : Str) : List (Str × V) := putF "nearest" (.str hi) (putF "none" (.str lo) [])
abbrev fs6 (lo hi : Str) (g D : Addr) (j t : V) : List (Str × V) := putF "_products" t (putF "_joins" j (putF "_places" (.ref D) (putF "_grades" (.ref g) (fs2 lo hi))))
theorem six6 {lo hi : Str} {g D : Addr} {j t : V} : Six (fs6 lo hi g D j t) g D j t lo hi :=
  ⟨lk (by decide) (lk (by decide) (lk (by decide) lk_same)), lk (by decide) (lk (by decide) lk_same), lk (by decide) lk_same, lk_same, lk (by decide) (lk (by decide) (lk (by decide) (lk (by decide) (lk (by decide) lk_same)))), lk (by decide) (lk (by decide) (lk (by decide) (lk (by decide) lk_same))),
    fun m hm => lk (ne_mth m hm _ (by decide)) (lk (ne_mth m hm _ (by decide)) (lk (ne_mth m hm _ (by decide)) (lk (ne_mth m hm _ (by decide)) (lk (ne_mth m hm _ (by decide)) (lk (ne_mth m hm _ (by decide)) rfl)))))⟩
theorem len6 {lo hi : Str} {g D : Addr} {j t : V} : (fs6 lo hi g D j t).length ≤ 6 := flen (flen (flen (flen (flen (flen (Nat.le_refl 0))))))
abbrev rRow (K : PySem.W.Frag) (i : Nat) : TE := tThen (tLc (iList K (tVar i)) (gName 7) tYes (tThen (tVar 7) (kTup K)) [7]) (kTup K)
theorem ok_init (F : FnM K "__init__" "Scale.__init__" sInit f fd) (T0 : Bl mg) (cf : ClsF K C fldN) (cM : Cal P w K mg base CX0 6 "_meet_rows" ["scale"] (spRowsOf K C false)) (cO : Cal P w K mg base CX0 6 "_only_rows" ["scale"] (spRowsOf K C true)) :
    FnOk P w K mg base CX0 7 f fd ["self", "grades", "joins", "products", "none", "nearest"] (spInit K C) := by
  refine F.ok scIn (fun vs H Q E h => ?_) (fun cdv A outer s H vs Q E hr h => ?_)
  · obtain ⟨a, dx, lg, vj, vt, G, J, T, lo, hi, rfl, _⟩ := h
    rfl
  · obtain ⟨a, dx, lg, vj, vt, G, J, T, lo, hi, rfl, ha, sg, dj, dt, nd, sz, wj, wt, hlo, hhi, q⟩ := h
    refine ⟨_, pss_cons (ps_fld (pv 0) (pv 4) rfl) (pss_cons (ps_fld (pv 0) (pv 5) rfl) (pss_cons (ps_fld (pv 0) (pe_tupleOf rfl T0.tup (pv 1)) rfl)
      (pss_cons (ps_fld (pv 0) (pe_dc (own := [("place", 6)]) (g := gName 6) (tt := tYes) (tk := tOp (rIxL K) (tVar 1) (tVar 6)) (tv := tVar 6) rfl scIn.nd (pi_range1 rfl T0.rng (pa_cons (pe_callB call_len_seq (by rfl) T0.len boot_len (pa_cons (pv 1) pa_nil)) pa_nil)) (blkOk_by (N := NIn) (sc := defScope sInit) (by decide +kernel))
        (fun _ _ _ _ _ => pg_name (i := 6) scIn.nd rfl (Or.inl rfl)) (fun _ _ _ _ _ => pts_nil) (fun _ _ _ _ _ => by exact pe_ix ix_list (pv 1) (pv 6) (fun _ _ => rfl)) (fun _ _ _ _ _ => pv 6)) rfl)
      (pss_cons (ps_fld (pv 0) (pe_tupleOf rfl T0.tup (pe_lc (own := [("row", 7)]) (g := gName 7) (tt := tYes) (te := tThen (tVar 7) (kTup K)) rfl scIn.nd (pi_list (pv 2)) (blkOk_by (N := NIn) (sc := defScope sInit) (by decide +kernel)) (fun _ _ _ _ _ => pg_name (i := 7) scIn.nd rfl (Or.inl rfl)) (fun _ _ _ _ _ => pts_nil) (fun _ _ _ _ _ => by exact pe_tupleOf rfl T0.tup (pv 7)))) rfl)
      (pss_cons (ps_fld (pv 0) (pe_tupleOf rfl T0.tup (pe_lc (own := [("row", 7)]) (g := gName 7) (tt := tYes) (te := tThen (tVar 7) (kTup K)) rfl scIn.nd (pi_list (pv 3)) (blkOk_by (N := NIn) (sc := defScope sInit) (by decide +kernel)) (fun _ _ _ _ _ => pg_name (i := 7) scIn.nd rfl (Or.inl rfl)) (fun _ _ _ _ _ => pts_nil) (fun _ _ _ _ _ => by exact pe_tupleOf rfl T0.tup (pv 7)))) rfl)
      (pss_cons (ps_fld (pv 0) (pe_cal cM hr rfl pass0 (pa_cons (pv 0) pa_nil)) rfl) (pss_one (ps_fld (pv 0) (pe_cal cO hr rfl pass0 (pa_cons (pv 0) pa_nil)) rfl)))))))), ?_⟩
    have L : SqL K (dl a H) lg (G.map V.str) := sql_dl ha sg
    have DJ := dp_dl ha dj
    have DT := dp_dl ha dt
    -- none, nearest
    refine q_fld (ev_var rfl) (ev_var rfl) ha cf.cl (cf.no _ (by decide)) (lt_th (Nat.le_refl 0) (by decide)) fun H1 e1 => ?_
    have b1 : But a H (upd H1 a (.ins C dx (putF "none" (.str lo) []))) := (But.of e1).trans But.upd
    have a1 : (upd H1 a (.ins C dx (putF "none" (.str lo) []))) a = some (.ins C dx (putF "none" (.str lo) [])) := upd_same
    show tSeq _ _ _ _ (upd H1 a (.ins C dx (putF "none" (.str lo) [])))
    generalize upd H1 a (.ins C dx (putF "none" (.str lo) [])) = K1 at b1 a1 ⊢
    refine q_fld (ev_var rfl) (ev_var rfl) a1 cf.cl (cf.no _ (by decide)) (lt_th (flen (Nat.le_refl 0)) (by decide)) fun H2 e2 => ?_
    have b2 : But a H (upd H2 a (.ins C dx (fs2 lo hi))) := (b1.trans (But.of e2)).trans But.upd
    have a2 : (upd H2 a (.ins C dx (fs2 lo hi))) a = some (.ins C dx (fs2 lo hi)) := upd_same
    show tSeq _ _ _ _ (upd H2 a (.ins C dx (fs2 lo hi)))
    generalize upd H2 a (.ins C dx (fs2 lo hi)) = K2 at b2 a2 ⊢
    -- _grades
    have dpG : Dp K (dl a K2) (.ref lg) (.list (G.map .str)) := .lst (ex_l (dl_but b2) L) (dpa_strs G)
    refine q_fldG (of_qd (qd_tupOf (ev_var rfl) dpG) (by rw [a2]; simp)) (ev_var rfl) a2 cf.cl (cf.no _ (by decide)) (lt_th (flen (flen (Nat.le_refl 0))) (by decide)) fun v3 H3 e3 dv => ?_
    obtain ⟨g, rfl, hg⟩ : ∃ g, v3 = .ref g ∧ SqT K (dl a H3) g (G.map V.str) := by
      cases dv with
      | @tup g xs _ hs hd => exact ⟨g, rfl, by rw [← strs_of hd]; exact hs⟩
    have b3 : But a H (upd H3 a (.ins C dx (putF "_grades" (.ref g) (fs2 lo hi)))) := (b2.trans (But.of e3)).trans But.upd
    have a3 : (upd H3 a (.ins C dx (putF "_grades" (.ref g) (fs2 lo hi)))) a = some (.ins C dx (putF "_grades" (.ref g) (fs2 lo hi))) := upd_same
    have g3 : SqT K (dl a (upd H3 a (.ins C dx (putF "_grades" (.ref g) (fs2 lo hi))))) g (G.map V.str) := by rw [dl_upd]; exact hg
    show tSeq _ _ _ _ (upd H3 a (.ins C dx (putF "_grades" (.ref g) (fs2 lo hi))))
    generalize upd H3 a (.ins C dx (putF "_grades" (.ref g) (fs2 lo hi))) = K3 at b3 a3 g3 ⊢
    -- _places
    have L3 : SqL K K3 lg (G.map V.str) := ex_l dl_ex (ex_l (dl_but b3) L)
    refine q_fldX (φ := fun v Ha Hb => ∃ D, v = .ref D ∧ Ha D = none ∧ Hb D = some (.dK (plc G 0))) (fun Q k => dc_places (gs := G) nd (by omega) (ea_cons (ev_is (ev_cb (ea_cons (ev_var rfl) ea_nil) (rc_len (.inl L3))) (by rw [List.length_map])) ea_nil) (fun x => rfl)
      (fun i x hi => by exact ev_op (ev_var rfl) (ev_var rfl) (rv_ixL L3 (atI_nat (by rw [List.getElem?_map, hi]; rfl)))) (fun i => by exact ev_var rfl) fun D H4 n4 e4 hD => k _ H4 e4 ⟨D, rfl, n4, hD⟩)
      (ev_var rfl) a3 cf.cl (cf.no _ (by decide)) (lt_th (flen (flen (flen (Nat.le_refl 0)))) (by decide)) (fun v H1 H2 e ⟨D, q1, q2, q3⟩ => ⟨D, q1, q2, e _ _ q3⟩) fun v4 H4 e4 hv4 => ?_
    obtain ⟨D, rfl, n4, hD⟩ := hv4
    have Da : D ≠ a := fun z => by
      rw [z, a3] at n4
      cases n4
    have b34 : But a K3 (upd H4 a (.ins C dx (putF "_places" (.ref D) (putF "_grades" (.ref g) (fs2 lo hi))))) := (But.of e4).trans But.upd
    have a4 : (upd H4 a (.ins C dx (putF "_places" (.ref D) (putF "_grades" (.ref g) (fs2 lo hi))))) a = some (.ins C dx (putF "_places" (.ref D) (putF "_grades" (.ref g) (fs2 lo hi)))) := upd_same
    have D4 : dl a (upd H4 a (.ins C dx (putF "_places" (.ref D) (putF "_grades" (.ref g) (fs2 lo hi))))) D = some (.dK (plc G 0)) := by rw [dl_upd, dl_ne Da]; exact hD
    show tSeq _ _ _ _ (upd H4 a (.ins C dx (putF "_places" (.ref D) (putF "_grades" (.ref g) (fs2 lo hi)))))
    generalize upd H4 a (.ins C dx (putF "_places" (.ref D) (putF "_grades" (.ref g) (fs2 lo hi)))) = K4 at b34 a4 D4 ⊢
    have b4 := b3.trans b34
    -- _joins
    have zj : J.length ≤ 1000 := by
      have := wj.len
      omega
    have zt : T.length ≤ 1000 := by
      have := wt.len
      omega
    refine q_fldG (of_qd (qd_rows (ev_var rfl) (dp_ext (dl_but b4) DJ) zj (fun x => rfl) (fun x => rfl)) (by rw [a4]; simp)) (ev_var rfl) a4 cf.cl (cf.no _ (by decide)) (lt_th (flen (flen (flen (flen (Nat.le_refl 0))))) (by decide)) fun v5 H5 e5 d5 => ?_
    have b45 : But a K4 (upd H5 a (.ins C dx (putF "_joins" v5 (putF "_places" (.ref D) (putF "_grades" (.ref g) (fs2 lo hi)))))) := (But.of e5).trans But.upd
    have a5 : (upd H5 a (.ins C dx (putF "_joins" v5 (putF "_places" (.ref D) (putF "_grades" (.ref g) (fs2 lo hi)))))) a = some (.ins C dx (putF "_joins" v5 (putF "_places" (.ref D) (putF "_grades" (.ref g) (fs2 lo hi))))) := upd_same
    have J5 : Dp K (dl a (upd H5 a (.ins C dx (putF "_joins" v5 (putF "_places" (.ref D) (putF "_grades" (.ref g) (fs2 lo hi))))))) v5 (tab J) := by rw [dl_upd]; exact d5
    show tSeq _ _ _ _ (upd H5 a (.ins C dx (putF "_joins" v5 (putF "_places" (.ref D) (putF "_grades" (.ref g) (fs2 lo hi))))))
    generalize upd H5 a (.ins C dx (putF "_joins" v5 (putF "_places" (.ref D) (putF "_grades" (.ref g) (fs2 lo hi))))) = K5 at b45 a5 J5 ⊢
    have b5 := b4.trans b45
    -- _products
    refine q_fldG (of_qd (qd_rows (ev_var rfl) (dp_ext (dl_but b5) DT) zt (fun x => rfl) (fun x => rfl)) (by rw [a5]; simp)) (ev_var rfl) a5 cf.cl (cf.no _ (by decide)) (lt_th (flen (flen (flen (flen (flen (Nat.le_refl 0)))))) (by decide)) fun v6 H6 e6 d6 => ?_
    have b56 : But a K5 (upd H6 a (.ins C dx (fs6 lo hi g D v5 v6))) := (But.of e6).trans But.upd
    have a6 : (upd H6 a (.ins C dx (fs6 lo hi g D v5 v6))) a = some (.ins C dx (fs6 lo hi g D v5 v6)) := upd_same
    have T6 : Dp K (dl a (upd H6 a (.ins C dx (fs6 lo hi g D v5 v6)))) v6 (tab T) := by rw [dl_upd]; exact d6
    show tSeq _ _ _ _ (upd H6 a (.ins C dx (fs6 lo hi g D v5 v6)))
    generalize upd H6 a (.ins C dx (fs6 lo hi g D v5 v6)) = K6 at b56 a6 T6 ⊢
    have b6 := b5.trans b56
    have b36 := (b34.trans b45).trans b56
    have b46 := b45.trans b56
    have scK : ∀ (K7 : Hp) (fs : List (Str × V)), But a K6 K7 → K7 a = some (.ins C dx fs) → Six fs g D v5 v6 lo hi → ScAt K C K7 a G J T lo hi := fun K7 fs b7 a7 s7 =>
      ⟨⟨dx, fs, g, D, v5, v6, a7, s7.gr, ex_t dl_ex (ex_t (dl_but (b36.trans b7)) g3), s7.pl, dl_ex _ _ (dl_but (b46.trans b7) _ _ D4), s7.jo, dp_ext dl_ex (dp_ext (dl_but (b56.trans b7)) J5), s7.pr, dp_ext dl_ex (dp_ext (dl_but b7) T6), s7.lo, s7.hi, s7.no⟩, nd, sz, wj, wt, hlo, hhi⟩
    -- _meets
    refine ⟨_, rfl, a, G, J, T, lo, hi, rfl, scK K6 _ (fun c o _ z => z) a6 six6, fun v7 H7 e7 d7 => ⟨_, rfl, a, C, dx, _, rfl, e7 _ _ a6, cf.cl, cf.no _ (by decide), lt_th len6 (by decide), ?_⟩⟩
    have d7' : Dp K (dl a H7) v7 (tab (rowsOf G (meetOf G J lo))) := dp_dl (e7 _ _ a6) d7
    have b67 : But a K6 (upd H7 a (.ins C dx (putF "_meets" v7 (fs6 lo hi g D v5 v6)))) := (But.of e7).trans But.upd
    have a7 : (upd H7 a (.ins C dx (putF "_meets" v7 (fs6 lo hi g D v5 v6)))) a = some (.ins C dx (putF "_meets" v7 (fs6 lo hi g D v5 v6))) := upd_same
    have M7 : Dp K (dl a (upd H7 a (.ins C dx (putF "_meets" v7 (fs6 lo hi g D v5 v6))))) v7 (tab (rowsOf G (meetOf G J lo))) := by rw [dl_upd]; exact d7'
    generalize upd H7 a (.ins C dx (putF "_meets" v7 (fs6 lo hi g D v5 v6))) = K7 at b67 a7 M7 ⊢
    -- _onlys
    refine ⟨_, rfl, a, G, J, T, lo, hi, rfl, scK K7 _ b67 a7 (six6.put (.inl rfl)), fun v8 H8 e8 d8 => ⟨_, rfl, a, C, dx, _, rfl, e8 _ _ a7, cf.cl, cf.no _ (by decide), lt_th (flen len6) (by decide), ?_⟩⟩
    have d8' : Dp K (dl a H8) v8 (tab (rowsOf G (onlyOf G J T lo))) := dp_dl (e8 _ _ a7) d8
    have b78 : But a K7 (upd H8 a (.ins C dx (putF "_onlys" v8 (putF "_meets" v7 (fs6 lo hi g D v5 v6))))) := (But.of e8).trans But.upd
    refine q _ ((b6.trans b67).trans b78) ⟨scK _ _ (b67.trans b78) upd_same ((six6.put (.inl rfl)).put (.inr rfl)), dx, _, v7, v8, upd_same, lk (by decide) lk_same, dp_ext dl_ex (dp_ext (dl_but b78) M7), lk_same, dp_ext dl_ex (by rw [dl_upd]; exact d8')⟩
end
end K03

set_option Elab.async false
set_option linter.all false
set_option maxRecDepth 100000
set_option maxHeartbeats 8000000
/-! S9: what a table scale's texts and rows are looked through for. -/
namespace S
open PySem PySem.Spec PyProof.Rows L2 Evl J ClX StX
section
variable {K : PySem.W.Frag} {σ : L2.St} {H : Hp} {te tl ta : TE} {vs : List Nat} {j : Nat} {a : Addr}
/-- [f(sign) for sign in a text] -/
theorem el_lcS {x : Str} {f : Nat → V} (h : Ev tl σ H (.str x)) (hz : x.cps.size ≤ 40000) (hw : ∀ x, wipe ((wipe σ vs).set j (some x)) vs = wipe σ vs)
    (he : ∀ c, c ∈ x.cps.toList → Ev te ((wipe σ vs).set j (some (.str ⟨#[c]⟩))) H (f c)) : EvL (tLc (iStr tl) (gName j) tYes te vs) σ H (x.cps.toList.map f) := fun H1 e Q q =>
  h H1 e _ fun H0 e0 => ⟨x, rfl, fun D hD => by
    refine ⟨fun i m H' => m = x.cps.size - i ∧ i ≤ x.cps.size ∧ H0 D = none ∧ Ex H0 H' ∧ H' D = some (.lst ((x.cps.toList.take i).map f)), ⟨x.cps.size, by simp, Nat.zero_le _, hD, Ex.new hD, by simpa using upd_same⟩, ?_⟩
    rintro i m H' ⟨rfl, hi, g0, g1, g2⟩
    by_cases hlt : i < x.cps.size
    · refine .inr ⟨hlt, fun H5 => i + 1 ≤ x.cps.size ∧ H0 D = none ∧ Ex H0 H5 ∧ H5 D = some (.lst ((x.cps.toList.take (i + 1)).map f)), fun H5 p' => ⟨x.cps.size - (i + 1), by omega, rfl, p'.1, p'.2⟩, fun v H5 y => ?_⟩
      obtain ⟨e5, c, hc, ev⟩ := y
      subst e5 ev
      have hc2 : x.cps.toList[i]? = some c := by rw [Array.getElem?_toList]; exact hc
      have mem : c ∈ x.cps.toList := List.mem_of_getElem? hc2
      refine ⟨hw _, ?_⟩
      show te _ H5 _
      refine he c mem H5 ((e.trans e0).trans g1) _ fun H6 e6 => ?_
      have d6 := e6 _ _ g2
      refine ⟨_, d6, sz_lt (by rw [List.length_map, List.length_take]; omega), hlt, g0, Ex.mut (g1.trans e6) g0, ?_⟩
      rw [upd_same, List.take_add_one, hc2, List.map_append]
      rfl
    · have e9 : i = x.cps.size := by omega
      subst e9
      refine .inl ⟨Nat.le_refl _, q D H' (fresh_back e0 g0) (e0.trans g1) ?_⟩
      rw [g2, List.take_of_length_le (by simp)]⟩
/-- a dict comprehension over unlike texts, each with the same value -/
theorem dc_same {gs : List Str} {tk tv : TE} {v : V} (nd : gs.Nodup) (hv : Ev tl σ H (.ref a)) (hx : SqL K H a (gs.map V.str)) (hz : gs.length ≤ 1000) (hw : ∀ x, wipe ((wipe σ vs).set j (some x)) vs = wipe σ vs)
    (ek : ∀ x, x ∈ gs → Ev tk ((wipe σ vs).set j (some (.str x))) H (.str x)) (el : ∀ x, x ∈ gs → Ev tv ((wipe σ vs).set j (some (.str x))) H v)
    {Q : VK} (k : ∀ D H2, H D = none → Ex H H2 → H2 D = some (.dK (gs.map fun x => (Sum.inr x, v))) → Q (.ref D) H2) : tDc (iList K tl) (gName j) tYes tk tv vs σ H Q := by
  refine hv H (Ex.refl H) _ fun H0 e0 => ⟨a, rfl, ⟨_, ex_l e0 hx⟩, fun D hD => ?_⟩
  refine ⟨fun i m H' => m = gs.length - i ∧ i ≤ gs.length ∧ H0 D = none ∧ Ex H0 H' ∧ H' D = some (.dK ((gs.take i).map fun x => (Sum.inr x, v))), ⟨gs.length, by simp, Nat.zero_le _, hD, Ex.new hD, by simpa using upd_same⟩, ?_⟩
  rintro i m H' ⟨rfl, hi, g0, g1, g2⟩
  have q := ex_l (e0.trans g1) hx
  by_cases hlt : i < gs.length
  · refine .inr ⟨⟨gs.map V.str, .str gs[i], q, by simp [hlt]⟩, fun H5 => i + 1 ≤ gs.length ∧ H0 D = none ∧ Ex H0 H5 ∧ H5 D = some (.dK ((gs.take (i + 1)).map fun x => (Sum.inr x, v))), fun H5 p' => ⟨gs.length - (i + 1), by omega, rfl, p'.1, p'.2⟩, fun x H5 y => ?_⟩
    obtain ⟨e5, y⟩ := y
    subst e5
    have hxi : x = .str gs[i] := by
      have := y (gs.map V.str) q
      simpa [hlt] using this.symm
    subst hxi
    have mem : gs[i] ∈ gs := List.getElem_mem hlt
    have hg : gs[i]? = some gs[i] := List.getElem?_eq_getElem hlt
    refine ⟨hw _, ?_⟩
    show tk _ H5 _
    refine ek _ mem H5 (e0.trans g1) _ fun H6 e6 => el _ mem H6 ((e0.trans g1).trans e6) _ fun H7 e7 => ?_
    have d7 := e7 _ _ (e6 _ _ g2)
    have ni : gs[i] ∉ gs.take i := fun z => by
      obtain ⟨n, hn, e⟩ := List.getElem_of_mem z
      have h1 : n < i := by
        rw [List.length_take] at hn
        omega
      rw [List.getElem_take] at e
      have := (List.getElem_inj nd).mp e
      omega
    refine ⟨_, Sum.inr gs[i], rfl, d7, sz_lt (by rw [List.length_map, List.length_take]; omega), hlt, g0, Ex.mut ((g1.trans e6).trans e7) g0, ?_⟩
    rw [upd_same, List.take_add_one, hg, List.map_append]
    unfold putK
    rw [if_neg]
    · rfl
    · intro z
      rw [List.any_eq_true] at z
      obtain ⟨p, hp, e⟩ := z
      obtain ⟨y2, hy, rfl⟩ := List.mem_map.mp hp
      exact ni (Sum.inr.inj (of_decide_eq_true e) ▸ hy)
  · have e : i = gs.length := by omega
    subst e
    refine .inl ⟨⟨_, q, by simp⟩, k D H' (fresh_back e0 g0) (e0.trans g1) ?_⟩
    rw [List.take_length] at g2
    exact g2
end
end S

set_option Elab.async false
set_option linter.all false
set_option maxRecDepth 100000
set_option maxHeartbeats 8000000
/-! S10: is_row, is_run, _are_unlike, the checks. -/
namespace S
open PySem PySem.Spec PyProof.Rows L2 Evl J ClX StX
section
variable {K : PySem.W.Frag} {σ : L2.St} {H : Hp} {ta tb tc : TE} {i j k : Int}
/-- i <= j <= k -/
theorem et_le2 (ha : Ev ta σ H (.int i)) (hb : Ev tb σ H (.int j)) (hc : Ev tc σ H (.int k)) : EvT (tTest (tChain (rI0 fun i j => .bl (decide (i ≤ j))) (rI0 fun i j => .bl (decide (i ≤ j))) ta tb tc)) σ H (decide (i ≤ j) && decide (j ≤ k)) := fun H1 e Q q =>
  ha H1 e _ fun H2 e2 => hb H2 (e.trans e2) _ fun H3 e3 => ⟨i, j, rfl, rfl, decide (i ≤ j), rfl, by
    by_cases h : i ≤ j
    · rw [if_pos (by simpa using h)]
      refine hc H3 ((e.trans e2).trans e3) _ fun H4 e4 => ⟨j, k, rfl, rfl, _, rfl, ?_⟩
      have z := q H4 ((e2.trans e3).trans e4)
      rw [decide_eq_true h, Bool.true_and] at z
      exact z
    · rw [if_neg (by simpa using h)]
      refine ⟨_, rfl, ?_⟩
      have z := q H3 (e2.trans e3)
      rw [decide_eq_false h, Bool.false_and] at z
      exact z⟩
end
theorem kitL {K : PySem.W.Frag} : PySem.W.kitAny K (.type "list") [.type "list", .type "tuple"] = some true := by
  unfold PySem.W.kitAny
  rw [kit_ty (r := true) (by decide +kernel)]
theorem kitT {K : PySem.W.Frag} : PySem.W.kitAny K (.type "tuple") [.type "list", .type "tuple"] = some true := by
  unfold PySem.W.kitAny
  rw [kit_ty (r := false) (by decide +kernel)]
  unfold PySem.W.kitAny
  rw [kit_ty (r := true) (by decide +kernel)]
end S
namespace K03
open PySem PySem.Spec PyProof.Rows L2 Evl J ClX StX S
abbrev sIsRow : Stmt := topS 13
abbrev sIsRun : Stmt := topS 14
abbrev sUnlike : Stmt := topS 23
abbrev sChG : Stmt := topS 22
abbrev sChR : Stmt := topS 24
abbrev sChE : Stmt := topS 25
def signS : Str := "abcdefghijklmnopqrstuvwxyz0123456789"
def runB (x : Str) : Bool := decide (1 ≤ (x.length : Int)) && decide ((x.length : Int) ≤ 12) && x.cps.toList.all fun c => decide (c ∈ signS.cps.toList)
def spIsRow (K : PySem.W.Frag) : Sp := fun vs H Q _ => ∃ (v : V) (d : PyData) (ds : List PyData), vs = [v] ∧ Dp K H v d ∧ (d = .list ds ∨ d = .tuple ds) ∧ RetV (.bl true) H Q
def spIsRun : Sp := fun vs H Q _ => ∃ x : Str, vs = [.str x] ∧ x.length ≤ 40000 ∧ RetV (.bl (runB x)) H Q
def spUnlike (K : PySem.W.Frag) : Sp := fun vs H Q _ => ∃ (l : Addr) (G : List Str), vs = [.ref l] ∧ SqL K H l (G.map V.str) ∧ G.Nodup ∧ G.length ≤ 1000 ∧ RetV (.bl true) H Q
def spChG (K : PySem.W.Frag) : Sp := fun vs H Q _ => ∃ (l : Addr) (G : List Str), vs = [.ref l] ∧ SqL K H l (G.map V.str) ∧ G.Nodup ∧ 1 ≤ G.length ∧ G.length ≤ 8 ∧ (∀ x ∈ G, runB x = true) ∧ RetV .non H Q
def spChE (K : PySem.W.Frag) : Sp := fun vs H Q _ => ∃ (l l2 : Addr) (G xs : List Str), vs = [.ref l, .ref l2] ∧ SqL K H l (G.map V.str) ∧ SqL K H l2 (xs.map V.str) ∧ (∀ x ∈ xs, x ∈ G) ∧ RetV .non H Q
def spChR (K : PySem.W.Frag) : Sp := fun vs H Q _ => ∃ (l : Addr) (v : V) (G : List Str) (J : List (List Str)), vs = [.ref l, v] ∧ SqL K H l (G.map V.str) ∧ G.length ≤ 1000 ∧ Dp K H v (rowsL J) ∧ Wf G J ∧ RetV .non H Q
/-- further names of the module -/
structure Bl2 (mg : Str → Option Value) : Prop where
  all : mg "all" = none
  sgn : ∃ t, mg "SIGNS" = some (.str signS t)
  lng : ∃ t, mg "LONGEST" = some (.int 12 t)
  mst : ∃ t, mg "MOST_GRADES" = some (.int 8 t)
section
variable {P : Program} {w : World} {K : PySem.W.Frag} {mg : Str → Option Value} {base : Heap} {f : Addr} {fd : FuncData}
abbrev N1 : List Str := ["value"]
abbrev N2 : List Str := ["value", "sign"]
abbrev N3 : List Str := ["strings", "text"]
abbrev N4 : List Str := ["grades", "grade"]
abbrev N5 : List Str := ["grades", "entries", "entry"]
abbrev N6 : List Str := ["grades", "rows", "row"]
theorem sc1 : FnScope N1 ["value"] (defScope sIsRow) := ⟨rfl, rfl, rfl, by decide +kernel, rfl, by decide +kernel, by decide +kernel⟩
theorem sc2 : FnScope N2 ["value"] (defScope sIsRun) := ⟨rfl, rfl, rfl, by decide +kernel, rfl, by decide +kernel, by decide +kernel⟩
theorem sc3 : FnScope N3 ["strings"] (defScope sUnlike) := ⟨rfl, rfl, rfl, by decide +kernel, rfl, by decide +kernel, by decide +kernel⟩
theorem sc4 : FnScope N4 ["grades"] (defScope sChG) := ⟨rfl, rfl, rfl, by decide +kernel, rfl, by decide +kernel, by decide +kernel⟩
theorem sc5 : FnScope N5 ["grades", "entries"] (defScope sChE) := ⟨rfl, rfl, rfl, by decide +kernel, rfl, by decide +kernel, by decide +kernel⟩
theorem sc6 : FnScope N6 ["grades", "rows"] (defScope sChR) := ⟨rfl, rfl, rfl, by decide +kernel, rfl, by decide +kernel, by decide +kernel⟩
theorem ok_isRow (F : FnP K "is_row" sIsRow f fd) (T : Bl mg) : FnOk P w K mg base CX0 1 f fd ["value"] (spIsRow K) := by
  refine F.ok sc1 (fun vs H Q E h => ?_) (fun cdv A outer s H vs Q E hr h => ?_)
  · obtain ⟨v, d, ds, rfl, _⟩ := h
    rfl
  · obtain ⟨v, d, ds, rfl, dp, hd, q⟩ := h
    refine ⟨_, pss_one (ps_ret (pe_callB call_isiT (by rfl) T.isi boot_isinstance (pa_cons (pv 0) (pa_cons (pe_tup (pa_cons (pe_bltn (v := .ty "list") (by rfl) T.lst Boot.«list» rfl) (pa_cons (pe_bltn (v := .ty "tuple") (by rfl) T.tup Boot.«tuple» rfl) pa_nil))) pa_nil)))), ?_⟩
    refine ⟨v, rfl, sz_of (by simp), fun tp htp => ?_⟩
    obtain ⟨t, ty, te⟩ := tyx_dp (dp_ext (Ex.new htp) dp)
    rcases hd with rfl | rfl
    · obtain rfl : t = "list" := te
      exact ⟨v, tp, _, .type "list", [.type "list", .type "tuple"], true, rfl, upd_same, .cons (.ty _) (.cons (.ty _) .nil), ty, kitL, q _ (Ex.new htp)⟩
    · obtain rfl : t = "tuple" := te
      exact ⟨v, tp, _, .type "tuple", [.type "list", .type "tuple"], true, rfl, upd_same, .cons (.ty _) (.cons (.ty _) .nil), ty, kitT, q _ (Ex.new htp)⟩
theorem ok_isRun (F : FnP K "is_run" sIsRun f fd) (T : Bl mg) (T2 : Bl2 mg) : FnOk P w K mg base CX0 1 f fd ["value"] spIsRun := by
  refine F.ok sc2 (fun vs H Q E h => ?_) (fun cdv A outer s H vs Q E hr h => ?_)
  · obtain ⟨x, rfl, _⟩ := h
    rfl
  · obtain ⟨x, rfl, hz, q⟩ := h
    obtain ⟨tS, gS⟩ := T2.sgn
    obtain ⟨tL, gL⟩ := T2.lng
    refine ⟨_, pss_cons (ps_if (PW.pt (pw_or (pt_not (pt_val (pe_callB call_isi (by rfl) T.isi boot_isinstance (pa_cons (pv 0) (pa_cons (pe_bltn (v := .ty "str") (by rfl) T.str Boot.«str» rfl) pa_nil))))) (pw_or1 (pt_not (pt_chain op_le op_le pe_int (pe_callB call_len_str (by rfl) T.len boot_len (pa_cons (pv 0) pa_nil)) (pe_glob (v := .int 12) rfl gL ⟨_, rfl⟩)))))) (pss_one (ps_ret pe_bl)) pss_nil)
      (pss_one (ps_ret (pe_callB (cr_all rfl) (by rfl) T2.all boot_all (pa_cons (pe_lc (own := [("sign", 1)]) (g := gName 1) (tt := tYes) rfl sc2.nd (pi_str (pv 0)) (blkOk_by (N := N2) (sc := defScope sIsRun) (by decide +kernel)) (fun _ _ _ _ _ => pg_name (i := 1) sc2.nd rfl (Or.inl rfl)) (fun _ _ _ _ _ => pts_nil)
        (fun _ _ _ _ _ => pe_cmpR op_in_sign (pv 1) (pe_glob (v := .str signS) rfl gS ⟨_, rfl⟩) rfl)) pa_nil)))), ?_⟩
    have ln : ∀ H1, Ex H H1 → Ev (tCB (fun xs H Q => ∃ z, xs = [.str z] ∧ z.length ≤ sizeLine ∧ Q (.int z.length) H) (tCons (tVar 0) tNil)) [some (.str x), none] H1 (.int (x.length : Int)) := fun H1 _ =>
      ev_cb (ea_cons (ev_var rfl) ea_nil) (fun H2 _ Q q => ⟨x, rfl, sz_of (by omega), q H2 (Ex.refl H2)⟩)
    refine q_when (b := !(decide (1 ≤ (x.length : Int)) && decide ((x.length : Int) ≤ 12))) (et_is (et_or (et_not (et_B (ev_isi (ev_var rfl) (fun H1 e => .base (.str x)) (by decide +kernel : kitB "str" "str" = some true)))) (fun _ => et_not (et_le2 ev_c (ln H (Ex.refl H)) ev_c))) (by simp)) (fun hb H1 e1 => ?_) (fun hb H1 e1 => ?_)
    · refine s_ret ev_c fun H2 e2 => ?_
      have z := q H2 (e1.trans e2)
      unfold runB at z
      rw [Bool.not_eq_true'] at hb
      rw [hb, Bool.false_and] at z
      exact z
    · rw [Bool.not_eq_false'] at hb
      have z2 : RetV (.bl (x.cps.toList.all fun c => decide (c ∈ signS.cps.toList))) H Q := fun H2 e2 => by
        have z := q H2 e2
        unfold runB at z
        rw [hb, Bool.true_and] at z
        exact z
      have lst : EvL (tLc (iStr (tVar 0)) (gName 1) tYes (tOp (fun x y H Q => ∃ (c : Nat) (z : Str), x = .str ⟨#[c]⟩ ∧ y = .str z ∧ Q (.bl (decide (c ∈ z.cps.toList))) H) (tVar 1) (tC (.str signS))) [1]) [some (.str x), none] H1 (x.cps.toList.map fun c => .bl (decide (c ∈ signS.cps.toList))) :=
        el_lcS (ev_var rfl) hz (fun x => rfl) (fun c _ => ev_op (ev_var rfl) ev_c (fun H3 _ Q3 q3 => ⟨c, signS, rfl, rfl, q3 H3 (Ex.refl H3)⟩))
      have main : Ev (tCB (rAll K) (tCons (tLc (iStr (tVar 0)) (gName 1) tYes (tOp (fun x y H Q => ∃ (c : Nat) (z : Str), x = .str ⟨#[c]⟩ ∧ y = .str z ∧ Q (.bl (decide (c ∈ z.cps.toList))) H) (tVar 1) (tC (.str signS))) [1]) tNil)) [some (.str x), none] H1 (.bl (x.cps.toList.all fun c => decide (c ∈ signS.cps.toList))) := fun H2 e2 Q2 q2 =>
        lst H2 e2 (fun v H' => rAll K [v] H' Q2) fun p H3 n3 e3 h3 => ⟨p, x.cps.toList.map fun c => decide (c ∈ signS.cps.toList), rfl, sq_of (by rw [h3, List.map_map]; rfl), by
          rw [List.all_map]
          exact q2 H3 e3⟩
      exact s_ret main fun H2 e2 => z2 H2 (e1.trans e2)
end
end K03

set_option Elab.async false
set_option linter.all false
set_option maxRecDepth 100000
set_option maxHeartbeats 8000000
/-! S11: _are_unlike, _check_grades, _check_entries, _check_rows. -/
namespace S
open PySem PySem.Spec PyProof.Rows L2 Evl J ClX StX
section
variable {K : PySem.W.Frag} {σ : L2.St} {H : Hp} {tl ta : TE}
theorem ev_all {bs : List Bool} (h : EvL tl σ H (bs.map V.bl)) : Ev (tCB (rAll K) (tCons tl tNil)) σ H (.bl (bs.all id)) := fun H1 e Q q =>
  h H1 e (fun v H' => rAll K [v] H' Q) fun p H2 n2 e2 h2 => ⟨p, bs, rfl, sq_of h2, q H2 e2⟩
theorem ev_lenS {p : Addr} {xs : List V} (ha : Ev ta σ H (.ref p)) (h : SqL K H p xs ∨ SqT K H p xs) : Ev (tCB (fun xs H Q => ∃ p ys, xs = [.ref p] ∧ (SqL K H p ys ∨ SqT K H p ys) ∧ Q (.int ys.length) H) (tCons ta tNil)) σ H (.int (xs.length : Int)) :=
  ev_cb (ea_cons ha ea_nil) (rc_len h)
end
end S
namespace K03
open PySem PySem.Spec PyProof.Rows L2 Evl J ClX StX S
section
variable {P : Program} {w : World} {K : PySem.W.Frag} {mg : Str → Option Value} {base : Heap} {f : Addr} {fd : FuncData}
theorem ok_unlike (F : FnP K "_are_unlike" sUnlike f fd) (T : Bl mg) : FnOk P w K mg base CX0 1 f fd ["strings"] (spUnlike K) := by
  refine F.ok sc3 (fun vs H Q E h => ?_) (fun cdv A outer s H vs Q E hr h => ?_)
  · obtain ⟨l, G, rfl, _⟩ := h
    rfl
  · obtain ⟨l, G, rfl, sg, nd, hz, q⟩ := h
    refine ⟨_, pss_one (ps_ret (pe_cmpR op_eq (pe_callB call_lenD (by rfl) T.len boot_len (pa_cons (pe_dc (own := [("text", 1)]) (g := gName 1) (tt := tYes) (tk := tVar 1) (tv := tC (.bl true)) rfl sc3.nd (pi_list (pv 0)) (blkOk_by (N := N3) (sc := defScope sUnlike) (by decide +kernel)) (fun _ _ _ _ _ => pg_name (i := 1) sc3.nd rfl (Or.inl rfl)) (fun _ _ _ _ _ => pts_nil) (fun _ _ _ _ _ => pv 1) (fun _ _ _ _ _ => pe_bl)) pa_nil)) (pe_callB call_len_seq (by rfl) T.len boot_len (pa_cons (pv 0) pa_nil)) (nomark _))), ?_⟩
    have left : Ev (tCB (fun xs H Q => ∃ a kvs, xs = [V.ref a] ∧ H a = some (.dK kvs) ∧ Q (.int kvs.length) H) (tCons (tDc (iList K (tVar 0)) (gName 1) tYes (tVar 1) (tC (.bl true)) [1]) tNil)) [some (.ref l), none] H (.int (G.length : Int)) := fun H1 e Q q =>
      dc_same (v := .bl true) (Q := fun v H' => ∃ a kvs, [v] = [V.ref a] ∧ H' a = some (.dK kvs) ∧ Q (.int (kvs.length : Nat)) H') nd (ev_var rfl) (ex_l e sg) hz (fun x => rfl) (fun x _ => ev_var rfl) (fun x _ => ev_c) fun D H2 n2 e2 hD => ⟨D, _, rfl, hD, by rw [List.length_map]; exact q H2 e2⟩
    exact s_ret (ev_is (w := .bl true) (ev_op left (ev_lenS (ev_var rfl) (.inl sg)) (rv_eq rfl)) (by simp)) fun H2 e2 => q H2 e2
theorem ok_chG (F : FnP K "_check_grades" sChG f fd) (T : Bl mg) (T2 : Bl2 mg) (cR : Cal P w K mg base CX0 1 "is_row" ["value"] (spIsRow K)) (cN : Cal P w K mg base CX0 1 "is_run" ["value"] spIsRun) (cU : Cal P w K mg base CX0 1 "_are_unlike" ["strings"] (spUnlike K)) : FnOk P w K mg base CX0 2 f fd ["grades"] (spChG K) := by
  refine F.ok sc4 (fun vs H Q E h => ?_) (fun cdv A outer s H vs Q E hr h => ?_)
  · obtain ⟨l, G, rfl, _⟩ := h
    rfl
  · obtain ⟨l, G, rfl, sg, nd, z1, z8, hrun, q⟩ := h
    obtain ⟨tM, gM⟩ := T2.mst
    refine ⟨_, pss_cons (ps_if (PW.pt (pw_or (pt_not (pt_val (pe_cal cR hr rfl pass0 (pa_cons (pv 0) pa_nil)))) (pw_or1 (pt_not (pt_chain op_le op_le pe_int (pe_callB call_len_seq (by rfl) T.len boot_len (pa_cons (pv 0) pa_nil)) (pe_glob (v := .int 8) rfl gM ⟨_, rfl⟩)))))) pss_no pss_nil)
      (pss_cons (ps_if (pt_not (pt_val (pe_callB (cr_all rfl) (by rfl) T2.all boot_all (pa_cons (pe_lc (own := [("grade", 1)]) (g := gName 1) (tt := tYes) rfl sc4.nd (pi_list (pv 0)) (blkOk_by (N := N4) (sc := defScope sChG) (by decide +kernel)) (fun _ _ _ _ _ => pg_name (i := 1) sc4.nd rfl (Or.inl rfl)) (fun _ _ _ _ _ => pts_nil) (fun _ _ _ _ _ => pe_cal cN hr rfl pass0 (pa_cons (pv 1) pa_nil))) pa_nil)))) pss_no pss_nil)
      (pss_one (ps_if (pt_not (pt_val (pe_cal cU hr rfl pass0 (pa_cons (pv 0) pa_nil)))) pss_no pss_nil))), ?_⟩
    refine q_when (b := false) (et_is (et_or (et_not (et_B (b := true) (ev_call (ea_cons (ev_var rfl) ea_nil) fun H1 e Q q E => ⟨.ref l, .list (G.map .str), _, rfl, .lst (ex_l e sg) (dpa_strs G), .inl rfl, q⟩))) (fun _ => et_not (et_le2 ev_c (ev_lenS (ev_var rfl) (.inl sg)) ev_c))) (by simp; omega)) (fun z => nomatch z) (fun _ H1 e1 => ?_)
    refine q_when (b := false) (et_is (et_not (et_B (ev_all (bs := G.map runB) (by
      rw [List.map_map]
      exact el_map (d := "") (g := V.str) (f := fun x => .bl (runB x)) (ev_var rfl) (ex_l e1 sg) (by omega) (fun x => rfl) (fun x H2 e2 hx => ev_call (ea_cons (ev_var rfl) ea_nil) fun H3 e3 Q q E => ⟨x, rfl, by
        have := hrun x hx
        unfold runB at this
        simp only [Bool.and_eq_true, decide_eq_true_eq] at this
        omega, q⟩))))) (by
        rw [List.all_map]
        simp
        exact hrun)) (fun z => nomatch z) (fun _ H2 e2 => ?_)
    have e12 := e1.trans e2
    exact s_when (b := false) (et_is (et_not (et_B (b := true) (ev_call (ea_cons (ev_var rfl) ea_nil) fun H3 e Q q E => ⟨l, G, rfl, ex_l (e12.trans e) sg, nd, by omega, q⟩))) rfl) (fun z => nomatch z) (fun _ H3 e3 => q H3 (e12.trans e3))
theorem ok_chE (F : FnP K "_check_entries" sChE f fd) : FnOk P w K mg base CX0 1 f fd ["grades", "entries"] (spChE K) := by
  refine F.ok sc5 (fun vs H Q E h => ?_) (fun cdv A outer s H vs Q E hr h => ?_)
  · obtain ⟨l, l2, G, xs, rfl, _⟩ := h
    rfl
  · obtain ⟨l, l2, G, xs, rfl, sg, sx, hx, q⟩ := h
    refine ⟨_, PSs.nox (pss_one (ps_for PassesOwn.never rfl (pi_list (pv 1)) (pg_name (i := 2) sc5.nd rfl (Or.inl rfl)) (pss_one (ps_if (pt_cmpR op_notIn_seq (pv 2) (pv 0) rfl) pss_no pss_nil)))), ?_⟩
    refine s_forLn (ev_var rfl) sx (fun _ σ' H' => ∃ x2, σ' = [some (.ref l), some (.ref l2), x2] ∧ Ex H H') (fun H1 e => ⟨_, rfl, e⟩) (fun i σ' H' _ ⟨_, _, e⟩ => ex_l e sx) ?_ (fun σ' H' ⟨_, _, e⟩ => q H' e)
    rintro i v σ' H' hv ⟨x2, rfl, e⟩
    rw [List.getElem?_map] at hv
    cases hy : xs[i]? with
    | none =>
      rw [hy] at hv
      cases hv
    | some y =>
      rw [hy] at hv
      obtain rfl := Option.some.inj hv
      exact s_when (b := false) (et_is (et_test (ev_op (ev_var rfl) (ev_var rfl) (rv_niL (ex_l e sg) rfl flat_strs))) (by rw [inV_str]; simp [hx y (List.mem_of_getElem? hy)])) (fun z => nomatch z) (fun _ H2 e2 => ⟨_, rfl, e.trans e2⟩)
theorem ok_chR (F : FnP K "_check_rows" sChR f fd) (T : Bl mg) (cR : Cal P w K mg base CX0 1 "is_row" ["value"] (spIsRow K)) (cE : Cal P w K mg base CX0 1 "_check_entries" ["grades", "entries"] (spChE K)) : FnOk P w K mg base CX0 2 f fd ["grades", "rows"] (spChR K) := by
  refine F.ok sc6 (fun vs H Q E h => ?_) (fun cdv A outer s H vs Q E hr h => ?_)
  · obtain ⟨l, v, G, J, rfl, _⟩ := h
    rfl
  · obtain ⟨l, v, G, J, rfl, sg, hz, dp, wj, q⟩ := h
    have lenQ : ∀ i, PE (cxOf CX0 P w K mg base N6 "_check_rows" (defScope sChR) f cdv A outer s H E).nox (.Name "grades" i) (tVar 0) := fun i => pv 0
    refine ⟨_, PSs.nox (pss_cons (ps_if (PW.pt (pw_or (pt_not (pt_val (pe_cal cR hr rfl pass0 (pa_cons (pv 1) pa_nil)))) (pw_or1 (pt_cmpR op_ne (pe_callB call_len_seq (by rfl) T.len boot_len (pa_cons (pv 1) pa_nil)) (pe_callB call_len_seq (by rfl) T.len boot_len (pa_cons (pv 0) pa_nil)) (nomark _))))) pss_no pss_nil)
      (pss_one (ps_for PassesOwn.never rfl (pi_list (pv 1)) (pg_name (i := 2) sc6.nd rfl (Or.inl rfl)) (pss_cons (ps_if (PW.pt (pw_or (pt_not (pt_val (pe_cal cR hr rfl pass0 (pa_cons (pv 2) pa_nil)))) (pw_or1 (pt_cmpR op_ne (pe_callB call_len_seq (by rfl) T.len boot_len (pa_cons (pv 2) pa_nil)) (pe_callB call_len_seq (by rfl) T.len boot_len (pa_cons (pv 0) pa_nil)) (nomark _))))) pss_no pss_nil)
        (pss_one (ps_expr (pe_cal cE hr rfl pass0 (pa_cons (pv 0) (pa_cons (pv 2) pa_nil))))))))), ?_⟩
    have dp0 := dp
    cases dp with
    | @lst p xs _ hs ha =>
      have hl := dpa_len ha
      rw [List.length_map] at hl
      have isR : ∀ (i : Nat) (σ : L2.St) (H' : Hp) (v : V) (ds : List PyData), σ[i]? = some (some v) → Dp K H' v (.list ds) → EvT (tB (tCall (spIsRow K) [] E0 (tCons (tVar i) tNil))) σ H' true := fun i σ H' v ds hv dv => et_B (ev_call (ea_cons (ev_var hv) ea_nil) fun H1 e Q q E => ⟨v, .list ds, ds, rfl, dp_ext e dv, .inl rfl, q⟩)
      refine q_when (b := false) (et_is (et_or (et_not (isR 1 _ H _ _ rfl dp0)) (fun _ => et_test (ev_op (ev_lenS (ev_var rfl) (.inl hs)) (ev_lenS (ev_var rfl) (.inl sg)) (rv_ne rfl)))) (by rw [hl, wj.len, List.length_map]; simp)) (fun z => nomatch z) (fun _ H1 e1 => ?_)
      refine s_forLn (ev_var rfl) (ex_l e1 hs) (fun _ σ' H' => ∃ x2, σ' = [some (.ref l), some (.ref p), x2] ∧ Ex H H') (fun H2 e => ⟨_, rfl, e1.trans e⟩) (fun i σ' H' _ ⟨_, _, e⟩ => ex_l e hs) ?_ (fun σ' H' ⟨_, _, e⟩ => q H' e)
      rintro i x σ' H' hv ⟨x2, rfl, e⟩
      obtain ⟨d2, hd2, dp2⟩ := dpa_get ha hv
      rw [List.getElem?_map] at hd2
      cases hg : J[i]? with
      | none =>
        rw [hg] at hd2
        cases hd2
      | some r =>
        rw [hg] at hd2
        obtain rfl := Option.some.inj hd2
        have mr : r ∈ J := List.mem_of_getElem? hg
        have dr0 := dp_ext e dp2
        cases dp2 with
        | @lst p2 ys _ hs2 ha2 =>
          obtain rfl := strs_of ha2
          refine q_when (b := false) (et_is (et_or (et_not (isR 2 _ H' _ _ rfl dr0)) (fun _ => et_test (ev_op (ev_lenS (ev_var rfl) (.inl (ex_l e hs2))) (ev_lenS (ev_var rfl) (.inl (ex_l e sg))) (rv_ne rfl)))) (by rw [List.length_map, List.length_map, wj.row r mr]; simp)) (fun z => nomatch z) (fun _ H2 e2 => ?_)
          exact s_drop (v := .non) (ev_call (ea_cons (ev_var rfl) (ea_cons (ev_var rfl) ea_nil)) fun H3 e3 Q q E => ⟨l, p2, G, r, rfl, ex_l ((e.trans e2).trans e3) sg, ex_l ((e.trans e2).trans e3) hs2, wj.at_ r mr, q⟩) fun H3 e3 => ⟨_, rfl, (e.trans e2).trans e3⟩
end
end K03

set_option Elab.async false
set_option linter.all false
set_option maxRecDepth 100000
set_option maxHeartbeats 8000000
/-! S12: TableScale.__init__, a table scale made. -/
namespace S
open PySem PySem.Spec PyProof.Rows L2 Evl J ClX StX
/-- keyword-only parameters without defaults -/
theorem kbn0 {K : PySem.W.Frag} {x qual : Str} {params : Arguments} {body : List Stmt} {scope : Scope} {f : Addr} {fd : FuncData} {ps ks : List Str} {n : Nat} (F : FunD K x qual params body scope [] [] f fd)
    (h : ∀ (kV doc pm : Value) (an : Option Addr) (cdv ct : Value) (us ws : List Value), us.length = n → ws.length = ks.length → bindArgs (PySem.W.fnOf x qual params body scope .none kV doc pm an cdv ct) ⟨us, ks.zip ws⟩ = pure (ps.zip (us ++ ws))) :
    KBn K fd ps n ks (fun us ws => us ++ ws) (fun vs zs => vs ++ zs) := by
  obtain ⟨oc, od, dV, kV, doc, pm, an, cdv, ct, osl, rfl, lk, hcd, hD, hK⟩ := F.ex
  rcases hD with ⟨_, rfl⟩ | ⟨e, _⟩
  · exact ⟨fun s us ws _ l1 l2 => .of_eq (h kV doc pm an cdv ct us ws l1 l2), fun r1 r2 => r1.append r2⟩
  · exact absurd rfl e
end S
namespace K03
open PySem PySem.Spec PyProof.Rows L2 Evl J ClX StX S
abbrev sTInit : Stmt := methS 21 0
/-- what a told table must be -/
structure Good (G : List Str) (J T : List (List Str)) (lo hi : Str) : Prop where
  nd : G.Nodup
  z1 : 1 ≤ G.length
  z8 : G.length ≤ 8
  run : ∀ x ∈ G, runB x = true
  wj : Wf G J
  wt : Wf G T
  lo : lo ∈ G
  hi : hi ∈ G
def spTInit (K : PySem.W.Frag) (C : Addr) : Sp := fun vs H Q _ => ∃ (a dx lg : Addr) (vj vt : V) (G : List Str) (J T : List (List Str)) (lo hi : Str), vs = [.ref a, .ref lg, vj, vt, .str lo, .str hi] ∧ H a = some (.ins C dx []) ∧ SqL K H lg (G.map V.str) ∧ Dp K H vj (rowsL J) ∧ Dp K H vt (rowsL T) ∧
  Good G J T lo hi ∧ ∀ H', But a H H' → Made K C H' a G J T lo hi → Q .non H'
section
variable {P : Program} {w : World} {K : PySem.W.Frag} {mg : Str → Option Value} {base : Heap} {f fI CS C : Addr} {fd fdI : FuncData} {mc : Value}
abbrev NTi : List Str := ["self", "grades", "joins", "products", "none", "nearest"]
theorem scTi : FnScope NTi ["self", "grades", "joins", "products", "none", "nearest"] (defScope sTInit) := ⟨rfl, rfl, rfl, by decide +kernel, rfl, by decide +kernel, by decide +kernel⟩
theorem ok_tinit (F : FnM K "__init__" "TableScale.__init__" sTInit f fd) (cG : Cal P w K mg base CX0 2 "_check_grades" ["grades"] (spChG K)) (cR : Cal P w K mg base CX0 2 "_check_rows" ["grades", "rows"] (spChR K)) (cE : Cal P w K mg base CX0 1 "_check_entries" ["grades", "entries"] (spChE K))
    (gS : mg "Scale" = some (.ref CS)) (r : CRead K CS mc) (c : PySem.W.findCls K (.ref CS) mc "__init__" = some (.val (.ref fI))) (hk : PySem.W.keepIn K (.ref fI) = true) (hb : Binds K fdI ["self", "grades", "joins", "products", "none", "nearest"] [])
    (FI : FnOk P w K mg base CX0 7 fI fdI ["self", "grades", "joins", "products", "none", "nearest"] (spInit K C)) : FnOk P w K mg base CX0 8 f fd ["self", "grades", "joins", "products", "none", "nearest"] (spTInit K C) := by
  refine F.ok scTi (fun vs H Q E h => ?_) (fun cdv A outer s H vs Q E hr h => ?_)
  · obtain ⟨a, dx, lg, vj, vt, G, J, T, lo, hi, rfl, _⟩ := h
    rfl
  · obtain ⟨a, dx, lg, vj, vt, G, J, T, lo, hi, rfl, ha, sg, dj, dt, gd, q⟩ := h
    have hr1 : Room 1 (A.deeper (envOfC "TableScale.__init__" (defScope sTInit) s.heap.objs.size f cdv)) := hr.mono (by decide)
    have hr2 : Room 2 (A.deeper (envOfC "TableScale.__init__" (defScope sTInit) s.heap.objs.size f cdv)) := hr.mono (by decide)
    refine ⟨_, pss_cons (ps_expr (pe_cal cG hr2 rfl pass0 (pa_cons (pv 1) pa_nil))) (pss_cons (ps_expr (pe_cal cR hr2 rfl pass0 (pa_cons (pv 1) (pa_cons (pv 2) pa_nil)))) (pss_cons (ps_expr (pe_cal cR hr2 rfl pass0 (pa_cons (pv 1) (pa_cons (pv 3) pa_nil))))
      (pss_cons (ps_expr (pe_cal cE hr1 rfl pass0 (pa_cons (pv 1) (pa_cons (pe_lst (pa_cons (pv 4) (pa_cons (pv 5) pa_nil))) pa_nil))))
      (pss_one (ps_expr (pe_cfun (pe_glob (v := .ref CS) rfl gS rfl) r c hk FI hr hb .nil pass0 (pa_cons (pv 0) (pa_cons (pv 1) (pa_cons (pv 2) (pa_cons (pv 3) (pa_cons (pv 4) (pa_cons (pv 5) pa_nil)))))))))))), ?_⟩
    refine q_drop (v := .non) (ev_call (ea_cons (ev_var rfl) ea_nil) fun H1 e Q q E => ⟨lg, G, rfl, ex_l e sg, gd.nd, gd.z1, gd.z8, gd.run, q⟩) fun H1 e1 => ?_
    have z := gd.z8
    refine q_drop (v := .non) (ev_call (ea_cons (ev_var rfl) (ea_cons (ev_var rfl) ea_nil)) fun H2 e Q q E => ⟨lg, vj, G, J, rfl, ex_l (e1.trans e) sg, by omega, dp_ext (e1.trans e) dj, gd.wj, q⟩) fun H2 e2 => ?_
    have e12 := e1.trans e2
    refine q_drop (v := .non) (ev_call (ea_cons (ev_var rfl) (ea_cons (ev_var rfl) ea_nil)) fun H3 e Q q E => ⟨lg, vt, G, T, rfl, ex_l (e12.trans e) sg, by omega, dp_ext (e12.trans e) dt, gd.wt, q⟩) fun H3 e3 => ?_
    have e13 := e12.trans e3
    refine ⟨_, rfl, ⟨_, rfl, _, rfl, sz_of (by simp), fun p hp => ?_⟩⟩
    have e14 := e13.trans (Ex.new (o := .lst [.str lo, .str hi]) hp)
    refine ⟨lg, p, G, [lo, hi], rfl, ex_l e14 sg, sq_of upd_same, fun x hx => ?_, fun H4 e4 => ?_⟩
    · simp only [List.mem_cons, List.not_mem_nil, or_false] at hx
      rcases hx with rfl | rfl
      · exact gd.lo
      · exact gd.hi
    · have e := e14.trans e4
      exact ⟨rfl, _, rfl, _, rfl, _, rfl, _, rfl, _, rfl, _, rfl, a, dx, lg, vj, vt, G, J, T, lo, hi, rfl, e _ _ ha, ex_l e sg, dp_ext e dj, dp_ext e dt, gd.nd, gd.z8, gd.wj, gd.wt, gd.lo, gd.hi, fun H' b m => q H' ((But.of e).trans b) m⟩
end
end K03

set_option Elab.async false
set_option linter.all false
set_option maxRecDepth 100000
set_option maxHeartbeats 8000000
/-! S13: the ten demands. -/
namespace K03
open PySem PySem.Spec PyProof.Rows L2 Evl J ClX StX S
section
variable {P : Program} {w : World} {K : PySem.W.Frag} {mg : Str → Option Value} {base : Heap} {f C a : Addr} {fd : FuncData} {σ : L2.St} {H : Hp} {tx ty : TE} {x y lo hi : Str} {G : List Str} {J T : List (List Str)}
theorem ev_join (h0 : σ[0]? = some (some (.ref a))) (sc : ScAt K C H a G J T lo hi) (mx : x ∈ G) (my : y ∈ G) (hx : Ev tx σ H (.str x)) (hy : Ev ty σ H (.str y)) : Ev (tMeth C "join" (spJoin K C false) [] E0 (tVar 0) (tCons tx (tCons ty tNil))) σ H (.str (ap G J x y)) := by
  obtain ⟨dx, fs, g, d, j, t, h1, h2, h3, h4, h5, h6, h7, h8, h9, h10, h11, hm⟩ := sc.ex
  exact ev_mcal (ev_var h0) (ea_cons hx (ea_cons hy ea_nil)) h1 (hm _ (by decide)) fun H1 e Q q => ⟨a, x, y, G, J, T, lo, hi, rfl, sc.ext e, mx, my, q⟩
theorem ev_then (h0 : σ[0]? = some (some (.ref a))) (sc : ScAt K C H a G J T lo hi) (mx : x ∈ G) (my : y ∈ G) (hx : Ev tx σ H (.str x)) (hy : Ev ty σ H (.str y)) : Ev (tMeth C "then" (spJoin K C true) [] E0 (tVar 0) (tCons tx (tCons ty tNil))) σ H (.str (ap G T x y)) := by
  obtain ⟨dx, fs, g, d, j, t, h1, h2, h3, h4, h5, h6, h7, h8, h9, h10, h11, hm⟩ := sc.ex
  exact ev_mcal (ev_var h0) (ea_cons hx (ea_cons hy ea_nil)) h1 (hm _ (by decide)) fun H1 e Q q => ⟨a, x, y, G, J, T, lo, hi, rfl, sc.ext e, mx, my, q⟩
theorem ev_lo (h0 : σ[0]? = some (some (.ref a))) (sc : ScAt K C H a G J T lo hi) (cf : ClsF K C fldN) : Ev (tFld K (tVar 0) "none") σ H (.str lo) := by
  obtain ⟨dx, fs, g, d, j, t, h1, h2, h3, h4, h5, h6, h7, h8, h9, h10, h11, hm⟩ := sc.ex
  exact ev_fld (ev_var h0) cf.cl (cf.no _ (by decide)) h1 h10
theorem ev_hi (h0 : σ[0]? = some (some (.ref a))) (sc : ScAt K C H a G J T lo hi) (cf : ClsF K C fldN) : Ev (tFld K (tVar 0) "nearest") σ H (.str hi) := by
  obtain ⟨dx, fs, g, d, j, t, h1, h2, h3, h4, h5, h6, h7, h8, h9, h10, h11, hm⟩ := sc.ex
  exact ev_fld (ev_var h0) cf.cl (cf.no _ (by decide)) h1 h11
/-- what a demand is asked of a row of grades -/
abbrev Dem : Type := List Str → List (List Str) → List (List Str) → Str → Str → List Str → Bool
def spDem (K : PySem.W.Frag) (C : Addr) (n : Nat) (dm : Dem) : Sp := fun vs H Q _ => ∃ (a tp : Addr) (row G : List Str) (J T : List (List Str)) (lo hi : Str), vs = [.ref a, .ref tp] ∧ ScAt K C H a G J T lo hi ∧ SqT K H tp (row.map V.str) ∧ row.length = n ∧ (∀ x ∈ row, x ∈ G) ∧ RetV (.bl (dm G J T lo hi row)) H Q
abbrev sD26 : Stmt := topS 26
def dm26 : Dem := fun G J T lo hi row => match row with
  | [x, y] => decide ((ap G J x y) = (ap G J y x))
  | _ => false
theorem scD26 : FnScope ["scale", "grades", "a", "b"] ["scale", "grades"] (defScope sD26) := ⟨rfl, rfl, rfl, by decide +kernel, rfl, by decide +kernel, by decide +kernel⟩
theorem ok_d26 (F : FnP K "_join_turned" sD26 f fd) (cf : ClsF K C fldN) (cJ : MCal P w K mg base CX0 3 C "join" ["self", "a", "b"] (spJoin K C false)) (cT : MCal P w K mg base CX0 3 C "then" ["self", "a", "b"] (spJoin K C true)) : FnOk P w K mg base CX0 4 f fd ["scale", "grades"] (spDem K C 2 dm26) := by
  refine F.ok scD26 (fun vs H Q E h => ?_) (fun cdv A outer s H vs Q E hr h => ?_)
  · obtain ⟨a, tp, row, G, J, T, lo, hi, rfl, _⟩ := h
    rfl
  · obtain ⟨a, tp, row, G, J, T, lo, hi, rfl, sc, st, hl, hG, q⟩ := h
    refine ⟨_, pss_cons (ps_asg (pv 1) (pg_tup rfl (pgs_cons (pg_name (i := 2) scD26.nd rfl (Or.inl rfl)) (pgs_cons (pg_name (i := 3) scD26.nd rfl (Or.inl rfl)) pgs_nil)))) (pss_one (ps_ret (pe_cmpR op_eq (pe_mcal cJ (pv 0) hr pass0 (pa_cons (pv 2) (pa_cons (pv 3) pa_nil))) (pe_mcal cJ (pv 0) hr pass0 (pa_cons (pv 3) (pa_cons (pv 2) pa_nil))) (nomark _)))), ?_⟩
    match row, hl, hG, st, q with
    | [x, y], hl, hG, st, q =>
      have mx : x ∈ G := hG _ (by simp)
      have my : y ∈ G := hG _ (by simp)
      refine ⟨_, rfl, tp, _, rfl, st, rfl, _, _, rfl, _, _, rfl, rfl, ?_⟩
      exact s_ret (ev_is (w := .bl (dm26 G J T lo hi [x, y])) (ev_op (ev_join rfl sc mx my (ev_var rfl) (ev_var rfl)) (ev_join rfl sc my mx (ev_var rfl) (ev_var rfl)) (rv_eq rfl)) (by simp [dm26])) fun H2 e2 => q H2 e2
abbrev sD27 : Stmt := topS 27
def dm27 : Dem := fun G J T lo hi row => match row with
  | [x, y, z] => decide ((ap G J (ap G J x y) z) = (ap G J x (ap G J y z)))
  | _ => false
theorem scD27 : FnScope ["scale", "grades", "a", "b", "c"] ["scale", "grades"] (defScope sD27) := ⟨rfl, rfl, rfl, by decide +kernel, rfl, by decide +kernel, by decide +kernel⟩
theorem ok_d27 (F : FnP K "_join_joined" sD27 f fd) (cf : ClsF K C fldN) (cJ : MCal P w K mg base CX0 3 C "join" ["self", "a", "b"] (spJoin K C false)) (cT : MCal P w K mg base CX0 3 C "then" ["self", "a", "b"] (spJoin K C true)) : FnOk P w K mg base CX0 4 f fd ["scale", "grades"] (spDem K C 3 dm27) := by
  refine F.ok scD27 (fun vs H Q E h => ?_) (fun cdv A outer s H vs Q E hr h => ?_)
  · obtain ⟨a, tp, row, G, J, T, lo, hi, rfl, _⟩ := h
    rfl
  · obtain ⟨a, tp, row, G, J, T, lo, hi, rfl, sc, st, hl, hG, q⟩ := h
    refine ⟨_, pss_cons (ps_asg (pv 1) (pg_tup rfl (pgs_cons (pg_name (i := 2) scD27.nd rfl (Or.inl rfl)) (pgs_cons (pg_name (i := 3) scD27.nd rfl (Or.inl rfl)) (pgs_cons (pg_name (i := 4) scD27.nd rfl (Or.inl rfl)) pgs_nil))))) (pss_one (ps_ret (pe_cmpR op_eq (pe_mcal cJ (pv 0) hr pass0 (pa_cons (pe_mcal cJ (pv 0) hr pass0 (pa_cons (pv 2) (pa_cons (pv 3) pa_nil))) (pa_cons (pv 4) pa_nil))) (pe_mcal cJ (pv 0) hr pass0 (pa_cons (pv 2) (pa_cons (pe_mcal cJ (pv 0) hr pass0 (pa_cons (pv 3) (pa_cons (pv 4) pa_nil))) pa_nil))) (nomark _)))), ?_⟩
    match row, hl, hG, st, q with
    | [x, y, z], hl, hG, st, q =>
      have mx : x ∈ G := hG _ (by simp)
      have my : y ∈ G := hG _ (by simp)
      have mz : z ∈ G := hG _ (by simp)
      refine ⟨_, rfl, tp, _, rfl, st, rfl, _, _, rfl, _, _, rfl, _, _, rfl, rfl, ?_⟩
      exact s_ret (ev_is (w := .bl (dm27 G J T lo hi [x, y, z])) (ev_op (ev_join rfl sc (ap_mem sc.wj mx my) mz (ev_join rfl sc mx my (ev_var rfl) (ev_var rfl)) (ev_var rfl)) (ev_join rfl sc mx (ap_mem sc.wj my mz) (ev_var rfl) (ev_join rfl sc my mz (ev_var rfl) (ev_var rfl))) (rv_eq rfl)) (by simp [dm27])) fun H2 e2 => q H2 e2
abbrev sD28 : Stmt := topS 28
def dm28 : Dem := fun G J T lo hi row => match row with
  | [x] => decide ((ap G J x x) = x)
  | _ => false
theorem scD28 : FnScope ["scale", "grades", "a"] ["scale", "grades"] (defScope sD28) := ⟨rfl, rfl, rfl, by decide +kernel, rfl, by decide +kernel, by decide +kernel⟩
theorem ok_d28 (F : FnP K "_join_once" sD28 f fd) (cf : ClsF K C fldN) (cJ : MCal P w K mg base CX0 3 C "join" ["self", "a", "b"] (spJoin K C false)) (cT : MCal P w K mg base CX0 3 C "then" ["self", "a", "b"] (spJoin K C true)) : FnOk P w K mg base CX0 4 f fd ["scale", "grades"] (spDem K C 1 dm28) := by
  refine F.ok scD28 (fun vs H Q E h => ?_) (fun cdv A outer s H vs Q E hr h => ?_)
  · obtain ⟨a, tp, row, G, J, T, lo, hi, rfl, _⟩ := h
    rfl
  · obtain ⟨a, tp, row, G, J, T, lo, hi, rfl, sc, st, hl, hG, q⟩ := h
    refine ⟨_, pss_cons (ps_set (i := 2) scD28.nd rfl (Or.inl rfl) (pe_ix ix_tup (pv 1) pe_int (fun _ _ => rfl))) (pss_one (ps_ret (pe_cmpR op_eq (pe_mcal cJ (pv 0) hr pass0 (pa_cons (pv 2) (pa_cons (pv 2) pa_nil))) (pv 2) (nomark _)))), ?_⟩
    match row, hl, hG, st, q with
    | [x], hl, hG, st, q =>
      have mx : x ∈ G := hG _ (by simp)
      refine q_asg (ev_op (ev_var rfl) ev_c (rv_ixT st (atI_nat (j := 0) rfl))) fun H1 e1 => ?_
      have sc := sc.ext e1
      exact s_ret (ev_is (w := .bl (dm28 G J T lo hi [x])) (ev_op (ev_join rfl sc mx mx (ev_var rfl) (ev_var rfl)) (ev_var rfl) (rv_eq rfl)) (by simp [dm28])) fun H2 e2 => q H2 (e1.trans e2)
abbrev sD29 : Stmt := topS 29
def dm29 : Dem := fun G J T lo hi row => match row with
  | [x] => decide ((ap G J lo x) = x)
  | _ => false
theorem scD29 : FnScope ["scale", "grades", "a"] ["scale", "grades"] (defScope sD29) := ⟨rfl, rfl, rfl, by decide +kernel, rfl, by decide +kernel, by decide +kernel⟩
theorem ok_d29 (F : FnP K "_none_joined" sD29 f fd) (cf : ClsF K C fldN) (cJ : MCal P w K mg base CX0 3 C "join" ["self", "a", "b"] (spJoin K C false)) (cT : MCal P w K mg base CX0 3 C "then" ["self", "a", "b"] (spJoin K C true)) : FnOk P w K mg base CX0 4 f fd ["scale", "grades"] (spDem K C 1 dm29) := by
  refine F.ok scD29 (fun vs H Q E h => ?_) (fun cdv A outer s H vs Q E hr h => ?_)
  · obtain ⟨a, tp, row, G, J, T, lo, hi, rfl, _⟩ := h
    rfl
  · obtain ⟨a, tp, row, G, J, T, lo, hi, rfl, sc, st, hl, hG, q⟩ := h
    refine ⟨_, pss_cons (ps_set (i := 2) scD29.nd rfl (Or.inl rfl) (pe_ix ix_tup (pv 1) pe_int (fun _ _ => rfl))) (pss_one (ps_ret (pe_cmpR op_eq (pe_mcal cJ (pv 0) hr pass0 (pa_cons (pe_fld (pv 0) rfl) (pa_cons (pv 2) pa_nil))) (pv 2) (nomark _)))), ?_⟩
    match row, hl, hG, st, q with
    | [x], hl, hG, st, q =>
      have mx : x ∈ G := hG _ (by simp)
      refine q_asg (ev_op (ev_var rfl) ev_c (rv_ixT st (atI_nat (j := 0) rfl))) fun H1 e1 => ?_
      have sc := sc.ext e1
      exact s_ret (ev_is (w := .bl (dm29 G J T lo hi [x])) (ev_op (ev_join rfl sc sc.lo mx (ev_lo rfl sc cf) (ev_var rfl)) (ev_var rfl) (rv_eq rfl)) (by simp [dm29])) fun H2 e2 => q H2 (e1.trans e2)
abbrev sD30 : Stmt := topS 30
def dm30 : Dem := fun G J T lo hi row => match row with
  | [x, y] => decide ((ap G T x y) = (ap G T y x))
  | _ => false
theorem scD30 : FnScope ["scale", "grades", "a", "b"] ["scale", "grades"] (defScope sD30) := ⟨rfl, rfl, rfl, by decide +kernel, rfl, by decide +kernel, by decide +kernel⟩
theorem ok_d30 (F : FnP K "_product_turned" sD30 f fd) (cf : ClsF K C fldN) (cJ : MCal P w K mg base CX0 3 C "join" ["self", "a", "b"] (spJoin K C false)) (cT : MCal P w K mg base CX0 3 C "then" ["self", "a", "b"] (spJoin K C true)) : FnOk P w K mg base CX0 4 f fd ["scale", "grades"] (spDem K C 2 dm30) := by
  refine F.ok scD30 (fun vs H Q E h => ?_) (fun cdv A outer s H vs Q E hr h => ?_)
  · obtain ⟨a, tp, row, G, J, T, lo, hi, rfl, _⟩ := h
    rfl
  · obtain ⟨a, tp, row, G, J, T, lo, hi, rfl, sc, st, hl, hG, q⟩ := h
    refine ⟨_, pss_cons (ps_asg (pv 1) (pg_tup rfl (pgs_cons (pg_name (i := 2) scD30.nd rfl (Or.inl rfl)) (pgs_cons (pg_name (i := 3) scD30.nd rfl (Or.inl rfl)) pgs_nil)))) (pss_one (ps_ret (pe_cmpR op_eq (pe_mcal cT (pv 0) hr pass0 (pa_cons (pv 2) (pa_cons (pv 3) pa_nil))) (pe_mcal cT (pv 0) hr pass0 (pa_cons (pv 3) (pa_cons (pv 2) pa_nil))) (nomark _)))), ?_⟩
    match row, hl, hG, st, q with
    | [x, y], hl, hG, st, q =>
      have mx : x ∈ G := hG _ (by simp)
      have my : y ∈ G := hG _ (by simp)
      refine ⟨_, rfl, tp, _, rfl, st, rfl, _, _, rfl, _, _, rfl, rfl, ?_⟩
      exact s_ret (ev_is (w := .bl (dm30 G J T lo hi [x, y])) (ev_op (ev_then rfl sc mx my (ev_var rfl) (ev_var rfl)) (ev_then rfl sc my mx (ev_var rfl) (ev_var rfl)) (rv_eq rfl)) (by simp [dm30])) fun H2 e2 => q H2 e2
abbrev sD31 : Stmt := topS 31
def dm31 : Dem := fun G J T lo hi row => match row with
  | [x, y, z] => decide ((ap G T (ap G T x y) z) = (ap G T x (ap G T y z)))
  | _ => false
theorem scD31 : FnScope ["scale", "grades", "a", "b", "c"] ["scale", "grades"] (defScope sD31) := ⟨rfl, rfl, rfl, by decide +kernel, rfl, by decide +kernel, by decide +kernel⟩
theorem ok_d31 (F : FnP K "_product_joined" sD31 f fd) (cf : ClsF K C fldN) (cJ : MCal P w K mg base CX0 3 C "join" ["self", "a", "b"] (spJoin K C false)) (cT : MCal P w K mg base CX0 3 C "then" ["self", "a", "b"] (spJoin K C true)) : FnOk P w K mg base CX0 4 f fd ["scale", "grades"] (spDem K C 3 dm31) := by
  refine F.ok scD31 (fun vs H Q E h => ?_) (fun cdv A outer s H vs Q E hr h => ?_)
  · obtain ⟨a, tp, row, G, J, T, lo, hi, rfl, _⟩ := h
    rfl
  · obtain ⟨a, tp, row, G, J, T, lo, hi, rfl, sc, st, hl, hG, q⟩ := h
    refine ⟨_, pss_cons (ps_asg (pv 1) (pg_tup rfl (pgs_cons (pg_name (i := 2) scD31.nd rfl (Or.inl rfl)) (pgs_cons (pg_name (i := 3) scD31.nd rfl (Or.inl rfl)) (pgs_cons (pg_name (i := 4) scD31.nd rfl (Or.inl rfl)) pgs_nil))))) (pss_one (ps_ret (pe_cmpR op_eq (pe_mcal cT (pv 0) hr pass0 (pa_cons (pe_mcal cT (pv 0) hr pass0 (pa_cons (pv 2) (pa_cons (pv 3) pa_nil))) (pa_cons (pv 4) pa_nil))) (pe_mcal cT (pv 0) hr pass0 (pa_cons (pv 2) (pa_cons (pe_mcal cT (pv 0) hr pass0 (pa_cons (pv 3) (pa_cons (pv 4) pa_nil))) pa_nil))) (nomark _)))), ?_⟩
    match row, hl, hG, st, q with
    | [x, y, z], hl, hG, st, q =>
      have mx : x ∈ G := hG _ (by simp)
      have my : y ∈ G := hG _ (by simp)
      have mz : z ∈ G := hG _ (by simp)
      refine ⟨_, rfl, tp, _, rfl, st, rfl, _, _, rfl, _, _, rfl, _, _, rfl, rfl, ?_⟩
      exact s_ret (ev_is (w := .bl (dm31 G J T lo hi [x, y, z])) (ev_op (ev_then rfl sc (ap_mem sc.wt mx my) mz (ev_then rfl sc mx my (ev_var rfl) (ev_var rfl)) (ev_var rfl)) (ev_then rfl sc mx (ap_mem sc.wt my mz) (ev_var rfl) (ev_then rfl sc my mz (ev_var rfl) (ev_var rfl))) (rv_eq rfl)) (by simp [dm31])) fun H2 e2 => q H2 e2
abbrev sD32 : Stmt := topS 32
def dm32 : Dem := fun G J T lo hi row => match row with
  | [x, y, z] => decide ((ap G T x (ap G J y z)) = (ap G J (ap G T x y) (ap G T x z)))
  | _ => false
theorem scD32 : FnScope ["scale", "grades", "a", "b", "c"] ["scale", "grades"] (defScope sD32) := ⟨rfl, rfl, rfl, by decide +kernel, rfl, by decide +kernel, by decide +kernel⟩
theorem ok_d32 (F : FnP K "_product_spread" sD32 f fd) (cf : ClsF K C fldN) (cJ : MCal P w K mg base CX0 3 C "join" ["self", "a", "b"] (spJoin K C false)) (cT : MCal P w K mg base CX0 3 C "then" ["self", "a", "b"] (spJoin K C true)) : FnOk P w K mg base CX0 4 f fd ["scale", "grades"] (spDem K C 3 dm32) := by
  refine F.ok scD32 (fun vs H Q E h => ?_) (fun cdv A outer s H vs Q E hr h => ?_)
  · obtain ⟨a, tp, row, G, J, T, lo, hi, rfl, _⟩ := h
    rfl
  · obtain ⟨a, tp, row, G, J, T, lo, hi, rfl, sc, st, hl, hG, q⟩ := h
    refine ⟨_, pss_cons (ps_asg (pv 1) (pg_tup rfl (pgs_cons (pg_name (i := 2) scD32.nd rfl (Or.inl rfl)) (pgs_cons (pg_name (i := 3) scD32.nd rfl (Or.inl rfl)) (pgs_cons (pg_name (i := 4) scD32.nd rfl (Or.inl rfl)) pgs_nil))))) (pss_one (ps_ret (pe_cmpR op_eq (pe_mcal cT (pv 0) hr pass0 (pa_cons (pv 2) (pa_cons (pe_mcal cJ (pv 0) hr pass0 (pa_cons (pv 3) (pa_cons (pv 4) pa_nil))) pa_nil))) (pe_mcal cJ (pv 0) hr pass0 (pa_cons (pe_mcal cT (pv 0) hr pass0 (pa_cons (pv 2) (pa_cons (pv 3) pa_nil))) (pa_cons (pe_mcal cT (pv 0) hr pass0 (pa_cons (pv 2) (pa_cons (pv 4) pa_nil))) pa_nil))) (nomark _)))), ?_⟩
    match row, hl, hG, st, q with
    | [x, y, z], hl, hG, st, q =>
      have mx : x ∈ G := hG _ (by simp)
      have my : y ∈ G := hG _ (by simp)
      have mz : z ∈ G := hG _ (by simp)
      refine ⟨_, rfl, tp, _, rfl, st, rfl, _, _, rfl, _, _, rfl, _, _, rfl, rfl, ?_⟩
      exact s_ret (ev_is (w := .bl (dm32 G J T lo hi [x, y, z])) (ev_op (ev_then rfl sc mx (ap_mem sc.wj my mz) (ev_var rfl) (ev_join rfl sc my mz (ev_var rfl) (ev_var rfl))) (ev_join rfl sc (ap_mem sc.wt mx my) (ap_mem sc.wt mx mz) (ev_then rfl sc mx my (ev_var rfl) (ev_var rfl)) (ev_then rfl sc mx mz (ev_var rfl) (ev_var rfl))) (rv_eq rfl)) (by simp [dm32])) fun H2 e2 => q H2 e2
abbrev sD33 : Stmt := topS 33
def dm33 : Dem := fun G J T lo hi row => match row with
  | [x] => decide ((ap G T lo x) = lo)
  | _ => false
theorem scD33 : FnScope ["scale", "grades"] ["scale", "grades"] (defScope sD33) := ⟨rfl, rfl, rfl, by decide +kernel, rfl, by decide +kernel, by decide +kernel⟩
theorem ok_d33 (F : FnP K "_none_gone" sD33 f fd) (cf : ClsF K C fldN) (cJ : MCal P w K mg base CX0 3 C "join" ["self", "a", "b"] (spJoin K C false)) (cT : MCal P w K mg base CX0 3 C "then" ["self", "a", "b"] (spJoin K C true)) : FnOk P w K mg base CX0 4 f fd ["scale", "grades"] (spDem K C 1 dm33) := by
  refine F.ok scD33 (fun vs H Q E h => ?_) (fun cdv A outer s H vs Q E hr h => ?_)
  · obtain ⟨a, tp, row, G, J, T, lo, hi, rfl, _⟩ := h
    rfl
  · obtain ⟨a, tp, row, G, J, T, lo, hi, rfl, sc, st, hl, hG, q⟩ := h
    refine ⟨_, pss_one (ps_ret (pe_cmpR op_eq (pe_mcal cT (pv 0) hr pass0 (pa_cons (pe_fld (pv 0) rfl) (pa_cons (pe_ix ix_tup (pv 1) pe_int (fun _ _ => rfl)) pa_nil))) (pe_fld (pv 0) rfl) (nomark _))), ?_⟩
    match row, hl, hG, st, q with
    | [x], hl, hG, st, q =>
      have mx : x ∈ G := hG _ (by simp)
      exact s_ret (ev_is (w := .bl (dm33 G J T lo hi [x])) (ev_op (ev_then rfl sc sc.lo mx (ev_lo rfl sc cf) (ev_op (ev_var rfl) ev_c (rv_ixT st (atI_nat (j := 0) rfl)))) (ev_lo rfl sc cf) (rv_eq rfl)) (by simp [dm33])) fun H2 e2 => q H2 e2
abbrev sD34 : Stmt := topS 34
def dm34 : Dem := fun G J T lo hi row => match row with
  | [x] => decide ((ap G T hi x) = x)
  | _ => false
theorem scD34 : FnScope ["scale", "grades", "a"] ["scale", "grades"] (defScope sD34) := ⟨rfl, rfl, rfl, by decide +kernel, rfl, by decide +kernel, by decide +kernel⟩
theorem ok_d34 (F : FnP K "_nearest_one" sD34 f fd) (cf : ClsF K C fldN) (cJ : MCal P w K mg base CX0 3 C "join" ["self", "a", "b"] (spJoin K C false)) (cT : MCal P w K mg base CX0 3 C "then" ["self", "a", "b"] (spJoin K C true)) : FnOk P w K mg base CX0 4 f fd ["scale", "grades"] (spDem K C 1 dm34) := by
  refine F.ok scD34 (fun vs H Q E h => ?_) (fun cdv A outer s H vs Q E hr h => ?_)
  · obtain ⟨a, tp, row, G, J, T, lo, hi, rfl, _⟩ := h
    rfl
  · obtain ⟨a, tp, row, G, J, T, lo, hi, rfl, sc, st, hl, hG, q⟩ := h
    refine ⟨_, pss_cons (ps_set (i := 2) scD34.nd rfl (Or.inl rfl) (pe_ix ix_tup (pv 1) pe_int (fun _ _ => rfl))) (pss_one (ps_ret (pe_cmpR op_eq (pe_mcal cT (pv 0) hr pass0 (pa_cons (pe_fld (pv 0) rfl) (pa_cons (pv 2) pa_nil))) (pv 2) (nomark _)))), ?_⟩
    match row, hl, hG, st, q with
    | [x], hl, hG, st, q =>
      have mx : x ∈ G := hG _ (by simp)
      refine q_asg (ev_op (ev_var rfl) ev_c (rv_ixT st (atI_nat (j := 0) rfl))) fun H1 e1 => ?_
      have sc := sc.ext e1
      exact s_ret (ev_is (w := .bl (dm34 G J T lo hi [x])) (ev_op (ev_then rfl sc sc.hi mx (ev_hi rfl sc cf) (ev_var rfl)) (ev_var rfl) (rv_eq rfl)) (by simp [dm34])) fun H2 e2 => q H2 (e1.trans e2)
abbrev sD35 : Stmt := topS 35
def dm35 : Dem := fun G J T lo hi row => match row with
  | [x] => decide ((ap G J hi x) = hi)
  | _ => false
theorem scD35 : FnScope ["scale", "grades"] ["scale", "grades"] (defScope sD35) := ⟨rfl, rfl, rfl, by decide +kernel, rfl, by decide +kernel, by decide +kernel⟩
theorem ok_d35 (F : FnP K "_nearest_greatest" sD35 f fd) (cf : ClsF K C fldN) (cJ : MCal P w K mg base CX0 3 C "join" ["self", "a", "b"] (spJoin K C false)) (cT : MCal P w K mg base CX0 3 C "then" ["self", "a", "b"] (spJoin K C true)) : FnOk P w K mg base CX0 4 f fd ["scale", "grades"] (spDem K C 1 dm35) := by
  refine F.ok scD35 (fun vs H Q E h => ?_) (fun cdv A outer s H vs Q E hr h => ?_)
  · obtain ⟨a, tp, row, G, J, T, lo, hi, rfl, _⟩ := h
    rfl
  · obtain ⟨a, tp, row, G, J, T, lo, hi, rfl, sc, st, hl, hG, q⟩ := h
    refine ⟨_, pss_one (ps_ret (pe_cmpR op_eq (pe_mcal cJ (pv 0) hr pass0 (pa_cons (pe_fld (pv 0) rfl) (pa_cons (pe_ix ix_tup (pv 1) pe_int (fun _ _ => rfl)) pa_nil))) (pe_fld (pv 0) rfl) (nomark _))), ?_⟩
    match row, hl, hG, st, q with
    | [x], hl, hG, st, q =>
      have mx : x ∈ G := hG _ (by simp)
      exact s_ret (ev_is (w := .bl (dm35 G J T lo hi [x])) (ev_op (ev_join rfl sc sc.hi mx (ev_hi rfl sc cf) (ev_op (ev_var rfl) ev_c (rv_ixT st (atI_nat (j := 0) rfl)))) (ev_hi rfl sc cf) (rv_eq rfl)) (by simp [dm35])) fun H2 e2 => q H2 e2
end
end K03

set_option Elab.async false
set_option linter.all false
set_option maxRecDepth 100000
set_option maxHeartbeats 8000000
/-! S14: _tuples. -/
namespace K03
open PySem PySem.Spec PyProof.Rows L2 Evl J ClX StX S
/-- tuples of texts, one behind another -/
def RowsAt (H : Hp) (acc : List V) (Rs : List (List Str)) : Prop := acc.length = Rs.length ∧ ∀ (n : Nat) r, Rs[n]? = some r → ∃ t, acc[n]? = some (.ref t) ∧ H t = some (.tup (r.map V.str))
theorem RowsAt.keep {H H' : Hp} {acc : List V} {Rs : List (List Str)} (h : RowsAt H acc Rs) (k : ∀ t xs, H t = some (.tup xs) → H' t = some (.tup xs)) : RowsAt H' acc Rs := ⟨h.1, fun n r e => by
  obtain ⟨t, h1, h2⟩ := h.2 n r e
  exact ⟨t, h1, k t _ h2⟩⟩
theorem RowsAt.snoc {H : Hp} {acc : List V} {Rs : List (List Str)} {t : Addr} {r : List Str} (h : RowsAt H acc Rs) (ht : H t = some (.tup (r.map V.str))) : RowsAt H (acc ++ [.ref t]) (Rs ++ [r]) := by
  refine ⟨by simp [h.1], fun n r2 e => ?_⟩
  by_cases hn : n < Rs.length
  · rw [List.getElem?_append_left hn] at e
    obtain ⟨t2, h1, h2⟩ := h.2 n r2 e
    exact ⟨t2, by rw [List.getElem?_append_left (by rw [h.1]; exact hn)]; exact h1, h2⟩
  · have e2 : n = Rs.length := by
      have := (List.getElem?_eq_some_iff.mp e).1
      rw [List.length_append] at this
      simp at this
      omega
    subst e2
    rw [List.getElem?_append_right (Nat.le_refl _), Nat.sub_self] at e
    obtain rfl := Option.some.inj e
    exact ⟨t, by rw [List.getElem?_append_right (by rw [h.1]; exact Nat.le_refl _), h.1, Nat.sub_self]; rfl, ht⟩
def ext1 (G : List Str) (m : List Str) : List (List Str) := G.map fun g => m ++ [g]
def tups (G : List Str) : Nat → List (List Str)
  | 0 => [[]]
  | n + 1 => (tups G n).flatMap (ext1 G)
theorem tups_mem {G : List Str} : ∀ {n : Nat} {r : List Str}, r ∈ tups G n → r.length = n ∧ ∀ x ∈ r, x ∈ G
  | 0, r, h => by
    obtain rfl := List.mem_singleton.mp h
    exact ⟨rfl, fun x hx => nomatch hx⟩
  | n + 1, r, h => by
    obtain ⟨m, hm, hr⟩ := List.mem_flatMap.mp h
    obtain ⟨g, hg, rfl⟩ := List.mem_map.mp hr
    obtain ⟨h1, h2⟩ := tups_mem hm
    refine ⟨by simp [h1], fun x hx => ?_⟩
    rcases List.mem_append.mp hx with q | q
    · exact h2 x q
    · rw [List.mem_singleton.mp q]
      exact hg
theorem flat_len {G : List Str} : ∀ {Rs : List (List Str)}, (Rs.flatMap (ext1 G)).length = Rs.length * G.length
  | [] => by simp
  | m :: r => by
    rw [List.flatMap_cons, List.length_append, flat_len (Rs := r)]
    simp [ext1, Nat.succ_mul, Nat.add_comm]
section
variable {K : PySem.W.Frag} {H : Hp}
abbrev teS (K : PySem.W.Frag) : TE := tTup (tStar K (tVar 4) (tCons (tVar 5) tNil))
theorem lc2_ext {l lg : Addr} {n : V} {x3 x4 x5 : Option V} {acc0 : List V} {rows : List (List Str)} {G : List Str} {Q : VK} (hl : H l = some (.lst acc0)) (R : RowsAt H acc0 rows) (sg : SqL K H lg (G.map V.str)) (hz : (rows.length + 1) * G.length ≤ 10000) (hr : ∀ r ∈ rows, r.length ≤ 100)
    (k : ∀ D H2 acc, H D = none → Ex H H2 → H2 D = some (.lst acc) → RowsAt H2 acc (rows.flatMap (ext1 G)) → Q (.ref D) H2) :
    tLc2 (iList K (tVar 2)) (gName 4) tYes (iList K (tVar 0)) (gName 5) tYes (teS K) [4, 5] [5] [some (.ref lg), some n, some (.ref l), x3, x4, x5] H Q := by
  refine ⟨.ref l, rfl, l, rfl, ⟨acc0, sq_of hl⟩, fun D hD => ?_⟩
  have al := R.1

  refine ⟨fun i m H' => m = rows.length - i ∧ i ≤ rows.length ∧ Ex H H' ∧ ∃ acc, H' D = some (.lst acc) ∧ RowsAt H' acc ((rows.take i).flatMap (ext1 G)), ⟨rows.length, by simp, Nat.zero_le _, Ex.new hD, [], upd_same, rfl, fun n r e => by simp at e⟩, ?_⟩
  rintro i m H' ⟨rfl, hi, g1, acc, g2, g3⟩
  have hl' := g1 _ _ hl

  by_cases hlt : i < rows.length
  · have hgi : acc0[i]? = some acc0[i] := List.getElem?_eq_getElem (by omega)
    refine .inr ⟨⟨acc0, acc0[i], sq_of hl', hgi⟩, fun H5 => i + 1 ≤ rows.length ∧ Ex H H5 ∧ ∃ acc, H5 D = some (.lst acc) ∧ RowsAt H5 acc ((rows.take (i + 1)).flatMap (ext1 G)), fun H5 p' => ⟨rows.length - (i + 1), by omega, rfl, p'.1, p'.2⟩, fun x H5 y => ?_⟩
    obtain ⟨e5, y⟩ := y
    subst e5
    have hx := y acc0 (sq_of hl')
    have hri : rows[i]? = some rows[i] := List.getElem?_eq_getElem hlt
    obtain ⟨t, ht, hT⟩ := R.2 i _ hri
    rw [ht] at hx
    obtain rfl := Option.some.inj hx
    refine ⟨rfl, ?_⟩
    unfold tYes
    dsimp only
    rw [if_pos rfl]
    refine ⟨.ref lg, rfl, lg, rfl, ⟨_, ex_l g1 sg⟩, ?_⟩
    have tk : (rows.take (i + 1)).flatMap (ext1 G) = (rows.take i).flatMap (ext1 G) ++ ext1 G rows[i] := by
      rw [List.take_add_one, hri, List.flatMap_append]
      simp
    refine ⟨fun j m H' => m = G.length - j ∧ j ≤ G.length ∧ Ex H H' ∧ ∃ acc, H' D = some (.lst acc) ∧ RowsAt H' acc ((rows.take i).flatMap (ext1 G) ++ (G.take j).map fun g => rows[i] ++ [g]), ⟨G.length, by simp, Nat.zero_le _, g1, acc, g2, by simpa using g3⟩, ?_⟩
    rintro j m H6 ⟨rfl, hj, f1, acc6, f2, f3⟩
    by_cases hlj : j < G.length
    · refine .inr ⟨⟨G.map V.str, .str G[j], ex_l f1 sg, by simp [hlj]⟩, fun H7 => j + 1 ≤ G.length ∧ Ex H H7 ∧ ∃ acc, H7 D = some (.lst acc) ∧ RowsAt H7 acc ((rows.take i).flatMap (ext1 G) ++ (G.take (j + 1)).map fun g => rows[i] ++ [g]), fun H7 p' => ⟨G.length - (j + 1), by omega, rfl, p'.1, p'.2⟩, fun x H7 y => ?_⟩
      obtain ⟨e7, y⟩ := y
      subst e7
      have hx2 := y _ (ex_l f1 sg)
      have hgj : G[j]? = some G[j] := List.getElem?_eq_getElem hlj
      rw [List.getElem?_map, hgj] at hx2
      obtain rfl := Option.some.inj hx2
      refine ⟨rfl, ?_⟩
      dsimp only
      rw [if_pos rfl]
      have hT7 := f1 _ _ hT
      have hlen : rows[i].length ≤ 100 := hr _ (List.getElem_mem hlt)
      refine ⟨.ref t, rfl, t, rows[i].map V.str, rfl, .inl (st_of hT7), .str G[j], rfl, sz_of (by simp; omega), fun p hp => ?_⟩
      have pD : D ≠ p := fun z => by
        rw [← z, f2] at hp
        cases hp
      have accl : acc6.length ≤ 10000 := by
        rw [f3.1, List.length_append, flat_len, List.length_map, List.length_take, List.length_take]
        have a1 : min i rows.length = i := by omega
        have a2 : min j G.length = j := by omega
        rw [a1, a2]
        have a3 : i * G.length ≤ rows.length * G.length := Nat.mul_le_mul_right _ (by omega)
        have a4 : (rows.length + 1) * G.length = rows.length * G.length + G.length := Nat.succ_mul _ _
        omega
      refine ⟨acc6, by rw [upd_ne pD]; exact f2, sz_lt (by omega), hlj, Ex.mut (f1.trans (Ex.new hp)) hD, _, upd_same, ?_⟩
      rw [List.take_add_one, hgj, List.map_append, ← List.append_assoc]
      refine RowsAt.snoc (f3.keep fun t2 xs h2 => ?_) ?_
      · have d1 : t2 ≠ D := fun z => by
          rw [z, f2] at h2
          cases h2
        rw [upd_ne d1, upd_ne (ne_of_none h2 hp)]
        exact h2
      · rw [upd_ne (Ne.symm pD), upd_same, List.map_append]
        rfl
    · have e : j = G.length := by omega
      subst e
      refine .inl ⟨⟨_, ex_l f1 sg, by simp⟩, hlt, f1, acc6, f2, ?_⟩
      rw [tk]
      rw [List.take_length] at f3
      exact f3
  · have e : i = rows.length := by omega
    subst e
    refine .inl ⟨⟨_, sq_of hl', by omega⟩, k D H' acc hD g1 g2 ?_⟩
    rw [List.take_length] at g3
    exact g3
end
end K03

set_option Elab.async false
set_option linter.all false
set_option maxRecDepth 100000
set_option maxHeartbeats 8000000
/-! S15: _tuples, told. -/
namespace K03
open PySem PySem.Spec PyProof.Rows L2 Evl J ClX StX S
abbrev sTups : Stmt := topS 37
def spTups (K : PySem.W.Frag) : Sp := fun vs H Q _ => ∃ (lg : Addr) (G : List Str) (n : Nat), vs = [.ref lg, .int (n : Int)] ∧ SqL K H lg (G.map V.str) ∧ n ≤ 3 ∧ G.length ≤ 8 ∧ ∀ p H' acc, H p = none → Ex H H' → H' p = some (.lst acc) → RowsAt H' acc (tups G n) → Q (.ref p) H'
theorem tups_len {G : List Str} : ∀ n, (tups G n).length = G.length ^ n
  | 0 => rfl
  | n + 1 => by
    unfold tups
    rw [flat_len, tups_len n, Nat.pow_succ]
section
variable {P : Program} {w : World} {K : PySem.W.Frag} {mg : Str → Option Value} {base : Heap} {f : Addr} {fd : FuncData}
abbrev NTu : List Str := ["grades", "count", "told", "_", "members", "grade"]
theorem scTu : FnScope NTu ["grades", "count"] (defScope sTups) := ⟨rfl, rfl, rfl, by decide +kernel, rfl, by decide +kernel, by decide +kernel⟩
theorem ok_tups (F : FnP K "_tuples" sTups f fd) (T : Bl mg) : FnOk P w K mg base CX0 1 f fd ["grades", "count"] (spTups K) := by
  refine F.ok scTu (fun vs H Q E h => ?_) (fun cdv A outer s H vs Q E hr h => ?_)
  · obtain ⟨lg, G, n, rfl, _⟩ := h
    rfl
  · obtain ⟨lg, G, n, rfl, sg, hn, hz, q⟩ := h
    refine ⟨_, PSs.nox (pss_cons (ps_set (i := 2) scTu.nd rfl (Or.inl rfl) (pe_lst (pa_cons (pe_tup pa_nil) pa_nil))) (pss_cons (ps_for PassesOwn.never rfl (pi_range1 rfl T.rng (pa_cons (pv 1) pa_nil)) (pg_name (i := 3) scTu.nd rfl (Or.inl rfl))
      (pss_one (ps_setLc2 (i := 2) (own := [("members", 4), ("grade", 5)]) (vs1 := [5]) (g := gName 4) (g1 := gName 5) (tt := tYes) (tt1 := tYes) (wi1 := iList K (tVar 0)) (te := teS K) rfl scTu.nd rfl rfl rfl (pi_list (pv 2)) (blkOk_by (N := NTu) (sc := defScope sTups) (by decide +kernel)) (by decide) (fun _ _ _ _ _ => pg_name (i := 4) scTu.nd rfl (Or.inl rfl)) (fun _ _ _ _ _ => pts_nil)
        (fun _ _ _ _ _ => by exact pi_list (pv 0)) (fun _ _ _ _ _ => pg_name (i := 5) scTu.nd rfl (Or.inl rfl)) (fun _ _ _ _ _ => pts_nil) (fun _ _ _ _ _ => by exact pe_tup (pa_star (pv 4) (pa_cons (pv 5) pa_nil)))))) (pss_one (ps_ret (pv 2))))), ?_⟩
    -- told = [()]
    refine ⟨sz_of (by simp), fun t ht => ⟨sz_of (by simp), fun l hl => ?_⟩⟩
    have e1 : Ex H (upd (upd H t (.tup [])) l (.lst [.ref t])) := (Ex.new ht).trans (Ex.new hl)
    have nl : H l = none := fresh_back (Ex.new ht) hl
    have tl : t ≠ l := fun z => by
      rw [← z, upd_same] at hl
      cases hl
    have r1 : RowsAt (upd (upd H t (.tup [])) l (.lst [.ref t])) [.ref t] (tups G 0) := ⟨rfl, fun n r e => by
      match n, e with
      | 0, e =>
        obtain rfl := Option.some.inj e
        exact ⟨t, rfl, by rw [upd_ne tl, upd_same]; rfl⟩⟩
    have a1 : (upd (upd H t (.tup [])) l (.lst [.ref t])) l = some (.lst [.ref t]) := upd_same
    show tSeq _ _ _ _ (upd (upd H t (.tup [])) l (.lst [.ref t]))
    generalize upd (upd H t (.tup [])) l (.lst [.ref t]) = H1 at e1 r1 a1 ⊢
    refine q_forR1 (ea_cons (ev_var rfl) ea_nil) (by omega) (fun i σ' H' => ∃ p acc x3 x4 x5, σ' = [some (.ref lg), some (.int (n : Int)), some (.ref p), x3, x4, x5] ∧ H p = none ∧ Ex H H' ∧ H' p = some (.lst acc) ∧ RowsAt H' acc (tups G i)) (fun H2 e2 => ⟨l, _, _, _, _, rfl, nl, e1.trans e2, e2 _ _ a1, r1.keep fun t xs h => e2 _ _ h⟩) ?_ ?_
    · rintro i σ' H2 hi ⟨p, acc, x3, x4, x5, rfl, np, e2, h2, r2⟩
      have i3 : i < 3 := by omega
      have ln : (tups G i).length ≤ 512 := by
        rw [tups_len]
        have a2 : G.length ^ i ≤ 8 ^ i := Nat.pow_le_pow_left hz i
        have a3 : (8 : Nat) ^ i ≤ 8 ^ 3 := Nat.pow_le_pow_right (by decide) (by omega)
        omega
      have lz : ((tups G i).length + 1) * G.length ≤ 10000 := by
        have := Nat.mul_le_mul (show (tups G i).length + 1 ≤ 513 by omega) hz
        omega
      exact lc2_ext h2 r2 (ex_l e2 sg) lz (fun r hr => by rw [(tups_mem hr).1]; omega) fun D H3 acc3 n3 e3 h3 r3 => ⟨D, acc3, _, _, _, rfl, fresh_back e2 n3, e2.trans e3, h3, r3⟩
    · rintro σ' H2 ⟨p, acc, x3, x4, x5, rfl, np, e2, h2, r2⟩
      refine s_ret (ev_var rfl) fun H3 e3 => q p H3 acc np (e2.trans e3) (e3 _ _ h2) ?_
      have e : ((n : Int)).toNat = n := Int.toNat_natCast n
      rw [e] at r2
      exact r2.keep fun t xs h => e3 _ _ h
end
end K03

set_option Elab.async false
set_option linter.all false
set_option maxRecDepth 100000
set_option maxHeartbeats 8000000
/-! S16: first_fault. -/
namespace K03
open PySem PySem.Spec PyProof.Rows L2 Evl J ClX StX S
abbrev sFault : Stmt := topS 38
/-- the demands, in their order -/
def demL : List (Str × Nat × Dem) := [("join turned", 2, dm26), ("join joined", 3, dm27), ("join once", 1, dm28), ("none", 1, dm29), ("product turned", 2, dm30), ("product joined", 3, dm31), ("spread", 3, dm32), ("gone", 1, dm33), ("one", 1, dm34), ("greatest", 1, dm35)]
/-- the module's row of them -/
structure DemF (P : Program) (w : World) (K : PySem.W.Frag) (mg : Str → Option Value) (base : Heap) (C dD : Addr) (it fk : Nat → Addr) : Prop where
  gl : mg "DEMANDS" = some (.ref dD)
  row : ∀ H : Hp, SqT K H dD ((List.range 10).map fun i => V.ref (it i))
  at_ : ∀ (i : Nat) (e : Str × Nat × Dem), demL[i]? = some e → ∀ H : Hp, SqT K H (it i) [.str e.1, .int (e.2.1 : Int), .ref (fk i)]
  un : ∀ i j, i < 10 → j < 10 → fk i = fk j → i = j
  held : ∀ (i : Nat) (e : Str × Nat × Dem), demL[i]? = some e → Held P w K mg base 4 (fk i) (spDem K C e.2.1 e.2.2)
def fault (G : List Str) (J T : List (List Str)) (lo hi : Str) : Option (Str × List Str) := demL.findSome? fun e => ((tups G e.2.1).find? fun r => !e.2.2 G J T lo hi r).map fun r => (e.1, r)
def faultD : Option (Str × List Str) → PyData
  | none => .none
  | some (x, r) => .tuple [.str x, .tuple (r.map .str)]
def spFault (K : PySem.W.Frag) (C : Addr) : Sp := fun vs H Q _ => ∃ (a : Addr) (G : List Str) (J T : List (List Str)) (lo hi : Str), vs = [.ref a] ∧ ScAt K C H a G J T lo hi ∧ ∀ v H', Ex H H' → Dp K H' v (faultD (fault G J T lo hi)) → Q v H'
/-- which promise stands at an address -/
def promS (K : PySem.W.Frag) (C : Addr) (fk : Nat → Addr) (f : Addr) : Option Sp := (List.range 10).findSome? fun i => if f = fk i then (demL[i]?).map fun e => spDem K C e.2.1 e.2.2 else none
section
variable {P : Program} {w : World} {K : PySem.W.Frag} {mg : Str → Option Value} {base : Heap} {f C dD : Addr} {fd : FuncData} {it fk : Nat → Addr}
theorem prom_at (un : ∀ i j, i < 10 → j < 10 → fk i = fk j → i = j) {i : Nat} {e : Str × Nat × Dem} (h : demL[i]? = some e) : promS K C fk (fk i) = some (spDem K C e.2.1 e.2.2) := by
  have hi : i < 10 := (List.getElem?_eq_some_iff.mp h).1
  unfold promS
  cases q : (List.range 10).findSome? fun j => if fk i = fk j then (demL[j]?).map fun e => spDem K C e.2.1 e.2.2 else none with
  | none =>
    have z := List.findSome?_eq_none_iff.mp q i (List.mem_range.mpr hi)
    rw [if_pos rfl, h] at z
    cases z
  | some s =>
    obtain ⟨j, hj, z⟩ := List.exists_of_findSome?_eq_some q
    by_cases e2 : fk i = fk j
    · rw [if_pos e2] at z
      have ij := un i j hi (List.mem_range.mp hj) e2
      subst ij
      rw [h] at z
      exact z.symm
    · rw [if_neg e2] at z
      cases z
theorem prom_held (D : DemF P w K mg base C dD it fk) (g : Addr) (sp : Sp) (h : promS K C fk g = some sp) : Held P w K mg base 4 g sp := by
  obtain ⟨i, hi, z⟩ := List.exists_of_findSome?_eq_some h
  by_cases e : g = fk i
  · rw [if_pos e] at z
    cases q : demL[i]? with
    | none =>
      rw [q] at z
      cases z
    | some d =>
      rw [q] at z
      obtain rfl := Option.some.inj z
      rw [e]
      exact D.held i d q
  · rw [if_neg e] at z
    cases z
theorem find_at {α : Type} {p : α → Bool} {r : α} : ∀ {l : List α} {j : Nat}, (l.take j).find? p = none → l[j]? = some r → p r = true → l.find? p = some r
  | [], j, _, h, _ => by simp at h
  | x :: l, 0, _, h, hp => by
    simp at h
    subst h
    simp [hp]
  | x :: l, j + 1, h, h1, hp => by
    rw [List.take_succ_cons, List.find?_cons] at h
    cases hx : p x with
    | true =>
      rw [hx] at h
      cases h
    | false =>
      rw [hx] at h
      rw [List.find?_cons, hx]
      exact find_at (l := l) (j := j) h (by simpa using h1) hp
theorem find_more {α : Type} {p : α → Bool} {r : α} : ∀ {l : List α} {j : Nat}, (l.take j).find? p = none → l[j]? = some r → p r = false → (l.take (j + 1)).find? p = none
  | [], j, _, h, _ => by simp at h
  | x :: l, 0, _, h, hp => by
    simp at h
    subst h
    simp [hp]
  | x :: l, j + 1, h, h1, hp => by
    rw [List.take_succ_cons, List.find?_cons] at h ⊢
    cases hx : p x with
    | true =>
      rw [hx] at h
      cases h
    | false =>
      rw [hx] at h
      exact find_more (l := l) (j := j) h (by simpa using h1) hp
theorem some_at {α β : Type} {g : α → Option β} {r : α} {y : β} : ∀ {l : List α} {j : Nat}, (l.take j).findSome? g = none → l[j]? = some r → g r = some y → l.findSome? g = some y
  | [], j, _, h, _ => by simp at h
  | x :: l, 0, _, h, hp => by
    simp at h
    subst h
    rw [List.findSome?_cons, hp]
  | x :: l, j + 1, h, h1, hp => by
    rw [List.take_succ_cons, List.findSome?_cons] at h
    cases hx : g x with
    | some z =>
      rw [hx] at h
      cases h
    | none =>
      rw [hx] at h
      rw [List.findSome?_cons, hx]
      exact some_at (l := l) (j := j) h (by simpa using h1) hp
theorem some_more {α β : Type} {g : α → Option β} {r : α} : ∀ {l : List α} {j : Nat}, (l.take j).findSome? g = none → l[j]? = some r → g r = none → (l.take (j + 1)).findSome? g = none
  | [], j, _, h, _ => by simp at h
  | x :: l, 0, _, h, hp => by
    simp at h
    subst h
    simp [hp]
  | x :: l, j + 1, h, h1, hp => by
    rw [List.take_succ_cons, List.findSome?_cons] at h ⊢
    cases hx : g x with
    | some z =>
      rw [hx] at h
      cases h
    | none =>
      rw [hx] at h
      exact some_more (l := l) (j := j) h (by simpa using h1) hp
theorem s_forTups {σ : L2.St} {H : Hp} {D : Ends} {tu : TS} {tg : TE} {n : Nat} {G : List Str} (GL : EvL tg σ H (G.map V.str)) (hc : σ[2]? = some (some (.int (n : Int)))) (hn : n ≤ 3) (hz : G.length ≤ 8)
    (k : ∀ p acc H1, H p = none → Ex H H1 → H1 p = some (.lst acc) → RowsAt H1 acc (tups G n) → ∃ Pv : Nat → L2.St → Hp → Prop, Pv 0 σ H1 ∧ (∀ i σ' H', i ≤ acc.length → Pv i σ' H' → SqL K H' p acc) ∧
      (∀ i x σ' H', acc[i]? = some x → Pv i σ' H' → tu { D with nx := Pv (i + 1), ct := Pv (i + 1), bk := D.nx } (σ'.set 4 (some x)) H') ∧ ∀ σ' H', Pv acc.length σ' H' → D.nx σ' H') :
    tFor (iList K (tCall (spTups K) [] E0 (tCons tg (tCons (tVar 2) tNil)))) (gName 4) tu D σ H :=
  GL H (Ex.refl H) _ fun lg H1 n1 e1 h1 => ⟨_, hc, lg, G, n, rfl, sq_of h1, hn, hz, fun p H2 acc n2 e2 h2 r2 => by
    obtain ⟨Pv, k0, k1, k2, k3⟩ := k p acc H2 (fresh_back e1 n2) (e1.trans e2) h2 r2
    exact ⟨p, rfl, ⟨acc, sq_of h2⟩, for_list Pv k0 k1 k2 k3⟩⟩
abbrev NFf : List Str := ["scale", "word", "count", "holds", "grades"]
theorem scFf : FnScope NFf ["scale"] (defScope sFault) := ⟨rfl, rfl, rfl, by decide +kernel, rfl, by decide +kernel, by decide +kernel⟩
theorem ok_fault (F : FnP K "first_fault" sFault f fd) (D : DemF P w K mg base C dD it fk) (cG : MCal P w K mg base CX0 1 C "grades" ["self"] (spGrades K C)) (cU : Cal P w K mg base CX0 1 "_tuples" ["grades", "count"] (spTups K)) : FnOk P w K mg base CX0 5 f fd ["scale"] (spFault K C) := by
  refine F.ok scFf (fun vs H Q E h => ?_) (fun cdv A outer s H vs Q E hr h => ?_)
  · obtain ⟨a, G, J, T, lo, hi, rfl, _⟩ := h
    rfl
  · obtain ⟨a, G, J, T, lo, hi, rfl, sc, q⟩ := h
    have hr1 : Room 1 (A.deeper (envOfC "first_fault" (defScope sFault) s.heap.objs.size f cdv)) := hr.mono (by decide)
    refine ⟨_, PSs.nox (pss_cons (ps_for PassesOwn.never rfl (pi_tup (pe_glob (v := .ref dD) rfl D.gl rfl)) (pg_tup rfl (pgs_cons (pg_name (i := 1) scFf.nd rfl (Or.inl rfl)) (pgs_cons (pg_name (i := 2) scFf.nd rfl (Or.inl rfl)) (pgs_cons (pg_name (i := 3) scFf.nd rfl (Or.inl rfl)) pgs_nil))))
      (pss_one (ps_for PassesOwn.never rfl (pi_list (pe_cal cU hr1 rfl pass0 (pa_cons (pe_mcal0 cG (pv 0) hr1 pass0) (pa_cons (pv 2) pa_nil)))) (pg_name (i := 4) scFf.nd rfl (Or.inl rfl))
        (pss_one (ps_if (pt_not (pt_val (pe_callA (i := 3) (prom_held D) hr rfl (Or.inl rfl) (pa_cons (pv 0) (pa_cons (pv 4) pa_nil))))) (pss_one (ps_ret (pe_tup (pa_cons (pv 1) (pa_cons (pv 4) pa_nil))))) pss_nil)))))
      (pss_one (ps_ret pe_non))), ?_⟩
    obtain ⟨dx, fs, g, d, j, t, h1, h2, h3, h4, h5, h6, h7, h8, h9, h10, h11, hm⟩ := sc.ex
    refine q_forT ev_c (D.row H) (fun i σ' H' => ∃ x1 x2 x3 x4, σ' = [some (.ref a), x1, x2, x3, x4] ∧ Ex H H' ∧ (demL.take i).findSome? (fun e => ((tups G e.2.1).find? fun r => !e.2.2 G J T lo hi r).map fun r => (e.1, r)) = none)
      (fun H1 e => ⟨_, _, _, _, rfl, e, rfl⟩) (fun i σ' H' _ _ => D.row H') ?_ ?_
    · rintro i v σ' H1 hv ⟨x1, x2, x3, x4, rfl, e1, none1⟩
      have hi10 : i < 10 := by
        have := (List.getElem?_eq_some_iff.mp hv).1
        simpa using this
      have hv2 : v = .ref (it i) := by
        rw [List.getElem?_map, List.getElem?_range hi10] at hv
        exact (Option.some.inj hv).symm
      subst hv2
      obtain ⟨e, he⟩ : ∃ e, demL[i]? = some e := ⟨demL[i]'hi10, List.getElem?_eq_getElem hi10⟩
      have cnt : e.2.1 ≤ 3 := by
        have : ∀ e ∈ demL, e.2.1 ≤ 3 := by
          intro e h
          simp only [demL, List.mem_cons, List.not_mem_nil, or_false] at h
          rcases h with rfl | rfl | rfl | rfl | rfl | rfl | rfl | rfl | rfl | rfl <;> decide
        exact this e (List.mem_of_getElem? he)
      refine ⟨it i, _, rfl, D.at_ i e he H1, rfl, _, _, rfl, _, _, rfl, _, _, rfl, rfl, ?_⟩
      refine s_forTups (n := e.2.1) (G := G) (el_mcal (ev_var rfl) ea_nil (e1 _ _ h1) (hm _ (by decide)) fun H2 e Q q => ⟨a, G, J, T, lo, hi, rfl, (sc.ext e1).ext e, q⟩) rfl cnt sc.sz fun p acc H2 n2 e2 h2' r2 => ?_
      have e12 := e1.trans e2
      refine ⟨fun j σ' H' => ∃ x4, σ' = [some (.ref a), some (.str e.1), some (.int (e.2.1 : Int)), some (.ref (fk i)), x4] ∧ Ex H2 H' ∧ ((tups G e.2.1).take j).find? (fun r => !e.2.2 G J T lo hi r) = none, ⟨_, rfl, Ex.refl H2, rfl⟩, fun j σ' H' _ ⟨_, _, e3, _⟩ => sq_of (e3 _ _ h2'), ?_, ?_⟩
      · rintro j x σ' H3 hx ⟨x4, rfl, e3, none2⟩
        have hj : j < (tups G e.2.1).length := by
          rw [← r2.1]
          exact (List.getElem?_eq_some_iff.mp hx).1
        have hr : (tups G e.2.1)[j]? = some (tups G e.2.1)[j] := List.getElem?_eq_getElem hj
        generalize (tups G e.2.1)[j] = r at hr
        obtain ⟨tp, q1, q2⟩ := r2.2 j r hr
        rw [q1] at hx
        obtain rfl := Option.some.inj hx
        obtain ⟨m1, m2⟩ := tups_mem (List.mem_of_getElem? hr)
        have e13 := e12.trans e3
        have tp3 := e3 _ _ q2
        refine s_when (b := !e.2.2 G J T lo hi r) (et_not (et_B (b := e.2.2 G J T lo hi r) (fun H4 e4 Q q => ⟨fk i, _, rfl, prom_at D.un he, _, rfl, _, rfl, a, tp, r, G, J, T, lo, hi, rfl, sc.ext (e13.trans e4), st_of (e4 _ _ tp3), m1, m2, q⟩))) (fun hb H4 e4 => ?_) (fun hb H4 e4 => ⟨_, rfl, e3.trans e4, find_more none2 hr hb⟩)
        refine ⟨_, rfl, _, rfl, sz_of (by simp), fun p hp => ?_⟩
        refine q (.ref p) _ ((e13.trans e4).trans (Ex.new hp)) ?_
        have ff : fault G J T lo hi = some (e.1, r) := some_at none1 he (by rw [find_at none2 hr hb]; rfl)
        rw [ff]
        exact .tup (st_of upd_same) (.cons (.str _) (.cons (.tup (st_of (by rw [upd_ne (ne_of_none (e4 _ _ tp3) hp)]; exact e4 _ _ tp3)) (dpa_strs r)) .nil))
      · rintro σ' H3 ⟨x4, rfl, e3, none2⟩
        rw [r2.1, List.take_length] at none2
        exact ⟨_, _, _, _, rfl, e12.trans e3, some_more none1 he (by rw [none2]; rfl)⟩
    · rintro σ' H1 ⟨x1, x2, x3, x4, rfl, e1, none1⟩
      refine s_ret ev_c fun H2 e2 => q .non H2 (e1.trans e2) ?_
      have e : ((List.range 10).map fun i => V.ref (it i)).length = demL.length := by simp [demL]
      rw [e, List.take_length] at none1
      unfold fault
      rw [none1]
      exact .non
end
end K03

set_option Elab.async false
set_option linter.all false
set_option maxRecDepth 100000
set_option maxHeartbeats 8000000
namespace K03
open PySem PySem.Spec PyProof.Rows L2 Evl J
/-- the pen at p, its cells at c -/
def PenC (H : Hp) (p c : Addr) (m : Nat) : Prop := ∃ (ns : List Int) (i v : Int), H p = some (.lst [.ref c, .int i, .int v]) ∧ H c = some (.lst (ns.map V.int)) ∧ c ≠ p ∧ ns.length ≤ 60 ∧ 0 ≤ i ∧ i ≤ (m : Int)
theorem PenC.ext {H H' : Hp} {p c : Addr} {m : Nat} (h : PenC H p c m) (e : Ex H H') : PenC H' p c m := by
  obtain ⟨ns, i, v, h1, h2, h3⟩ := h
  exact ⟨ns, i, v, e _ _ h1, e _ _ h2, h3⟩
theorem PenC.keep {H H' : Hp} {p c : Addr} {m : Nat} (h : PenC H p c m) (e1 : H' p = H p) (e2 : H' c = H c) : PenC H' p c m := by
  obtain ⟨ns, i, v, h1, h2, h3⟩ := h
  exact ⟨ns, i, v, e1.trans h1, e2.trans h2, h3⟩
def spDrawC : Sp := fun vs H Q _ => ∃ (p c : Addr) (u : Int) (m : Nat), vs = [.ref p, .int u] ∧ 1 ≤ u ∧ u ≤ 100000 ∧ PenC H p c m ∧ m ≤ 1000000 ∧
  ∀ (d : Int) H', But p H H' → PenC H' p c (m + 1) → 0 ≤ d → d < u → Q (.int d) H'
abbrev sPen : Stmt := topS 40
abbrev sNext : Stmt := topS 41
abbrev sDraw : Stmt := topS 42
section
variable {P : Program} {w : World} {K : PySem.W.Frag} {mg : Str → Option Value} {base : Heap} {f : Addr} {fd : FuncData}
abbrev NPen : List Str := ["_law_script"]
abbrev NNext : List Str := ["_law_pen_here", "_law_index", "_law_cell_here", "_law_some", "_law_more", "_law_high"]
abbrev NDraw : List Str := ["_law_pen_here", "_law_under", "_law_digit"]
theorem scPen : FnScope NPen ["_law_script"] (defScope sPen) := ⟨rfl, rfl, rfl, by decide +kernel, rfl, by decide +kernel, by decide +kernel⟩
theorem scNext : FnScope NNext ["_law_pen_here"] (defScope sNext) := ⟨rfl, rfl, rfl, by decide +kernel, rfl, by decide +kernel, by decide +kernel⟩
theorem scDraw : FnScope NDraw ["_law_pen_here", "_law_under"] (defScope sDraw) := ⟨rfl, rfl, rfl, by decide +kernel, rfl, by decide +kernel, by decide +kernel⟩
theorem cut_ints (ns : List Int) : ∃ ms : List Int, cutV (ns.map V.int) none (some 60) = ms.map V.int ∧ ms.length ≤ 60 := by
  refine ⟨(ns.drop (HT.sIx ns.length 0 none)).take (HT.sIx ns.length ns.length (some 60) - HT.sIx ns.length 0 none), ?_, ?_⟩
  · unfold cutV
    rw [List.length_map, ← List.map_drop, ← List.map_take]
  · rw [List.length_take, List.length_drop]
    have e : HT.sIx ns.length ns.length (some 60) = min 60 ns.length := HT.sIx_nat ns.length ns.length 60
    omega
theorem ok_pen (F : FnP K "_law_pen" sPen f fd) (T : Bl mg) : FnOk P w K mg base CX0 1 f fd ["_law_script"] (spPen K) := by
  refine F.ok scPen (fun vs H Q E h => ?_) (fun cdv A outer s H vs Q E hr h => ?_)
  · obtain ⟨a, ns, rfl, _⟩ := h
    rfl
  · obtain ⟨a, ns, rfl, hS, q⟩ := h
    obtain ⟨ms, e1, e2⟩ := cut_ints ns
    refine ⟨_, pss_one (ps_ret (pe_lst (pa_cons (pe_callTy call_list_of rfl T.lst Boot.«list» (pa_cons (pe_slice sl_list (pv 0) po_none (po_some pe_int)) pa_nil)) (pa_cons pe_int (pa_cons pe_int pa_nil))))), ?_⟩
    refine ⟨.ref a, rfl, 60, rfl, a, _, rfl, hS, fun p hp => ?_⟩
    refine ⟨p, _, rfl, .inl (sq_of upd_same), fun l hl => ⟨sz_of (by simp), fun r hr => ?_⟩⟩
    have x1 : Ex H (upd H p (.lst (cutV (ns.map V.int) none (some 60)))) := Ex.new hp
    have x2 := x1.trans (Ex.new (o := .lst (cutV (ns.map V.int) none (some 60))) hl)
    have hr0 := fresh_back x2 hr
    refine q r _ hr0 (x2.trans (Ex.new hr)) ⟨l, ms, 0, 0, upd_same, ?_, ?_, e2, by omega, by omega⟩
    · rw [upd_ne (fun z => ?_), upd_same, e1]
      subst z
      rw [upd_same] at hr
      cases hr
    · intro z
      subst z
      rw [upd_same] at hr
      cases hr
/-- what the mixed numbers are below -/
theorem rest_lt {x m : Int} (h : 0 < m) : 0 ≤ x % m ∧ x % m < m := ⟨Int.emod_nonneg _ (by omega), Int.emod_lt_of_pos _ h⟩
theorem ok_next (F : FnP K "_law_next" sNext f fd) (T : Bl mg) : FnOk P w K mg base CX0 1 f fd ["_law_pen_here"] spNext := by
  refine F.ok scNext (fun vs H Q E h => ?_) (fun cdv A outer s H vs Q E hr h => ?_)
  · obtain ⟨p, c, ns, i, v, rfl, _⟩ := h
    rfl
  · obtain ⟨p, c, ns, i, v, rfl, hp, hc, ncp, hl, i0, i1, q⟩ := h
    have hu := hu_of hr
    have hu64 : (cxOf CX0 P w K mg base NNext "_law_next" (defScope sNext) f cdv A outer s H E).A.units + 64 < cLine := by
      have := hr.un
      show (A.deeper _).units + 64 < cLine
      omega
    refine ⟨_, pss_cons (ps_set (i := 1) scNext.nd rfl (Or.inl rfl) (pe_ix ix_list (pv 0) (pe_int) (fun _ _ => rfl))) (pss_cons (ps_asg (pe_op op_add (pv 1) (pe_int)) (pg_sub (pv 0) (pe_int) set_list)) (pss_cons (ps_set (i := 2) scNext.nd rfl (Or.inl rfl) (pe_op op_add (pe_op op_mul (pv 1) (pe_int)) (pe_int))) (pss_cut (ps_if (pt_cmpR (op_neD hu64) (pe_ix ix_list (pv 0) (pe_int) (fun _ _ => rfl)) (pe_lst pa_nil) (nomark _)) (pss_one (ps_set (i := 2) scNext.nd rfl (Or.inl rfl) (pe_ix ix_list (pe_ix ix_list (pv 0) (pe_int) (fun _ _ => rfl)) (pe_op op_mod (pe_callTy call_int1 (by rfl) T.int Boot.«int» (pa_cons (pv 1) pa_nil)) (pe_callB call_len_seq (by rfl) T.len boot_len (pa_cons (pe_ix ix_list (pv 0) (pe_int) (fun _ _ => rfl)) pa_nil))) (fun _ _ => rfl)))) pss_nil) (pss_cons (ps_if (PW.pt (pw_and (pt_cmpR op_lt (pv 1) (pe_callB call_len_seq (by rfl) T.len boot_len (pa_cons (pe_ix ix_list (pv 0) (pe_int) (fun _ _ => rfl)) pa_nil)) (nomark _)) (pw_and1 (pt_cmpR op_ge (pv 2) (pe_op op_pow (pe_int) (pe_int)) (nomark _))))) (pss_one (ps_ret (pv 2))) pss_nil) (pss_cons (ps_set (i := 3) scNext.nd rfl (Or.inl rfl) (pe_op op_mod (pe_callTy call_int1 (by rfl) T.int Boot.«int» (pa_cons (pe_op op_add (pe_op op_add (pe_op op_mod (pe_callTy call_int1 (by rfl) T.int Boot.«int» (pa_cons (pv 2) pa_nil)) (pe_int)) (pe_op op_mul (pv 1) (pe_int))) (pe_int)) pa_nil)) (pe_int))) (pss_cons (ps_set (i := 4) scNext.nd rfl (Or.inl rfl) (pe_op op_mod (pe_callTy call_int1 (by rfl) T.int Boot.«int» (pa_cons (pe_op op_add (pe_op op_add (pe_op op_mul (pv 3) (pv 3)) (pe_op op_mul (pv 1) (pe_int))) (pe_int)) pa_nil)) (pe_int))) (pss_cons (ps_set (i := 5) scNext.nd rfl (Or.inl rfl) (pe_op op_mod (pe_callTy call_int1 (by rfl) T.int Boot.«int» (pa_cons (pe_op op_add (pe_op op_add (pe_op op_mul (pv 4) (pv 4)) (pv 3)) (pe_op op_mul (pe_op op_mul (pv 1) (pv 1)) (pe_int))) pa_nil)) (pe_int))) (pss_one (ps_ret (pe_op op_add (pe_op op_mul (pe_op op_add (pe_op op_mul (pv 5) (pe_int)) (pv 4)) (pe_int)) (pv 3))))))))))), ?_⟩
    -- index
    refine q_asg (ev_op (ev_var rfl) ev_c (rv_ixL (sq_of hp) rfl)) fun H1 e1 => ?_
    refine q_setL (l := p) (j := 1) (e1 p _ hp) (ev_op (ev_var rfl) ev_c rv_I0) (ev_var rfl) ev_c (by simp) fun H2 e2 => ?_
    have b2 : But p H (upd H2 p (.lst [.ref c, .int (i + 1), .int v])) := (But.of (e1.trans e2)).trans But.upd
    have hp2 : (upd H2 p (.lst [.ref c, .int (i + 1), .int v])) p = some (.lst [.ref c, .int (i + 1), .int v]) := upd_same
    have hc2 : (upd H2 p (.lst [.ref c, .int (i + 1), .int v])) c = some (.lst (ns.map V.int)) := b2 c _ ncp hc
    show tSeq _ _ _ _ (upd H2 p (.lst [.ref c, .int (i + 1), .int v]))
    generalize upd H2 p (.lst [.ref c, .int (i + 1), .int v]) = H3 at b2 hp2 hc2 ⊢
    refine q_asg (ev_op (ev_op (ev_var rfl) ev_c (rv_I (.inr (by decide)))) ev_c rv_I0) fun H4 e4 => ?_
    -- if pen[0] != []
    refine q_cut (M := fun σ' H' => ∃ cell : Int, σ' = [some (.ref p), some (.int i), some (.int cell), none, none, none] ∧ Ex H3 H') ?_ ?_
    · have at0 : Ev (tOp (rIxL K) (tVar 0) (tC (.int 0))) [some (.ref p), some (.int i), some (.int (i * 1051 + 53)), none, none, none] H4 (.ref c) := ev_op (ev_var rfl) ev_c (rv_ixL (sq_of (e4 p _ hp2)) rfl)
      have hc4 := e4 c _ hc2
      refine s_when (et_test (ev_neL (e := .none) at0 (.lst (sq_of hc4) (dpa_ints ns)) (el_lst ea_nil (by simp)) .nil (shaped_leaves (by simp [leaf])) (shaped_leaves (by simp)))) (fun hb H5 e5 => ?_) (fun hb H5 e5 => ⟨_, rfl, e4.trans e5⟩)
      have hpos : 0 < ns.length := by
        cases ns with
        | nil => simp [PyData.eqv, PyData.eqvAll] at hb
        | cons n ns => simp
      have hm := rest_lt (x := i) (m := (ns.length : Int)) (by omega)
      obtain ⟨j, hj⟩ : ∃ j : Nat, i % (ns.length : Int) = (j : Int) := ⟨(i % (ns.length : Int)).toNat, by omega⟩
      have hj2 : j < ns.length := by omega
      refine s_asg (v := .int ns[j]) (ev_op (at0.mono e5) (ev_op (ev_cb (ea_cons (ev_var rfl) ea_nil) rc_int) (ev_cb (ea_cons (at0.mono e5) ea_nil) (rc_len (.inl (sq_of (e5 c _ hc4))))) (rv_I (by rw [List.length_map]; omega))) (rv_ixL (sq_of (e5 c _ hc4)) ?_)) fun H6 e6 => ⟨ns[j], rfl, (e4.trans e5).trans e6⟩
      rw [List.length_map, hj]
      exact atI_nat (by rw [List.getElem?_map, List.getElem?_eq_getElem hj2]; rfl)
    rintro σ' H4' ⟨cell, rfl, e4'⟩
    have at0 : Ev (tOp (rIxL K) (tVar 0) (tC (.int 0))) [some (.ref p), some (.int i), some (.int cell), none, none, none] H4' (.ref c) := ev_op (ev_var rfl) ev_c (rv_ixL (sq_of (e4' p _ hp2)) rfl)
    have out : ∀ (r : Int) H', Ex H4' H' → Q (.int r) H' := fun r H' e => q r H' (b2.trans (But.of (e4'.trans e))) ((e4'.trans e) p _ hp2)
    refine q_when (et_and (et_test (ev_op (ev_var rfl) (ev_cb (ea_cons at0 ea_nil) (rc_len (.inl (sq_of (e4' c _ hc2))))) rv_I0)) (fun _ => et_test (ev_op (ev_var rfl) (ev_op ev_c ev_c (rv_I ⟨by decide, by decide, by decide⟩)) rv_I0))) (fun _ H5 e5 => s_ret (ev_var rfl) fun H6 e6 => out _ _ (e5.trans e6)) (fun _ H5 e5 => ?_)
    have m1 := rest_lt (x := cell % 2147483587 + i * 30103 + 79) (m := 2147483587) (by decide)
    refine q_asg (ev_op (ev_cb (ea_cons (ev_op (ev_op (ev_op (ev_cb (ea_cons (ev_var rfl) ea_nil) rc_int) ev_c (rv_I (by decide))) (ev_op (ev_var rfl) ev_c (rv_I (.inr (by decide)))) rv_I0) ev_c rv_I0) ea_nil) rc_int) ev_c (rv_I (by decide))) fun H6 e6 => ?_
    generalize (cell % 2147483587 + i * 30103 + 79) % 2147483587 = x at m1 ⊢
    have m2 := rest_lt (x := x * x + i * 70039 + 61) (m := 2147483563) (by decide)
    refine q_asg (ev_op (ev_cb (ea_cons (ev_op (ev_op (ev_op (ev_var rfl) (ev_var rfl) (rv_I (.inr ⟨by omega, by omega⟩))) (ev_op (ev_var rfl) ev_c (rv_I (.inr (by decide)))) rv_I0) ev_c rv_I0) ea_nil) rc_int) ev_c (rv_I (by decide))) fun H7 e7 => ?_
    generalize (x * x + i * 70039 + 61) % 2147483563 = y at m2 ⊢
    refine q_asg (ev_op (ev_cb (ea_cons (ev_op (ev_op (ev_op (ev_var rfl) (ev_var rfl) (rv_I (.inr ⟨by omega, by omega⟩))) (ev_var rfl) rv_I0) (ev_op (ev_op (ev_var rfl) (ev_var rfl) (rv_I (.inr ⟨by omega, by omega⟩))) ev_c (rv_I (.inr (by decide)))) rv_I0) ea_nil) rc_int) ev_c (rv_I (by decide))) fun H8 e8 => ?_
    exact s_ret (ev_op (ev_op (ev_op (ev_op (ev_var rfl) ev_c (rv_I (.inr (by decide)))) (ev_var rfl) rv_I0) ev_c (rv_I (.inr (by decide)))) (ev_var rfl) rv_I0) fun H9 e9 => out _ _ ((((e5.trans e6).trans e7).trans e8).trans e9)
theorem ok_draw (F : FnP K "_law_draw" sDraw f fd) (T : Bl mg) (cN : Cal P w K mg base CX0 1 "_law_next" ["_law_pen_here"] spNext) : FnOk P w K mg base CX0 2 f fd ["_law_pen_here", "_law_under"] spDrawC := by
  refine F.ok scDraw (fun vs H Q E h => ?_) (fun cdv A outer s H vs Q E hr h => ?_)
  · obtain ⟨p, c, u, m, rfl, _⟩ := h
    rfl
  · obtain ⟨p, c, u, m, rfl, u1, u2, ⟨ns, i, v, hp, hc, ncp, hl, i0, i1⟩, hm, q⟩ := h
    refine ⟨_, pss_cut (ps_if (pt_cmpR op_lt (pe_ix ix_list (pv 0) (pe_int) (fun _ _ => rfl)) (pv 1) (nomark _)) (pss_one (ps_asg (pe_cal cN hr rfl pass0 (pa_cons (pv 0) pa_nil)) (pg_sub (pv 0) (pe_int) set_list))) pss_nil) (pss_cons (ps_set (i := 2) scDraw.nd rfl (Or.inl rfl) (pe_op op_mod (pe_callTy call_int1 (by rfl) T.int Boot.«int» (pa_cons (pe_ix ix_list (pv 0) (pe_int) (fun _ _ => rfl)) pa_nil)) (pv 1))) (pss_cons (ps_asg (pe_op op_fdivW (pe_ix ix_list (pv 0) (pe_int) (fun _ _ => rfl)) (pv 1)) (pg_sub (pv 0) (pe_int) set_list)) (pss_one (ps_ret (pv 2))))), ?_⟩
    refine q_cut (M := fun σ' H' => ∃ (j v : Int), σ' = [some (.ref p), some (.int u), none] ∧ But p H H' ∧ H' p = some (.lst [.ref c, .int j, .int v]) ∧ 0 ≤ j ∧ j ≤ (m : Int) + 1) ?_ ?_
    · refine s_when (et_test (ev_op (ev_op (ev_var rfl) ev_c (rv_ixL (sq_of hp) rfl)) (ev_var rfl) rv_I0)) (fun _ H1 e1 => ?_) (fun _ H1 e1 => ⟨i, v, rfl, But.of e1, e1 p _ hp, i0, by omega⟩)
      refine ⟨_, rfl, p, c, ns, i, v, rfl, e1 p _ hp, e1 c _ hc, ncp, hl, i0, by omega, fun r H2 b2 h2 => ⟨_, rfl, p, _, 2, 2, rfl, rfl, h2, rfl, i + 1, r, rfl, ((But.of e1).trans b2).trans But.upd, upd_same, by omega, by omega⟩⟩
    · rintro σ' H1 ⟨j, v, rfl, b1, hp1, j0, j1⟩
      have m1 := rest_lt (x := v) (m := u) (by omega)
      refine q_asg (ev_op (ev_cb (ea_cons (ev_op (ev_var rfl) ev_c (rv_ixL (sq_of hp1) rfl)) ea_nil) rc_int) (ev_var rfl) (rv_I (by omega))) fun H2 e2 => ?_
      refine q_setL (l := p) (j := 2) (e2 p _ hp1) (ev_op (ev_op (ev_var rfl) ev_c (rv_ixL (sq_of (e2 p _ hp1)) rfl)) (ev_var rfl) (rv_I (wide_div (b := 64) (by omega) (by omega) (by decide) (by decide)))) (ev_var rfl) ev_c (by simp) fun H3 e3 => ?_
      have b3 : But p H (upd H3 p (.lst ([.ref c, .int j, .int v].set 2 (.int (v / u))))) := (b1.trans (But.of (e2.trans e3))).trans But.upd
      exact s_ret (ev_var rfl) fun H4 e4 => q (v % u) H4 (b3.trans (But.of e4)) ⟨ns, j, v / u, e4 p _ upd_same, e4 c _ (b3 c _ ncp hc), ncp, hl, j0, by omega⟩ m1.1 m1.2
end
end K03

set_option Elab.async false
set_option linter.all false
set_option maxRecDepth 100000
set_option maxHeartbeats 8000000
/-! S18: _law_shuffled. -/
namespace K03
open PySem PySem.Spec PyProof.Rows L2 Evl J ClX StX S
theorem perm_erase {α : Type} : ∀ (l : List α) (k : Nat) (h : k < l.length), (l[k] :: l.eraseIdx k).Perm l
  | [], k, h => absurd h (Nat.not_lt_zero _)
  | x :: l, 0, _ => List.Perm.refl _
  | x :: l, k + 1, h => by
    have ih := perm_erase l k (by simpa using h)
    simp only [List.getElem_cons_succ, List.eraseIdx_cons_succ]
    exact (List.Perm.swap x _ _).trans (List.Perm.cons x ih)
/-- a comprehension over a range, whatever its turns do -/
theorem lc_rng {σ : L2.St} {H : Hp} {ta : TA} {te : TE} {vs : List Nat} {j n : Nat} {Q : VK} (EA : EvA ta σ H [.int (n : Int)]) (hz : n ≤ 40000)
    (k : ∀ D H1, Ex H H1 → H1 D = none → ∃ Pv : Nat → Hp → Prop, Pv 0 (upd H1 D (.lst [])) ∧ (∀ (i : Nat) H', i < n → Pv i H' → wipe ((wipe σ vs).set j (some (.int (i : Int)))) vs = wipe σ vs ∧
      te ((wipe σ vs).set j (some (.int (i : Int)))) H' fun y H4 => ∃ acc, H4 D = some (.lst acc) ∧ acc.length < sizeLine ∧ Pv (i + 1) (upd H4 D (.lst (acc ++ [y])))) ∧ ∀ H', Pv n H' → Q (.ref D) H') : tLc (iRng1 ta) (gName j) tYes te vs σ H Q :=
  EA H (Ex.refl H) _ fun H1 e1 => ⟨(n : Int), rfl, by omega, by omega, fun D hD => by
    obtain ⟨Pv, h0, hs, hd⟩ := k D H1 e1 hD
    refine lc_range (lo := 0) (n := n) Pv h0 (fun i H' hi p => ?_) hd
    have e0 : (0 : Int) + (i : Int) = (i : Int) := Int.zero_add _
    show wipe ((wipe σ vs).set j (some (.int ((0 : Int) + (i : Int))))) vs = wipe σ vs ∧ te ((wipe σ vs).set j (some (.int ((0 : Int) + (i : Int))))) H' _
    rw [e0]
    exact hs i H' hi p⟩
abbrev sShuf : Stmt := topS 43
def spShuf (K : PySem.W.Frag) : Sp := fun vs H Q _ => ∃ (p c l : Addr) (xs : List V) (m : Nat), vs = [.ref p, .ref l] ∧ PenC H p c m ∧ m ≤ 900000 ∧ SqL K H l xs ∧ xs.length ≤ 1000 ∧
  ∀ q H' ys, H q = none → But p H H' → PenC H' p c (m + xs.length) → ys.Perm xs → H' q = some (.lst ys) → q ≠ p → Q (.ref q) H'
section
variable {P : Program} {w : World} {K : PySem.W.Frag} {mg : Str → Option Value} {base : Heap} {f : Addr} {fd : FuncData}
abbrev NSh : List Str := ["_law_pen_here", "_law_items", "_law_rest", "_law_lap"]
theorem scSh : FnScope NSh ["_law_pen_here", "_law_items"] (defScope sShuf) := ⟨rfl, rfl, rfl, by decide +kernel, rfl, by decide +kernel, by decide +kernel⟩
theorem ok_shuf (F : FnP K "_law_shuffled" sShuf f fd) (T : Bl mg) (cD : Cal P w K mg base CX0 2 "_law_draw" ["_law_pen_here", "_law_under"] spDrawC) : FnOk P w K mg base CX0 3 f fd ["_law_pen_here", "_law_items"] (spShuf K) := by
  refine F.ok scSh (fun vs H Q E h => ?_) (fun cdv A outer s H vs Q E hr h => ?_)
  · obtain ⟨p, c, l, xs, m, rfl, _⟩ := h
    rfl
  · obtain ⟨p, c, l, xs, m, rfl, hp, hm, hs, hz, q⟩ := h
    refine ⟨_, pss_cons (ps_set (i := 2) scSh.nd rfl (Or.inr rfl) (pe_callTy call_list_of rfl T.lst Boot.«list» (pa_cons (pv 1) pa_nil)))
      (pss_one (ps_ret (pe_lc (own := [("_law_lap", 3)]) (g := gName 3) (tt := tYes) (te := tBM K "list" rPopAt (tVar 2) (tCons (tCall spDrawC [] E0 (tCons (tVar 0) (tCons (tCB (fun xs H Q => ∃ p ys, xs = [.ref p] ∧ (SqL K H p ys ∨ SqT K H p ys) ∧ Q (.int ys.length) H) (tCons (tVar 2) tNil)) tNil))) tNil)) rfl scSh.nd (pi_range1 rfl T.rng (pa_cons (pe_callB call_len_seq (by rfl) T.len boot_len (pa_cons (pv 2) pa_nil)) pa_nil)) (blkOk_by (N := NSh) (sc := defScope sShuf) (by decide +kernel)) (fun _ _ _ _ _ => pg_name (i := 3) scSh.nd rfl (Or.inl rfl)) (fun _ _ _ _ _ => pts_nil)
        (fun _ _ _ _ _ => by exact pe_bm PySem.F.plainAttrs_list PySem.F.slot_list_pop PySem.F.type_list_pop mt_popAt (pv 2) (pa_cons (pe_cal cD hr rfl pass0 (pa_cons (pv 0) (pa_cons (pe_callB call_len_seq (by rfl) T.len boot_len (pa_cons (pv 2) pa_nil)) pa_nil))) pa_nil))))), ?_⟩
    have hp0 : H p ≠ none := by
      obtain ⟨ns, i, v, h1, _⟩ := hp
      rw [h1]
      simp
    have LS : EvL (tCB (fun (xs : List V) (H : Hp) (Q : VK) => ∃ p ys, xs = [.ref p] ∧ (SqL K H p ys ∨ SqT K H p ys) ∧ ∀ l, H l = none → Q (.ref l) (upd H l (.lst ys))) (tCons (tVar 1) tNil)) [some (.ref p), some (.ref l), none, none] H xs := fun H1 e Q q =>
      ⟨_, rfl, l, xs, rfl, .inl (ex_l e hs), fun r hr => q r _ hr (Ex.new hr) upd_same⟩
    refine q_asgL LS fun r H1 hr x1 a1 => ?_
    have rp : r ≠ p := fun z => hp0 (z ▸ hr)
    have p1 : PenC H1 p c m := hp.ext x1
    have hc0 : H c ≠ none := by
      obtain ⟨ns, i, v, _, h2, _⟩ := hp
      rw [h2]
      simp
    have rc : c ≠ r := fun z => hc0 (z ▸ hr)
    refine lc_rng (Q := Q) (n := xs.length) (ea_cons (ev_lenS (ev_var rfl) (.inl (sq_of a1))) ea_nil) (by omega) fun D H2 e2 hD => ?_
    have rD : r ≠ D := ne_of_none (e2 _ _ a1) hD
    have pD : p ≠ D := fun z => hp0 (fresh_back (x1.trans e2) (z ▸ hD))
    refine ⟨fun i H' => ∃ rem acc, H' r = some (.lst rem) ∧ H' D = some (.lst acc) ∧ (acc ++ rem).Perm xs ∧ acc.length = i ∧ PenC H' p c (m + i) ∧ But p H H', ⟨xs, [], by rw [upd_ne rD]; exact e2 _ _ a1, upd_same, List.Perm.refl _, rfl, (p1.ext e2).ext (Ex.new hD), But.of ((x1.trans e2).trans (Ex.new hD))⟩, ?_, ?_⟩
    · rintro i H3 hi ⟨rem, acc, h3, d3, pm, al, pen3, b3⟩
      have hlen : acc.length + rem.length = xs.length := by
        have := pm.length_eq
        rwa [List.length_append] at this
      refine ⟨rfl, .ref r, rfl, .inl ⟨rfl, _, sq_of h3⟩, .ref p, rfl, .ref r, rfl, r, rem, rfl, .inl (sq_of h3), p, c, (rem.length : Int), m + i, rfl, by omega, by omega, pen3, by omega, fun d H4 b4 pen4 d0 d1 => ?_⟩
      obtain ⟨k, rfl⟩ : ∃ k : Nat, d = (k : Int) := ⟨d.toNat, by omega⟩
      have hk : k < rem.length := by omega
      have r4 := b4 _ _ rp h3
      have D4 := b4 _ _ (Ne.symm pD) d3
      refine ⟨r, rem, (k : Int), k, rem[k], rfl, rfl, r4, by omega, by omega, (by rw [seqIndex_of (by omega) (by omega)]; simp), List.getElem?_eq_getElem hk, ?_⟩
      refine ⟨acc, by rw [upd_ne (Ne.symm rD)]; exact D4, sz_lt (by omega), rem.eraseIdx k, acc ++ [rem[k]], by rw [upd_ne rD, upd_same], upd_same, ?_, by simp [al], ?_, ?_⟩
      · refine List.Perm.trans ?_ pm
        rw [List.append_assoc]
        exact List.Perm.append_left _ (perm_erase rem k hk)
      · have cD : c ≠ D := fun z => hc0 (fresh_back (x1.trans e2) (z ▸ hD))
        exact pen4.keep (by rw [upd_ne pD, upd_ne (Ne.symm rp)]) (by rw [upd_ne cD, upd_ne rc])
      · intro b o hb z
        have br : b ≠ r := ne_of_none z hr
        have bD : b ≠ D := ne_of_none ((x1.trans e2) _ _ z) hD
        rw [upd_ne bD, upd_ne br]
        exact b4 _ _ hb (b3 _ _ hb z)
    · rintro H3 ⟨rem, acc, h3, d3, pm, al, pen3, b3⟩
      have hrem : rem = [] := by
        have := pm.length_eq
        rw [List.length_append, al] at this
        exact List.eq_nil_of_length_eq_zero (by omega)
      subst hrem
      rw [List.append_nil] at pm
      exact q D H3 acc (fresh_back (x1.trans e2) hD) b3 pen3 pm d3 (Ne.symm pD)
end
end K03

set_option Elab.async false
set_option linter.all false
set_option maxRecDepth 100000
set_option maxHeartbeats 8000000
/-! S19: what is told, looked up: _law_join, _law_then, _law_rows_of. -/
namespace S
open PySem PySem.Spec PyProof.Rows L2 Evl J ClX StX
theorem idx_min {x : Str} : ∀ {G : List Str} {m : Nat}, G[m]? = some x → G.idxOf x ≤ m
  | [], m, h => by simp at h
  | y :: r, 0, h => by
    simp at h
    subst h
    simp
  | y :: r, m + 1, h => by
    have ih := idx_min (G := r) (m := m) (by simpa using h)
    rw [List.idxOf_cons]
    cases hy : (y == x) with
    | true => simp
    | false =>
      simp only [cond_false]
      omega
section
variable {K : PySem.W.Frag} {σ : L2.St} {H : Hp} {ta tb : TE}
theorem ev_index {l : Addr} {x : Str} {G : List Str} (h : Ev ta σ H (.ref l)) (hs : SqL K H l (G.map V.str)) (hx : Ev tb σ H (.str x)) (m : x ∈ G) : Ev (tBM K "list" (rIndex K) ta (tCons tb tNil)) σ H (.int (G.idxOf x : Int)) := fun H1 e Q q =>
  h H1 e _ fun H2 e2 => ⟨.inl ⟨rfl, _, ex_l (e.trans e2) hs⟩, hx H2 (e.trans e2) _ fun H3 e3 => ⟨l, _, .str x, G.idxOf x, .str x, rfl, rfl, ex_l ((e.trans e2).trans e3) hs, rfl, flat_strs, by rw [List.getElem?_map, idx_get m]; rfl, by simp [eqV], fun n z hn hz => by
    rw [List.getElem?_map] at hz
    cases hg : G[n]? with
    | none =>
      rw [hg] at hz
      cases hz
    | some y =>
      rw [hg] at hz
      obtain rfl := Option.some.inj hz
      have ne : y ≠ x := fun q => by
        subst q
        have := idx_min hg
        omega
      simpa [eqV] using ne, q H3 (e2.trans e3)⟩⟩
/-- the entry of lists of lists at two grades' places -/
theorem rows_at {G : List Str} {J : List (List Str)} {j : V} {x y : Str} (w : Wf G J) (dp : Dp K H j (K03.rowsL J)) (hx : x ∈ G) (hy : y ∈ G) :
    ∃ p r ys zs, j = .ref p ∧ SqL K H p ys ∧ atI ys (G.idxOf x : Int) = some (.ref r) ∧ SqL K H r zs ∧ atI zs (G.idxOf y : Int) = some (.str (ap G J x y)) := by
  have h1 : G.idxOf x < J.length := by rw [w.len]; exact idx_lt hx
  have m1 : J[G.idxOf x] ∈ J := List.getElem_mem h1
  have h2 : G.idxOf y < (J[G.idxOf x]).length := by rw [w.row _ m1]; exact idx_lt hy
  have ea : ap G J x y = (J[G.idxOf x])[G.idxOf y] := by
    unfold ap
    have e1 : J.getD (G.idxOf x) [] = J[G.idxOf x] := by rw [List.getD_eq_getElem?_getD, List.getElem?_eq_getElem h1]; rfl
    rw [e1, List.getD_eq_getElem?_getD, List.getElem?_eq_getElem h2]
    rfl
  unfold K03.rowsL at dp
  cases dp with
  | @lst p ys _ hs ha =>
    have hl := dpa_len ha
    rw [List.length_map] at hl
    have hv : ys[G.idxOf x]? = some ys[G.idxOf x] := List.getElem?_eq_getElem (by omega)
    obtain ⟨d1, hd1, dp1⟩ := dpa_get ha hv
    rw [List.getElem?_map, List.getElem?_eq_getElem h1] at hd1
    obtain rfl := Option.some.inj hd1
    generalize hyx : ys[G.idxOf x] = u at *
    cases dp1 with
    | @lst r zs _ hs2 ha2 =>
      have hl2 := dpa_len ha2
      rw [List.length_map] at hl2
      have hv2 : zs[G.idxOf y]? = some zs[G.idxOf y] := List.getElem?_eq_getElem (by omega)
      obtain ⟨d2, hd2, dp2⟩ := dpa_get ha2 hv2
      rw [List.getElem?_map, List.getElem?_eq_getElem h2] at hd2
      obtain rfl := Option.some.inj hd2
      generalize hyz : zs[G.idxOf y] = z at *
      cases dp2
      exact ⟨p, r, ys, zs, rfl, hs, atI_nat hv, hs2, by rw [ea]; exact atI_nat hv2⟩
end
end S
namespace K03
open PySem PySem.Spec PyProof.Rows L2 Evl J ClX StX S
abbrev sLJ : Stmt := topS 51
abbrev sLT : Stmt := topS 52
/-- what is told, as far as it is read -/
structure ToldAt (K : PySem.W.Frag) (H : Hp) (d : Addr) (G : List Str) (J T : List (List Str)) (lo hi : Str) : Prop where
  ex : ∃ (kvs : List (Key × V)) (ln : Addr) (vj vt : V), H d = some (.dK kvs) ∧ valV kvs (Sum.inr "names") = some (.ref ln) ∧ SqL K H ln (G.map V.str) ∧ valV kvs (Sum.inr "joins") = some vj ∧ Dp K H vj (rowsL J) ∧ valV kvs (Sum.inr "products") = some vt ∧ Dp K H vt (rowsL T) ∧
    valV kvs (Sum.inr "low") = some (.str lo) ∧ valV kvs (Sum.inr "high") = some (.str hi)
  gd : Good G J T lo hi
theorem ToldAt.ext {K : PySem.W.Frag} {H H' : Hp} {d : Addr} {G : List Str} {J T : List (List Str)} {lo hi : Str} (h : ToldAt K H d G J T lo hi) (e : Ex H H') : ToldAt K H' d G J T lo hi := by
  obtain ⟨kvs, ln, vj, vt, h1, h2, h3, h4, h5, h6, h7, h8, h9⟩ := h.ex
  exact ⟨⟨kvs, ln, vj, vt, e _ _ h1, h2, ex_l e h3, h4, dp_ext e h5, h6, dp_ext e h7, h8, h9⟩, h.gd⟩
def spLJ (K : PySem.W.Frag) (then_ : Bool) : Sp := fun vs H Q _ => ∃ (d : Addr) (x y : Str) (G : List Str) (J T : List (List Str)) (lo hi : Str), vs = [.ref d, .str x, .str y] ∧ ToldAt K H d G J T lo hi ∧ x ∈ G ∧ y ∈ G ∧ RetV (.str (ap G (if then_ then T else J) x y)) H Q
section
variable {P : Program} {w : World} {K : PySem.W.Frag} {mg : Str → Option Value} {base : Heap} {f : Addr} {fd : FuncData}
abbrev NLj : List Str := ["_law_told_here", "_law_a", "_law_b"]
theorem scLj : FnScope NLj ["_law_told_here", "_law_a", "_law_b"] (defScope sLJ) := ⟨rfl, rfl, rfl, by decide +kernel, rfl, by decide +kernel, by decide +kernel⟩
theorem scLt : FnScope NLj ["_law_told_here", "_law_a", "_law_b"] (defScope sLT) := ⟨rfl, rfl, rfl, by decide +kernel, rfl, by decide +kernel, by decide +kernel⟩
theorem ok_lj (F : FnP K "_law_join" sLJ f fd) : FnOk P w K mg base CX0 1 f fd ["_law_told_here", "_law_a", "_law_b"] (spLJ K false) := by
  refine F.ok scLj (fun vs H Q E h => ?_) (fun cdv A outer s H vs Q E hr h => ?_)
  · obtain ⟨d, x, y, G, J, T, lo, hi, rfl, _⟩ := h
    rfl
  · obtain ⟨d, x, y, G, J, T, lo, hi, rfl, td, hx, hy, q⟩ := h
    have hu : (A.deeper (envOfC "_law_join" (defScope sLJ) s.heap.objs.size f cdv)).units + 1 < cLine := by
      have := hr.un
      omega
    refine ⟨_, pss_one (ps_ret (pe_ix ix_list (pe_ix ix_list (pe_dget hu (pv 0) pe_str (fun _ _ => rfl)) (pe_bm PySem.F.plainAttrs_list PySem.F.slot_list_index PySem.F.type_list_index mt_index (pe_dget hu (pv 0) pe_str (fun _ _ => rfl)) (pa_cons (pv 1) pa_nil)) (fun _ _ => rfl)) (pe_bm PySem.F.plainAttrs_list PySem.F.slot_list_index PySem.F.type_list_index mt_index (pe_dget hu (pv 0) pe_str (fun _ _ => rfl)) (pa_cons (pv 2) pa_nil)) (fun _ _ => rfl))), ?_⟩
    obtain ⟨kvs, ln, vj, vt, h1, h2, h3, h4, h5, h6, h7, h8, h9⟩ := td.ex
    obtain ⟨p, r, ys, zs, rfl, t1, t2, t3, t4⟩ := rows_at td.gd.wj h5 hx hy
    have nm : Ev (tDGet (tVar 0) (tC (.str "names"))) [some (V.ref d), some (V.str x), some (V.str y)] H (.ref ln) := ev_dget (key := Sum.inr "names") (ev_var rfl) ev_c h1 h2
    exact s_ret (ev_op (ev_op (ev_dget (key := Sum.inr "joins") (ev_var rfl) ev_c h1 h4) (ev_index nm h3 (ev_var rfl) hx) (rv_ixL t1 t2)) (ev_index nm h3 (ev_var rfl) hy) (rv_ixL t3 t4)) fun H2 e2 => q H2 e2
theorem ok_lt (F : FnP K "_law_then" sLT f fd) : FnOk P w K mg base CX0 1 f fd ["_law_told_here", "_law_a", "_law_b"] (spLJ K true) := by
  refine F.ok scLt (fun vs H Q E h => ?_) (fun cdv A outer s H vs Q E hr h => ?_)
  · obtain ⟨d, x, y, G, J, T, lo, hi, rfl, _⟩ := h
    rfl
  · obtain ⟨d, x, y, G, J, T, lo, hi, rfl, td, hx, hy, q⟩ := h
    have hu : (A.deeper (envOfC "_law_then" (defScope sLT) s.heap.objs.size f cdv)).units + 1 < cLine := by
      have := hr.un
      omega
    refine ⟨_, pss_one (ps_ret (pe_ix ix_list (pe_ix ix_list (pe_dget hu (pv 0) pe_str (fun _ _ => rfl)) (pe_bm PySem.F.plainAttrs_list PySem.F.slot_list_index PySem.F.type_list_index mt_index (pe_dget hu (pv 0) pe_str (fun _ _ => rfl)) (pa_cons (pv 1) pa_nil)) (fun _ _ => rfl)) (pe_bm PySem.F.plainAttrs_list PySem.F.slot_list_index PySem.F.type_list_index mt_index (pe_dget hu (pv 0) pe_str (fun _ _ => rfl)) (pa_cons (pv 2) pa_nil)) (fun _ _ => rfl))), ?_⟩
    obtain ⟨kvs, ln, vj, vt, h1, h2, h3, h4, h5, h6, h7, h8, h9⟩ := td.ex
    obtain ⟨p, r, ys, zs, rfl, t1, t2, t3, t4⟩ := rows_at td.gd.wt h7 hx hy
    have nm : Ev (tDGet (tVar 0) (tC (.str "names"))) [some (V.ref d), some (V.str x), some (V.str y)] H (.ref ln) := ev_dget (key := Sum.inr "names") (ev_var rfl) ev_c h1 h2
    exact s_ret (ev_op (ev_op (ev_dget (key := Sum.inr "products") (ev_var rfl) ev_c h1 h6) (ev_index nm h3 (ev_var rfl) hx) (rv_ixL t1 t2)) (ev_index nm h3 (ev_var rfl) hy) (rv_ixL t3 t4)) fun H2 e2 => q H2 e2
end
end K03

set_option Elab.async false
set_option linter.all false
set_option maxRecDepth 100000
set_option maxHeartbeats 8000000
/-! S20: _law_table_scale. -/
namespace K03
open PySem PySem.Spec PyProof.Rows L2 Evl J ClX StX S
abbrev sTS : Stmt := topS 50
def spTS (K : PySem.W.Frag) (C : Addr) : Sp := fun vs H Q _ => ∃ (d : Addr) (G : List Str) (J T : List (List Str)) (lo hi : Str), vs = [.ref d] ∧ ToldAt K H d G J T lo hi ∧ ∀ a H', H a = none → Ex H H' → Made K C H' a G J T lo hi → Q (.ref a) H'
section
variable {P : Program} {w : World} {K : PySem.W.Frag} {mg : Str → Option Value} {base : Heap} {f fT C : Addr} {fd fdT : FuncData}
theorem scTS : FnScope ["_law_told_here"] ["_law_told_here"] (defScope sTS) := ⟨rfl, rfl, rfl, by decide +kernel, rfl, by decide +kernel, by decide +kernel⟩
theorem made_read {σ : L2.St} {H : Hp} {t tk : TA} {lg : Addr} {vj vt : V} {G : List Str} {J T : List (List Str)} {lo hi : Str} {Q : VK} (ea : EvA t σ H [.ref lg, vj, vt]) (ek : EvA tk σ H [.str lo, .str hi]) (sg : SqL K H lg (G.map V.str)) (dj : Dp K H vj (rowsL J)) (dt : Dp K H vt (rowsL T)) (gd : Good G J T lo hi)
    (q : ∀ a H', H a = none → Ex H H' → Made K C H' a G J T lo hi → Q (.ref a) H') : tMakeK C 3 2 (spTInit K C) (fun vs zs => vs ++ zs) E0 t tk σ H Q :=
  ea H (Ex.refl H) _ fun H1 e1 => ek H1 e1 _ fun H2 e2 => ⟨rfl, rfl, fun x dx hx hdx ne => by
    have e12 := e1.trans e2
    have ed : Ex H2 (upd (upd H2 dx (.own x)) x (.ins C dx [])) := (Ex.new hdx).trans (Ex.new (by rw [upd_ne (Ne.symm ne)]; exact hx))
    refine ⟨x, dx, lg, vj, vt, G, J, T, lo, hi, rfl, upd_same, ex_l (e12.trans ed) sg, dp_ext (e12.trans ed) dj, dp_ext (e12.trans ed) dt, gd, fun H' b m => ⟨rfl, q x H' (fresh_back e12 hx) (fun c o z => ?_) m⟩⟩
    have z2 := e12 c o z
    exact b c o (ne_of_none z2 hx) (ed c o z2)⟩
theorem ok_ts (F : FnP K "_law_table_scale" sTS f fd) (M : Mk K C fT) (gT : mg "TableScale" = some (.ref C)) (hb : KBn K fdT ["self", "grades", "joins", "products", "none", "nearest"] 4 ["none", "nearest"] (fun us ws => us ++ ws) (fun vs zs => vs ++ zs)) (FT : FnOk P w K mg base CX0 8 fT fdT ["self", "grades", "joins", "products", "none", "nearest"] (spTInit K C)) :
    FnOk P w K mg base CX0 10 f fd ["_law_told_here"] (spTS K C) := by
  refine F.ok scTS (fun vs H Q E h => ?_) (fun cdv A outer s H vs Q E hr h => ?_)
  · obtain ⟨d, G, J, T, lo, hi, rfl, _⟩ := h
    rfl
  · obtain ⟨d, G, J, T, lo, hi, rfl, td, q⟩ := h
    have hu : (A.deeper (envOfC "_law_table_scale" (defScope sTS) s.heap.objs.size f cdv)).units + 1 < cLine := by
      have := hr.un
      omega
    refine ⟨_, pss_one (ps_ret (pe_makeK (n := 3) M FT hr rfl gT hb pass0 (pa_cons (pe_dget hu (pv 0) pe_str (fun _ _ => rfl)) (pa_cons (pe_dget hu (pv 0) pe_str (fun _ _ => rfl)) (pa_cons (pe_dget hu (pv 0) pe_str (fun _ _ => rfl)) pa_nil))) (pk_cons (pe_dget hu (pv 0) pe_str (fun _ _ => rfl)) (pk_cons (pe_dget hu (pv 0) pe_str (fun _ _ => rfl)) pk_nil)))), ?_⟩
    obtain ⟨kvs, ln, vj, vt, h1, h2, h3, h4, h5, h6, h7, h8, h9⟩ := td.ex
    exact made_read (ea_cons (ev_dget (key := Sum.inr "names") (ev_var rfl) ev_c h1 h2) (ea_cons (ev_dget (key := Sum.inr "joins") (ev_var rfl) ev_c h1 h4) (ea_cons (ev_dget (key := Sum.inr "products") (ev_var rfl) ev_c h1 h6) ea_nil)))
      (ea_cons (ev_dget (key := Sum.inr "low") (ev_var rfl) ev_c h1 h8) (ea_cons (ev_dget (key := Sum.inr "high") (ev_var rfl) ev_c h1 h9) ea_nil)) h3 h5 h7 td.gd q
end
end K03

set_option Elab.async false
set_option linter.all false
set_option maxRecDepth 100000
set_option maxHeartbeats 8000000
/-! S21: _law_fails_one. -/
namespace K03
open PySem PySem.Spec PyProof.Rows L2 Evl J ClX StX S
abbrev sFo : Stmt := topS 56
section
variable {P : Program} {w : World} {K : PySem.W.Frag} {mg : Str → Option Value} {base : Heap} {f d : Addr} {fd : FuncData} {σ : L2.St} {H : Hp} {tx ty : TE} {x y lo hi : Str} {G : List Str} {J T : List (List Str)}
theorem ev_lj (h0 : σ[0]? = some (some (.ref d))) (td : ToldAt K H d G J T lo hi) (mx : x ∈ G) (my : y ∈ G) (hx : Ev tx σ H (.str x)) (hy : Ev ty σ H (.str y)) : Ev (tCall (spLJ K false) [] E0 (tCons (tVar 0) (tCons tx (tCons ty tNil)))) σ H (.str (ap G J x y)) :=
  ev_call (ea_cons (ev_var h0) (ea_cons hx (ea_cons hy ea_nil))) fun H1 e Q q E => ⟨d, x, y, G, J, T, lo, hi, rfl, td.ext e, mx, my, q⟩
theorem ev_lt (h0 : σ[0]? = some (some (.ref d))) (td : ToldAt K H d G J T lo hi) (mx : x ∈ G) (my : y ∈ G) (hx : Ev tx σ H (.str x)) (hy : Ev ty σ H (.str y)) : Ev (tCall (spLJ K true) [] E0 (tCons (tVar 0) (tCons tx (tCons ty tNil)))) σ H (.str (ap G T x y)) :=
  ev_call (ea_cons (ev_var h0) (ea_cons hx (ea_cons hy ea_nil))) fun H1 e Q q E => ⟨d, x, y, G, J, T, lo, hi, rfl, td.ext e, mx, my, q⟩
theorem q_par {i j : Nat} {ta : TA} {v u : V} {tz : TS} {D : Ends} (h : EvA ta σ H [v, u]) (k : ∀ H1, Ex H H1 → tz D ((σ.set i (some v)).set j (some u)) H1) : tSeq (tPar i j ta) tz D σ H := h H (Ex.refl H) _ fun H1 e1 => ⟨v, u, rfl, k H1 e1⟩
def spFo (K : PySem.W.Frag) : Sp := fun vs H Q _ => ∃ (d : Addr) (x : Str) (e : Str × Nat × Dem) (G : List Str) (J T : List (List Str)) (lo hi : Str), vs = [.ref d, .str e.1, .str x] ∧ e ∈ demL ∧ e.2.1 = 1 ∧ ToldAt K H d G J T lo hi ∧ x ∈ G ∧ RetV (.bl (!e.2.2 G J T lo hi [x])) H Q
abbrev NFo : List Str := ["_law_told_here", "_law_word", "_law_a", "_law_low", "_law_high"]
theorem scFo : FnScope NFo ["_law_told_here", "_law_word", "_law_a"] (defScope sFo) := ⟨rfl, rfl, rfl, by decide +kernel, rfl, by decide +kernel, by decide +kernel⟩
theorem ok_fo (F : FnP K "_law_fails_one" sFo f fd) (cJ : Cal P w K mg base CX0 1 "_law_join" ["_law_told_here", "_law_a", "_law_b"] (spLJ K false)) (cT : Cal P w K mg base CX0 1 "_law_then" ["_law_told_here", "_law_a", "_law_b"] (spLJ K true)) : FnOk P w K mg base CX0 2 f fd ["_law_told_here", "_law_word", "_law_a"] (spFo K) := by
  refine F.ok scFo (fun vs H Q E h => ?_) (fun cdv A outer s H vs Q E hr h => ?_)
  · obtain ⟨d, x, e, G, J, T, lo, hi, rfl, _⟩ := h
    rfl
  · obtain ⟨d, x, e, G, J, T, lo, hi, rfl, he, he1, td, mx, q⟩ := h
    have hu : (A.deeper (envOfC "_law_fails_one" (defScope sFo) s.heap.objs.size f cdv)).units + 1 < cLine := by
      have := hr.un
      omega
    refine ⟨_, pss_cons (ps_par (i := 3) (j := 4) rfl scFo.nd rfl rfl (by decide) rfl rfl (pa_cons (pe_dget hu (pv 0) pe_str (fun _ _ => rfl)) (pa_cons (pe_dget hu (pv 0) pe_str (fun _ _ => rfl)) pa_nil)) rfl) (pss_cons (ps_if (pt_cmpR op_eq (pv 1) pe_str (nomark _)) (pss_one (ps_ret (pe_cmpR op_ne (pe_cal cJ hr rfl pass0 (pa_cons (pv 0) (pa_cons (pv 2) (pa_cons (pv 2) pa_nil)))) (pv 2) (nomark _)))) pss_nil) (pss_cons (ps_if (pt_cmpR op_eq (pv 1) pe_str (nomark _)) (pss_one (ps_ret (pe_cmpR op_ne (pe_cal cJ hr rfl pass0 (pa_cons (pv 0) (pa_cons (pv 3) (pa_cons (pv 2) pa_nil)))) (pv 2) (nomark _)))) pss_nil) (pss_cons (ps_if (pt_cmpR op_eq (pv 1) pe_str (nomark _)) (pss_one (ps_ret (pe_cmpR op_ne (pe_cal cT hr rfl pass0 (pa_cons (pv 0) (pa_cons (pv 3) (pa_cons (pv 2) pa_nil)))) (pv 3) (nomark _)))) pss_nil) (pss_cons (ps_if (pt_cmpR op_eq (pv 1) pe_str (nomark _)) (pss_one (ps_ret (pe_cmpR op_ne (pe_cal cT hr rfl pass0 (pa_cons (pv 0) (pa_cons (pv 4) (pa_cons (pv 2) pa_nil)))) (pv 2) (nomark _)))) pss_nil) (pss_one (ps_ret (pe_cmpR op_ne (pe_cal cJ hr rfl pass0 (pa_cons (pv 0) (pa_cons (pv 4) (pa_cons (pv 2) pa_nil)))) (pv 4) (nomark _)))))))), ?_⟩
    obtain ⟨kvs, ln, vj, vt, h1, h2, h3, h4, h5, h6, h7, h8, h9⟩ := td.ex
    refine q_par (ea_cons (ev_dget (key := Sum.inr "low") (ev_var rfl) ev_c h1 h8) (ea_cons (ev_dget (key := Sum.inr "high") (ev_var rfl) ev_c h1 h9) ea_nil)) fun H3 e3 => ?_
    have td := td.ext e3
    have q : RetV (.bl (!e.2.2 G J T lo hi [x])) H3 Q := fun H2 e2 => q H2 (e3.trans e2)
    simp only [demL, List.mem_cons, List.not_mem_nil, or_false] at he
    rcases he with rfl | rfl | rfl | rfl | rfl | rfl | rfl | rfl | rfl | rfl <;> first | (exact absurd he1 (by decide)) | skip
    · refine q_when (b := true) (et_is (et_test (ev_op (ev_var rfl) ev_c (rv_eq rfl))) (by decide +kernel)) (fun _ Hn en => ?_) (fun z => nomatch z)
      have td := td.ext en
      exact s_ret (ev_is (w := .bl (!dm28 G J T lo hi [x])) (ev_op (ev_lj rfl td mx mx (ev_var rfl) (ev_var rfl)) (ev_var rfl) (rv_ne rfl)) (by simp [dm28])) fun H2 e2 => q H2 (en.trans e2)
    · refine q_when (b := false) (et_is (et_test (ev_op (ev_var rfl) ev_c (rv_eq rfl))) (by decide +kernel)) (fun z => nomatch z) (fun _ Hn0 en0 => ?_)
      have td := td.ext en0
      have q : RetV _ Hn0 Q := fun H2 e2 => q H2 (en0.trans e2)
      refine q_when (b := true) (et_is (et_test (ev_op (ev_var rfl) ev_c (rv_eq rfl))) (by decide +kernel)) (fun _ Hn en => ?_) (fun z => nomatch z)
      have td := td.ext en
      exact s_ret (ev_is (w := .bl (!dm29 G J T lo hi [x])) (ev_op (ev_lj rfl td td.gd.lo mx (ev_var rfl) (ev_var rfl)) (ev_var rfl) (rv_ne rfl)) (by simp [dm29])) fun H2 e2 => q H2 (en.trans e2)
    · refine q_when (b := false) (et_is (et_test (ev_op (ev_var rfl) ev_c (rv_eq rfl))) (by decide +kernel)) (fun z => nomatch z) (fun _ Hn0 en0 => ?_)
      have td := td.ext en0
      have q : RetV _ Hn0 Q := fun H2 e2 => q H2 (en0.trans e2)
      refine q_when (b := false) (et_is (et_test (ev_op (ev_var rfl) ev_c (rv_eq rfl))) (by decide +kernel)) (fun z => nomatch z) (fun _ Hn1 en1 => ?_)
      have td := td.ext en1
      have q : RetV _ Hn1 Q := fun H2 e2 => q H2 (en1.trans e2)
      refine q_when (b := true) (et_is (et_test (ev_op (ev_var rfl) ev_c (rv_eq rfl))) (by decide +kernel)) (fun _ Hn en => ?_) (fun z => nomatch z)
      have td := td.ext en
      exact s_ret (ev_is (w := .bl (!dm33 G J T lo hi [x])) (ev_op (ev_lt rfl td td.gd.lo mx (ev_var rfl) (ev_var rfl)) (ev_var rfl) (rv_ne rfl)) (by simp [dm33])) fun H2 e2 => q H2 (en.trans e2)
    · refine q_when (b := false) (et_is (et_test (ev_op (ev_var rfl) ev_c (rv_eq rfl))) (by decide +kernel)) (fun z => nomatch z) (fun _ Hn0 en0 => ?_)
      have td := td.ext en0
      have q : RetV _ Hn0 Q := fun H2 e2 => q H2 (en0.trans e2)
      refine q_when (b := false) (et_is (et_test (ev_op (ev_var rfl) ev_c (rv_eq rfl))) (by decide +kernel)) (fun z => nomatch z) (fun _ Hn1 en1 => ?_)
      have td := td.ext en1
      have q : RetV _ Hn1 Q := fun H2 e2 => q H2 (en1.trans e2)
      refine q_when (b := false) (et_is (et_test (ev_op (ev_var rfl) ev_c (rv_eq rfl))) (by decide +kernel)) (fun z => nomatch z) (fun _ Hn2 en2 => ?_)
      have td := td.ext en2
      have q : RetV _ Hn2 Q := fun H2 e2 => q H2 (en2.trans e2)
      refine q_when (b := true) (et_is (et_test (ev_op (ev_var rfl) ev_c (rv_eq rfl))) (by decide +kernel)) (fun _ Hn en => ?_) (fun z => nomatch z)
      have td := td.ext en
      exact s_ret (ev_is (w := .bl (!dm34 G J T lo hi [x])) (ev_op (ev_lt rfl td td.gd.hi mx (ev_var rfl) (ev_var rfl)) (ev_var rfl) (rv_ne rfl)) (by simp [dm34])) fun H2 e2 => q H2 (en.trans e2)
    · refine q_when (b := false) (et_is (et_test (ev_op (ev_var rfl) ev_c (rv_eq rfl))) (by decide +kernel)) (fun z => nomatch z) (fun _ Hn0 en0 => ?_)
      have td := td.ext en0
      have q : RetV _ Hn0 Q := fun H2 e2 => q H2 (en0.trans e2)
      refine q_when (b := false) (et_is (et_test (ev_op (ev_var rfl) ev_c (rv_eq rfl))) (by decide +kernel)) (fun z => nomatch z) (fun _ Hn1 en1 => ?_)
      have td := td.ext en1
      have q : RetV _ Hn1 Q := fun H2 e2 => q H2 (en1.trans e2)
      refine q_when (b := false) (et_is (et_test (ev_op (ev_var rfl) ev_c (rv_eq rfl))) (by decide +kernel)) (fun z => nomatch z) (fun _ Hn2 en2 => ?_)
      have td := td.ext en2
      have q : RetV _ Hn2 Q := fun H2 e2 => q H2 (en2.trans e2)
      refine q_when (b := false) (et_is (et_test (ev_op (ev_var rfl) ev_c (rv_eq rfl))) (by decide +kernel)) (fun z => nomatch z) (fun _ Hn3 en3 => ?_)
      have td := td.ext en3
      have q : RetV _ Hn3 Q := fun H2 e2 => q H2 (en3.trans e2)
      exact s_ret (ev_is (w := .bl (!dm35 G J T lo hi [x])) (ev_op (ev_lj rfl td td.gd.hi mx (ev_var rfl) (ev_var rfl)) (ev_var rfl) (rv_ne rfl)) (by simp [dm35])) fun H2 e2 => q H2 e2
end
end K03

set_option Elab.async false
set_option linter.all false
set_option maxRecDepth 100000
set_option maxHeartbeats 8000000
/-! S22: _law_fails. -/
namespace S
open PySem PySem.Spec PyProof.Rows L2 Evl J ClX StX
section
variable {K : PySem.W.Frag} {σ : L2.St} {H : Hp} {te ta tb : TE} {xs ys : List V} {tl th : TO} {lo hi : Option Int}
/-- some tuple of these -/
def EvTu (K : PySem.W.Frag) (te : TE) (σ : L2.St) (H : Hp) (xs : List V) : Prop := ∀ H1, Ex H H1 → ∀ Q : VK, (∀ p H2, Ex H1 H2 → SqT K H2 p xs → Q (.ref p) H2) → te σ H1 Q
theorem tu_var {i : Nat} {t : Addr} (h : σ[i]? = some (some (.ref t))) (st : SqT K H t xs) : EvTu K (tVar i) σ H xs := fun H1 e Q q => ⟨_, h, q t H1 (Ex.refl H1) (ex_t e st)⟩
theorem tu_sl (h : EvTu K te σ H xs) (h1 : EvO tl σ H lo) (h2 : EvO th σ H hi) (hz : xs.length ≤ 1000) : EvTu K (tSl (rSlA K) te tl th) σ H (cutV xs lo hi) := fun H1 e Q q =>
  h H1 e _ fun p H2 e2 st => h1 H2 (e.trans e2) _ fun H3 e3 => h2 H3 ((e.trans e2).trans e3) _ fun H4 e4 => ⟨p, xs, rfl, ex_t (e3.trans e4) st, fun z => by
    have ec : cutV xs lo hi = xs := by
      unfold cutV
      rw [z.1, z.2]
      simp
    exact q p H4 ((e2.trans e3).trans e4) (by rw [ec]; exact ex_t (e3.trans e4) st), fun _ r hr => q r _ (((e2.trans e3).trans e4).trans (Ex.new hr)) (st_of upd_same)⟩
theorem tu_rep {n : Nat} (h : EvTu K te σ H xs) (hx : xs ≠ []) (hz : xs.length ≤ 1000) (hn : 2 ≤ n ∧ n ≤ 1000) : EvTu K (tOp (rRepT K) te (tC (.int (n : Int)))) σ H (List.replicate n xs).flatten := fun H1 e Q q =>
  h H1 e _ fun p H2 e2 st => ⟨p, (n : Int), xs, rfl, rfl, st, hx, by omega, by omega, hz, fun r hr => q r _ (e2.trans (Ex.new hr)) (st_of upd_same)⟩
theorem tu_cat (h : EvTu K ta σ H xs) (h2 : EvTu K tb σ H ys) (hz : xs.length + ys.length ≤ 1000) : EvTu K (tOp (rCatA K) ta tb) σ H (xs ++ ys) := fun H1 e Q q =>
  h H1 e _ fun p H2 e2 st => h2 H2 (e.trans e2) _ fun r H3 e3 st2 => ⟨p, r, xs, ys, rfl, rfl, ex_t e3 st, st2, sz_of (by omega), fun z => q r H3 (e2.trans e3) (by rw [z]; exact st2), fun _ z => q p H3 (e2.trans e3) (by rw [z, List.append_nil]; exact ex_t e3 st),
    fun _ _ u hu => q u _ ((e2.trans e3).trans (Ex.new hu)) (st_of upd_same)⟩
theorem cut_take (n : Nat) : cutV xs none (some (n : Int)) = xs.take n := by
  unfold cutV
  have e : HT.sIx xs.length xs.length (some (n : Int)) = min n xs.length := HT.sIx_nat xs.length xs.length n
  have e2 : HT.sIx xs.length 0 none = 0 := rfl
  rw [e, e2, Nat.sub_zero, List.drop_zero]
  by_cases h : n ≤ xs.length
  · rw [Nat.min_eq_left h]
  · rw [Nat.min_eq_right (by omega), List.take_of_length_le (by omega), List.take_of_length_le (by omega)]
/-- .. bound to three names -/
theorem q_tup3 {i j k : Nat} {u v w : V} {tz : TS} {D : Ends} (h : EvTu K te σ H [u, v, w]) (n : ∀ H1, Ex H H1 → tz D (((σ.set i (some u)).set j (some v)).set k (some w)) H1) : tSeq (tAsg te (gTup K 3 (gCons (gName i) (gCons (gName j) (gCons (gName k) gNil))))) tz D σ H :=
  h H (Ex.refl H) _ fun p H2 e2 st => ⟨p, _, rfl, st, rfl, _, _, rfl, _, _, rfl, _, _, rfl, rfl, n H2 e2⟩
end
end S
namespace K03
open PySem PySem.Spec PyProof.Rows L2 Evl J ClX StX S
abbrev sFa : Stmt := topS 55
def spFa (K : PySem.W.Frag) : Sp := fun vs H Q _ => ∃ (d t : Addr) (row : List Str) (e : Str × Nat × Dem) (G : List Str) (J T : List (List Str)) (lo hi : Str), vs = [.ref d, .str e.1, .ref t] ∧ e ∈ demL ∧ e.2.1 ≠ 1 ∧ row.length = e.2.1 ∧ SqT K H t (row.map V.str) ∧ (∀ x ∈ row, x ∈ G) ∧ ToldAt K H d G J T lo hi ∧ RetV (.bl (!e.2.2 G J T lo hi row)) H Q
section
variable {P : Program} {w : World} {K : PySem.W.Frag} {mg : Str → Option Value} {base : Heap} {f d : Addr} {fd : FuncData}
abbrev NFa : List Str := ["_law_told_here", "_law_word", "_law_row", "_law_a", "_law_b", "_law_c", "_law_due"]
theorem scFa : FnScope NFa ["_law_told_here", "_law_word", "_law_row"] (defScope sFa) := ⟨rfl, rfl, rfl, by decide +kernel, rfl, by decide +kernel, by decide +kernel⟩
theorem ok_fa (F : FnP K "_law_fails" sFa f fd) (cJ : Cal P w K mg base CX0 1 "_law_join" ["_law_told_here", "_law_a", "_law_b"] (spLJ K false)) (cT : Cal P w K mg base CX0 1 "_law_then" ["_law_told_here", "_law_a", "_law_b"] (spLJ K true)) : FnOk P w K mg base CX0 2 f fd ["_law_told_here", "_law_word", "_law_row"] (spFa K) := by
  refine F.ok scFa (fun vs H Q E h => ?_) (fun cdv A outer s H vs Q E hr h => ?_)
  · obtain ⟨d, t, row, e, G, J, T, lo, hi, rfl, _⟩ := h
    rfl
  · obtain ⟨d, t, row, e, G, J, T, lo, hi, rfl, he, he1, hl, st, hG, td, q⟩ := h
    refine ⟨_, pss_cons (ps_asg (pe_slice sl_tupA (pe_op op_catA (pv 2) (pe_op op_repT (pe_slice sl_tupA (pv 2) po_none (po_some pe_int)) pe_int)) po_none (po_some pe_int)) (pg_tup rfl (pgs_cons (pg_name (i := 3) scFa.nd rfl (Or.inl rfl)) (pgs_cons (pg_name (i := 4) scFa.nd rfl (Or.inl rfl)) (pgs_cons (pg_name (i := 5) scFa.nd rfl (Or.inl rfl)) pgs_nil))))) (pss_cons (ps_if (pt_cmpR op_eq (pv 1) pe_str (nomark _)) (pss_one (ps_ret (pe_cmpR op_ne (pe_cal cJ hr rfl pass0 (pa_cons (pv 0) (pa_cons (pv 3) (pa_cons (pv 4) pa_nil)))) (pe_cal cJ hr rfl pass0 (pa_cons (pv 0) (pa_cons (pv 4) (pa_cons (pv 3) pa_nil)))) (nomark _)))) pss_nil) (pss_cons (ps_if (pt_cmpR op_eq (pv 1) pe_str (nomark _)) (pss_one (ps_ret (pe_cmpR op_ne (pe_cal cJ hr rfl pass0 (pa_cons (pv 0) (pa_cons (pe_cal cJ hr rfl pass0 (pa_cons (pv 0) (pa_cons (pv 3) (pa_cons (pv 4) pa_nil)))) (pa_cons (pv 5) pa_nil)))) (pe_cal cJ hr rfl pass0 (pa_cons (pv 0) (pa_cons (pv 3) (pa_cons (pe_cal cJ hr rfl pass0 (pa_cons (pv 0) (pa_cons (pv 4) (pa_cons (pv 5) pa_nil)))) pa_nil)))) (nomark _)))) pss_nil) (pss_cons (ps_if (pt_cmpR op_eq (pv 1) pe_str (nomark _)) (pss_one (ps_ret (pe_cmpR op_ne (pe_cal cT hr rfl pass0 (pa_cons (pv 0) (pa_cons (pv 3) (pa_cons (pv 4) pa_nil)))) (pe_cal cT hr rfl pass0 (pa_cons (pv 0) (pa_cons (pv 4) (pa_cons (pv 3) pa_nil)))) (nomark _)))) pss_nil) (pss_cons (ps_if (pt_cmpR op_eq (pv 1) pe_str (nomark _)) (pss_one (ps_ret (pe_cmpR op_ne (pe_cal cT hr rfl pass0 (pa_cons (pv 0) (pa_cons (pe_cal cT hr rfl pass0 (pa_cons (pv 0) (pa_cons (pv 3) (pa_cons (pv 4) pa_nil)))) (pa_cons (pv 5) pa_nil)))) (pe_cal cT hr rfl pass0 (pa_cons (pv 0) (pa_cons (pv 3) (pa_cons (pe_cal cT hr rfl pass0 (pa_cons (pv 0) (pa_cons (pv 4) (pa_cons (pv 5) pa_nil)))) pa_nil)))) (nomark _)))) pss_nil) (pss_cons (ps_set (i := 6) scFa.nd rfl (Or.inl rfl) (pe_cal cJ hr rfl pass0 (pa_cons (pv 0) (pa_cons (pe_cal cT hr rfl pass0 (pa_cons (pv 0) (pa_cons (pv 3) (pa_cons (pv 4) pa_nil)))) (pa_cons (pe_cal cT hr rfl pass0 (pa_cons (pv 0) (pa_cons (pv 3) (pa_cons (pv 5) pa_nil)))) pa_nil))))) (pss_one (ps_ret (pe_cmpR op_ne (pe_cal cT hr rfl pass0 (pa_cons (pv 0) (pa_cons (pv 3) (pa_cons (pe_cal cJ hr rfl pass0 (pa_cons (pv 0) (pa_cons (pv 4) (pa_cons (pv 5) pa_nil)))) pa_nil)))) (pv 6) (nomark _))))))))), ?_⟩
    have three : ∃ x y z, x ∈ G ∧ y ∈ G ∧ z ∈ G ∧ (row = [x, y] ∧ z = x ∨ row = [x, y, z]) := by
      simp only [demL, List.mem_cons, List.not_mem_nil, or_false] at he
      have h23 : row.length = 2 ∨ row.length = 3 := by
        rcases he with rfl | rfl | rfl | rfl | rfl | rfl | rfl | rfl | rfl | rfl <;> simp_all
      match row, h23, hG with
      | [x, y], _, hG => exact ⟨x, y, x, hG _ (by simp), hG _ (by simp), hG _ (by simp), .inl ⟨rfl, rfl⟩⟩
      | [x, y, z], _, hG => exact ⟨x, y, z, hG _ (by simp), hG _ (by simp), hG _ (by simp), .inr rfl⟩
    obtain ⟨x, y, z, mx, my, mz, hrow⟩ := three
    have unp : EvTu K (tSl (rSlA K) (tOp (rCatA K) (tVar 2) (tOp (rRepT K) (tSl (rSlA K) (tVar 2) tNoPart (tPart (tC (.int 1)))) (tC (.int 2)))) tNoPart (tPart (tC (.int 3)))) [some (.ref d), some (.str e.1), some (.ref t), none, none, none, none] H [.str x, .str y, .str z] := by
      have a1 := tu_sl (K := K) (tu_var (σ := [some (.ref d), some (.str e.1), some (.ref t), none, none, none, none]) (i := 2) rfl st) eo_none (eo_some (ev_c (v := .int 1))) (by rcases hrow with ⟨rfl, _⟩ | rfl <;> simp)
      have c1 := cut_take (xs := row.map V.str) 1
      have e1 : cutV (row.map V.str) none (some (1 : Int)) = [.str x] := by
        rw [show (1 : Int) = ((1 : Nat) : Int) from rfl, c1]
        rcases hrow with ⟨rfl, _⟩ | rfl <;> rfl
      rw [e1] at a1
      have a2 := tu_rep (n := 2) a1 (by simp) (by simp) (by decide)
      have a3 := tu_cat (tu_var (i := 2) rfl st) a2 (by rcases hrow with ⟨rfl, _⟩ | rfl <;> simp)
      have a4 := tu_sl a3 eo_none (eo_some (ev_c (v := .int 3))) (by rcases hrow with ⟨rfl, _⟩ | rfl <;> simp)
      rw [show (3 : Int) = ((3 : Nat) : Int) from rfl, cut_take] at a4
      have e4 : ((row.map V.str) ++ (List.replicate 2 [V.str x]).flatten).take 3 = [.str x, .str y, .str z] := by
        rcases hrow with ⟨rfl, rfl⟩ | rfl <;> rfl
      rw [e4] at a4
      exact a4
    refine q_tup3 unp fun H3 e3 => ?_
    have td := td.ext e3
    have q : RetV (.bl (!e.2.2 G J T lo hi row)) H3 Q := fun H2 e2 => q H2 (e3.trans e2)
    simp only [demL, List.mem_cons, List.not_mem_nil, or_false] at he
    rcases he with rfl | rfl | rfl | rfl | rfl | rfl | rfl | rfl | rfl | rfl <;> first | (exact absurd rfl he1) | skip
    · skip
      have hrow : row = [x, y] := by
        rcases hrow with ⟨h, _⟩ | h
        · exact h
        · subst h
          simp at hl
      subst hrow
      refine q_when (b := true) (et_is (et_test (ev_op (ev_var rfl) ev_c (rv_eq rfl))) (by decide +kernel)) (fun _ Hn en => ?_) (fun z => nomatch z)
      have td := td.ext en
      exact s_ret (ev_is (w := .bl (!dm26 G J T lo hi [x, y])) (ev_op (ev_lj rfl td mx my (ev_var rfl) (ev_var rfl)) (ev_lj rfl td my mx (ev_var rfl) (ev_var rfl)) (rv_ne rfl)) (by simp [dm26])) fun H2 e2 => q H2 (en.trans e2)
    · skip
      have hrow : row = [x, y, z] := by
        rcases hrow with ⟨h, _⟩ | h
        · subst h
          simp at hl
        · exact h
      subst hrow
      refine q_when (b := false) (et_is (et_test (ev_op (ev_var rfl) ev_c (rv_eq rfl))) (by decide +kernel)) (fun z => nomatch z) (fun _ Hn0 en0 => ?_)
      have td := td.ext en0
      have q : RetV _ Hn0 Q := fun H2 e2 => q H2 (en0.trans e2)
      refine q_when (b := true) (et_is (et_test (ev_op (ev_var rfl) ev_c (rv_eq rfl))) (by decide +kernel)) (fun _ Hn en => ?_) (fun z => nomatch z)
      have td := td.ext en
      exact s_ret (ev_is (w := .bl (!dm27 G J T lo hi [x, y, z])) (ev_op (ev_lj rfl td (ap_mem td.gd.wj mx my) mz (ev_lj rfl td mx my (ev_var rfl) (ev_var rfl)) (ev_var rfl)) (ev_lj rfl td mx (ap_mem td.gd.wj my mz) (ev_var rfl) (ev_lj rfl td my mz (ev_var rfl) (ev_var rfl))) (rv_ne rfl)) (by simp [dm27])) fun H2 e2 => q H2 (en.trans e2)
    · skip
      have hrow : row = [x, y] := by
        rcases hrow with ⟨h, _⟩ | h
        · exact h
        · subst h
          simp at hl
      subst hrow
      refine q_when (b := false) (et_is (et_test (ev_op (ev_var rfl) ev_c (rv_eq rfl))) (by decide +kernel)) (fun z => nomatch z) (fun _ Hn0 en0 => ?_)
      have td := td.ext en0
      have q : RetV _ Hn0 Q := fun H2 e2 => q H2 (en0.trans e2)
      refine q_when (b := false) (et_is (et_test (ev_op (ev_var rfl) ev_c (rv_eq rfl))) (by decide +kernel)) (fun z => nomatch z) (fun _ Hn1 en1 => ?_)
      have td := td.ext en1
      have q : RetV _ Hn1 Q := fun H2 e2 => q H2 (en1.trans e2)
      refine q_when (b := true) (et_is (et_test (ev_op (ev_var rfl) ev_c (rv_eq rfl))) (by decide +kernel)) (fun _ Hn en => ?_) (fun z => nomatch z)
      have td := td.ext en
      exact s_ret (ev_is (w := .bl (!dm30 G J T lo hi [x, y])) (ev_op (ev_lt rfl td mx my (ev_var rfl) (ev_var rfl)) (ev_lt rfl td my mx (ev_var rfl) (ev_var rfl)) (rv_ne rfl)) (by simp [dm30])) fun H2 e2 => q H2 (en.trans e2)
    · skip
      have hrow : row = [x, y, z] := by
        rcases hrow with ⟨h, _⟩ | h
        · subst h
          simp at hl
        · exact h
      subst hrow
      refine q_when (b := false) (et_is (et_test (ev_op (ev_var rfl) ev_c (rv_eq rfl))) (by decide +kernel)) (fun z => nomatch z) (fun _ Hn0 en0 => ?_)
      have td := td.ext en0
      have q : RetV _ Hn0 Q := fun H2 e2 => q H2 (en0.trans e2)
      refine q_when (b := false) (et_is (et_test (ev_op (ev_var rfl) ev_c (rv_eq rfl))) (by decide +kernel)) (fun z => nomatch z) (fun _ Hn1 en1 => ?_)
      have td := td.ext en1
      have q : RetV _ Hn1 Q := fun H2 e2 => q H2 (en1.trans e2)
      refine q_when (b := false) (et_is (et_test (ev_op (ev_var rfl) ev_c (rv_eq rfl))) (by decide +kernel)) (fun z => nomatch z) (fun _ Hn2 en2 => ?_)
      have td := td.ext en2
      have q : RetV _ Hn2 Q := fun H2 e2 => q H2 (en2.trans e2)
      refine q_when (b := true) (et_is (et_test (ev_op (ev_var rfl) ev_c (rv_eq rfl))) (by decide +kernel)) (fun _ Hn en => ?_) (fun z => nomatch z)
      have td := td.ext en
      exact s_ret (ev_is (w := .bl (!dm31 G J T lo hi [x, y, z])) (ev_op (ev_lt rfl td (ap_mem td.gd.wt mx my) mz (ev_lt rfl td mx my (ev_var rfl) (ev_var rfl)) (ev_var rfl)) (ev_lt rfl td mx (ap_mem td.gd.wt my mz) (ev_var rfl) (ev_lt rfl td my mz (ev_var rfl) (ev_var rfl))) (rv_ne rfl)) (by simp [dm31])) fun H2 e2 => q H2 (en.trans e2)
    · skip
      have hrow : row = [x, y, z] := by
        rcases hrow with ⟨h, _⟩ | h
        · subst h
          simp at hl
        · exact h
      subst hrow
      refine q_when (b := false) (et_is (et_test (ev_op (ev_var rfl) ev_c (rv_eq rfl))) (by decide +kernel)) (fun z => nomatch z) (fun _ Hn0 en0 => ?_)
      have td := td.ext en0
      have q : RetV _ Hn0 Q := fun H2 e2 => q H2 (en0.trans e2)
      refine q_when (b := false) (et_is (et_test (ev_op (ev_var rfl) ev_c (rv_eq rfl))) (by decide +kernel)) (fun z => nomatch z) (fun _ Hn1 en1 => ?_)
      have td := td.ext en1
      have q : RetV _ Hn1 Q := fun H2 e2 => q H2 (en1.trans e2)
      refine q_when (b := false) (et_is (et_test (ev_op (ev_var rfl) ev_c (rv_eq rfl))) (by decide +kernel)) (fun z => nomatch z) (fun _ Hn2 en2 => ?_)
      have td := td.ext en2
      have q : RetV _ Hn2 Q := fun H2 e2 => q H2 (en2.trans e2)
      refine q_when (b := false) (et_is (et_test (ev_op (ev_var rfl) ev_c (rv_eq rfl))) (by decide +kernel)) (fun z => nomatch z) (fun _ Hn3 en3 => ?_)
      have td := td.ext en3
      have q : RetV _ Hn3 Q := fun H2 e2 => q H2 (en3.trans e2)
      refine q_asg (ev_lj rfl td (ap_mem td.gd.wt mx my) (ap_mem td.gd.wt mx mz) (ev_lt rfl td mx my (ev_var rfl) (ev_var rfl)) (ev_lt rfl td mx mz (ev_var rfl) (ev_var rfl))) fun Hn en => ?_
      have td := td.ext en
      exact s_ret (ev_is (w := .bl (!dm32 G J T lo hi [x, y, z])) (ev_op (ev_lt rfl td mx (ap_mem td.gd.wj my mz) (ev_var rfl) (ev_lj rfl td my mz (ev_var rfl) (ev_var rfl))) (ev_var rfl) (rv_ne rfl)) (by simp [dm32])) fun H2 e2 => q H2 (en.trans e2)
end
end K03

set_option Elab.async false
set_option linter.all false
set_option maxRecDepth 100000
set_option maxHeartbeats 8000000
/-! S23: _law_rows_of. -/
namespace K03
open PySem PySem.Spec PyProof.Rows L2 Evl J ClX StX S
abbrev sRo : Stmt := topS 53
theorem RowsAt.app {H : Hp} {a1 a2 : List V} {R1 R2 : List (List Str)} (h1 : RowsAt H a1 R1) (h2 : RowsAt H a2 R2) : RowsAt H (a1 ++ a2) (R1 ++ R2) := by
  refine ⟨by rw [List.length_append, List.length_append, h1.1, h2.1], fun n r e => ?_⟩
  by_cases hn : n < R1.length
  · rw [List.getElem?_append_left hn] at e
    obtain ⟨t, q1, q2⟩ := h1.2 n r e
    exact ⟨t, by rw [List.getElem?_append_left (by rw [h1.1]; exact hn)]; exact q1, q2⟩
  · rw [List.getElem?_append_right (by omega)] at e
    obtain ⟨t, q1, q2⟩ := h2.2 _ r e
    exact ⟨t, by rw [List.getElem?_append_right (by rw [h1.1]; omega), h1.1]; exact q1, q2⟩
section
variable {P : Program} {w : World} {K : PySem.W.Frag} {mg : Str → Option Value} {base : Heap} {f : Addr} {fd : FuncData}
abbrev teR (K : PySem.W.Frag) : TE := tOp (rCatA K) (tVar 5) (tTup (tCons (tVar 6) tNil))
theorem lc_ext {lg t : Addr} {x1 x2 x3 x4 x6 : Option V} {r G : List Str} {H : Hp} {Q : VK} (sg : SqL K H lg (G.map V.str)) (ht : H t = some (.tup (r.map V.str))) (hz : G.length ≤ 100) (hr : r.length ≤ 100)
    (k : ∀ D H2 acc, H D = none → Ex H H2 → H2 D = some (.lst acc) → RowsAt H2 acc (ext1 G r) → Q (.ref D) H2) : tLc (iList K (tVar 0)) (gName 6) tYes (teR K) [6] [some (.ref lg), x1, x2, x3, x4, some (.ref t), x6] H Q := by
  refine ⟨.ref lg, rfl, lg, rfl, ⟨_, sg⟩, fun D hD => ?_⟩
  refine lc_list (xs := G.map V.str) (fun i H' => Ex H H' ∧ ∃ acc, H' D = some (.lst acc) ∧ RowsAt H' acc ((G.take i).map fun g => r ++ [g])) ⟨Ex.new hD, [], upd_same, rfl, fun n r e => by simp at e⟩ (fun i H' _ p => ex_l p.1 sg) (fun i x H' hi p => ⟨rfl, ?_⟩) (fun H' ⟨e, acc, h1, h2⟩ => k D H' acc hD e h1 (by rw [List.length_map, List.take_length] at h2; exact h2))
  obtain ⟨e1, acc, h1, h2⟩ := p
  rw [List.getElem?_map] at hi
  cases hg : G[i]? with
  | none =>
    rw [hg] at hi
    cases hi
  | some g =>
    rw [hg] at hi
    obtain rfl := Option.some.inj hi
    have gl : i < G.length := (List.getElem?_eq_some_iff.mp hg).1
    unfold tYes
    dsimp only
    rw [if_pos rfl]
    have al : acc.length ≤ 100 := by
      rw [h2.1, List.length_map, List.length_take]
      omega
    have step : (G.take (i + 1)).map (fun g => r ++ [g]) = (G.take i).map (fun g => r ++ [g]) ++ [r ++ [g]] := by
      rw [List.take_add_one, hg, List.map_append]
      rfl
    refine ⟨.ref t, rfl, .str g, rfl, sz_of (by simp), fun p hp => ?_⟩
    have pD : D ≠ p := fun z => by
      rw [← z, h1] at hp
      cases hp
    have t2 : (upd H' p (.tup [.str g])) t = some (.tup (r.map V.str)) := (Ex.new hp) _ _ (e1 _ _ ht)
    have fin : ∀ (H2 : Hp) (q : Addr), Ex H' H2 → H2 q = some (.tup ((r ++ [g]).map V.str)) → D ≠ q → ∃ acc, H2 D = some (.lst acc) ∧ acc.length < sizeLine ∧ Ex H (upd H2 D (.lst (acc ++ [.ref q]))) ∧ ∃ acc2, (upd H2 D (.lst (acc ++ [.ref q]))) D = some (.lst acc2) ∧ RowsAt (upd H2 D (.lst (acc ++ [.ref q]))) acc2 ((G.take (i + 1)).map fun g => r ++ [g]) := fun H2 q e2 hq hDq =>
      ⟨acc, e2 _ _ h1, sz_lt (by omega), Ex.mut (e1.trans e2) hD, _, upd_same, by
        rw [step]
        refine RowsAt.snoc (h2.keep fun t3 xs h3 => ?_) (by rw [upd_ne (Ne.symm hDq)]; exact hq)
        have d1 : t3 ≠ D := fun z => by
          rw [z, h1] at h3
          cases h3
        rw [upd_ne d1]
        exact e2 _ _ h3⟩
    refine ⟨t, p, _, _, rfl, rfl, st_of t2, st_of upd_same, sz_of (by simp; omega), fun z => ?_, fun _ z => by simp at z, fun _ _ q hq => ?_⟩
    · have hr0 : r = [] := by simpa using z
      subst hr0
      exact fin _ p (Ex.new hp) upd_same pD
    · have qD : D ≠ q := fun z => by
        have := (Ex.new (o := .tup [.str g]) hp) _ _ h1
        rw [z, hq] at this
        cases this
      exact fin _ q ((Ex.new hp).trans (Ex.new hq)) (by rw [upd_same, List.map_append]; rfl) qD
abbrev NRo : List Str := ["_law_names", "_law_many", "_law_found", "_law_lap", "_law_longer", "_law_row", "_law_name"]
theorem scRo : FnScope NRo ["_law_names", "_law_many"] (defScope sRo) := ⟨rfl, rfl, rfl, by decide +kernel, rfl, by decide +kernel, by decide +kernel⟩
theorem ok_ro (F : FnP K "_law_rows_of" sRo f fd) (T : Bl mg) : FnOk P w K mg base CX0 1 f fd ["_law_names", "_law_many"] (spTups K) := by
  refine F.ok scRo (fun vs H Q E h => ?_) (fun cdv A outer s H vs Q E hr h => ?_)
  · obtain ⟨lg, G, n, rfl, _⟩ := h
    rfl
  · obtain ⟨lg, G, n, rfl, sg, hn, hz, q⟩ := h
    refine ⟨_, PSs.nox (pss_cons (ps_set (i := 2) scRo.nd rfl (Or.inl rfl) (pe_lst (pa_cons (pe_tup pa_nil) pa_nil))) (pss_cons (ps_for PassesOwn.never rfl (pi_range1 rfl T.rng (pa_cons (pv 1) pa_nil)) (pg_name (i := 3) scRo.nd rfl (Or.inl rfl))
      (pss_cons (ps_set (i := 4) scRo.nd rfl (Or.inl rfl) (pe_lst pa_nil)) (pss_cons (ps_for PassesOwn.never rfl (pi_list (pv 2)) (pg_name (i := 5) scRo.nd rfl (Or.inr rfl))
        (pss_one (ps_set (i := 4) scRo.nd rfl (Or.inl rfl) (pe_op op_cat (pv 4) (pe_lc (own := [("_law_name", 6)]) (g := gName 6) (tt := tYes) (te := teR K) rfl scRo.nd (pi_list (pv 0)) (blkOk_by (N := NRo) (sc := defScope sRo) (by decide +kernel)) (fun _ _ _ _ _ => pg_name (i := 6) scRo.nd rfl (Or.inl rfl)) (fun _ _ _ _ _ => pts_nil) (fun _ _ _ _ _ => by exact pe_op op_catA (pv 5) (pe_tup (pa_cons (pv 6) pa_nil))))))))
        (pss_one (ps_set (i := 2) scRo.nd rfl (Or.inl rfl) (pv 4)))))) (pss_one (ps_ret (pv 2))))), ?_⟩
    refine ⟨sz_of (by simp), fun t ht => ⟨sz_of (by simp), fun l hl => ?_⟩⟩
    have e1 : Ex H (upd (upd H t (.tup [])) l (.lst [.ref t])) := (Ex.new ht).trans (Ex.new hl)
    have nl : H l = none := fresh_back (Ex.new ht) hl
    have tl : t ≠ l := fun z => by
      rw [← z, upd_same] at hl
      cases hl
    have r1 : RowsAt (upd (upd H t (.tup [])) l (.lst [.ref t])) [.ref t] (tups G 0) := ⟨rfl, fun n r e => by
      match n, e with
      | 0, e =>
        obtain rfl := Option.some.inj e
        exact ⟨t, rfl, by rw [upd_ne tl, upd_same]; rfl⟩⟩
    have a1 : (upd (upd H t (.tup [])) l (.lst [.ref t])) l = some (.lst [.ref t]) := upd_same
    show tSeq _ _ _ _ (upd (upd H t (.tup [])) l (.lst [.ref t]))
    generalize upd (upd H t (.tup [])) l (.lst [.ref t]) = H1 at e1 r1 a1 ⊢
    refine q_forR1 (ea_cons (ev_var rfl) ea_nil) (by omega) (fun i σ' H' => ∃ p acc x3 x4 x5 x6, σ' = [some (.ref lg), some (.int (n : Int)), some (.ref p), x3, x4, x5, x6] ∧ H p = none ∧ Ex H H' ∧ H' p = some (.lst acc) ∧ RowsAt H' acc (tups G i)) (fun H2 e2 => ⟨l, _, _, _, _, _, rfl, nl, e1.trans e2, e2 _ _ a1, r1.keep fun t xs h => e2 _ _ h⟩) ?_ ?_
    · rintro i σ' H2 hi ⟨p, acc, x3, x4, x5, x6, rfl, np, e2, h2, r2⟩
      have i3 : i < 3 := by omega
      have ln : (tups G i).length ≤ 512 := by
        rw [tups_len]
        have a2 : G.length ^ i ≤ 8 ^ i := Nat.pow_le_pow_left hz i
        have a3 : (8 : Nat) ^ i ≤ 8 ^ 3 := Nat.pow_le_pow_right (by decide) (by omega)
        omega
      refine q_asgL (el_lst ea_nil (by simp)) fun l4 H3 n4 e3 h4 => ?_
      have e23 := e2.trans e3
      refine q_forLn (ev_var rfl) (sq_of (e3 _ _ h2)) (fun j σ' H' => ∃ q4 acc4 x5 x6, σ' = [some (.ref lg), some (.int (n : Int)), some (.ref p), some (.int (i : Int)), some (.ref q4), x5, x6] ∧ H q4 = none ∧ Ex H3 H' ∧ H' q4 = some (.lst acc4) ∧ RowsAt H' acc4 (((tups G i).take j).flatMap (ext1 G)))
        (fun H4 e4 => ⟨l4, _, _, _, rfl, fresh_back e2 n4, e4, e4 _ _ h4, rfl, fun n r e => by simp at e⟩) (fun j σ' H' _ ⟨_, _, _, _, _, _, e4, _⟩ => sq_of (e4 _ _ (e3 _ _ h2))) ?_ ?_
      · rintro j v σ' H4 hv ⟨q4, acc4, x5, x6, rfl, nq, e4, h4', r4⟩
        have hj : j < (tups G i).length := by
          rw [← r2.1]
          exact (List.getElem?_eq_some_iff.mp hv).1
        have hrj : (tups G i)[j]? = some (tups G i)[j] := List.getElem?_eq_getElem hj
        obtain ⟨tp, g1, g2⟩ := r2.2 j _ hrj
        rw [g1] at hv
        obtain rfl := Option.some.inj hv
        have len := (tups_mem (List.mem_of_getElem? hrj)).1
        have e24 := e23.trans e4
        have a4 : acc4.length ≤ 10000 := by
          rw [r4.1, flat_len, List.length_take]
          have b1 : min j (tups G i).length ≤ 512 := by omega
          have := Nat.mul_le_mul b1 hz
          omega
        refine ⟨.ref q4, rfl, lc_ext (Q := fun y H' => rCat (.ref q4) y H' fun v H'' => _) (ex_l e24 sg) (e4 _ _ (e3 _ _ g2)) (by omega) (by omega) fun D H5 acc5 n5 e5 h5 r5 => ⟨q4, D, acc4, acc5, rfl, rfl, e5 _ _ h4', h5, ?_, fun u hu => ?_⟩⟩
        · have : acc5.length ≤ 8 := by
            rw [r5.1]
            simp [ext1]
            exact hz
          exact sz_of (by omega)
        · refine ⟨u, acc4 ++ acc5, _, _, rfl, fresh_back (e24.trans e5) hu, (e4.trans e5).trans (Ex.new hu), upd_same, ?_⟩
          rw [List.take_add_one, hrj, List.flatMap_append]
          have k1 := (r4.keep fun t xs h => e5 _ _ h).app r5
          have k2 := k1.keep (H' := upd H5 u (.lst (acc4 ++ acc5))) fun t xs h => (Ex.new hu) _ _ h
          simpa using k2
      · rintro σ' H4 ⟨q4, acc4, x5, x6, rfl, nq, e4, h4', r4⟩
        rw [r2.1, List.take_length] at r4
        exact s_asg (ev_var rfl) fun H5 e5 => ⟨q4, acc4, _, _, _, _, rfl, nq, (e23.trans e4).trans e5, e5 _ _ h4', r4.keep fun t xs h => e5 _ _ h⟩
    · rintro σ' H2 ⟨p, acc, x3, x4, x5, x6, rfl, np, e2, h2, r2⟩
      refine s_ret (ev_var rfl) fun H3 e3 => q p H3 acc np (e2.trans e3) (e3 _ _ h2) ?_
      have e : ((n : Int)).toNat = n := Int.toNat_natCast n
      rw [e] at r2
      exact r2.keep fun t xs h => e3 _ _ h
end
end K03

set_option Elab.async false
set_option linter.all false
set_option maxRecDepth 100000
set_option maxHeartbeats 8000000
/-! S24: _law_first. -/
namespace K03
open PySem PySem.Spec PyProof.Rows L2 Evl J ClX StX S
abbrev sFi : Stmt := topS 57
/-- tuples of these, one behind another -/
def TupsAt (H : Hp) (acc : List V) (Rs : List (List V)) : Prop := acc.length = Rs.length ∧ ∀ (n : Nat) r, Rs[n]? = some r → ∃ t, acc[n]? = some (.ref t) ∧ H t = some (.tup r)
theorem TupsAt.ext {H H' : Hp} {acc : List V} {Rs : List (List V)} (h : TupsAt H acc Rs) (e : Ex H H') : TupsAt H' acc Rs := ⟨h.1, fun n r z => by
  obtain ⟨t, h1, h2⟩ := h.2 n r z
  exact ⟨t, h1, e _ _ h2⟩⟩
theorem TupsAt.app {H : Hp} {a1 a2 : List V} {R1 R2 : List (List V)} (h1 : TupsAt H a1 R1) (h2 : TupsAt H a2 R2) : TupsAt H (a1 ++ a2) (R1 ++ R2) := by
  refine ⟨by rw [List.length_append, List.length_append, h1.1, h2.1], fun n r e => ?_⟩
  by_cases hn : n < R1.length
  · rw [List.getElem?_append_left hn] at e
    obtain ⟨t, q1, q2⟩ := h1.2 n r e
    exact ⟨t, by rw [List.getElem?_append_left (by rw [h1.1]; exact hn)]; exact q1, q2⟩
  · rw [List.getElem?_append_right (by omega)] at e
    obtain ⟨t, q1, q2⟩ := h2.2 _ r e
    exact ⟨t, by rw [List.getElem?_append_right (by rw [h1.1]; omega), h1.1]; exact q1, q2⟩
def EvTA (ta : TA) (σ : L2.St) (H : Hp) (Rs : List (List V)) : Prop := ∀ H1, Ex H H1 → ∀ Q : List V → Hp → Prop, (∀ vs H2, Ex H1 H2 → TupsAt H2 vs Rs → Q vs H2) → ta σ H1 Q
def EvTL (te : TE) (σ : L2.St) (H : Hp) (Rs : List (List V)) : Prop := ∀ H1, Ex H H1 → ∀ Q : VK, (∀ p acc H2, H1 p = none → Ex H1 H2 → H2 p = some (.lst acc) → TupsAt H2 acc Rs → Q (.ref p) H2) → te σ H1 Q
section
variable {K : PySem.W.Frag} {σ : L2.St} {H : Hp} {tr ta : TA} {te tb : TE} {r : List V} {Rs Ss : List (List V)}
theorem ta_nil : EvTA tNil σ H [] := fun H1 _ Q q => q [] H1 (Ex.refl H1) ⟨rfl, fun n r e => by simp at e⟩
theorem ta_cons (h : EvA tr σ H r) (hz : r.length ≤ 1000) (h2 : EvTA ta σ H Rs) : EvTA (tCons (tTup tr) ta) σ H (r :: Rs) := fun H1 e Q q =>
  h H1 e _ fun H2 e2 => ⟨sz_of (by omega), fun p hp => h2 _ ((e.trans e2).trans (Ex.new hp)) _ fun vs H3 e3 t3 => q (.ref p :: vs) H3 ((e2.trans (Ex.new hp)).trans e3) ⟨by simp [t3.1], fun n r2 z => by
    match n, z with
    | 0, z =>
      obtain rfl := Option.some.inj z
      exact ⟨p, rfl, e3 _ _ upd_same⟩
    | n + 1, z => exact t3.2 n r2 z⟩⟩
theorem tl_lst (h : EvTA ta σ H Rs) (hz : Rs.length ≤ 1000) : EvTL (tLst ta) σ H Rs := fun H1 e Q q =>
  h H1 e _ fun vs H2 e2 t2 => ⟨sz_of (by rw [t2.1]; omega), fun p hp => q p vs _ (fresh_back e2 hp) (e2.trans (Ex.new hp)) upd_same (t2.ext (Ex.new hp))⟩
theorem tl_cat {l : Addr} {acc : List V} {tx : TE} (h : Ev tx σ H (.ref l)) (hl : H l = some (.lst acc)) (t1 : TupsAt H acc Rs) (h2 : EvTL tb σ H Ss) (hz : Rs.length + Ss.length ≤ 1000) : EvTL (tOp rCat tx tb) σ H (Rs ++ Ss) := fun H1 e Q q =>
  h H1 e _ fun H2 e2 => h2 H2 (e.trans e2) _ fun p acc2 H3 n3 e3 h3 t3 => ⟨l, p, acc, acc2, rfl, rfl, e3 _ _ (e2 _ _ (e _ _ hl)), h3, sz_of (by rw [t1.1, t3.1]; omega), fun u hu => q u _ _ (fresh_back (e2.trans e3) hu) ((e2.trans e3).trans (Ex.new hu)) upd_same (((t1.ext ((e.trans e2).trans e3)).app t3).ext (Ex.new hu))⟩
theorem q_asgTL {i : Nat} {tz : TS} {D : Ends} (h : EvTL te σ H Rs) (k : ∀ p acc H1, H p = none → Ex H H1 → H1 p = some (.lst acc) → TupsAt H1 acc Rs → tz D (σ.set i (some (.ref p))) H1) : tSeq (tAsg te (gName i)) tz D σ H := h H (Ex.refl H) _ k
theorem s_forTups2 {D : Ends} {tu : TS} {tg : TE} {n j i : Nat} {ln : Addr} {G : List Str} (GL : Ev tg σ H (.ref ln)) (sg : SqL K H ln (G.map V.str)) (hc : σ[j]? = some (some (.int (n : Int)))) (hn : n ≤ 3) (hz : G.length ≤ 8)
    (k : ∀ p acc H1, H p = none → Ex H H1 → H1 p = some (.lst acc) → RowsAt H1 acc (tups G n) → ∃ Pv : Nat → L2.St → Hp → Prop, Pv 0 σ H1 ∧ (∀ i σ' H', i ≤ acc.length → Pv i σ' H' → SqL K H' p acc) ∧
      (∀ m x σ' H', acc[m]? = some x → Pv m σ' H' → tu { D with nx := Pv (m + 1), ct := Pv (m + 1), bk := D.nx } (σ'.set i (some x)) H') ∧ ∀ σ' H', Pv acc.length σ' H' → D.nx σ' H') :
    tFor (iList K (tCall (spTups K) [] E0 (tCons tg (tCons (tVar j) tNil)))) (gName i) tu D σ H :=
  GL H (Ex.refl H) _ fun H1 e1 => ⟨_, hc, ln, G, n, rfl, ex_l e1 sg, hn, hz, fun p H2 acc n2 e2 h2 r2 => by
    obtain ⟨Pv, k0, k1, k2, k3⟩ := k p acc H2 (fresh_back e1 n2) (e1.trans e2) h2 r2
    exact ⟨p, rfl, ⟨acc, sq_of h2⟩, for_list Pv k0 k1 k2 k3⟩⟩
end
def spFirst (K : PySem.W.Frag) : Sp := fun vs H Q _ => ∃ (d : Addr) (G : List Str) (J T : List (List Str)) (lo hi : Str), vs = [.ref d] ∧ ToldAt K H d G J T lo hi ∧ ∀ v H', Ex H H' → Dp K H' v (faultD (fault G J T lo hi)) → Q v H'
section
variable {P : Program} {w : World} {K : PySem.W.Frag} {mg : Str → Option Value} {base : Heap} {f : Addr} {fd : FuncData}
abbrev NFi : List Str := ["_law_told_here", "_law_words", "_law_word", "_law_many", "_law_row", "_law_fails_here"]
theorem scFi : FnScope NFi ["_law_told_here"] (defScope sFi) := ⟨rfl, rfl, rfl, by decide +kernel, rfl, by decide +kernel, by decide +kernel⟩
abbrev pT : Prop := True
theorem ok_first (F : FnP K "_law_first" sFi f fd) (cR : Cal P w K mg base CX0 1 "_law_rows_of" ["_law_names", "_law_many"] (spTups K)) (cO : Cal P w K mg base CX0 2 "_law_fails_one" ["_law_told_here", "_law_word", "_law_a"] (spFo K)) (cA : Cal P w K mg base CX0 2 "_law_fails" ["_law_told_here", "_law_word", "_law_row"] (spFa K)) : FnOk P w K mg base CX0 3 f fd ["_law_told_here"] (spFirst K) := by
  refine F.ok scFi (fun vs H Q E h => ?_) (fun cdv A outer s H vs Q E hr h => ?_)
  · obtain ⟨d, G, J, T, lo, hi, rfl, _⟩ := h
    rfl
  · obtain ⟨d, G, J, T, lo, hi, rfl, td, q⟩ := h
    have hr1 : Room 1 (A.deeper (envOfC "_law_first" (defScope sFi) s.heap.objs.size f cdv)) := hr.mono (by decide)
    have hu : (A.deeper (envOfC "_law_first" (defScope sFi) s.heap.objs.size f cdv)).units + 1 < cLine := by
      have := hr.un
      omega
    refine ⟨_, PSs.nox (pss_cons (ps_set (i := 1) scFi.nd rfl (Or.inl rfl) (pe_lst (pa_cons (pe_tup (pa_cons pe_str (pa_cons pe_int pa_nil))) (pa_cons (pe_tup (pa_cons pe_str (pa_cons pe_int pa_nil))) (pa_cons (pe_tup (pa_cons pe_str (pa_cons pe_int pa_nil))) (pa_cons (pe_tup (pa_cons pe_str (pa_cons pe_int pa_nil))) (pa_cons (pe_tup (pa_cons pe_str (pa_cons pe_int pa_nil))) pa_nil)))))))
      (pss_cons (ps_set (i := 1) scFi.nd rfl (Or.inl rfl) (pe_op op_cat (pv 1) (pe_lst (pa_cons (pe_tup (pa_cons pe_str (pa_cons pe_int pa_nil))) (pa_cons (pe_tup (pa_cons pe_str (pa_cons pe_int pa_nil))) (pa_cons (pe_tup (pa_cons pe_str (pa_cons pe_int pa_nil))) (pa_cons (pe_tup (pa_cons pe_str (pa_cons pe_int pa_nil))) (pa_cons (pe_tup (pa_cons pe_str (pa_cons pe_int pa_nil))) pa_nil))))))))
      (pss_cons (ps_for PassesOwn.never rfl (pi_list (pv 1)) (pg_tup rfl (pgs_cons (pg_name (i := 2) scFi.nd rfl (Or.inl rfl)) (pgs_cons (pg_name (i := 3) scFi.nd rfl (Or.inl rfl)) pgs_nil)))
        (pss_one (ps_for PassesOwn.never rfl (pi_list (pe_cal cR hr1 rfl pass0 (pa_cons (pe_dget hu (pv 0) pe_str (fun _ _ => rfl)) (pa_cons (pv 3) pa_nil)))) (pg_name (i := 4) scFi.nd rfl (Or.inl rfl))
          (pss_cons (ps_set (i := 5) scFi.nd rfl (Or.inl rfl) (pe_ifExp (pt_cmpR op_eq (pv 3) pe_int (nomark _)) (pe_cal cO hr rfl pass0 (pa_cons (pv 0) (pa_cons (pv 2) (pa_cons (pe_ix ix_tup (pv 4) pe_int (fun _ _ => rfl)) pa_nil)))) (pe_cal cA hr rfl pass0 (pa_cons (pv 0) (pa_cons (pv 2) (pa_cons (pv 4) pa_nil))))))
            (pss_one (ps_if (pt_val (pv 5)) (pss_one (ps_ret (pe_tup (pa_cons (pv 2) (pa_cons (pv 4) pa_nil))))) pss_nil))))))
        (pss_one (ps_ret pe_non))))), ?_⟩
    obtain ⟨kvs, ln, vj, vt, h1, h2, h3, h4, h5, h6, h7, h8, h9⟩ := td.ex
    have tu : ∀ (σ : L2.St) (H : Hp) (x : Str) (i : Int), EvA (tCons (tC (.str x)) (tCons (tC (.int i)) tNil)) σ H [.str x, .int i] := fun σ H x i => ea_cons ev_c (ea_cons ev_c ea_nil)
    have wl : ∀ (x y : Str) (i j : Int), ([V.str x, V.int i] : List V).length ≤ 1000 := fun _ _ _ _ => by simp
    refine q_asgTL (tl_lst (ta_cons (tu _ _ _ _) (by simp) (ta_cons (tu _ _ _ _) (by simp) (ta_cons (tu _ _ _ _) (by simp) (ta_cons (tu _ _ _ _) (by simp) (ta_cons (tu _ _ _ _) (by simp) ta_nil))))) (by simp)) fun p1 a1 H1 n1 e1 g1 t1 => ?_
    refine q_asgTL (tl_cat (ev_var rfl) g1 t1 (tl_lst (ta_cons (tu _ _ _ _) (by simp) (ta_cons (tu _ _ _ _) (by simp) (ta_cons (tu _ _ _ _) (by simp) (ta_cons (tu _ _ _ _) (by simp) (ta_cons (tu _ _ _ _) (by simp) ta_nil))))) (by simp)) (by simp)) fun p2 a2 H2 n2 e2 g2 t2 => ?_
    have t2 : TupsAt H2 a2 (demL.map fun e => [V.str e.1, V.int (e.2.1 : Int)]) := t2
    have e12 := e1.trans e2
    refine q_forL (ev_var rfl) (sq_of g2) (fun i σ' H' => ∃ x2 x3 x4 x5, σ' = [some (.ref d), some (.ref p2), x2, x3, x4, x5] ∧ Ex H2 H' ∧ (demL.take i).findSome? (fun e => ((tups G e.2.1).find? fun r => !e.2.2 G J T lo hi r).map fun r => (e.1, r)) = none)
      (fun H3 e3 => ⟨_, _, _, _, rfl, e3, rfl⟩) (fun i σ' H' _ ⟨_, _, _, _, _, e, _⟩ => sq_of (e _ _ g2)) ?_ ?_
    · rintro i v σ' H3 hv ⟨x2, x3, x4, x5, rfl, e3, none1⟩
      have hi10 : i < demL.length := by
        have := (List.getElem?_eq_some_iff.mp hv).1
        rw [t2.1, List.length_map] at this
        exact this
      obtain ⟨e, he⟩ : ∃ e, demL[i]? = some e := ⟨demL[i]'hi10, List.getElem?_eq_getElem hi10⟩
      obtain ⟨tw, w1, w2⟩ := t2.2 i [.str e.1, .int (e.2.1 : Int)] (by rw [List.getElem?_map, he]; rfl)
      rw [w1] at hv
      obtain rfl := Option.some.inj hv
      have me := List.mem_of_getElem? he
      have cnt : 1 ≤ e.2.1 ∧ e.2.1 ≤ 3 := by
        have : ∀ e ∈ demL, 1 ≤ e.2.1 ∧ e.2.1 ≤ 3 := by
          intro e h
          simp only [demL, List.mem_cons, List.not_mem_nil, or_false] at h
          rcases h with rfl | rfl | rfl | rfl | rfl | rfl | rfl | rfl | rfl | rfl <;> decide
        exact this e me
      have e03 := e12.trans e3
      refine ⟨tw, _, rfl, st_of (e3 _ _ w2), rfl, _, _, rfl, _, _, rfl, rfl, ?_⟩
      refine s_forTups2 (n := e.2.1) (G := G) (ev_dget (key := Sum.inr "names") (ev_var rfl) ev_c (e03 _ _ h1) h2) (ex_l e03 h3) rfl cnt.2 td.gd.z8 fun p acc H4 n4 e4 h4' r4 => ?_
      have e04 := e03.trans e4
      refine ⟨fun j σ' H' => ∃ x4 x5, σ' = [some (.ref d), some (.ref p2), some (.str e.1), some (.int (e.2.1 : Int)), x4, x5] ∧ Ex H4 H' ∧ ((tups G e.2.1).take j).find? (fun r => !e.2.2 G J T lo hi r) = none, ⟨_, _, rfl, Ex.refl H4, rfl⟩, fun j σ' H' _ ⟨_, _, _, e5, _⟩ => sq_of (e5 _ _ h4'), ?_, ?_⟩
      · rintro j x σ' H5 hx ⟨x4, x5, rfl, e5, none2⟩
        have hj : j < (tups G e.2.1).length := by
          rw [← r4.1]
          exact (List.getElem?_eq_some_iff.mp hx).1
        have hr : (tups G e.2.1)[j]? = some (tups G e.2.1)[j] := List.getElem?_eq_getElem hj
        generalize (tups G e.2.1)[j] = r at hr
        obtain ⟨tp, q1, q2⟩ := r4.2 j r hr
        rw [q1] at hx
        obtain rfl := Option.some.inj hx
        obtain ⟨m1, m2⟩ := tups_mem (List.mem_of_getElem? hr)
        have e05 := e04.trans e5
        have tp5 := e5 _ _ q2
        refine q_asg (v := .bl (!e.2.2 G J T lo hi r)) (ev_if (b := decide (e.2.1 = 1)) (et_is (et_test (ev_op (ev_var rfl) ev_c (rv_eq rfl))) (by
          by_cases h : e.2.1 = 1
          · rw [h]; simp
          · have h2 : ((e.2.1 : Nat) : Int) ≠ 1 := by omega
            simp [h, h2])) (fun hb => ?_) (fun hb => ?_)) fun H6 e6 => ?_
        · have h1e : e.2.1 = 1 := by simpa using hb
          match r, m1, m2, tp5 with
          | [y], m1, m2, tp5 =>
            exact ev_call (ea_cons (ev_var rfl) (ea_cons (ev_var rfl) (ea_cons (ev_op (ev_var rfl) ev_c (rv_ixT (st_of tp5) (atI_nat (j := 0) rfl))) ea_nil))) fun H7 e7 Q q E => ⟨d, y, e, G, J, T, lo, hi, rfl, me, h1e, td.ext (e05.trans e7), m2 _ (by simp), q⟩
          | [], m1, _, _ => exact absurd (m1.trans h1e) (by simp)
          | _ :: _ :: _, m1, _, _ => exact absurd (m1.trans h1e) (by simp)
        · have h1e : e.2.1 ≠ 1 := by simpa using hb
          exact ev_call (ea_cons (ev_var rfl) (ea_cons (ev_var rfl) (ea_cons (ev_var rfl) ea_nil))) fun H7 e7 Q q E => ⟨d, tp, r, e, G, J, T, lo, hi, rfl, me, h1e, m1, st_of (e7 _ _ tp5), m2, td.ext (e05.trans e7), q⟩
        · have tp6 := e6 _ _ tp5
          refine s_when (b := !e.2.2 G J T lo hi r) (et_B (ev_var rfl)) (fun hb H7 e7 => ?_) (fun hb H7 e7 => ⟨_, _, rfl, (e5.trans e6).trans e7, find_more none2 hr hb⟩)
          refine ⟨_, rfl, _, rfl, sz_of (by simp), fun p hp => ?_⟩
          refine q (.ref p) _ (((e05.trans e6).trans e7).trans (Ex.new hp)) ?_
          have ff : fault G J T lo hi = some (e.1, r) := some_at none1 he (by rw [find_at none2 hr hb]; rfl)
          rw [ff]
          exact .tup (st_of upd_same) (.cons (.str _) (.cons (.tup (st_of (by rw [upd_ne (ne_of_none (e7 _ _ tp6) hp)]; exact e7 _ _ tp6)) (dpa_strs r)) .nil))
      · rintro σ' H5 ⟨x4, x5, rfl, e5, none2⟩
        rw [r4.1, List.take_length] at none2
        exact ⟨_, _, _, _, rfl, (e3.trans e4).trans e5, some_more none1 he (by rw [none2]; rfl)⟩
    · rintro σ' H3 ⟨x2, x3, x4, x5, rfl, e3, none1⟩
      refine s_ret ev_c fun H4 e4 => q .non H4 ((e12.trans e3).trans e4) ?_
      have e : a2.length = demL.length := by rw [t2.1, List.length_map]
      rw [e, List.take_length] at none1
      unfold fault
      rw [none1]
      exact .non
end
end K03

set_option Elab.async false
set_option linter.all false
set_option maxRecDepth 100000
set_option maxHeartbeats 8000000
/-! S25: tables of places: _law_levels. -/
namespace S
open PySem PySem.Spec PyProof.Rows L2 Evl J ClX StX
section
variable {K : PySem.W.Frag} {σ : L2.St} {B H : Hp} {te : TE} {tr : TA} {d : PyData} {es : List PyData}
theorem qd_lst (h : EvQL K te σ B es) : EvQ K te σ B (.list es) := fun H1 e Q q =>
  h H1 e _ fun p ys H2 hp e2 h2 da => q (.ref p) H2 e2 (.lst (xs := ys) (sq_of (by rw [rst_in (.inr hp)]; exact h2)) da)
def EvQA (K : PySem.W.Frag) (ta : TA) (σ : L2.St) (B : Hp) (es : List PyData) : Prop := ∀ H1, Ex B H1 → ∀ Q : List V → Hp → Prop, (∀ vs H2, Ex H1 H2 → DpAll K (rst B H1 H2) vs es → Q vs H2) → ta σ H1 Q
theorem qa_nil : EvQA K tNil σ B [] := fun H1 _ Q q => q [] H1 (Ex.refl H1) .nil
theorem qa_cons (h : EvQ K te σ B d) (hr : EvQA K tr σ B es) : EvQA K (tCons te tr) σ B (d :: es) := fun H1 e Q q =>
  h H1 e _ fun v H2 e2 dq => hr H2 (e.trans e2) _ fun vs H3 e3 da => q (v :: vs) H3 (e2.trans e3) (.cons (dq.ext e3) (dpa_ext (rst_mono (fun b z => fresh_back e2 z) fun b o _ z => z) da))
theorem qd_tupN (h : EvQA K tr σ B es) (hz : es.length ≤ 1000) : EvQ K (tTup tr) σ B (.tuple es) := fun H1 e Q q =>
  h H1 e _ fun vs H2 e2 da => ⟨by rw [dpa_len da]; exact sz_of (by omega), fun p hp => q (.ref p) _ (e2.trans (Ex.new hp)) (.tup (xs := vs) (st_of (by rw [rst_in (.inr (fresh_back e2 hp)), upd_same])) (dpa_ext (rst_mono (fun b z => z) fun b o _ z => (Ex.new hp) b o z) da))⟩
theorem qd_i {i : Int} : EvQ K (tC (.int i)) σ B (.int i) := qd_ev ev_c (.int i)
end
end S
namespace K03
open PySem PySem.Spec PyProof.Rows L2 Evl J ClX StX S
theorem el_rg {σ : L2.St} {H : Hp} {te : TE} {n : Nat} (h : Ev te σ H (.int (n : Int))) (hz : n ≤ 10000) : EvL (tLstRg (tRg1 te)) σ H ((List.range n).map fun i : Nat => V.int (i : Int)) := fun H1 e Q q =>
  h H1 e _ fun H2 e2 => ⟨(n : Int), rfl, RgOk.of_le (by omega) (by omega) (by omega) (by omega), fun p hp => q p _ (fresh_back e2 hp) (e2.trans (Ex.new hp)) (by
    rw [upd_same]
    unfold rgV
    have z : ((n : Int) - 0).toNat = n := by omega
    rw [z]
    congr 2
    apply List.map_congr_left
    intro i _
    simp)⟩
theorem ev_min2 {σ : L2.St} {H : Hp} {ta tb : TE} {i j : Int} (ha : Ev ta σ H (.int i)) (hb : Ev tb σ H (.int j)) : Ev (tCB (fun xs H Q => ∃ i j, xs = [.int i, .int j] ∧ Q (.int (if j < i then j else i)) H) (tCons ta (tCons tb tNil))) σ H (.int (if j < i then j else i)) := fun H1 e Q q =>
  ha H1 e _ fun H2 e2 => hb H2 (e.trans e2) _ fun H3 e3 => ⟨i, j, rfl, q H3 (e2.trans e3)⟩
abbrev sLv : Stmt := topS 45
/-- tables of places as data -/
def tabI (F : Nat → Nat → Int) (n : Nat) : PyData := .list ((List.range n).map fun a => .list ((List.range n).map fun b => .int (F a b)))
def spLv (K : PySem.W.Frag) : Sp := fun vs H Q _ => ∃ t : Nat, vs = [.int (t : Int)] ∧ t ≤ 100 ∧ ∀ v H', Ex H H' → Dp K H' v (.tuple [tabI (fun a b => (max a b : Nat)) (t + 1), tabI (fun a b => (min a b : Nat)) (t + 1), .int 0, .int (t : Int)]) → Q v H'
section
variable {P : Program} {w : World} {K : PySem.W.Frag} {mg : Str → Option Value} {base : Heap} {f : Addr} {fd : FuncData}
abbrev NLv : List Str := ["_law_top", "_law_every", "_law_a", "_law_b"]
theorem scLv : FnScope NLv ["_law_top"] (defScope sLv) := ⟨rfl, rfl, rfl, by decide +kernel, rfl, by decide +kernel, by decide +kernel⟩
abbrev rMin2 : List V → Hp → VK → Prop := fun xs H Q => ∃ i j, xs = [.int i, .int j] ∧ Q (.int (if j < i then j else i)) H
/-- further names left to Python -/
structure Bl3 (mg : Str → Option Value) : Prop where
  max : mg "max" = none
  min : mg "min" = none
  sum : mg "sum" = none
theorem ok_lv (F : FnP K "_law_levels" sLv f fd) (T : Bl mg) (T3 : Bl3 mg) : FnOk P w K mg base CX0 1 f fd ["_law_top"] (spLv K) := by
  refine F.ok scLv (fun vs H Q E h => ?_) (fun cdv A outer s H vs Q E hr h => ?_)
  · obtain ⟨t, rfl, _⟩ := h
    rfl
  · obtain ⟨t, rfl, ht, q⟩ := h
    refine ⟨_, pss_cons (ps_set (i := 1) scLv.nd rfl (Or.inr rfl) (pe_listRg rfl rfl T.lst (prg_1 rfl T.rng (pe_op op_add (pv 0) pe_int))))
      (pss_one (ps_ret (pe_tup (pa_cons (pe_lc (own := [("_law_a", 2)]) (g := gName 2) (tt := tYes) (te := tLc (iList K (tVar 1)) (gName 3) tYes (tCB rMax2 (tCons (tVar 2) (tCons (tVar 3) tNil))) [3]) rfl scLv.nd (pi_list (pv 1)) (blkOk_by (N := NLv) (sc := defScope sLv) (by decide +kernel)) (fun _ _ _ _ _ => pg_name (i := 2) scLv.nd rfl (Or.inr rfl)) (fun _ _ _ _ _ => pts_nil)
          (fun _ _ _ _ _ => by exact pe_lc (own := [("_law_b", 3)]) (g := gName 3) (tt := tYes) (wi := iList K (tVar 1)) rfl scLv.nd (pi_list (pv 1)) (blkOk_by (N := NLv) (by rfl)) (fun _ _ _ _ _ => pg_name (i := 3) scLv.nd rfl (Or.inl rfl)) (fun _ _ _ _ _ => pts_nil) (fun _ _ _ _ _ => pe_callB (call_max2 rfl) (by rfl) T3.max Boot.«max» (pa_cons (pv 2) (pa_cons (pv 3) pa_nil)))))
        (pa_cons (pe_lc (own := [("_law_a", 2)]) (g := gName 2) (tt := tYes) (te := tLc (iList K (tVar 1)) (gName 3) tYes (tCB rMin2 (tCons (tVar 2) (tCons (tVar 3) tNil))) [3]) rfl scLv.nd (pi_list (pv 1)) (blkOk_by (N := NLv) (sc := defScope sLv) (by decide +kernel)) (fun _ _ _ _ _ => pg_name (i := 2) scLv.nd rfl (Or.inr rfl)) (fun _ _ _ _ _ => pts_nil)
          (fun _ _ _ _ _ => by exact pe_lc (own := [("_law_b", 3)]) (g := gName 3) (tt := tYes) (wi := iList K (tVar 1)) rfl scLv.nd (pi_list (pv 1)) (blkOk_by (N := NLv) (by rfl)) (fun _ _ _ _ _ => pg_name (i := 3) scLv.nd rfl (Or.inl rfl)) (fun _ _ _ _ _ => pts_nil) (fun _ _ _ _ _ => pe_callB (call_min2 rfl) (by rfl) T3.min Boot.«min» (pa_cons (pv 2) (pa_cons (pv 3) pa_nil)))))
        (pa_cons pe_int (pa_cons (pv 0) pa_nil))))))), ?_⟩
    refine q_asgL (el_rg (n := t + 1) (ev_is (ev_op (ev_var rfl) ev_c rv_I0) (by simp)) (by omega)) fun p H1 n1 e1 h1 => ?_
    have main : EvQ K (tTup (tCons (tLc (iList K (tVar 1)) (gName 2) tYes (tLc (iList K (tVar 1)) (gName 3) tYes (tCB rMax2 (tCons (tVar 2) (tCons (tVar 3) tNil))) [3]) [2]) (tCons (tLc (iList K (tVar 1)) (gName 2) tYes (tLc (iList K (tVar 1)) (gName 3) tYes (tCB rMin2 (tCons (tVar 2) (tCons (tVar 3) tNil))) [3]) [2]) (tCons (tC (.int 0)) (tCons (tVar 0) tNil))))) [some (.int (t : Int)), some (.ref p), none, none] H1
        (.tuple [tabI (fun a b => (max a b : Nat)) (t + 1), tabI (fun a b => (min a b : Nat)) (t + 1), .int 0, .int (t : Int)]) :=
      qd_tupN (qa_cons (qd_lst (qd_map (g := fun i : Nat => V.int (i : Int)) (xs := List.range (t + 1)) (ev_var rfl) (sq_of h1) (by simp; omega) (fun x => rfl) fun a _ => qd_lst (qd_map (g := fun i : Nat => V.int (i : Int)) (xs := List.range (t + 1)) (ev_var rfl) (sq_of h1) (by simp; omega) (fun x => rfl) fun b _ => qd_ev (ev_is (ev_max2 (ev_var rfl) (ev_var rfl)) (by congr 1; dsimp only; split <;> omega)) (.int _))))
        (qa_cons (qd_lst (qd_map (g := fun i : Nat => V.int (i : Int)) (xs := List.range (t + 1)) (ev_var rfl) (sq_of h1) (by simp; omega) (fun x => rfl) fun a _ => qd_lst (qd_map (g := fun i : Nat => V.int (i : Int)) (xs := List.range (t + 1)) (ev_var rfl) (sq_of h1) (by simp; omega) (fun x => rfl) fun b _ => qd_ev (ev_is (ev_min2 (ev_var rfl) (ev_var rfl)) (by congr 1; dsimp only; split <;> omega)) (.int _))))
        (qa_cons qd_i (qa_cons (qd_ev (ev_var rfl) (.int _)) qa_nil)))) (by simp)
    exact main H1 (Ex.refl H1) _ fun v H2 e2 dq => q v H2 (e1.trans e2) dq.dp
end
end K03

set_option Elab.async false
set_option linter.all false
set_option maxRecDepth 100000
set_option maxHeartbeats 8000000
/-! S26: _law_odd. -/
namespace S
open PySem PySem.Spec PyProof.Rows L2 Evl J ClX StX
section
variable {K : PySem.W.Frag} {σ : L2.St} {B H : Hp} {te : TE} {tr ta : TA} {d : PyData} {es : List PyData} {vs : List Nat} {j n : Nat}
theorem qd_lstL (h : EvQA K tr σ B es) (hz : es.length ≤ 1000) : EvQ K (tLst tr) σ B (.list es) := fun H1 e Q q =>
  h H1 e _ fun vs H2 e2 da => ⟨by rw [dpa_len da]; exact sz_of (by omega), fun p hp => q (.ref p) _ (e2.trans (Ex.new hp)) (.lst (xs := vs) (sq_of (by rw [rst_in (.inr (fresh_back e2 hp)), upd_same])) (dpa_ext (rst_mono (fun b z => z) fun b o _ z => (Ex.new hp) b o z) da))⟩
theorem qd_rng {F : Nat → PyData} (hn : EvA ta σ B [.int (n : Int)]) (hz : n ≤ 1000) (hw : ∀ x, wipe ((wipe σ vs).set j (some x)) vs = wipe σ vs) (el : ∀ i : Nat, i < n → EvQ K te ((wipe σ vs).set j (some (.int (i : Int)))) B (F i)) :
    EvQL K (tLc (iRng1 ta) (gName j) tYes te vs) σ B ((List.range n).map F) := fun H1 eB Q k =>
  K03.lc_rng (hn.mono eB) (by omega) fun D H0 e0 hD => by
    refine ⟨Lg K ((List.range n).map F) B H0 D, lg_start hD, fun i H2 hi g => ⟨hw _, ?_⟩, fun H2 g => ?_⟩
    · have h1 : ((List.range n).map F)[i]? = some (F i) := by rw [List.getElem?_map, List.getElem?_range hi]; rfl
      refine el i hi H2 ((eB.trans e0).trans g.2.1) _ fun y H3 e3 dq => ?_
      exact lg_step (eB.trans e0) g (by omega) e3 h1 dq
    · have g2 : Lg K ((List.range n).map F) B H0 D ((List.range n).map F).length H2 := by
        have e : ((List.range n).map F).length = n := by simp
        rw [e]
        exact g
      obtain ⟨ys, h1, h2⟩ := lg_end (eB.trans e0) g2
      exact k D ys H2 (fresh_back e0 hD) (e0.trans g.2.1) h1 (dpa_ext (rst_mono (fun b z => fresh_back e0 z) fun b o _ z => z) h2)
theorem q_asgQL {i : Nat} {tz : TS} {E : Ends} (h : EvQL K te σ H es) (k : ∀ p ys H1, H p = none → Ex H H1 → H1 p = some (.lst ys) → DpAll K H1 ys es → tz E (σ.set i (some (.ref p))) H1) : tSeq (tAsg te (gName i)) tz E σ H :=
  h H (Ex.refl H) _ fun p ys H1 hp e h1 da => k p ys H1 hp e h1 (dpa_ext rst_ex da)
end
end S
namespace K03
open PySem PySem.Spec PyProof.Rows L2 Evl J ClX StX S
abbrev sOd : Stmt := topS 47
def oddD : Nat → PyData
  | 0 => .tuple [.list [.list [.int 0, .int 1, .int 2], .list [.int 1, .int 1, .int 2], .list [.int 2, .int 2, .int 2]], .list [.list [.int 0, .int 0, .int 0], .list [.int 0, .int 0, .int 1], .list [.int 0, .int 1, .int 2]], .int 0, .int 2]
  | 1 => .tuple [tabI (fun a b => (max a b : Nat)) 4, .list [.list [.int 0, .int 0, .int 0, .int 0], .list [.int 0, .int 0, .int 0, .int 1], .list [.int 0, .int 0, .int 1, .int 2], .list [.int 0, .int 1, .int 2, .int 3]], .int 0, .int 3]
  | _ => .tuple [.list [.list [.int 0]], .list [.list [.int 0]], .int 0, .int 0]
def spOd (K : PySem.W.Frag) : Sp := fun vs H Q _ => ∃ k : Nat, vs = [.int (k : Int)] ∧ k ≤ 2 ∧ ∀ v H', Ex H H' → Dp K H' v (oddD k) → Q v H'
section
variable {P : Program} {w : World} {K : PySem.W.Frag} {mg : Str → Option Value} {base : Heap} {f : Addr} {fd : FuncData}
abbrev NOd : List Str := ["_law_k", "_law_joins", "_law_a", "_law_b"]
theorem scOd : FnScope NOd ["_law_k"] (defScope sOd) := ⟨rfl, rfl, rfl, by decide +kernel, rfl, by decide +kernel, by decide +kernel⟩
theorem s_retQ {te : TE} {σ : L2.St} {H : Hp} {D : Ends} {d : PyData} (h : EvQ K te σ H d) (k : ∀ v H1, Ex H H1 → Dp K H1 v d → D.rt v H1) : tRet te D σ H := h H (Ex.refl H) _ fun v H1 e dq => k v H1 e dq.dp
theorem ok_od (F : FnP K "_law_odd" sOd f fd) (T : Bl mg) (T3 : Bl3 mg) : FnOk P w K mg base CX0 1 f fd ["_law_k"] (spOd K) := by
  refine F.ok scOd (fun vs H Q E h => ?_) (fun cdv A outer s H vs Q E hr h => ?_)
  · obtain ⟨k, rfl, _⟩ := h
    rfl
  · obtain ⟨k, rfl, hk, q⟩ := h
    refine ⟨_, pss_cons (ps_if (pt_cmpR op_eq (pv 0) pe_int (nomark _)) (pss_one (ps_ret (pe_tup (pa_cons (pe_lst (pa_cons (pe_lst (pa_cons (pe_int) (pa_cons (pe_int) (pa_cons (pe_int) pa_nil)))) (pa_cons (pe_lst (pa_cons (pe_int) (pa_cons (pe_int) (pa_cons (pe_int) pa_nil)))) (pa_cons (pe_lst (pa_cons (pe_int) (pa_cons (pe_int) (pa_cons (pe_int) pa_nil)))) pa_nil)))) (pa_cons (pe_lst (pa_cons (pe_lst (pa_cons (pe_int) (pa_cons (pe_int) (pa_cons (pe_int) pa_nil)))) (pa_cons (pe_lst (pa_cons (pe_int) (pa_cons (pe_int) (pa_cons (pe_int) pa_nil)))) (pa_cons (pe_lst (pa_cons (pe_int) (pa_cons (pe_int) (pa_cons (pe_int) pa_nil)))) pa_nil)))) (pa_cons (pe_int) (pa_cons (pe_int) pa_nil))))))) pss_nil)
      (pss_cons (ps_if (pt_cmpR op_eq (pv 0) pe_int (nomark _)) (pss_cons (ps_setLc (i := 1) (own := [("_law_a", 2)]) (g := gName 2) (tt := tYes) (te := tLc (iRng1 (tCons (tC (.int 4)) tNil)) (gName 3) tYes (tCB rMax2 (tCons (tVar 2) (tCons (tVar 3) tNil))) [3]) rfl scOd.nd rfl rfl rfl (pi_range1 rfl T.rng (pa_cons pe_int pa_nil)) (blkOk_by (N := NOd) (sc := defScope sOd) (by decide +kernel)) (fun _ _ _ _ _ => pg_name (i := 2) scOd.nd rfl (Or.inr rfl)) (fun _ _ _ _ _ => pts_nil)
          (fun _ _ _ _ _ => by exact pe_lc (own := [("_law_b", 3)]) (g := gName 3) (tt := tYes) rfl scOd.nd (pi_range1 rfl T.rng (pa_cons pe_int pa_nil)) (blkOk_by (N := NOd) (by rfl)) (fun _ _ _ _ _ => pg_name (i := 3) scOd.nd rfl (Or.inl rfl)) (fun _ _ _ _ _ => pts_nil) (fun _ _ _ _ _ => pe_callB (call_max2 rfl) (by rfl) T3.max Boot.«max» (pa_cons (pv 2) (pa_cons (pv 3) pa_nil)))))
        (pss_one (ps_ret (pe_tup (pa_cons (pv 1) (pa_cons (pe_lst (pa_cons (pe_lst (pa_cons (pe_int) (pa_cons (pe_int) (pa_cons (pe_int) (pa_cons (pe_int) pa_nil))))) (pa_cons (pe_lst (pa_cons (pe_int) (pa_cons (pe_int) (pa_cons (pe_int) (pa_cons (pe_int) pa_nil))))) (pa_cons (pe_lst (pa_cons (pe_int) (pa_cons (pe_int) (pa_cons (pe_int) (pa_cons (pe_int) pa_nil))))) (pa_cons (pe_lst (pa_cons (pe_int) (pa_cons (pe_int) (pa_cons (pe_int) (pa_cons (pe_int) pa_nil))))) pa_nil))))) (pa_cons (pe_int) (pa_cons (pe_int) pa_nil)))))))) pss_nil) (pss_one (ps_ret (pe_tup (pa_cons (pe_lst (pa_cons (pe_lst (pa_cons (pe_int) pa_nil)) pa_nil)) (pa_cons (pe_lst (pa_cons (pe_lst (pa_cons (pe_int) pa_nil)) pa_nil)) (pa_cons (pe_int) (pa_cons (pe_int) pa_nil)))))))), ?_⟩
    match k, hk, q with
    | 0, _, q =>
      refine q_when (b := true) (et_is (et_test (ev_op (ev_var rfl) ev_c (rv_eq rfl))) (by simp)) (fun _ H1 e1 => ?_) (fun z => nomatch z)
      exact s_retQ (K := K) (d := oddD 0) (qd_tupN (qa_cons (qd_lstL (qa_cons (qd_lstL (qa_cons (qd_i) (qa_cons (qd_i) (qa_cons (qd_i) qa_nil))) (by simp)) (qa_cons (qd_lstL (qa_cons (qd_i) (qa_cons (qd_i) (qa_cons (qd_i) qa_nil))) (by simp)) (qa_cons (qd_lstL (qa_cons (qd_i) (qa_cons (qd_i) (qa_cons (qd_i) qa_nil))) (by simp)) qa_nil))) (by simp)) (qa_cons (qd_lstL (qa_cons (qd_lstL (qa_cons (qd_i) (qa_cons (qd_i) (qa_cons (qd_i) qa_nil))) (by simp)) (qa_cons (qd_lstL (qa_cons (qd_i) (qa_cons (qd_i) (qa_cons (qd_i) qa_nil))) (by simp)) (qa_cons (qd_lstL (qa_cons (qd_i) (qa_cons (qd_i) (qa_cons (qd_i) qa_nil))) (by simp)) qa_nil))) (by simp)) (qa_cons (qd_i) (qa_cons (qd_i) qa_nil)))) (by simp)) fun v H2 e2 dv => q v H2 (e1.trans e2) dv
    | 1, _, q =>
      refine q_when (b := false) (et_is (et_test (ev_op (ev_var rfl) ev_c (rv_eq rfl))) (by simp)) (fun z => nomatch z) (fun _ H1 e1 => ?_)
      refine q_when (b := true) (et_is (et_test (ev_op (ev_var rfl) ev_c (rv_eq rfl))) (by simp)) (fun _ H2 e2 => ?_) (fun z => nomatch z)
      refine q_asgQL (K := K) (es := (List.range 4).map fun a => .list ((List.range 4).map fun b => .int ((max a b : Nat) : Int))) (qd_rng (n := 4) (ea_cons ev_c ea_nil) (by omega) (fun x => rfl) fun a _ => qd_lst (qd_rng (n := 4) (ea_cons ev_c ea_nil) (by omega) (fun x => rfl) fun b _ => qd_ev (ev_is (ev_max2 (ev_var rfl) (ev_var rfl)) (by congr 1; (split <;> omega))) (.int _))) fun p ys H3 n3 e3 h3 d3 => ?_
      have hJ : Dp K H3 (.ref p) (tabI (fun a b => (max a b : Nat)) 4) := .lst (sq_of h3) d3
      exact s_retQ (K := K) (d := oddD 1) (qd_tupN (qa_cons (qd_ev (ev_var rfl) hJ) (qa_cons (qd_lstL (qa_cons (qd_lstL (qa_cons (qd_i) (qa_cons (qd_i) (qa_cons (qd_i) (qa_cons (qd_i) qa_nil)))) (by simp)) (qa_cons (qd_lstL (qa_cons (qd_i) (qa_cons (qd_i) (qa_cons (qd_i) (qa_cons (qd_i) qa_nil)))) (by simp)) (qa_cons (qd_lstL (qa_cons (qd_i) (qa_cons (qd_i) (qa_cons (qd_i) (qa_cons (qd_i) qa_nil)))) (by simp)) (qa_cons (qd_lstL (qa_cons (qd_i) (qa_cons (qd_i) (qa_cons (qd_i) (qa_cons (qd_i) qa_nil)))) (by simp)) qa_nil)))) (by simp)) (qa_cons (qd_i) (qa_cons (qd_i) qa_nil)))) (by simp)) fun v H4 e4 dv => q v H4 (((e1.trans e2).trans e3).trans e4) dv
    | 2, _, q =>
      refine q_when (b := false) (et_is (et_test (ev_op (ev_var rfl) ev_c (rv_eq rfl))) (by simp)) (fun z => nomatch z) (fun _ H1 e1 => ?_)
      refine q_when (b := false) (et_is (et_test (ev_op (ev_var rfl) ev_c (rv_eq rfl))) (by simp)) (fun z => nomatch z) (fun _ H2 e2 => ?_)
      exact s_retQ (K := K) (d := oddD 2) (qd_tupN (qa_cons (qd_lstL (qa_cons (qd_lstL (qa_cons (qd_i) qa_nil) (by simp)) qa_nil) (by simp)) (qa_cons (qd_lstL (qa_cons (qd_lstL (qa_cons (qd_i) qa_nil) (by simp)) qa_nil) (by simp)) (qa_cons (qd_i) (qa_cons (qd_i) qa_nil)))) (by simp)) fun v H4 e4 dv => q v H4 ((e1.trans e2).trans e4) dv
end
end K03

set_option Elab.async false
set_option linter.all false
set_option maxRecDepth 100000
set_option maxHeartbeats 8000000
/-! S27: _law_costs (its derivation). -/
namespace K03
open PySem PySem.Spec PyProof.Rows L2 Evl J ClX StX S
abbrev sCo : Stmt := topS 44
def costP (t : Nat) (s : Bool) (a b : Nat) : Int := if max a b > t then (t : Int) + 1 else min ((a : Int) + b) (if s then (t : Int) else (t : Int) + 1)
def costD (t : Nat) (s : Bool) : PyData := .tuple [tabI (fun a b => (min a b : Nat)) (t + 2), tabI (costP t s) (t + 2), .int ((t : Int) + 1), .int 0]
def spCo (K : PySem.W.Frag) : Sp := fun vs H Q _ => ∃ (t : Nat) (s : Bool), vs = [.int (t : Int), .bl s] ∧ t ≤ 100 ∧ ∀ v H', Ex H H' → Dp K H' v (costD t s) → Q v H'
section
variable {P : Program} {w : World} {K : PySem.W.Frag} {mg : Str → Option Value} {base : Heap} {f : Addr} {fd : FuncData}
theorem q_tup2L {σ : L2.St} {H : Hp} {te tb : TE} {i j : Nat} {xs : List V} {v : V} {tz : TS} {D : Ends} (h1 : EvL te σ H xs) (h2 : Ev tb σ H v) (k : ∀ p H1, H p = none → Ex H H1 → H1 p = some (.lst xs) → tz D ((σ.set i (some (.ref p))).set j (some v)) H1) :
    tSeq (tAsg (tTup (tCons te (tCons tb tNil))) (gTup K 2 (gCons (gName i) (gCons (gName j) gNil)))) tz D σ H :=
  h1 H (Ex.refl H) _ fun p H1 n1 e1 q1 => h2 H1 e1 _ fun H2 e2 => ⟨sz_of (by simp), fun tp htp => ⟨tp, _, rfl, st_of upd_same, rfl, _, _, rfl, _, _, rfl, rfl, k p _ n1 ((e1.trans e2).trans (Ex.new htp)) ((Ex.new htp) _ _ (e2 _ _ q1))⟩⟩
theorem q_par2 {σ : L2.St} {H : Hp} {te : TE} {i j : Nat} {es : List PyData} {tz : TS} {D : Ends} (h1 : EvQL K te σ H es) (k : ∀ p l H2 H1, Ex H H2 → H2 l = none → Ex H2 H1 → Dp K H2 (.ref p) (.list es) → H1 l = some (.lst []) → tz D ((σ.set i (some (.ref p))).set j (some (.ref l))) H1) :
    tSeq (tPar i j (tCons te (tCons (tLst tNil) tNil))) tz D σ H :=
  h1 H (Ex.refl H) _ fun p ys H2 n2 e2 q2 da => ⟨sz_of (by simp), fun l hl => ⟨_, _, rfl, k p l H2 _ e2 hl (Ex.new hl) (.lst (sq_of q2) (dpa_ext rst_ex da)) upd_same⟩⟩
theorem dpa_map {α : Type} {H : Hp} {F : α → V} {E : α → PyData} (h : ∀ a, Dp K H (F a) (E a)) : ∀ xs : List α, DpAll K H (xs.map F) (xs.map E)
  | [] => .nil
  | x :: r => .cons (h x) (dpa_map h r)
abbrev NCo : List Str := ["_law_top", "_law_stops", "_law_every", "_law_dear", "_law_joins", "_law_products", "_law_a", "_law_b"]
theorem scCo : FnScope NCo ["_law_top", "_law_stops"] (defScope sCo) := ⟨rfl, rfl, rfl, by decide +kernel, rfl, by decide +kernel, by decide +kernel⟩
abbrev rP (K : PySem.W.Frag) : TE := tLc (iList K (tVar 2)) (gName 7) tYes (tIf (tTest (tOp (rI0 fun i j => .bl (decide (i > j))) (tCB rMax2 (tCons (tVar 6) (tCons (tVar 7) tNil))) (tVar 0))) (tOp (rI0 fun i j => .int (i + j)) (tVar 0) (tC (.int 1))) (tCB rMin2 (tCons (tOp (rI0 fun i j => .int (i + j)) (tVar 6) (tVar 7)) (tCons (tVar 3) tNil)))) [7]
theorem ok_co (F : FnP K "_law_costs" sCo f fd) (T : Bl mg) (T3 : Bl3 mg) : FnOk P w K mg base CX0 1 f fd ["_law_top", "_law_stops"] (spCo K) := by
  refine F.ok scCo (fun vs H Q E h => ?_) (fun cdv A outer s H vs Q E hr h => ?_)
  · obtain ⟨t, b, rfl, _⟩ := h
    rfl
  · obtain ⟨t, b, rfl, ht, q⟩ := h
    refine ⟨_, PSs.nox (pss_cons (ps_asg (pe_tup (pa_cons (pe_listRg rfl rfl T.lst (prg_1 rfl T.rng (pe_op op_add (pv 0) pe_int))) (pa_cons (pe_ifExp (pt_val (pv 1)) (pv 0) (pe_op op_add (pv 0) pe_int)) pa_nil))) (pg_tup rfl (pgs_cons (pg_name (i := 2) scCo.nd rfl (Or.inr rfl)) (pgs_cons (pg_name (i := 3) scCo.nd rfl (Or.inr rfl)) pgs_nil))))
      (pss_cons (ps_par (i := 4) (j := 5) rfl scCo.nd rfl rfl (by decide) rfl rfl (pa_cons (pe_lc (own := [("_law_a", 6)]) (g := gName 6) (tt := tYes) (te := tLc (iList K (tVar 2)) (gName 7) tYes (tCB rMin2 (tCons (tVar 6) (tCons (tVar 7) tNil))) [7]) rfl scCo.nd (pi_list (pv 2)) (blkOk_by (N := NCo) (sc := defScope sCo) (by decide +kernel)) (fun _ _ _ _ _ => pg_name (i := 6) scCo.nd rfl (Or.inr rfl)) (fun _ _ _ _ _ => pts_nil)
          (fun _ _ _ _ _ => by exact pe_lc (own := [("_law_b", 7)]) (g := gName 7) (tt := tYes) (wi := iList K (tVar 2)) rfl scCo.nd (pi_list (pv 2)) (blkOk_by (N := NCo) (by rfl)) (fun _ _ _ _ _ => pg_name (i := 7) scCo.nd rfl (Or.inl rfl)) (fun _ _ _ _ _ => pts_nil) (fun _ _ _ _ _ => pe_callB (call_min2 rfl) (by rfl) T3.min Boot.«min» (pa_cons (pv 6) (pa_cons (pv 7) pa_nil))))) (pa_cons (pe_lst pa_nil) pa_nil)) rfl)
      (pss_cons (ps_for PassesOwn.never rfl (pi_list (pv 2)) (pg_name (i := 6) scCo.nd rfl (Or.inr rfl)) (pss_one (ps_expr (pe_bm PySem.F.plainAttrs_list PySem.F.slot_list_append PySem.F.type_list_append mt_append (pv 5) (pa_cons (pe_lc (own := [("_law_b", 7)]) (g := gName 7) (tt := tYes) (te := tIf (tTest (tOp (rI0 fun i j => .bl (decide (i > j))) (tCB rMax2 (tCons (tVar 6) (tCons (tVar 7) tNil))) (tVar 0))) (tOp (rI0 fun i j => .int (i + j)) (tVar 0) (tC (.int 1))) (tCB rMin2 (tCons (tOp (rI0 fun i j => .int (i + j)) (tVar 6) (tVar 7)) (tCons (tVar 3) tNil)))) rfl scCo.nd (pi_list (pv 2)) (blkOk_by (N := NCo) (sc := defScope sCo) (by decide +kernel)) (fun _ _ _ _ _ => pg_name (i := 7) scCo.nd rfl (Or.inl rfl)) (fun _ _ _ _ _ => pts_nil)
          (fun _ _ _ _ _ => by exact pe_ifExp (pt_cmpR op_gt (pe_callB (call_max2 rfl) (by rfl) T3.max Boot.«max» (pa_cons (pv 6) (pa_cons (pv 7) pa_nil))) (pv 0) (nomark _)) (pe_op op_add (pv 0) pe_int) (pe_callB (call_min2 rfl) (by rfl) T3.min Boot.«min» (pa_cons (pe_op op_add (pv 6) (pv 7)) (pa_cons (pv 3) pa_nil))))) pa_nil)))))
      (pss_one (ps_ret (pe_tup (pa_cons (pv 4) (pa_cons (pv 5) (pa_cons (pe_op op_add (pv 0) pe_int) (pa_cons pe_int pa_nil)))))))))), ?_⟩
    have ev2 : ∀ (σ : L2.St) (H1 : Hp), σ[0]? = some (some (.int (t : Int))) → Ev (tOp (rI0 fun i j => .int (i + j)) (tVar 0) (tC (.int 1))) σ H1 (.int ((t : Int) + 1)) := fun σ H1 h => ev_op (ev_var h) ev_c rv_I0
    refine q_tup2L (K := K) (el_rg (n := t + 2) (ev_is (ev_op (ev_var rfl) ev_c rv_I0) (by simp)) (by omega)) (ev_if (v := .int (if b then (t : Int) else (t : Int) + 1)) (b := b) (et_B (ev_var rfl)) (fun hb => ev_is (ev_var rfl) (by simp [hb])) (fun hb => ev_is (ev2 _ _ rfl) (by simp [hb]))) fun le H1 n1 e1 h1 => ?_
    refine q_par2 (K := K) (es := (List.range (t + 2)).map fun a => .list ((List.range (t + 2)).map fun b => .int ((min a b : Nat) : Int))) (qd_map (g := fun i : Nat => V.int (i : Int)) (xs := List.range (t + 2)) (ev_var rfl) (sq_of h1) (by simp; omega) (fun x => rfl) fun a _ => qd_lst (qd_map (g := fun i : Nat => V.int (i : Int)) (xs := List.range (t + 2)) (ev_var rfl) (sq_of h1) (by simp; omega) (fun x => rfl) fun b _ => qd_ev (ev_is (ev_min2 (ev_var rfl) (ev_var rfl)) (by congr 1; (split <;> omega))) (.int _))) fun pj lp H2 H3 e2 nlp e23 dj h3 => ?_
    have le2 := e2 _ _ h1
    have lel : le ≠ lp := ne_of_none le2 nlp
    have le3 := e23 _ _ le2
    refine q_forLn (ev_var rfl) (sq_of le3) (fun i σ' H' => ∃ acc x6, σ' = [some (.int (t : Int)), some (.bl b), some (.ref le), some (.int (if b then (t : Int) else (t : Int) + 1)), some (.ref pj), some (.ref lp), x6, none] ∧ But lp H3 H' ∧ H' lp = some (.lst acc) ∧ acc.length = i ∧
        ∀ n, n < i → ∃ p, acc[n]? = some (.ref p) ∧ p ≠ lp ∧ H' p = some (.lst ((List.range (t + 2)).map fun c => V.int (costP t b n c))))
      (fun H4 e4 => ⟨[], _, rfl, But.of e4, e4 _ _ h3, rfl, fun n h => absurd h (Nat.not_lt_zero _)⟩) (fun i σ' H' _ ⟨_, _, _, b4, _⟩ => sq_of (b4 _ _ lel le3)) ?_ ?_
    · rintro i v σ' H4 hv ⟨acc, x6, rfl, b4, h4, al, ha⟩
      have hi : i < t + 2 := by
        have := (List.getElem?_eq_some_iff.mp hv).1
        simpa using this
      have hv2 : v = .int (i : Int) := by
        rw [List.getElem?_map, List.getElem?_range hi] at hv
        exact (Option.some.inj hv).symm
      subst hv2
      refine s_appL (ys := (List.range (t + 2)).map fun c => V.int (costP t b i c)) h4 (ev_var rfl) (el_map (d := 0) (g := fun c : Nat => V.int (c : Int)) (f := fun c => V.int (costP t b i c)) (ev_var rfl) (sq_of (b4 _ _ lel le3)) (by simp; omega) (fun x => rfl) (fun c H5 e5 hc =>
        ev_if (b := decide (max i c > t)) (et_is (et_test (ev_op (ev_max2 (ev_var rfl) (ev_var rfl)) (ev_var rfl) rv_I0)) (by congr 1; simp only [eq_iff_iff]; split <;> omega)) (fun hb => ev_is (ev2 _ _ rfl) (by
          have := of_decide_eq_true hb
          unfold costP
          rw [if_pos this])) (fun hb => ev_is (ev_min2 (ev_op (ev_var rfl) (ev_var rfl) rv_I0) (ev_var rfl)) (by
          have := of_decide_eq_false hb
          unfold costP
          rw [if_neg this]
          congr 1
          omega)))) (by omega) fun p H5 n5 e5 h5 => ?_
      have pl : p ≠ lp := fun z => by
        rw [z, h4] at n5
        cases n5
      refine ⟨acc ++ [.ref p], _, rfl, (b4.trans (But.of e5)).trans But.upd, upd_same, by simp [al], fun n hn => ?_⟩
      by_cases hni : n < i
      · obtain ⟨r, q1, q2, q3⟩ := ha n hni
        exact ⟨r, by rw [List.getElem?_append_left (by omega)]; exact q1, q2, by rw [upd_ne q2]; exact e5 _ _ q3⟩
      · have e : n = i := by omega
        subst e
        exact ⟨p, by rw [List.getElem?_append_right (by omega), al]; simp, pl, by rw [upd_ne pl]; exact h5⟩
    · rintro σ' H4 ⟨acc, x6, rfl, b4, h4, al, ha⟩
      rw [List.length_map, List.length_range] at al
      have dj4 : Dp K H4 (.ref pj) (tabI (fun a b => (min a b : Nat)) (t + 2)) := dp_ext (b4.ex e23 nlp) dj
      have dp4 : Dp K H4 (.ref lp) (tabI (costP t b) (t + 2)) := .lst (sq_of h4) (dpa_of (by simp [al]) fun n v d hv hd => by
        have hn : n < t + 2 := by
          rw [← al]
          exact (List.getElem?_eq_some_iff.mp hv).1
        obtain ⟨p, q1, q2, q3⟩ := ha n (by rw [List.length_map, List.length_range]; exact hn)
        rw [q1] at hv
        obtain rfl := Option.some.inj hv
        rw [List.getElem?_map, List.getElem?_range hn] at hd
        obtain rfl := Option.some.inj hd
        exact .lst (sq_of q3) (dpa_map (fun c => .int _) _))
      have e03 := (e1.trans e2).trans e23
      exact s_retQ (K := K) (d := costD t b) (qd_tupN (qa_cons (qd_ev (ev_var rfl) dj4) (qa_cons (qd_ev (ev_var rfl) dp4) (qa_cons (qd_ev (ev2 _ _ rfl) (.int _)) (qa_cons qd_i qa_nil)))) (by simp)) fun v H5 e5 dv => q v H5 (fun c o z => e5 c o (b4 c o (ne_of_none z (fresh_back (e1.trans e2) nlp)) (e03 c o z))) dv
end
end K03

set_option Elab.async false
set_option linter.all false
set_option maxRecDepth 100000
set_option maxHeartbeats 8000000
/-! S28: _law_sets. -/
namespace S
open PySem PySem.Spec PyProof.Rows L2 Evl J ClX StX
section
variable {K : PySem.W.Frag} {σ : L2.St} {H : Hp} {te ta : TE} {tr : TA} {t : TT} {vs : List Nat} {j : Nat}
theorem given_filter {α : Type} {f : α → V} {d : α} {xs : List α} {pr : α → Bool} : given xs.length (fun i => pr (xs.getD i d)) (fun i => f (xs.getD i d)) = (xs.filter pr).map f := by
  unfold given
  have e1 : (List.range xs.length).map (fun i => xs.getD i d) = xs := by
    have := range_items (fun x : α => x) d xs
    simpa using this
  have e2 : ((List.range xs.length).filter fun i => pr (xs.getD i d)).map (fun i => xs.getD i d) = xs.filter pr := by
    conv => rhs; rw [← e1]
    rw [List.filter_map]
    rfl
  rw [← e2, List.map_map]
  rfl
/-- [x for x in (a, b, ..) if p(x)] -/
theorem el_filterU {α : Type} {g f : α → V} {d : α} {xs : List α} {pr : α → Bool} (h : EvA tr σ H (xs.map g)) (hz : xs.length ≤ 1000) (hw : ∀ x, wipe ((wipe σ vs).set j (some x)) vs = wipe σ vs)
    (ht : ∀ x H1, Ex H H1 → x ∈ xs → EvT t ((wipe σ vs).set j (some (g x))) H1 (pr x)) (he : ∀ x H1, Ex H H1 → x ∈ xs → pr x = true → Ev te ((wipe σ vs).set j (some (g x))) H1 (f x)) : EvL (tLc (iTup K (tTup tr)) (gName j) t te vs) σ H ((xs.filter pr).map f) := by
  have at_ : ∀ i x, (xs.map g)[i]? = some x → ∃ y, xs[i]? = some y ∧ x = g y := fun i x hi => by
    rw [List.getElem?_map] at hi
    cases hg : xs[i]? with
    | none =>
      rw [hg] at hi
      cases hi
    | some y =>
      rw [hg] at hi
      exact ⟨y, hg, (Option.some.inj hi).symm⟩
  have gd : ∀ i y, xs[i]? = some y → xs.getD i d = y := fun i y h => by rw [List.getD_eq_getElem?_getD, h]; rfl
  rw [← given_filter (d := d)]
  intro H0 e Q q
  refine h H0 e _ fun H1 e1 => ⟨sz_of (by simpa using Nat.le_trans hz (by omega)), fun tp htp => ⟨tp, rfl, ⟨_, st_of upd_same⟩, fun Dl hD => ?_⟩⟩
  have e2 : Ex H0 (upd H1 tp (.tup (xs.map g))) := e1.trans (Ex.new htp)
  refine lc_tup (xs := xs.map g) (Cw (upd H1 tp (.tup (xs.map g))) (fun i => pr (xs.getD i d)) (fun i => f (xs.getD i d)) Dl) ⟨hD, Ex.new hD, upd_same⟩ (fun i H' _ p => st_of (p.2.1 tp _ upd_same)) (fun i x H' hi p => ⟨hw x, ?_⟩) (fun H' p => ?_)
  · obtain ⟨y, hy, rfl⟩ := at_ i x hi
    have m := List.mem_of_getElem? hy
    refine cw_turn p (by have := (List.getElem?_eq_some_iff.mp hy).1; omega) (by rw [gd i y hy]; exact ht y _ (e.trans e2) m) (fun hf => by rw [gd i y hy] at hf ⊢; exact he y _ (e.trans e2) m hf)
  · rw [List.length_map] at p
    exact q Dl H' (fresh_back e2 p.1) (e2.trans p.2.1) p.2.2
theorem ev_sum {tl : TE} {ns : List Int} (h : EvL tl σ H (ns.map V.int)) : Ev (tCB (rSum K) (tCons tl tNil)) σ H (.int ns.sum) := fun H1 e Q q =>
  h H1 e (fun v H' => rSum K [v] H' Q) fun p H2 n2 e2 h2 => ⟨p, ns, rfl, sq_of h2, q H2 e2⟩
end
end S

set_option Elab.async false
set_option linter.all false
set_option maxRecDepth 100000
set_option maxHeartbeats 8000000
/-! S29: _law_sets. -/
namespace K03
open PySem PySem.Spec PyProof.Rows L2 Evl J ClX StX S
abbrev sSe : Stmt := topS 46
def bitB (k a : Int) : Bool := decide (a / k % 2 = 1)
def landI (a b : Nat) : Int := ((([1, 2, 4] : List Int).filter fun k => bitB k a && bitB k b).map id).sum
def setD (n : Nat) : PyData := .tuple [tabI (fun a b => (a : Int) + b - landI a b) n, tabI landI n, .int 0, .int ((n : Int) - 1)]
def sizeOf : Nat → Nat
  | 0 => 1
  | 1 => 2
  | 2 => 4
  | _ => 8
def spSe (K : PySem.W.Frag) : Sp := fun vs H Q _ => ∃ m : Nat, vs = [.int (m : Int)] ∧ m ≤ 3 ∧ ∀ v H', Ex H H' → Dp K H' v (setD (sizeOf m)) → Q v H'
section
variable {P : Program} {w : World} {K : PySem.W.Frag} {mg : Str → Option Value} {base : Heap} {f : Addr} {fd : FuncData}
abbrev NSe : List Str := ["_law_many", "_law_every", "_law_joins", "_law_products", "_law_a", "_law_row", "_law_b", "_law_k"]
theorem scSe : FnScope NSe ["_law_many"] (defScope sSe) := ⟨rfl, rfl, rfl, by decide +kernel, rfl, by decide +kernel, by decide +kernel⟩
abbrev rBit (K : PySem.W.Frag) (i : Nat) : TT := tTest (tOp rEq (tOp (rI (fun _ j => 0 < j) fun i j => .int (i % j)) (tCB (fun xs H Q => (∃ i, xs = [.int i] ∧ Q (.int i) H) ∨ ∃ k, xs = [.bl k] ∧ Q (.int (if k then 1 else 0)) H) (tCons (tOp (rI CDiv fun i j => .int (i / j)) (tVar i) (tVar 7)) tNil)) (tC (.int 2))) (tC (.int 1)))
theorem et_bit {σ : L2.St} {H : Hp} {i : Nat} {a k : Int} (h1 : σ[i]? = some (some (.int a))) (h2 : σ[7]? = some (some (.int k))) (hk : 0 < k ∧ k < 1073741824) : EvT (rBit K i) σ H (bitB k a) :=
  et_is (et_test (ev_op (ev_op (ev_cb (ea_cons (ev_op (ev_var h1) (ev_var h2) (rv_I hk)) ea_nil) rc_int) ev_c (rv_I (by decide))) ev_c (rv_eq rfl))) (by simp [bitB])
theorem q_par3L {σ : L2.St} {H : Hp} {te : TE} {i j l : Nat} {xs : List V} {tz : TS} {D : Ends} (h1 : EvL te σ H xs) (k : ∀ le lj lp H1, Ex H H1 → H lj = none → H lp = none → lj ≠ lp → le ≠ lj → le ≠ lp → H1 le = some (.lst xs) → H1 lj = some (.lst []) → H1 lp = some (.lst []) → tz D (((σ.set i (some (.ref le))).set j (some (.ref lj))).set l (some (.ref lp))) H1) :
    tSeq (tPar3 i j l (tCons te (tCons (tLst tNil) (tCons (tLst tNil) tNil)))) tz D σ H :=
  h1 H (Ex.refl H) _ fun le H1 n1 e1 q1 => ⟨sz_of (by simp), fun lj hj => ⟨sz_of (by simp), fun lp hp => ⟨_, _, _, rfl, by
    have x1 : Ex H1 (upd H1 lj (.lst [])) := Ex.new hj
    have x2 : Ex (upd H1 lj (.lst [])) (upd (upd H1 lj (.lst [])) lp (.lst [])) := Ex.new hp
    have jp : lj ≠ lp := fun z => by
      rw [← z, upd_same] at hp
      cases hp
    exact k le lj lp _ ((e1.trans x1).trans x2) (fresh_back e1 hj) (fresh_back (e1.trans x1) hp) jp (ne_of_none q1 hj) (ne_of_none (x1 _ _ q1) hp) (x2 _ _ (x1 _ _ q1)) (by rw [upd_ne jp, upd_same]) upd_same⟩⟩⟩
theorem ok_se (F : FnP K "_law_sets" sSe f fd) (T : Bl mg) (T3 : Bl3 mg) : FnOk P w K mg base CX0 1 f fd ["_law_many"] (spSe K) := by
  refine F.ok scSe (fun vs H Q E h => ?_) (fun cdv A outer s H vs Q E hr h => ?_)
  · obtain ⟨m, rfl, _⟩ := h
    rfl
  · obtain ⟨m, rfl, hm, q⟩ := h
    refine ⟨_, PSs.nox (pss_cons (ps_par3 (i := 1) (j := 2) (l := 3) rfl scSe.nd rfl rfl rfl (by decide) (by decide) (by decide) rfl rfl rfl (pa_cons (pe_listRg rfl rfl T.lst (prg_1 rfl T.rng (pe_ix ix_list (pe_lst (pa_cons pe_int (pa_cons pe_int (pa_cons pe_int (pa_cons pe_int pa_nil))))) (pv 0) (fun _ _ => rfl)))) (pa_cons (pe_lst pa_nil) (pa_cons (pe_lst pa_nil) pa_nil))) rfl)
      (pss_cons (ps_for PassesOwn.never rfl (pi_list (pv 1)) (pg_name (i := 4) scSe.nd rfl (Or.inr rfl))
        (pss_cons (ps_set (i := 5) scSe.nd rfl (Or.inr rfl) (pe_lst pa_nil))
        (pss_cons (ps_for PassesOwn.never rfl (pi_list (pv 1)) (pg_name (i := 6) scSe.nd rfl (Or.inr rfl))
          (pss_one (ps_expr (pe_bm PySem.F.plainAttrs_list PySem.F.slot_list_append PySem.F.type_list_append mt_append (pv 5) (pa_cons (pe_callB (cr_sum rfl) (by rfl) T3.sum boot_sum (pa_cons
            (pe_lc (own := [("_law_k", 7)]) (g := gName 7) (tt := tAnd (rBit K 4) (rBit K 6)) (te := tVar 7) rfl scSe.nd (pi_tup (pe_tup (pa_cons pe_int (pa_cons pe_int (pa_cons pe_int pa_nil))))) (blkOk_by (N := NSe) (sc := defScope sSe) (by decide +kernel)) (fun _ _ _ _ _ => pg_name (i := 7) scSe.nd rfl (Or.inl rfl))
              (fun _ _ _ _ _ => by exact pts_one (PW.pt (pw_and (pt_cmpR op_eq (pe_op op_mod (pe_callTy call_int1 (by rfl) T.int Boot.«int» (pa_cons (pe_op op_fdiv (pv 4) (pv 7)) pa_nil)) pe_int) pe_int (nomark _)) (pw_and1 (pt_cmpR op_eq (pe_op op_mod (pe_callTy call_int1 (by rfl) T.int Boot.«int» (pa_cons (pe_op op_fdiv (pv 6) (pv 7)) pa_nil)) pe_int) pe_int (nomark _)))))) (fun _ _ _ _ _ => pv 7)) pa_nil)) pa_nil)))))
        (pss_cons (ps_expr (pe_bm PySem.F.plainAttrs_list PySem.F.slot_list_append PySem.F.type_list_append mt_append (pv 3) (pa_cons (pv 5) pa_nil)))
        (pss_one (ps_expr (pe_bm PySem.F.plainAttrs_list PySem.F.slot_list_append PySem.F.type_list_append mt_append (pv 2) (pa_cons
          (pe_lc (own := [("_law_b", 6)]) (g := gName 6) (tt := tYes) (te := tOp (rI0 fun i j => .int (i - j)) (tOp (rI0 fun i j => .int (i + j)) (tVar 4) (tVar 6)) (tOp (rIxL K) (tVar 5) (tVar 6))) rfl scSe.nd (pi_list (pv 1)) (blkOk_by (N := NSe) (sc := defScope sSe) (by decide +kernel)) (fun _ _ _ _ _ => pg_name (i := 6) scSe.nd rfl (Or.inl rfl)) (fun _ _ _ _ _ => pts_nil)
            (fun _ _ _ _ _ => by exact pe_op op_sub (pe_op op_add (pv 4) (pv 6)) (pe_ix ix_list (pv 5) (pv 6) (fun _ _ => rfl)))) pa_nil))))))))
      (pss_one (ps_ret (pe_tup (pa_cons (pv 2) (pa_cons (pv 3) (pa_cons pe_int (pa_cons (pe_op op_sub (pe_callB call_len_seq (by rfl) T.len boot_len (pa_cons (pv 1) pa_nil)) pe_int) pa_nil))))))))), ?_⟩
    have sz8 : sizeOf m ≤ 8 := by
      match m, hm with
      | 0, _ => decide
      | 1, _ => decide
      | 2, _ => decide
      | 3, _ => decide
    have rng := el_rg (σ := [some (.int (m : Int)), none, none, none, none, none, none, none]) (H := H) (te := tOp (rIxL K) (tLst (tCons (tC (.int 1)) (tCons (tC (.int 2)) (tCons (tC (.int 4)) (tCons (tC (.int 8)) tNil))))) (tVar 0)) (n := sizeOf m)
      (ev_opL1 (xs := [.int 1, .int 2, .int 4, .int 8]) (el_lst (ea_cons ev_c (ea_cons ev_c (ea_cons ev_c (ea_cons ev_c ea_nil)))) (by simp)) (fun H1 _ => ev_var rfl) (fun p H1 hp _ => rv_ixL (sq_of hp) (atI_nat (j := m) (by
        match m, hm with
        | 0, _ => rfl
        | 1, _ => rfl
        | 2, _ => rfl
        | 3, _ => rfl)))) (by omega)
    refine q_par3L rng fun le lj lp H3 e3 nj np jp ej ep h3 hj3 hp3 => ?_
    generalize hN : sizeOf m = N at *
    refine q_forLn (ev_var rfl) (sq_of h3) (fun i σ' H' => ∃ aj ap x4 x5 x6, σ' = [some (.int (m : Int)), some (.ref le), some (.ref lj), some (.ref lp), x4, x5, x6, none] ∧ (∀ b o, b ≠ lj → b ≠ lp → H3 b = some o → H' b = some o) ∧ H' lj = some (.lst aj) ∧ H' lp = some (.lst ap) ∧ aj.length = i ∧ ap.length = i ∧
        (∀ n, n < i → ∃ p, aj[n]? = some (.ref p) ∧ p ≠ lj ∧ p ≠ lp ∧ H' p = some (.lst ((List.range N).map fun c => V.int ((n : Int) + c - landI n c)))) ∧ (∀ n, n < i → ∃ p, ap[n]? = some (.ref p) ∧ p ≠ lj ∧ p ≠ lp ∧ H' p = some (.lst ((List.range N).map fun c => V.int (landI n c)))))
      (fun H4 e4 => ⟨[], [], _, _, _, rfl, fun b o _ _ z => e4 _ _ z, e4 _ _ hj3, e4 _ _ hp3, rfl, rfl, fun n h => absurd h (Nat.not_lt_zero _), fun n h => absurd h (Nat.not_lt_zero _)⟩) (fun i σ' H' _ ⟨_, _, _, _, _, _, b4, _⟩ => sq_of (b4 _ _ ej ep h3)) ?_ ?_
    · rintro i v σ' H4 hv ⟨aj, ap, x4, x5, x6, rfl, b4, h4j, h4p, lj4, lp4, rj, rp⟩
      have hi : i < N := by
        have := (List.getElem?_eq_some_iff.mp hv).1
        simpa using this
      have hv2 : v = .int (i : Int) := by
        rw [List.getElem?_map, List.getElem?_range hi] at hv
        exact (Option.some.inj hv).symm
      subst hv2
      have le4 := b4 _ _ ej ep h3
      refine q_asgL (el_lst ea_nil (by simp)) fun r H5 n5 e5 h5 => ?_
      have rlj : r ≠ lj := fun z => by
        rw [z, h4j] at n5
        cases n5
      have rlp : r ≠ lp := fun z => by
        rw [z, h4p] at n5
        cases n5
      have rle : le ≠ r := ne_of_none le4 n5
      have le5 := e5 _ _ le4
      refine q_forLn (ev_var rfl) (sq_of le5) (fun n σ' H' => ∃ x6, σ' = [some (.int (m : Int)), some (.ref le), some (.ref lj), some (.ref lp), some (.int (i : Int)), some (.ref r), x6, none] ∧ But r H5 H' ∧ H' r = some (.lst ((List.range n).map fun c => V.int (landI i c))))
        (fun H6 e6 => ⟨_, rfl, But.of e6, by simpa using e6 _ _ h5⟩) (fun n σ' H' _ ⟨_, _, b6, _⟩ => sq_of (b6 _ _ rle le5)) ?_ ?_
      · rintro n v σ' H6 hv ⟨y6, rfl, b6, h6⟩
        have hn : n < N := by
          have := (List.getElem?_eq_some_iff.mp hv).1
          simpa using this
        have hv2 : v = .int (n : Int) := by
          rw [List.getElem?_map, List.getElem?_range hn] at hv
          exact (Option.some.inj hv).symm
        subst hv2
        refine s_app (v := .int (landI i n)) h6 (ev_var rfl) (ev_sum (K := K) (ns := (([1, 2, 4] : List Int).filter fun k => bitB k i && bitB k n).map id) (by
          rw [List.map_map]
          exact el_filterU (d := 0) (g := V.int) (f := V.int ∘ id) (xs := [1, 2, 4]) (pr := fun k => bitB k i && bitB k n) (ea_cons ev_c (ea_cons ev_c (ea_cons ev_c ea_nil))) (by simp) (fun x => rfl) (fun k H7 e7 hk => by
            have kb : 0 < k ∧ k < 1073741824 := by
              simp only [List.mem_cons, List.not_mem_nil, or_false] at hk
              omega
            exact et_and (et_bit rfl rfl kb) fun _ => et_bit rfl rfl kb) (fun k H7 e7 hk _ => ev_var rfl))) (by simp; omega) fun H7 e7 => ⟨_, rfl, (b6.trans (But.of e7)).trans But.upd, ?_⟩
        rw [upd_same, List.range_succ, List.map_append]
        rfl
      · rintro σ' H6 ⟨y6, rfl, b6, h6⟩
        rw [List.length_map, List.length_range] at h6
        have j6 : H6 lj = some (.lst aj) := b6 _ _ (Ne.symm rlj) (e5 _ _ h4j)
        have p6 : H6 lp = some (.lst ap) := b6 _ _ (Ne.symm rlp) (e5 _ _ h4p)
        refine q_app (v := .ref r) p6 (ev_var rfl) (ev_var rfl) (by omega) fun H7 e7 => ?_
        have j7 : (upd H7 lp (.lst (ap ++ [.ref r]))) lj = some (.lst aj) := by rw [upd_ne jp]; exact e7 _ _ j6
        have r7 : (upd H7 lp (.lst (ap ++ [.ref r]))) r = some (.lst ((List.range N).map fun c => V.int (landI i c))) := by rw [upd_ne rlp]; exact e7 _ _ h6
        have le7 : (upd H7 lp (.lst (ap ++ [.ref r]))) le = some (.lst ((List.range N).map fun i : Nat => V.int (i : Int))) := by rw [upd_ne ep]; exact e7 _ _ (b6 _ _ rle le5)
        have p7 : (upd H7 lp (.lst (ap ++ [.ref r]))) lp = some (.lst (ap ++ [.ref r])) := upd_same
        have o7 : ∀ b o, b ≠ lp → b ≠ r → H5 b = some o → (upd H7 lp (.lst (ap ++ [.ref r]))) b = some o := fun b o hb hbr z => by rw [upd_ne hb]; exact e7 _ _ (b6 _ _ hbr z)
        generalize upd H7 lp (.lst (ap ++ [.ref r])) = H8 at j7 r7 le7 p7 o7 ⊢
        refine s_appL (ys := (List.range N).map fun c => V.int ((i : Int) + c - landI i c)) j7 (ev_var rfl) (el_map (d := 0) (g := fun c : Nat => V.int (c : Int)) (f := fun c => V.int ((i : Int) + c - landI i c)) (ev_var rfl) (sq_of le7) (by simp; omega) (fun x => rfl) (fun c H9 e9 hc =>
          ev_op (ev_op (ev_var rfl) (ev_var rfl) rv_I0) (ev_op (ev_var rfl) (ev_var rfl) (rv_ixL (sq_of (e9 _ _ r7)) (atI_nat (by rw [List.getElem?_map, List.getElem?_range (List.mem_range.mp hc)]; rfl)))) rv_I0)) (by omega) fun p H9 n9 e9 h9 => ?_
        have plj : p ≠ lj := fun z => by
          rw [z, j7] at n9
          cases n9
        have plp : p ≠ lp := fun z => by
          rw [z, p7] at n9
          cases n9
        have fin : ∀ b o, b ≠ lj → b ≠ lp → b ≠ r → H4 b = some o → (upd H9 lj (.lst (aj ++ [.ref p]))) b = some o := fun b o h1 h2 h3 z => by
          rw [upd_ne h1]
          exact e9 _ _ (o7 _ _ h2 h3 (e5 _ _ z))
        refine ⟨aj ++ [.ref p], ap ++ [.ref r], _, _, _, rfl, fun b o h1 h2 z => fin b o h1 h2 (ne_of_none (b4 _ _ h1 h2 z) n5) (b4 _ _ h1 h2 z), upd_same, by rw [upd_ne (Ne.symm jp)]; exact e9 _ _ p7, by simp [lj4], by simp [lp4], fun n hn => ?_, fun n hn => ?_⟩
        · by_cases hni : n < i
          · obtain ⟨t, q1, q2, q3, q4⟩ := rj n hni
            exact ⟨t, by rw [List.getElem?_append_left (by omega)]; exact q1, q2, q3, fin t _ q2 q3 (ne_of_none q4 n5) q4⟩
          · have e : n = i := by omega
            subst e
            exact ⟨p, by rw [List.getElem?_append_right (by omega), lj4]; simp, plj, plp, by rw [upd_ne plj]; exact h9⟩
        · by_cases hni : n < i
          · obtain ⟨t, q1, q2, q3, q4⟩ := rp n hni
            exact ⟨t, by rw [List.getElem?_append_left (by omega)]; exact q1, q2, q3, fin t _ q2 q3 (ne_of_none q4 n5) q4⟩
          · have e : n = i := by omega
            subst e
            exact ⟨r, by rw [List.getElem?_append_right (by omega), lp4]; simp, rlj, rlp, by rw [upd_ne rlj]; exact e9 _ _ r7⟩
    · rintro σ' H4 ⟨aj, ap, x4, x5, x6, rfl, b4, h4j, h4p, lj4, lp4, rj, rp⟩
      rw [List.length_map, List.length_range] at lj4 lp4 rj rp
      have tabOf : ∀ (l : Addr) (acc : List V) (F : Nat → Nat → Int), H4 l = some (.lst acc) → acc.length = N → (∀ n, n < N → ∃ p, acc[n]? = some (.ref p) ∧ p ≠ lj ∧ p ≠ lp ∧ H4 p = some (.lst ((List.range N).map fun c => V.int (F n c)))) → Dp K H4 (.ref l) (tabI F N) := fun l acc F hl al ha =>
        .lst (sq_of hl) (dpa_of (by simp [al]) fun n v d hv hd => by
          have hn : n < N := by
            rw [← al]
            exact (List.getElem?_eq_some_iff.mp hv).1
          obtain ⟨p, q1, _, _, q3⟩ := ha n hn
          rw [q1] at hv
          obtain rfl := Option.some.inj hv
          rw [List.getElem?_map, List.getElem?_range hn] at hd
          obtain rfl := Option.some.inj hd
          exact .lst (sq_of q3) (dpa_map (fun c => .int _) _))
      have le4 := b4 _ _ ej ep h3
      refine s_retQ (K := K) (d := setD N) (qd_tupN (qa_cons (qd_ev (ev_var rfl) (tabOf lj aj _ h4j lj4 rj)) (qa_cons (qd_ev (ev_var rfl) (tabOf lp ap _ h4p lp4 rp)) (qa_cons qd_i (qa_cons (qd_ev (ev_is (ev_op (ev_lenS (ev_var rfl) (.inl (sq_of le4))) ev_c rv_I0) (by simp)) (.int _)) qa_nil)))) (by simp)) fun v H5 e5 dv => q v H5 (fun c o z => e5 c o (b4 c o (ne_of_none z nj) (ne_of_none z np) (e3 c o z))) dv
end
end K03

set_option Elab.async false
set_option linter.all false
set_option maxRecDepth 100000
set_option maxHeartbeats 8000000
/-! S30: _law_places. -/
namespace S
open PySem PySem.Spec PyProof.Rows L2 Evl J ClX StX
/-- not a pen's own list: a container and two numbers -/
def isPen : List PyData → Bool
  | [.list _, .int _, .int _] => true
  | [.tuple _, .int _, .int _] => true
  | [.dict _, .int _, .int _] => true
  | _ => false
mutual
def noP : PyData → Bool
  | .list ds => !isPen ds && noPs ds
  | .tuple ds => noPs ds
  | _ => true
def noPs : List PyData → Bool
  | [] => true
  | d :: r => noP d && noPs r
end
section
variable {K : PySem.W.Frag} {H : Hp} {p c : Addr} {i v : Int}
theorem sql_dlP {a : Addr} {xs : List V} (hp : H p = some (.lst [.ref c, .int i, .int v])) (hx : xs ≠ [.ref c, .int i, .int v]) (h : SqL K H a xs) : SqL K (dl p H) a xs := by
  rcases h with (h | ⟨o, h⟩) | h
  · have ne : a ≠ p := fun z => by
      rw [z, hp] at h
      cases h
      exact hx rfl
    exact .inl (.inl (by rw [dl_ne ne]; exact h))
  · have ne : a ≠ p := fun z => by
      rw [z, hp] at h
      cases h
    exact .inl (.inr ⟨o, by rw [dl_ne ne]; exact h⟩)
  · exact .inr h
theorem sqt_dlP {a : Addr} {xs : List V} (hp : H p = some (.lst [.ref c, .int i, .int v])) (h : SqT K H a xs) : SqT K (dl p H) a xs := by
  rcases h with (h | ⟨o, h⟩) | h
  · have ne : a ≠ p := fun z => by
      rw [z, hp] at h
      cases h
    exact .inl (.inl (by rw [dl_ne ne]; exact h))
  · have ne : a ≠ p := fun z => by
      rw [z, hp] at h
      cases h
    exact .inl (.inr ⟨o, by rw [dl_ne ne]; exact h⟩)
  · exact .inr h
mutual
theorem dp_dlP (hp : H p = some (.lst [.ref c, .int i, .int v])) : ∀ {u : V} {d : PyData}, Dp K H u d → noP d = true → Dp K (dl p H) u d
  | _, _, .non, _ => .non
  | _, _, .bl b, _ => .bl b
  | _, _, .int i, _ => .int i
  | _, _, .str x, _ => .str x
  | _, .list ds, .lst (xs := xs) h r, n => by
    have n2 : (!isPen ds && noPs ds) = true := n
    obtain ⟨n3, n4⟩ := Bool.and_eq_true_iff.mp n2
    refine .lst (sql_dlP hp (fun z => ?_) h) (dpa_dlP hp r n4)
    subst z
    cases r with
    | cons r1 r =>
      cases r with
      | cons r2 r =>
        cases r with
        | cons r3 r =>
          cases r
          cases r2
          cases r3
          cases r1 <;> simp [isPen] at n3
  | _, .tuple ds, .tup h r, n => .tup (sqt_dlP hp h) (dpa_dlP hp r (show noPs ds = true from n))
theorem dpa_dlP (hp : H p = some (.lst [.ref c, .int i, .int v])) : ∀ {us : List V} {ds : List PyData}, DpAll K H us ds → noPs ds = true → DpAll K (dl p H) us ds
  | _, _, .nil, _ => .nil
  | _, d :: ds, .cons h r, n => by
    have n2 : (noP d && noPs ds) = true := n
    obtain ⟨n3, n4⟩ := Bool.and_eq_true_iff.mp n2
    exact .cons (dp_dlP hp h n3) (dpa_dlP hp r n4)
end
end
theorem noPs_map {α : Type} {f : α → PyData} : ∀ {xs : List α}, (∀ x, noP (f x) = true) → noPs (xs.map f) = true
  | [], _ => rfl
  | x :: r, h => by
    show (noP (f x) && noPs (r.map f)) = true
    rw [h x, noPs_map h]
    rfl
theorem pen_ints {α : Type} {f : α → Int} : ∀ {xs : List α}, isPen (xs.map fun x => .int (f x)) = false
  | [] => rfl
  | [_] => rfl
  | [_, _] => rfl
  | [_, _, _] => rfl
  | _ :: _ :: _ :: _ :: _ => rfl
theorem pen_lists {α : Type} {f : α → List PyData} : ∀ {xs : List α}, isPen (xs.map fun x => .list (f x)) = false
  | [] => rfl
  | [_] => rfl
  | [_, _] => rfl
  | [_, _, _] => rfl
  | _ :: _ :: _ :: _ :: _ => rfl
theorem noP_ints {α : Type} {f : α → Int} {xs : List α} : noP (.list (xs.map fun x => .int (f x))) = true := by
  show (!isPen _ && noPs _) = true
  rw [pen_ints, noPs_map fun x => rfl]
  rfl
theorem noP_tab {F : Nat → Nat → Int} {n : Nat} : noP (K03.tabI F n) = true := by
  show (!isPen _ && noPs _) = true
  rw [pen_lists, noPs_map fun x => noP_ints]
  rfl
end S
namespace K03
open PySem PySem.Spec PyProof.Rows L2 Evl J ClX StX S
abbrev sPl : Stmt := topS 48
def levD (t : Nat) : PyData := .tuple [tabI (fun a b => (max a b : Nat)) (t + 1), tabI (fun a b => (min a b : Nat)) (t + 1), .int 0, .int (t : Int)]
/-- the families of places -/
inductive Fam (most : Nat) : PyData → Prop
  | odd (k : Nat) : k ≤ 2 → Fam most (oddD k)
  | cost (t : Nat) (b : Bool) : t + 2 ≤ most → Fam most (costD t b)
  | lev (t : Nat) : 1 ≤ t → t + 1 ≤ most → Fam most (levD t)
  | sets (m : Nat) : 1 ≤ m → m ≤ 2 → Fam most (setD (sizeOf m))
theorem Fam.noP {most : Nat} {d : PyData} (h : Fam most d) : noP d = true := by
  have tup : ∀ (a b : PyData) (i j : Int), S.noP a = true → S.noP b = true → S.noP (.tuple [a, b, .int i, .int j]) = true := fun a b i j h1 h2 => by
    show (S.noP a && (S.noP b && (S.noP (.int i) && (S.noP (.int j) && true)))) = true
    rw [h1, h2]
    rfl
  cases h with
  | odd k hk =>
    match k, hk with
    | 0, _ => decide +kernel
    | 1, _ => exact tup _ _ _ _ noP_tab (by decide +kernel)
    | 2, _ => decide +kernel
  | cost t b _ => exact tup _ _ _ _ noP_tab noP_tab
  | lev t _ _ => exact tup _ _ _ _ noP_tab noP_tab
  | sets m _ _ => exact tup _ _ _ _ noP_tab noP_tab
end K03

set_option Elab.async false
set_option linter.all false
set_option maxRecDepth 100000
set_option maxHeartbeats 8000000
/-! S31: _law_places. -/
namespace K03
open PySem PySem.Spec PyProof.Rows L2 Evl J ClX StX S
def spPl (K : PySem.W.Frag) : Sp := fun vs H Q _ => ∃ (p c : Addr) (m most : Nat), vs = [.ref p, .int (most : Int)] ∧ PenC H p c m ∧ 3 ≤ most ∧ most ≤ 7 ∧ m ≤ 900000 ∧ ∀ v H' d, But p H H' → PenC H' p c (m + 2) → Dp K (dl p H') v d → Fam most d → Q v H'
section
variable {P : Program} {w : World} {K : PySem.W.Frag} {mg : Str → Option Value} {base : Heap} {f : Addr} {fd : FuncData}
abbrev NPl : List Str := ["_law_pen_here", "_law_most", "_law_road"]
theorem scPl : FnScope NPl ["_law_pen_here", "_law_most"] (defScope sPl) := ⟨rfl, rfl, rfl, by decide +kernel, rfl, by decide +kernel, by decide +kernel⟩
theorem pen_dl {H : Hp} {p c : Addr} {m : Nat} {v : V} {d : PyData} (h : PenC H p c m) (dp : Dp K H v d) (n : noP d = true) : Dp K (dl p H) v d := by
  obtain ⟨ns, i, x, h1, _⟩ := h
  exact dp_dlP h1 dp n
theorem ok_pl (F : FnP K "_law_places" sPl f fd) (cD : Cal P w K mg base CX0 2 "_law_draw" ["_law_pen_here", "_law_under"] spDrawC) (cO : Cal P w K mg base CX0 1 "_law_odd" ["_law_k"] (spOd K)) (cC : Cal P w K mg base CX0 1 "_law_costs" ["_law_top", "_law_stops"] (spCo K)) (cL : Cal P w K mg base CX0 1 "_law_levels" ["_law_top"] (spLv K)) (cS : Cal P w K mg base CX0 1 "_law_sets" ["_law_many"] (spSe K)) :
    FnOk P w K mg base CX0 3 f fd ["_law_pen_here", "_law_most"] (spPl K) := by
  refine F.ok scPl (fun vs H Q E h => ?_) (fun cdv A outer s H vs Q E hr h => ?_)
  · obtain ⟨p, c, m, most, rfl, _⟩ := h
    rfl
  · obtain ⟨p, c, m, most, rfl, hp, hm3, hm7, hm, q⟩ := h
    have hr1 : Room 1 (A.deeper (envOfC "_law_places" (defScope sPl) s.heap.objs.size f cdv)) := hr.mono (by decide)
    refine ⟨_, pss_cons (ps_set (i := 2) scPl.nd rfl (Or.inl rfl) (pe_cal cD hr rfl pass0 (pa_cons (pv 0) (pa_cons pe_int pa_nil))))
      (pss_cons (ps_if (pt_cmpR op_lt (pv 2) pe_int (nomark _)) (pss_one (ps_ret (pe_cal cO hr1 rfl pass0 (pa_cons (pe_cal cD hr rfl pass0 (pa_cons (pv 0) (pa_cons pe_int pa_nil))) pa_nil)))) pss_nil)
      (pss_cons (ps_if (pt_cmpR op_lt (pv 2) pe_int (nomark _)) (pss_one (ps_ret (pe_cal cC hr1 rfl pass0 (pa_cons (pe_cal cD hr rfl pass0 (pa_cons (pv 0) (pa_cons (pe_op op_sub (pv 1) pe_int) pa_nil))) (pa_cons (pe_cmpR op_eq (pv 2) pe_int (nomark _)) pa_nil))))) pss_nil)
      (pss_cons (ps_if (pt_cmpR op_lt (pv 2) pe_int (nomark _)) (pss_one (ps_ret (pe_cal cL hr1 rfl pass0 (pa_cons (pe_op op_add pe_int (pe_cal cD hr rfl pass0 (pa_cons (pv 0) (pa_cons (pe_op op_sub (pv 1) pe_int) pa_nil)))) pa_nil)))) pss_nil)
      (pss_one (ps_ret (pe_cal cS hr1 rfl pass0 (pa_cons (pe_op op_add pe_int (pe_cal cD hr rfl pass0 (pa_cons (pv 0) (pa_cons (pe_ifExp (pt_cmpR op_lt (pv 1) pe_int (nomark _)) pe_int pe_int) pa_nil)))) pa_nil))))))), ?_⟩
    refine ⟨_, rfl, p, c, 8, m, rfl, by decide, by decide, hp, by omega, fun r H1 b1 p1 r0 r8 => ?_⟩
    have dn : ∀ (H2 : Hp) (k : Nat), Ex H1 H2 → PenC H2 p c (m + 1) := fun H2 k e => p1.ext e
    have fin : ∀ (H2 H3 H4 : Hp) (v : V) (d : PyData), Ex H1 H2 → But p H2 H3 → PenC H3 p c (m + 1 + 1) → Ex H3 H4 → Dp K H4 v d → Fam most d → Q v H4 := fun H2 H3 H4 v d e12 b23 p3 e34 dv fm =>
      q v H4 d (((b1.trans (But.of e12)).trans b23).trans (But.of e34)) (p3.ext e34) (pen_dl (p3.ext e34) dv fm.noP) fm
    refine q_when (b := decide (r < 2)) (et_test (ev_op (ev_var rfl) ev_c rv_I0)) (fun hb H2 e2 => ?_) (fun hb H2 e2 => ?_)
    · refine ⟨_, rfl, p, c, 3, m + 1, rfl, by decide, by decide, p1.ext e2, by omega, fun k H3 b3 p3 k0 k1 => ?_⟩
      obtain ⟨n, rfl⟩ : ∃ n : Nat, k = (n : Int) := ⟨k.toNat, by omega⟩
      exact ⟨n, rfl, by omega, fun v H4 e4 dv => fin H2 H3 H4 v _ e2 b3 p3 e4 dv (.odd n (by omega))⟩
    refine q_when (b := decide (r < 4)) (et_test (ev_op (ev_var rfl) ev_c rv_I0)) (fun hb H3 e3 => ?_) (fun hb H3 e3 => ?_)
    · refine ⟨_, rfl, _, rfl, _, _, rfl, rfl, p, c, (most : Int) - 1, m + 1, rfl, by omega, by omega, p1.ext (e2.trans e3), by omega, fun k H4 b4 p4 k0 k1 => ?_⟩
      obtain ⟨n, rfl⟩ : ∃ n : Nat, k = (n : Int) := ⟨k.toNat, by omega⟩
      exact ⟨_, rfl, rfl, n, _, rfl, by omega, fun v H5 e5 dv => fin H3 H4 H5 v _ (e2.trans e3) b4 p4 e5 dv (.cost n _ (by omega))⟩
    refine q_when (b := decide (r < 6)) (et_test (ev_op (ev_var rfl) ev_c rv_I0)) (fun hb H4 e4 => ?_) (fun hb H4 e4 => ?_)
    · refine ⟨_, rfl, _, rfl, _, _, rfl, rfl, p, c, (most : Int) - 1, m + 1, rfl, by omega, by omega, p1.ext ((e2.trans e3).trans e4), by omega, fun k H5 b5 p5 k0 k1 => ?_⟩
      obtain ⟨n, rfl⟩ : ∃ n : Nat, k = (n : Int) := ⟨k.toNat, by omega⟩
      exact ⟨1, (n : Int), rfl, rfl, 1 + n, by simp, by omega, fun v H6 e6 dv => fin H4 H5 H6 v _ ((e2.trans e3).trans e4) b5 p5 e6 dv (.lev (1 + n) (by omega) (by omega))⟩
    · have two : Ev (tIf (tTest (tOp (rI0 fun i j => .bl (decide (i < j))) (tVar 1) (tC (.int 8)))) (tC (.int 2)) (tC (.int 3))) [some (.ref p), some (.int (most : Int)), some (.int r)] H4 (.int 2) :=
        ev_if (b := true) (et_is (et_test (ev_op (ev_var rfl) ev_c rv_I0)) (by simp; omega)) (fun _ => ev_c) (fun z => nomatch z)
      refine ⟨_, rfl, ?_⟩
      refine two H4 (Ex.refl H4) _ fun H5 e5 => ⟨p, c, 2, m + 1, rfl, by decide, by decide, p1.ext (((e2.trans e3).trans e4).trans e5), by omega, fun k H6 b6 p6 k0 k1 => ?_⟩
      obtain ⟨n, rfl⟩ : ∃ n : Nat, k = (n : Int) := ⟨k.toNat, by omega⟩
      exact ⟨1, (n : Int), rfl, rfl, 1 + n, by simp, by omega, fun v H7 e7 dv => fin H5 H6 H7 v _ (((e2.trans e3).trans e4).trans e5) b6 p6 e7 dv (.sets (1 + n) (by omega) (by omega))⟩
end
end K03

set_option Elab.async false
set_option linter.all false
set_option maxRecDepth 100000
set_option maxHeartbeats 8000000
/-! S32: comprehensions of new lists, a dict of three texts, stores. -/
namespace S
open PySem PySem.Spec PyProof.Rows L2 Evl J ClX StX
/-- lists, one behind another -/
structure Rws (H : Hp) (rs : List Addr) (Rs : List (List V)) : Prop where
  len : rs.length = Rs.length
  at_ : ∀ (n : Nat) p r, rs[n]? = some p → Rs[n]? = some r → H p = some (.lst r)
theorem Rws.ext {H H' : Hp} {rs : List Addr} {Rs : List (List V)} (h : Rws H rs Rs) (e : Ex H H') : Rws H' rs Rs := ⟨h.len, fun n p r h1 h2 => e _ _ (h.at_ n p r h1 h2)⟩
theorem Rws.keep {H H' : Hp} {rs : List Addr} {Rs : List (List V)} (h : Rws H rs Rs) (e : ∀ p ∈ rs, H' p = H p) : Rws H' rs Rs := ⟨h.len, fun n p r h1 h2 => (e p (List.mem_of_getElem? h1)).trans (h.at_ n p r h1 h2)⟩
section
variable {K : PySem.W.Frag} {σ : L2.St} {H : Hp} {te ta tb : TE}
theorem el_news {α : Type} {g : α → V} {as : α → List V} {xs : List α} {a : Addr} {tl : TE} {j : Nat} {vs : List Nat} {Q : VK} (h : Ev tl σ H (.ref a)) (hx : SqL K H a (xs.map g)) (hz : xs.length ≤ 1000) (hw : ∀ x, wipe ((wipe σ vs).set j (some x)) vs = wipe σ vs)
    (he : ∀ x, x ∈ xs → EvL te ((wipe σ vs).set j (some (g x))) H (as x))
    (k : ∀ D H2 rs, H D = none → Ex H H2 → H2 D = some (.lst (rs.map V.ref)) → Rws H2 rs (xs.map as) → rs.Nodup → (∀ p ∈ rs, H p = none ∧ p ≠ D) → Q (.ref D) H2) : tLc (iList K tl) (gName j) tYes te vs σ H Q := by
  refine h H (Ex.refl H) _ fun H0 e0 => ⟨a, rfl, ⟨_, ex_l e0 hx⟩, fun D hD => ?_⟩
  refine lc_list (xs := xs.map g) (fun i H' => ∃ rs, H' D = some (.lst (rs.map V.ref)) ∧ Ex H0 H' ∧ Rws H' rs ((xs.map as).take i) ∧ rs.Nodup ∧ ∀ p ∈ rs, H0 p = none ∧ p ≠ D) ⟨[], upd_same, Ex.new hD, ⟨rfl, fun n p r e => by simp at e⟩, List.nodup_nil, fun p hp => nomatch hp⟩
    (fun i H' _ ⟨_, _, e, _⟩ => ex_l (e0.trans e) hx) (fun i x H' hi ⟨rs, h1, h2, h3, h4, h5⟩ => ⟨hw x, ?_⟩) (fun H' ⟨rs, h1, h2, h3, h4, h5⟩ => ?_)
  · rw [List.getElem?_map] at hi
    cases hg : xs[i]? with
    | none =>
      rw [hg] at hi
      cases hi
    | some y =>
      rw [hg] at hi
      obtain rfl := Option.some.inj hi
      have hl : i < xs.length := (List.getElem?_eq_some_iff.mp hg).1
      have rl : rs.length = i := by
        rw [h3.len, List.length_take, List.length_map]
        omega
      show te _ H' _
      refine he y (List.mem_of_getElem? hg) H' (e0.trans h2) _ fun l H4 nl e4 h4l => ?_
      have nD : l ≠ D := fun z => by
        rw [z, h1] at nl
        cases nl
      have has : (xs.map as)[i]? = some (as y) := by rw [List.getElem?_map, hg]; rfl
      refine ⟨rs.map V.ref, e4 _ _ h1, sz_lt (by rw [List.length_map]; omega), rs ++ [l], by rw [upd_same, List.map_append]; rfl, Ex.mut (h2.trans e4) hD, ⟨?_, ?_⟩, ?_, ?_⟩
      · rw [List.length_append, rl, List.length_take, List.length_map, List.length_singleton]
        omega
      · intro n p r hp hr
        rw [List.getElem?_take] at hr
        by_cases hn : n < i
        · rw [if_pos (by omega)] at hr
          rw [List.getElem?_append_left (by omega)] at hp
          have mem := List.mem_of_getElem? hp
          rw [upd_ne (h5 p mem).2]
          exact e4 _ _ (h3.at_ n p r hp (by rw [List.getElem?_take, if_pos hn]; exact hr))
        · by_cases hn2 : n < i + 1
          · have e : n = i := by omega
            subst e
            rw [if_pos hn2, has] at hr
            obtain rfl := Option.some.inj hr
            rw [List.getElem?_append_right (by omega), rl] at hp
            simp at hp
            subst hp
            rw [upd_ne nD]
            exact h4l
          · rw [if_neg hn2] at hr
            cases hr
      · rw [List.nodup_append]
        refine ⟨h4, by simp, fun p hp q hq z => ?_⟩
        rw [List.mem_singleton] at hq
        rw [hq] at z
        obtain ⟨n, hn, e⟩ := List.getElem_of_mem hp
        have hr : ∃ r, ((xs.map as).take i)[n]? = some r := ⟨_, List.getElem?_eq_getElem (by rw [← h3.len]; exact hn)⟩
        obtain ⟨r, hr⟩ := hr
        have := h3.at_ n p r (by rw [List.getElem?_eq_getElem hn, e]) hr
        rw [z, nl] at this
        cases this
      · intro p hp
        rcases List.mem_append.mp hp with q | q
        · exact h5 p q
        · rw [List.mem_singleton.mp q]
          exact ⟨fresh_back h2 nl, nD⟩
  · rw [List.length_map] at h3
    rw [List.take_of_length_le (by simp)] at h3
    exact k D H' rs (fresh_back e0 hD) (e0.trans h2) h1 h3 h4 fun p hp => ⟨fresh_back e0 (h5 p hp).1, (h5 p hp).2⟩
theorem q_setDN {α : Type} {g : α → V} {as : α → List V} {xs : List α} {a : Addr} {tl : TE} {j i : Nat} {vs : List Nat} {dd : Addr} {kvs : List (Key × V)} {key : Str} {tz : TS} {E : Ends} (hσ : σ[i]? = some (some (.ref dd))) (hd : H dd = some (.dK kvs)) (hkz : kvs.length < 1000)
    (h : Ev tl σ H (.ref a)) (hx : SqL K H a (xs.map g)) (hz : xs.length ≤ 1000) (hw : ∀ x, wipe ((wipe σ vs).set j (some x)) vs = wipe σ vs)
    (he : ∀ x, x ∈ xs → EvL te ((wipe σ vs).set j (some (g x))) H (as x))
    (k : ∀ D H2 rs, H D = none → Ex H H2 → H2 D = some (.lst (rs.map V.ref)) → Rws H2 rs (xs.map as) → rs.Nodup → (∀ p ∈ rs, H p = none ∧ p ≠ D) → tz E σ (upd H2 dd (.dK (putK kvs (Sum.inr key) (.ref D))))) :
    tSeq (tAsg (tLc (iList K tl) (gName j) tYes te vs) (gSub (tVar i) (tC (.str key)) rSetD)) tz E σ H :=
  el_news (Q := fun v H1 => gSub (tVar i) (tC (.str key)) rSetD v σ H1 (tz E)) h hx hz hw he fun D H2 rs n2 e2 h2 r2 nd fr => ⟨.ref dd, hσ, ⟨dd, _, rfl, DPut.k (k := Sum.inr key) (e2 _ _ hd) (sz_lt (by omega)), k D H2 rs n2 e2 h2 r2 nd fr⟩⟩
theorem q_told {x1 x2 x3 : Str} {t1 t2 t3 : TE} {ys : List V} {u w : V} {i : Nat} {tz : TS} {E : Ends} (h1 : EvL t1 σ H ys) (h2 : Ev t2 σ H u) (h3 : Ev t3 σ H w)
    (k : ∀ p l H1, H p = none → H l = none → p ≠ l → Ex H H1 → H1 p = some (.dK (mergeK [] [(Sum.inr x1, .ref l), (Sum.inr x2, u), (Sum.inr x3, w)])) → H1 l = some (.lst ys) → tz E (σ.set i (some (.ref p))) H1) :
    tSeq (tAsg (tDisp [(tC (.str x1), t1), (tC (.str x2), t2), (tC (.str x3), t3)]) (gName i)) tz E σ H := by
  intro p hp
  have e1 : Ex H (upd H p (.dK [])) := Ex.new hp
  refine h1 _ e1 _ fun l H2 n2 e2 g2 => h2 H2 (e1.trans e2) _ fun H3 e3 => h3 H3 ((e1.trans e2).trans e3) _ fun H4 e4 => ?_
  have lp : l ≠ p := fun z => by
    rw [z, upd_same] at n2
    cases n2
  refine ⟨e4 _ _ (e3 _ _ (e2 _ _ upd_same)), [(Sum.inr x1, .ref l), (Sum.inr x2, u), (Sum.inr x3, w)], rfl, by simp, k p l _ hp (fresh_back e1 n2) (Ne.symm lp) (fun c o z => ?_) upd_same ?_⟩
  · have ne := ne_of_none z hp
    rw [upd_ne ne]
    exact e4 _ _ (e3 _ _ (e2 _ _ (e1 _ _ z)))
  · rw [upd_ne lp]
    exact e4 _ _ (e3 _ _ g2)
theorem perm_map {α β : Type} {f : α → β} {ys zs : List β} (h : ys.Perm zs) : ∀ {l : List α}, zs = l.map f → ∃ l' : List α, ys = l'.map f ∧ l'.Perm l := by
  induction h with
  | nil =>
    intro l e
    exact ⟨[], rfl, by
      cases l with
      | nil => exact .nil
      | cons a l => cases e⟩
  | cons x _ ih =>
    intro l e
    cases l with
    | nil => cases e
    | cons a l =>
      obtain ⟨rfl, rfl⟩ := List.cons.inj e
      obtain ⟨l', e1, p1⟩ := ih rfl
      exact ⟨a :: l', by rw [e1]; rfl, p1.cons a⟩
  | swap x y t =>
    intro l e
    match l, e with
    | a :: b :: l, e =>
      obtain ⟨rfl, e2⟩ := List.cons.inj e
      obtain ⟨rfl, rfl⟩ := List.cons.inj e2
      exact ⟨b :: a :: l, rfl, .swap a b l⟩
  | trans _ _ ih1 ih2 =>
    intro l e
    obtain ⟨l2, e2, p2⟩ := ih2 e
    obtain ⟨l1, e1, p1⟩ := ih1 e2
    exact ⟨l1, e1, p1.trans p2⟩
end
end S

set_option Elab.async false
set_option linter.all false
set_option maxRecDepth 100000
set_option maxHeartbeats 8000000
/-! S33: the families by places: what they are, and that they are lawful. -/
namespace K03
open PySem PySem.Spec PyProof.Rows L2 Evl J ClX StX S
abbrev NT : Type := List (List Nat)
def natD (M : NT) : PyData := .list (M.map fun r => .list (r.map fun i : Nat => .int (i : Int)))
def planD (M T : NT) (lo hi : Nat) : PyData := .tuple [natD M, natD T, .int (lo : Int), .int (hi : Int)]
def nat_at (M : NT) (a b : Nat) : Nat := (M.getD a []).getD b 0
def sqB (n : Nat) (M : NT) : Bool := decide (M.length = n) && M.all fun r => decide (r.length = n) && r.all fun x => decide (x < n)
/-- the ten demands, by places -/
def lawB (n : Nat) (M T : NT) (lo hi : Nat) : Bool :=
  let R := List.range n
  let j := nat_at M
  let t := nat_at T
  (R.all fun a => R.all fun b => j a b == j b a && t a b == t b a) &&
  (R.all fun a => R.all fun b => R.all fun c => j (j a b) c == j a (j b c) && t (t a b) c == t a (t b c) && t a (j b c) == j (t a b) (t a c)) &&
  (R.all fun a => j a a == a && j lo a == a && t lo a == lo && t hi a == a && j hi a == hi)
def planB (n : Nat) (M T : NT) (lo hi : Nat) : Bool := decide (1 ≤ n) && decide (n ≤ 4) && sqB n M && sqB n T && decide (lo < n) && decide (hi < n) && lawB n M T lo hi
def PlanOf (d : PyData) (n : Nat) (M T : NT) (lo hi : Nat) : Prop := d = planD M T lo hi ∧ planB n M T lo hi = true
theorem fam_plan {most : Nat} {d : PyData} (h : Fam most d) (hm : most ≤ 4) : ∃ n M T lo hi, PlanOf d n M T lo hi := by
  cases h with
  | odd k hk =>
    match k, hk with
    | 0, _ => exact ⟨3, [[0, 1, 2], [1, 1, 2], [2, 2, 2]], [[0, 0, 0], [0, 0, 1], [0, 1, 2]], 0, 2, rfl, by decide +kernel⟩
    | 1, _ => exact ⟨4, [[0, 1, 2, 3], [1, 1, 2, 3], [2, 2, 2, 3], [3, 3, 3, 3]], [[0, 0, 0, 0], [0, 0, 0, 1], [0, 0, 1, 2], [0, 1, 2, 3]], 0, 3, rfl, by decide +kernel⟩
    | 2, _ => exact ⟨1, [[0]], [[0]], 0, 0, rfl, by decide +kernel⟩
  | cost t b ht =>
    have h2 : t ≤ 2 := by omega
    match t, b, h2 with
    | 0, false, _ => exact ⟨2, [[0, 0], [0, 1]], [[0, 1], [1, 1]], 1, 0, rfl, by decide +kernel⟩
    | 0, true, _ => exact ⟨2, [[0, 0], [0, 1]], [[0, 1], [1, 1]], 1, 0, rfl, by decide +kernel⟩
    | 1, false, _ => exact ⟨3, [[0, 0, 0], [0, 1, 1], [0, 1, 2]], [[0, 1, 2], [1, 2, 2], [2, 2, 2]], 2, 0, rfl, by decide +kernel⟩
    | 1, true, _ => exact ⟨3, [[0, 0, 0], [0, 1, 1], [0, 1, 2]], [[0, 1, 2], [1, 1, 2], [2, 2, 2]], 2, 0, rfl, by decide +kernel⟩
    | 2, false, _ => exact ⟨4, [[0, 0, 0, 0], [0, 1, 1, 1], [0, 1, 2, 2], [0, 1, 2, 3]], [[0, 1, 2, 3], [1, 2, 3, 3], [2, 3, 3, 3], [3, 3, 3, 3]], 3, 0, rfl, by decide +kernel⟩
    | 2, true, _ => exact ⟨4, [[0, 0, 0, 0], [0, 1, 1, 1], [0, 1, 2, 2], [0, 1, 2, 3]], [[0, 1, 2, 3], [1, 2, 2, 3], [2, 2, 2, 3], [3, 3, 3, 3]], 3, 0, rfl, by decide +kernel⟩
  | lev t h1 ht =>
    have h2 : t ≤ 3 := by omega
    match t, h1, h2 with
    | 1, _, _ => exact ⟨2, [[0, 1], [1, 1]], [[0, 0], [0, 1]], 0, 1, rfl, by decide +kernel⟩
    | 2, _, _ => exact ⟨3, [[0, 1, 2], [1, 1, 2], [2, 2, 2]], [[0, 0, 0], [0, 1, 1], [0, 1, 2]], 0, 2, rfl, by decide +kernel⟩
    | 3, _, _ => exact ⟨4, [[0, 1, 2, 3], [1, 1, 2, 3], [2, 2, 2, 3], [3, 3, 3, 3]], [[0, 0, 0, 0], [0, 1, 1, 1], [0, 1, 2, 2], [0, 1, 2, 3]], 0, 3, rfl, by decide +kernel⟩
  | sets m h1 h2 =>
    match m, h1, h2 with
    | 1, _, _ => exact ⟨2, [[0, 1], [1, 1]], [[0, 0], [0, 1]], 0, 1, rfl, by decide +kernel⟩
    | 2, _, _ => exact ⟨4, [[0, 1, 2, 3], [1, 1, 3, 3], [2, 3, 2, 3], [3, 3, 3, 3]], [[0, 0, 0, 0], [0, 1, 0, 1], [0, 0, 2, 2], [0, 1, 2, 3]], 0, 3, rfl, by decide +kernel⟩
/-- a plan told with names, in some order -/
structure Img (n : Nat) (M T : NT) (lo hi : Nat) (φ : Nat → Str) (O : List Nat) (G : List Str) (J' T' : List (List Str)) (l h : Str) : Prop where
  perm : O.Perm (List.range n)
  inj : ∀ a b, a < n → b < n → φ a = φ b → a = b
  g : G = O.map φ
  j : J' = O.map fun a => O.map fun b => φ (nat_at M a b)
  t : T' = O.map fun a => O.map fun b => φ (nat_at T a b)
  l : l = φ lo
  h : h = φ hi
theorem sq_at {n : Nat} {M : NT} (h : sqB n M = true) {a b : Nat} (ha : a < n) (hb : b < n) : nat_at M a b < n ∧ ∃ r, M[a]? = some r ∧ r[b]? = some (nat_at M a b) := by
  unfold sqB at h
  rw [Bool.and_eq_true, decide_eq_true_eq, List.all_eq_true] at h
  obtain ⟨h1, h2⟩ := h
  have ha2 : a < M.length := by omega
  have hr := h2 _ (List.getElem_mem ha2)
  rw [Bool.and_eq_true, decide_eq_true_eq, List.all_eq_true] at hr
  obtain ⟨h3, h4⟩ := hr
  have hb2 : b < (M[a]).length := by omega
  have e : nat_at M a b = (M[a])[b] := by
    unfold nat_at
    have e1 : List.getD M a [] = M[a] := by
      rw [List.getD_eq_getElem?_getD, List.getElem?_eq_getElem ha2]
      rfl
    rw [e1, List.getD_eq_getElem?_getD, List.getElem?_eq_getElem hb2]
    rfl
  refine ⟨?_, M[a], List.getElem?_eq_getElem ha2, ?_⟩
  · rw [e]
    have := h4 _ (List.getElem_mem hb2)
    exact of_decide_eq_true this
  · rw [e, List.getElem?_eq_getElem hb2]
section
variable {n : Nat} {M T : NT} {lo hi : Nat} {φ : Nat → Str} {O : List Nat} {G : List Str} {J' T' : List (List Str)} {l h : Str}
theorem img_mem (i : Img n M T lo hi φ O G J' T' l h) {a : Nat} : a ∈ O ↔ a < n := by rw [i.perm.mem_iff, List.mem_range]
theorem idx_img {φ : Nat → Str} {a : Nat} : ∀ {O : List Nat}, (∀ b ∈ O, φ b = φ a → b = a) → a ∈ O → ∃ k, (O.map φ).idxOf (φ a) = k ∧ O[k]? = some a
  | [], _, h => nomatch h
  | b :: r, inj, h => by
    rw [List.map_cons, List.idxOf_cons]
    by_cases e : φ b = φ a
    · have := inj b List.mem_cons_self e
      subst this
      exact ⟨0, by simp, rfl⟩
    · have hr : a ∈ r := by
        rcases List.mem_cons.mp h with z | z
        · exact absurd (by rw [z]) e
        · exact z
      obtain ⟨k, h1, h2⟩ := idx_img (φ := φ) (a := a) (O := r) (fun c hc => inj c (List.mem_cons_of_mem _ hc)) hr
      refine ⟨k + 1, ?_, by simpa using h2⟩
      have : (φ b == φ a) = false := by simpa using e
      rw [this, cond_false, h1]
theorem ap_img {N : NT} (i : Img n M T lo hi φ O G J' T' l h) {a b : Nat} (ha : a < n) (hb : b < n) : ap G (O.map fun a => O.map fun b => φ (nat_at N a b)) (φ a) (φ b) = φ (nat_at N a b) := by
  have inj : ∀ c, c < n → ∀ d ∈ O, φ d = φ c → d = c := fun c hc d hd e => i.inj d c ((img_mem i).mp hd) hc e
  obtain ⟨k, k1, k2⟩ := idx_img (inj a ha) ((img_mem i).mpr ha)
  obtain ⟨m, m1, m2⟩ := idx_img (inj b hb) ((img_mem i).mpr hb)
  unfold ap
  have e1 : (O.map fun a => O.map fun b => φ (nat_at N a b)).getD k [] = O.map fun b => φ (nat_at N a b) := by
    rw [List.getD_eq_getElem?_getD, List.getElem?_map, k2]
    rfl
  rw [i.g, k1, m1, e1, List.getD_eq_getElem?_getD, List.getElem?_map, m2]
  rfl
theorem img_lt (i : Img n M T lo hi φ O G J' T' l h) {x : Str} (hx : x ∈ G) : ∃ a, a < n ∧ x = φ a := by
  rw [i.g] at hx
  obtain ⟨a, ha, rfl⟩ := List.mem_map.mp hx
  exact ⟨a, (img_mem i).mp ha, rfl⟩
theorem nd_map {α β : Type} {f : α → β} : ∀ {l : List α}, l.Nodup → (∀ a b, a ∈ l → b ∈ l → f a = f b → a = b) → (l.map f).Nodup
  | [], _, _ => List.nodup_nil
  | a :: r, h, inj => by
    rw [List.nodup_cons] at h
    rw [List.map_cons, List.nodup_cons]
    refine ⟨fun z => ?_, nd_map h.2 fun x y hx hy => inj x y (List.mem_cons_of_mem _ hx) (List.mem_cons_of_mem _ hy)⟩
    obtain ⟨b, hb, e⟩ := List.mem_map.mp z
    have := inj b a (List.mem_cons_of_mem _ hb) List.mem_cons_self e
    subst this
    exact h.1 hb
theorem img_wf {N : NT} (i : Img n M T lo hi φ O G J' T' l h) (s : sqB n N = true) : Wf G (O.map fun a => O.map fun b => φ (nat_at N a b)) := by
  refine ⟨by rw [i.g]; simp, fun r hr => ?_, fun r hr x hx => ?_⟩
  · obtain ⟨a, _, rfl⟩ := List.mem_map.mp hr
    rw [i.g]
    simp
  · obtain ⟨a, ha, rfl⟩ := List.mem_map.mp hr
    obtain ⟨b, hb, rfl⟩ := List.mem_map.mp hx
    rw [i.g]
    exact List.mem_map_of_mem ((img_mem i).mpr (sq_at s ((img_mem i).mp ha) ((img_mem i).mp hb)).1)
theorem img_good (i : Img n M T lo hi φ O G J' T' l h) (p : planB n M T lo hi = true) (run : ∀ a, a < n → runB (φ a) = true) : Good G J' T' l h := by
  unfold planB at p
  simp only [Bool.and_eq_true, decide_eq_true_eq] at p
  obtain ⟨⟨⟨⟨⟨⟨p1, p2⟩, p3⟩, p4⟩, p5⟩, p6⟩, p7⟩ := p
  have len : O.length = n := by
    have := i.perm.length_eq
    rwa [List.length_range] at this
  have nd : O.Nodup := i.perm.nodup_iff.mpr List.nodup_range
  have ge := i.g
  have je := i.j
  have te := i.t
  refine ⟨?_, ?_, ?_, ?_, ?_, ?_, ?_, ?_⟩
  · rw [ge]
    exact nd_map nd fun a b ha hb e => i.inj a b ((img_mem i).mp ha) ((img_mem i).mp hb) e
  · rw [ge, List.length_map]
    omega
  · rw [ge, List.length_map]
    omega
  · intro x hx
    obtain ⟨a, ha, rfl⟩ := img_lt i hx
    exact run a ha
  · rw [je]
    exact img_wf i p3
  · rw [te]
    exact img_wf i p4
  · rw [i.l, ge]
    exact List.mem_map_of_mem ((img_mem i).mpr p5)
  · rw [i.h, ge]
    exact List.mem_map_of_mem ((img_mem i).mpr p6)
theorem rng_all {n : Nat} {p : Nat → Bool} (h : (List.range n).all p = true) {a : Nat} (ha : a < n) : p a = true := List.all_eq_true.mp h a (List.mem_range.mpr ha)
/-- what is told by a lawful plan has no fault -/
theorem img_fault (i : Img n M T lo hi φ O G J' T' l h) (p : planB n M T lo hi = true) : fault G J' T' l h = none := by
  unfold planB at p
  simp only [Bool.and_eq_true, decide_eq_true_eq] at p
  obtain ⟨⟨⟨⟨⟨⟨p1, p2⟩, p3⟩, p4⟩, p5⟩, p6⟩, p7⟩ := p
  unfold lawB at p7
  rw [Bool.and_eq_true, Bool.and_eq_true] at p7
  obtain ⟨⟨q1, q2⟩, q3⟩ := p7
  have je := i.j
  have te := i.t
  have aj : ∀ {a b}, a < n → b < n → ap G J' (φ a) (φ b) = φ (nat_at M a b) := fun ha hb => by rw [je]; exact ap_img i ha hb
  have at_ : ∀ {a b}, a < n → b < n → ap G T' (φ a) (φ b) = φ (nat_at T a b) := fun ha hb => by rw [te]; exact ap_img i ha hb
  have bj : ∀ {a b}, a < n → b < n → nat_at M a b < n := fun ha hb => (sq_at p3 ha hb).1
  have bt : ∀ {a b}, a < n → b < n → nat_at T a b < n := fun ha hb => (sq_at p4 ha hb).1
  have s1 : ∀ {a b}, a < n → b < n → nat_at M a b = nat_at M b a ∧ nat_at T a b = nat_at T b a := fun ha hb => by
    have z := rng_all (rng_all q1 ha) hb
    simpa using z
  have s2 : ∀ {a b c}, a < n → b < n → c < n → (nat_at M (nat_at M a b) c = nat_at M a (nat_at M b c) ∧ nat_at T (nat_at T a b) c = nat_at T a (nat_at T b c)) ∧ nat_at T a (nat_at M b c) = nat_at M (nat_at T a b) (nat_at T a c) := fun ha hb hc => by
    have z := rng_all (rng_all (rng_all q2 ha) hb) hc
    simpa using z
  have s3 : ∀ {a}, a < n → (((nat_at M a a = a ∧ nat_at M lo a = a) ∧ nat_at T lo a = lo) ∧ nat_at T hi a = a) ∧ nat_at M hi a = hi := fun ha => by
    have z := rng_all q3 ha
    simpa using z
  have le := i.l
  have he := i.h
  unfold fault
  rw [List.findSome?_eq_none_iff]
  intro e hm
  rw [Option.map_eq_none_iff, List.find?_eq_none]
  intro r hr
  obtain ⟨m1, m2⟩ := tups_mem hr
  have one : r.length = 1 → ∃ a, a < n ∧ r = [φ a] := fun hl => by
    match r, hl, m2 with
    | [x], _, m2 =>
      obtain ⟨a, ha, rfl⟩ := img_lt i (m2 x (by simp))
      exact ⟨a, ha, rfl⟩
  have two : r.length = 2 → ∃ a b, a < n ∧ b < n ∧ r = [φ a, φ b] := fun hl => by
    match r, hl, m2 with
    | [x, y], _, m2 =>
      obtain ⟨a, ha, rfl⟩ := img_lt i (m2 x (by simp))
      obtain ⟨b, hb, rfl⟩ := img_lt i (m2 y (by simp))
      exact ⟨a, b, ha, hb, rfl⟩
  have thr : r.length = 3 → ∃ a b c, a < n ∧ b < n ∧ c < n ∧ r = [φ a, φ b, φ c] := fun hl => by
    match r, hl, m2 with
    | [x, y, z], _, m2 =>
      obtain ⟨a, ha, rfl⟩ := img_lt i (m2 x (by simp))
      obtain ⟨b, hb, rfl⟩ := img_lt i (m2 y (by simp))
      obtain ⟨c, hc, rfl⟩ := img_lt i (m2 z (by simp))
      exact ⟨a, b, c, ha, hb, hc, rfl⟩
  simp only [demL, List.mem_cons, List.not_mem_nil, or_false] at hm
  rcases hm with rfl | rfl | rfl | rfl | rfl | rfl | rfl | rfl | rfl | rfl
  · obtain ⟨a, b, ha, hb, rfl⟩ := two m1
    simp only [dm26, aj ha hb, aj hb ha, (s1 ha hb).1]
    simp
  · obtain ⟨a, b, c, ha, hb, hc, rfl⟩ := thr m1
    simp only [dm27, aj ha hb, aj hb hc, aj (bj ha hb) hc, aj ha (bj hb hc), (s2 ha hb hc).1.1]
    simp
  · obtain ⟨a, ha, rfl⟩ := one m1
    simp only [dm28, aj ha ha, (s3 ha).1.1.1.1]
    simp
  · obtain ⟨a, ha, rfl⟩ := one m1
    simp only [dm29, le, aj p5 ha, (s3 ha).1.1.1.2]
    simp
  · obtain ⟨a, b, ha, hb, rfl⟩ := two m1
    simp only [dm30, at_ ha hb, at_ hb ha, (s1 ha hb).2]
    simp
  · obtain ⟨a, b, c, ha, hb, hc, rfl⟩ := thr m1
    simp only [dm31, at_ ha hb, at_ hb hc, at_ (bt ha hb) hc, at_ ha (bt hb hc), (s2 ha hb hc).1.2]
    simp
  · obtain ⟨a, b, c, ha, hb, hc, rfl⟩ := thr m1
    simp only [dm32, aj hb hc, at_ ha (bj hb hc), at_ ha hb, at_ ha hc, aj (bt ha hb) (bt ha hc), (s2 ha hb hc).2]
    simp
  · obtain ⟨a, ha, rfl⟩ := one m1
    simp only [dm33, le, at_ p5 ha, (s3 ha).1.1.2]
    simp
  · obtain ⟨a, ha, rfl⟩ := one m1
    simp only [dm34, he, at_ p6 ha, (s3 ha).1.2]
    simp
  · obtain ⟨a, ha, rfl⟩ := one m1
    simp only [dm35, he, aj p6 ha, (s3 ha).2]
    simp
end
end K03

set_option Elab.async false
set_option linter.all false
set_option maxRecDepth 100000
set_option maxHeartbeats 8000000
/-! S34: _law_told. -/
namespace K03
open PySem PySem.Spec PyProof.Rows L2 Evl J ClX StX S
abbrev sTo : Stmt := topS 49
def strsOf (J : List (List Str)) : List (List V) := J.map fun r => r.map V.str
/-- what is told, made of new lists that stand in one dict, once each -/
structure ToldM (K : PySem.W.Frag) (H : Hp) (d ln jn tn : Addr) (rj rt : List Addr) (G : List Str) (J T : List (List Str)) (lo hi : Str) : Prop where
  dict : ∃ kvs, H d = some (.dK kvs) ∧ kvs.length ≤ 5 ∧ valV kvs (Sum.inr "names") = some (.ref ln) ∧ valV kvs (Sum.inr "joins") = some (.ref jn) ∧ valV kvs (Sum.inr "products") = some (.ref tn) ∧ valV kvs (Sum.inr "low") = some (.str lo) ∧ valV kvs (Sum.inr "high") = some (.str hi)
  names : H ln = some (.lst (G.map V.str))
  joins : H jn = some (.lst (rj.map V.ref))
  prods : H tn = some (.lst (rt.map V.ref))
  rowj : Rws H rj (strsOf J)
  rowt : Rws H rt (strsOf T)
  nd : (ln :: (rj ++ rt)).Nodup
  gd : Good G J T lo hi
theorem dp_rows {K : PySem.W.Frag} {H : Hp} {jn : Addr} {rj : List Addr} {J : List (List Str)} (hj : H jn = some (.lst (rj.map V.ref))) (r : Rws H rj (strsOf J)) : Dp K H (.ref jn) (rowsL J) :=
  .lst (sq_of hj) (dpa_of (by rw [List.length_map, List.length_map, r.len, strsOf, List.length_map]) fun n v d hv hd => by
    rw [List.getElem?_map] at hv hd
    cases hg : rj[n]? with
    | none =>
      rw [hg] at hv
      cases hv
    | some p =>
      rw [hg] at hv
      obtain rfl := Option.some.inj hv
      cases hr : J[n]? with
      | none =>
        rw [hr] at hd
        cases hd
      | some row =>
        rw [hr] at hd
        obtain rfl := Option.some.inj hd
        exact .lst (sq_of (r.at_ n p (row.map V.str) hg (by rw [strsOf, List.getElem?_map, hr]; rfl))) (dpa_strs row))
theorem ToldM.at_ {K : PySem.W.Frag} {H : Hp} {d ln jn tn : Addr} {rj rt : List Addr} {G : List Str} {J T : List (List Str)} {lo hi : Str} (m : ToldM K H d ln jn tn rj rt G J T lo hi) : ToldAt K H d G J T lo hi := by
  obtain ⟨kvs, h1, _, h2, h3, h4, h5, h6⟩ := m.dict
  exact ⟨⟨kvs, ln, .ref jn, .ref tn, h1, h2, sq_of m.names, h3, dp_rows m.joins m.rowj, h4, dp_rows m.prods m.rowt, h5, h6⟩, m.gd⟩
theorem ToldM.ext {K : PySem.W.Frag} {H H' : Hp} {d ln jn tn : Addr} {rj rt : List Addr} {G : List Str} {J T : List (List Str)} {lo hi : Str} (m : ToldM K H d ln jn tn rj rt G J T lo hi) (e : Ex H H') : ToldM K H' d ln jn tn rj rt G J T lo hi := by
  obtain ⟨kvs, h1, h2⟩ := m.dict
  exact ⟨⟨kvs, e _ _ h1, h2⟩, e _ _ m.names, e _ _ m.joins, e _ _ m.prods, m.rowj.ext e, m.rowt.ext e, m.nd, m.gd⟩
/-- the names that may be told -/
def pool : List Str := ["0", "near", "a1", "zz", "top", "b", "none", "9", "nil", "w12345678901"]
def spTo (K : PySem.W.Frag) : Sp := fun vs H Q _ => ∃ (p c : Addr) (m : Nat) (v : V) (D : PyData) (n : Nat) (M0 T0 : NT) (lo hi : Nat), vs = [.ref p, v] ∧ PenC H p c m ∧ m ≤ 900000 - 14 ∧ Dp K (dl p H) v D ∧ PlanOf D n M0 T0 lo hi ∧
  ∀ d H' ln jn tn rj rt G J T l h φ O, PenC H' p c (m + 14) → ToldM K H' d ln jn tn rj rt G J T l h → Img n M0 T0 lo hi φ O G J T l h → (∀ a, a < n → φ a ∈ pool) → Q (.ref d) H'
/-- an entry of rows of places -/
theorem nat_rows {K : PySem.W.Frag} {H : Hp} {j : V} {M : NT} {a b x : Nat} {r : List Nat} (dp : Dp K H j (natD M)) (h1 : M[a]? = some r) (h2 : r[b]? = some x) :
    ∃ p q ys zs, j = .ref p ∧ SqL K H p ys ∧ atI ys (a : Int) = some (.ref q) ∧ SqL K H q zs ∧ atI zs (b : Int) = some (.int (x : Int)) := by
  unfold natD at dp
  cases dp with
  | @lst p ys _ hs ha =>
    have hl := dpa_len ha
    rw [List.length_map] at hl
    have ha1 := (List.getElem?_eq_some_iff.mp h1).1
    have hv : ys[a]? = some ys[a] := List.getElem?_eq_getElem (by omega)
    obtain ⟨d1, hd1, dp1⟩ := dpa_get ha hv
    rw [List.getElem?_map, h1] at hd1
    obtain rfl := Option.some.inj hd1
    generalize hyx : ys[a] = u at *
    cases dp1 with
    | @lst q zs _ hs2 ha2 =>
      have hl2 := dpa_len ha2
      rw [List.length_map] at hl2
      have hb1 := (List.getElem?_eq_some_iff.mp h2).1
      have hv2 : zs[b]? = some zs[b] := List.getElem?_eq_getElem (by omega)
      obtain ⟨d2, hd2, dp2⟩ := dpa_get ha2 hv2
      rw [List.getElem?_map, h2] at hd2
      obtain rfl := Option.some.inj hd2
      generalize hyz : zs[b] = z at *
      cases dp2
      exact ⟨p, q, ys, zs, rfl, hs, atI_nat hv, hs2, atI_nat hv2⟩
theorem plan_at {K : PySem.W.Frag} {H : Hp} {v : V} {M T : NT} {lo hi : Nat} (dp : Dp K H v (planD M T lo hi)) : ∃ p vj vt, v = .ref p ∧ SqT K H p [vj, vt, .int (lo : Int), .int (hi : Int)] ∧ Dp K H vj (natD M) ∧ Dp K H vt (natD T) := by
  unfold planD at dp
  cases dp with
  | @tup p xs _ hs ha =>
    cases ha with
    | @cons vj _ _ _ d1 r1 =>
      cases r1 with
      | @cons vt _ _ _ d2 r2 =>
        cases r2 with
        | cons d3 r3 =>
          cases r3 with
          | cons d4 r4 =>
            cases r4
            cases d3
            cases d4
            exact ⟨p, vj, vt, rfl, hs, d1, d2⟩
theorem nat_len {K : PySem.W.Frag} {H : Hp} {j : V} {M : NT} (dp : Dp K H j (natD M)) : ∃ p ys, j = .ref p ∧ SqL K H p ys ∧ ys.length = M.length := by
  unfold natD at dp
  cases dp with
  | @lst p ys _ hs ha =>
    have hl := dpa_len ha
    rw [List.length_map] at hl
    exact ⟨p, ys, rfl, hs, hl⟩
theorem merge3 {a b c : Key} {x y z : V} : mergeK [] [(a, x), (b, y), (c, z)] = putK (putK (putK [] a x) b y) c z := rfl
theorem valV_at {kvs : List (Key × V)} {k : Key} {v : V} : valV (putK kvs k v) k = some v := by rw [valV_put, if_pos rfl]
theorem valV_off {kvs : List (Key × V)} {k k2 : Key} {v : V} (h : k2 ≠ k) : valV (putK kvs k v) k2 = valV kvs k2 := by rw [valV_put, if_neg h]
section
variable {K : PySem.W.Frag} {σ : L2.St} {H : Hp} {tl : TE} {tz : TS} {E : Ends} {p c l : Addr} {m n i jn : Nat} {xs : List V}
theorem q_shuf (hσ : σ[0]? = some (some (.ref p))) (hp : PenC H p c m) (hm : m ≤ 900000) (hl : EvL tl σ H xs) (hz : xs.length ≤ 1000)
    (k : ∀ (q : Addr) (H' : Hp) (ys : List V), But p H H' → PenC H' p c (m + xs.length) → ys.Perm xs → H' q = some (.lst ys) → q ≠ p → tz E (σ.set i (some (.ref q))) H') : tSeq (tAsg (tCall (spShuf K) [] E0 (tCons (tVar 0) (tCons tl tNil))) (gName i)) tz E σ H :=
  ⟨_, hσ, hl H (Ex.refl H) _ fun l H1 n1 e1 h1 => ⟨p, c, l, xs, m, rfl, hp.ext e1, hm, sq_of h1, hz, fun q H' ys nq b pen pm hq ne => k q H' ys ((But.of e1).trans b) pen pm hq ne⟩⟩
theorem q_shufCut (hσ : σ[0]? = some (some (.ref p))) (hp : PenC H p c m) (hm : m ≤ 900000) (hl : Ev tl σ H (.ref l)) (sl : SqL K H l xs) (hz : xs.length ≤ 1000) (hn : σ[jn]? = some (some (.int (n : Int))))
    (k : ∀ (q : Addr) (H' : Hp) (ys : List V), But p H H' → PenC H' p c (m + xs.length) → ys.Perm xs → H' q = some (.lst (ys.take n)) → tz E (σ.set i (some (.ref q))) H') : tSeq (tAsg (tSl (rSlL K) (tCall (spShuf K) [] E0 (tCons (tVar 0) (tCons tl tNil))) tNoPart (tPart (tVar jn))) (gName i)) tz E σ H :=
  ⟨_, hσ, hl H (Ex.refl H) _ fun H1 e1 => ⟨p, c, l, xs, m, rfl, hp.ext e1, hm, ex_l e1 sl, hz, fun q H' ys nq b pen pm hq ne => ⟨_, hn, _, rfl, q, ys, rfl, sq_of hq, fun r hr => k r _ ys (((But.of e1).trans b).trans (But.of (Ex.new hr))) (pen.ext (Ex.new hr)) pm (by rw [upd_same, cut_take])⟩⟩⟩
end
abbrev rPl (K : PySem.W.Frag) (k : Int) : TE := tOp (rIxL K) (tVar 5) (tOp (rIxL K) (tOp (rIxL K) (tOp (rIxT K) (tVar 1) (tC (.int k))) (tVar 8)) (tVar 9))
theorem row_el {K : PySem.W.Frag} {H : Hp} {x0 x2 x3 x6 x7 x9 : Option V} {k : Int} {pv ol nl : Addr} {xs : List V} {jv : V} {M : NT} {n a : Nat} {φ : Nat → Str} {O : List Nat} {nm : List Str} (st : SqT K H pv xs) (hx : atI xs k = some jv) (dj : Dp K H jv (natD M)) (sq : sqB n M = true) (ha : a < n)
    (ho : H ol = some (.lst (O.map fun a : Nat => V.int (a : Int)))) (hO : ∀ b ∈ O, b < n) (hz : O.length ≤ 100) (hn : H nl = some (.lst (nm.map V.str))) (at_ : ∀ a, a < n → atI (nm.map V.str) (a : Int) = some (.str (φ a))) :
    EvL (tLc (iList K (tVar 4)) (gName 9) tYes (rPl K k) [9]) [x0, some (.ref pv), x2, x3, some (.ref ol), some (.ref nl), x6, x7, some (.int (a : Int)), x9] H ((O.map fun b => φ (nat_at M a b)).map V.str) := by
  rw [List.map_map]
  refine el_map (d := 0) (g := fun a : Nat => V.int (a : Int)) (f := V.str ∘ fun b => φ (nat_at M a b)) (ev_var rfl) (sq_of ho) (by omega) (fun x => rfl) fun b H1 e1 hb => ?_
  obtain ⟨lt, r, r1, r2⟩ := sq_at sq ha (hO b hb)
  obtain ⟨p, q, ys, zs, rfl, t1, t2, t3, t4⟩ := nat_rows (dp_ext e1 dj) r1 r2
  exact ev_op (ev_var rfl) (ev_op (ev_op (ev_op (ev_var rfl) ev_c (rv_ixT (ex_t e1 st) hx)) (ev_var rfl) (rv_ixL t1 t2)) (ev_var rfl) (rv_ixL t3 t4)) (rv_ixL (sq_of (e1 _ _ hn)) (at_ _ lt))
section
variable {P : Program} {w : World} {K : PySem.W.Frag} {mg : Str → Option Value} {base : Heap} {f : Addr} {fd : FuncData}
abbrev NTo : List Str := ["_law_pen_here", "_law_places_here", "_law_many", "_law_pool", "_law_order", "_law_names", "_law_found", "_law_k", "_law_a", "_law_b"]
theorem scTo : FnScope NTo ["_law_pen_here", "_law_places_here"] (defScope sTo) := ⟨rfl, rfl, rfl, by decide +kernel, rfl, by decide +kernel, by decide +kernel⟩
theorem ok_to (F : FnP K "_law_told" sTo f fd) (T : Bl mg) (cS : Cal P w K mg base CX0 3 "_law_shuffled" ["_law_pen_here", "_law_items"] (spShuf K)) : FnOk P w K mg base CX0 4 f fd ["_law_pen_here", "_law_places_here"] (spTo K) := by
  refine F.ok scTo (fun vs H Q E h => ?_) (fun cdv A outer s H vs Q E hr h => ?_)
  · obtain ⟨p, c, m, v, D, n, M0, T0, lo, hi, rfl, _⟩ := h
    rfl
  · obtain ⟨p, c, m, v, D, n, M0, T0, lo, hi, rfl, hp, hm, dp, ⟨rfl, pb⟩, q⟩ := h
    have hu : (cxOf CX0 P w K mg base NTo "_law_told" (defScope sTo) f cdv A outer s H E).A.units + 1 < cLine := by
      have := hr.un
      show (A.deeper _).units + 1 < cLine
      omega
    refine ⟨_, pss_cons (ps_set (i := 2) scTo.nd rfl (Or.inl rfl) (pe_callB call_len_seq (by rfl) T.len boot_len (pa_cons (pe_ix ix_tup (pv 1) pe_int (fun _ _ => rfl)) pa_nil)))
      (pss_cons (ps_set (i := 3) scTo.nd rfl (Or.inl rfl) (pe_lst (pa_cons pe_str (pa_cons pe_str (pa_cons pe_str (pa_cons pe_str (pa_cons pe_str (pa_cons pe_str (pa_cons pe_str (pa_cons pe_str (pa_cons pe_str (pa_cons pe_str pa_nil))))))))))))
      (pss_cons (ps_set (i := 4) scTo.nd rfl (Or.inr rfl) (pe_cal cS hr rfl pass0 (pa_cons (pv 0) (pa_cons (pe_listRg rfl rfl T.lst (prg_1 rfl T.rng (pv 2))) pa_nil))))
      (pss_cons (ps_set (i := 5) scTo.nd rfl (Or.inr rfl) (pe_slice sl_list (pe_cal cS hr rfl pass0 (pa_cons (pv 0) (pa_cons (pv 3) pa_nil))) po_none (po_some (pv 2))))
      (pss_cons (ps_set (i := 6) scTo.nd rfl (Or.inl rfl) (pe_disp (pps_cons pe_str (pe_lc (own := [("_law_k", 7)]) (g := gName 7) (tt := tYes) (te := tOp (rIxL K) (tVar 5) (tVar 7)) rfl scTo.nd (pi_list (pv 4)) (blkOk_by (N := NTo) (sc := defScope sTo) (by decide +kernel)) (fun _ _ _ _ _ => pg_name (i := 7) scTo.nd rfl (Or.inl rfl)) (fun _ _ _ _ _ => pts_nil)
            (fun _ _ _ _ _ => by exact pe_ix ix_list (pv 5) (pv 7) (fun _ _ => rfl)))
          (pps_cons pe_str (pe_ix ix_list (pv 5) (pe_ix ix_tup (pv 1) pe_int (fun _ _ => rfl)) (fun _ _ => rfl)) (pps_cons pe_str (pe_ix ix_list (pv 5) (pe_ix ix_tup (pv 1) pe_int (fun _ _ => rfl)) (fun _ _ => rfl)) pps_nil))) rfl rfl (fun z => nomatch z) (by decide)))
      (pss_cons (ps_asg (pe_lc (own := [("_law_a", 8)]) (g := gName 8) (tt := tYes) (te := tLc (iList K (tVar 4)) (gName 9) tYes (rPl K 0) [9]) rfl scTo.nd (pi_list (pv 4)) (blkOk_by (N := NTo) (sc := defScope sTo) (by decide +kernel)) (fun _ _ _ _ _ => pg_name (i := 8) scTo.nd rfl (Or.inr rfl)) (fun _ _ _ _ _ => pts_nil)
            (fun _ _ _ _ _ => by exact pe_lc (own := [("_law_b", 9)]) (g := gName 9) (tt := tYes) (wi := iList K (tVar 4)) rfl scTo.nd (pi_list (pv 4)) (blkOk_by (N := NTo) (by rfl)) (fun _ _ _ _ _ => pg_name (i := 9) scTo.nd rfl (Or.inl rfl)) (fun _ _ _ _ _ => pts_nil) (fun _ _ _ _ _ => by exact pe_ix ix_list (pv 5) (pe_ix ix_list (pe_ix ix_list (pe_ix ix_tup (pv 1) pe_int (fun _ _ => rfl)) (pv 8) (fun _ _ => rfl)) (pv 9) (fun _ _ => rfl)) (fun _ _ => rfl)))) (pg_sub (pv 6) pe_str (set_dict hu)))
      (pss_cons (ps_asg (pe_lc (own := [("_law_a", 8)]) (g := gName 8) (tt := tYes) (te := tLc (iList K (tVar 4)) (gName 9) tYes (rPl K 1) [9]) rfl scTo.nd (pi_list (pv 4)) (blkOk_by (N := NTo) (sc := defScope sTo) (by decide +kernel)) (fun _ _ _ _ _ => pg_name (i := 8) scTo.nd rfl (Or.inr rfl)) (fun _ _ _ _ _ => pts_nil)
            (fun _ _ _ _ _ => by exact pe_lc (own := [("_law_b", 9)]) (g := gName 9) (tt := tYes) (wi := iList K (tVar 4)) rfl scTo.nd (pi_list (pv 4)) (blkOk_by (N := NTo) (by rfl)) (fun _ _ _ _ _ => pg_name (i := 9) scTo.nd rfl (Or.inl rfl)) (fun _ _ _ _ _ => pts_nil) (fun _ _ _ _ _ => by exact pe_ix ix_list (pv 5) (pe_ix ix_list (pe_ix ix_list (pe_ix ix_tup (pv 1) pe_int (fun _ _ => rfl)) (pv 8) (fun _ _ => rfl)) (pv 9) (fun _ _ => rfl)) (fun _ _ => rfl)))) (pg_sub (pv 6) pe_str (set_dict hu)))
      (pss_one (ps_ret (pv 6))))))))), ?_⟩
    obtain ⟨pv, vj, vt, rfl, st, dj, dt⟩ := plan_at dp
    have eB : Ex (dl p H) H := dl_ex
    have pb0 := pb
    unfold planB at pb
    simp only [Bool.and_eq_true, decide_eq_true_eq] at pb
    obtain ⟨⟨⟨⟨⟨⟨n1, n4⟩, sj⟩, sT⟩, blo⟩, bhi⟩, _⟩ := pb
    have lenM : M0.length = n := by
      have z := sj
      unfold sqB at z
      rw [Bool.and_eq_true, decide_eq_true_eq] at z
      exact z.1
    obtain ⟨pj, ys, rfl, qj, lj⟩ := nat_len dj
    refine q_asg (v := .int (n : Int)) (ev_is (ev_lenS (ev_op (ev_var rfl) ev_c (rv_ixT (ex_t eB st) (atI_nat (j := 0) rfl))) (.inl (ex_l eB qj))) (by rw [lj, lenM])) fun H1 e1 => ?_
    refine q_asgL (xs := pool.map V.str) (el_lst (ea_cons ev_c (ea_cons ev_c (ea_cons ev_c (ea_cons ev_c (ea_cons ev_c (ea_cons ev_c (ea_cons ev_c (ea_cons ev_c (ea_cons ev_c (ea_cons ev_c ea_nil)))))))))) (by simp [pool])) fun lp H2 np e2 h2 => ?_
    have lpp : lp ≠ p := fun z => by
      obtain ⟨ns, i, v, g1, _⟩ := hp
      rw [z, e1 _ _ g1] at np
      cases np
    refine q_shuf (K := K) (c := c) (m := m) (p := p) rfl (hp.ext (e1.trans e2)) (by omega) (el_rg (n := n) (ev_var rfl) (by omega)) (by simp; omega) fun ol H3 ys3 b3 p3 pm3 h3 ol_p => ?_
    obtain ⟨O, rfl, pO⟩ := perm_map pm3 rfl
    rw [List.length_map, List.length_range] at p3
    refine q_shufCut (K := K) (c := c) (m := m + n) (p := p) (n := n) rfl p3 (by omega) (ev_var rfl) (sq_of (b3 _ _ lpp h2)) (by simp [pool]) rfl fun nl H4 ys4 b4 p4 pm4 h4 => ?_
    obtain ⟨N, rfl, pN⟩ := perm_map pm4 rfl
    have pl : (pool.map V.str).length = 10 := rfl
    rw [pl] at p4
    have h3 := b4 _ _ ol_p h3
    have b04 : But p H H4 := ((But.of (e1.trans e2)).trans b3).trans b4
    have e4 : Ex (dl p H) H4 := fun b o z => b04 b o (dl_some z).1 (dl_some z).2
    have lN : N.length = 10 := by
      have := pN.length_eq
      simpa [pool] using this
    rw [← List.map_take] at h4
    have ndN : N.Nodup := pN.nodup_iff.mpr (by decide +kernel)
    generalize hnm : N.take n = nm at h4
    have lnm : nm.length = n := by
      rw [← hnm, List.length_take]
      omega
    have nnm : nm.Nodup := by
      rw [← hnm]
      exact (List.take_sublist n N).nodup ndN
    have mnm : ∀ x ∈ nm, x ∈ pool := fun x hx => by
      rw [← hnm] at hx
      exact pN.mem_iff.mp (List.mem_of_mem_take hx)
    let φ : Nat → Str := fun a => nm.getD a ""
    have gφ : ∀ a, a < n → nm[a]? = some (φ a) := fun a ha => by
      show nm[a]? = some (nm.getD a "")
      rw [List.getD_eq_getElem?_getD, List.getElem?_eq_getElem (by omega)]
      rfl
    have aφ : ∀ a, a < n → atI (nm.map V.str) (a : Int) = some (.str (φ a)) := fun a ha => atI_nat (by rw [List.getElem?_map, gφ a ha]; rfl)
    have iφ : ∀ a b, a < n → b < n → φ a = φ b → a = b := fun a b ha hb e => by
      have e1 := gφ a ha
      have e2 := gφ b hb
      rw [e] at e1
      have h1 : a < nm.length := by omega
      exact (List.getElem?_inj h1 nnm).mp (e1.trans e2.symm)
    have hO : ∀ b ∈ O, b < n := fun b hb => List.mem_range.mp (pO.mem_iff.mp hb)
    have lO : O.length = n := by
      have := pO.length_eq
      rwa [List.length_range] at this
    have p4 : PenC H4 p c (m + 14) := by
      obtain ⟨ns, i, v, g1, g2, g3, g4, g5, g6⟩ := p4
      exact ⟨ns, i, v, g1, g2, g3, g4, g5, by omega⟩
    refine q_told (ys := (O.map φ).map V.str) (u := .str (φ lo)) (w := .str (φ hi)) (by
        rw [List.map_map]
        exact el_map (d := 0) (g := fun a : Nat => V.int (a : Int)) (f := V.str ∘ φ) (ev_var rfl) (sq_of h3) (by omega) (fun x => rfl) fun a H5 e5 ha => ev_op (ev_var rfl) (ev_var rfl) (rv_ixL (sq_of (e5 _ _ h4)) (aφ a (hO a ha))))
      (ev_op (ev_var rfl) (ev_op (ev_var rfl) ev_c (rv_ixT (ex_t e4 st) (atI_nat (j := 2) rfl))) (rv_ixL (sq_of h4) (aφ lo blo)))
      (ev_op (ev_var rfl) (ev_op (ev_var rfl) ev_c (rv_ixT (ex_t e4 st) (atI_nat (j := 3) rfl))) (rv_ixL (sq_of h4) (aφ hi bhi))) fun d fl H5 nd nf df e5 hd hf => ?_
    have e45 := e4.trans e5
    refine q_setDN (K := K) (g := fun a : Nat => V.int (a : Int)) (xs := O) (as := fun a => (O.map fun b => φ (nat_at M0 a b)).map V.str) rfl hd (Nat.lt_of_le_of_lt (length_mergeK _ _) (by simp)) (ev_var rfl) (sq_of (e5 _ _ h3)) (by omega) (fun x => rfl)
      (fun a ha => row_el (n := n) (jv := .ref pj) (ex_t e45 st) (atI_nat (j := 0) rfl) (dp_ext e45 dj) sj (hO a ha) (e5 _ _ h3) hO (by omega) (e5 _ _ h4) aφ) fun jn H6 rj nj e6 hj rwj ndj frj => ?_
    have hd6 := e6 _ _ hd
    have e46 : Ex H4 (upd H6 d (.dK (putK (mergeK [] [(Sum.inr "names", .ref fl), (Sum.inr "low", .str (φ lo)), (Sum.inr "high", .str (φ hi))]) (Sum.inr "joins") (.ref jn)))) := Ex.mut (e5.trans e6) nd
    have jd : jn ≠ d := fun z => by
      rw [z, hd] at nj
      cases nj
    have fd6 : ∀ q, q ∈ rj → q ≠ d := fun q hq z => by
      have := (frj q hq).1
      rw [z, hd] at this
      cases this
    have hj7 : (upd H6 d (.dK (putK (mergeK [] [(Sum.inr "names", .ref fl), (Sum.inr "low", .str (φ lo)), (Sum.inr "high", .str (φ hi))]) (Sum.inr "joins") (.ref jn)))) jn = some (.lst (rj.map V.ref)) := by rw [upd_ne jd]; exact hj
    have hd7 : (upd H6 d (.dK (putK (mergeK [] [(Sum.inr "names", .ref fl), (Sum.inr "low", .str (φ lo)), (Sum.inr "high", .str (φ hi))]) (Sum.inr "joins") (.ref jn)))) d = _ := upd_same
    have hf7 : (upd H6 d (.dK (putK (mergeK [] [(Sum.inr "names", .ref fl), (Sum.inr "low", .str (φ lo)), (Sum.inr "high", .str (φ hi))]) (Sum.inr "joins") (.ref jn)))) fl = some (.lst ((O.map φ).map V.str)) := by rw [upd_ne (Ne.symm df)]; exact e6 _ _ hf
    have rj7 : Rws (upd H6 d (.dK (putK (mergeK [] [(Sum.inr "names", .ref fl), (Sum.inr "low", .str (φ lo)), (Sum.inr "high", .str (φ hi))]) (Sum.inr "joins") (.ref jn)))) rj (O.map fun a => (O.map fun b => φ (nat_at M0 a b)).map V.str) := rwj.keep fun q hq => upd_ne (fd6 q hq)
    have jf : ∀ q, q ∈ rj → q ≠ fl := fun q hq z => by
      have := (frj q hq).1
      rw [z, hf] at this
      cases this
    show tSeq _ _ _ _ (upd H6 d (.dK (putK (mergeK [] [(Sum.inr "names", .ref fl), (Sum.inr "low", .str (φ lo)), (Sum.inr "high", .str (φ hi))]) (Sum.inr "joins") (.ref jn))))
    generalize upd H6 d (.dK (putK (mergeK [] [(Sum.inr "names", .ref fl), (Sum.inr "low", .str (φ lo)), (Sum.inr "high", .str (φ hi))]) (Sum.inr "joins") (.ref jn))) = H7 at e46 hj7 hd7 hf7 rj7 ⊢
    have e47 := e4.trans e46
    have kl : (putK (mergeK [] [(Sum.inr "names", .ref fl), (Sum.inr "low", .str (φ lo)), (Sum.inr "high", .str (φ hi))]) (Sum.inr "joins") (.ref jn)).length ≤ 4 := Nat.le_trans putK_len (Nat.succ_le_succ (Nat.le_trans (length_mergeK _ _) (by simp)))
    refine q_setDN (K := K) (g := fun a : Nat => V.int (a : Int)) (xs := O) (as := fun a => (O.map fun b => φ (nat_at T0 a b)).map V.str) rfl hd7 (by omega) (ev_var rfl) (sq_of (e46 _ _ h3)) (by omega) (fun x => rfl)
      (fun a ha => row_el (n := n) (jv := vt) (ex_t e47 st) (atI_nat (j := 1) rfl) (dp_ext e47 dt) sT (hO a ha) (e46 _ _ h3) hO (by omega) (e46 _ _ h4) aφ) fun tn H8 rt nt e8 ht rwt ndt frt => ?_
    have td : tn ≠ d := fun z => by
      rw [z, hd7] at nt
      cases nt
    have old8 : ∀ b o, H7 b = some o → b ≠ d → (upd H8 d (.dK (putK (putK (mergeK [] [(Sum.inr "names", .ref fl), (Sum.inr "low", .str (φ lo)), (Sum.inr "high", .str (φ hi))]) (Sum.inr "joins") (.ref jn)) (Sum.inr "products") (.ref tn)))) b = some o := fun b o z ne => by
      rw [upd_ne ne]
      exact e8 _ _ z
    have e48 : Ex H4 (upd H8 d (.dK (putK (putK (mergeK [] [(Sum.inr "names", .ref fl), (Sum.inr "low", .str (φ lo)), (Sum.inr "high", .str (φ hi))]) (Sum.inr "joins") (.ref jn)) (Sum.inr "products") (.ref tn)))) := Ex.mut (e46.trans e8) nd
    have img : Img n M0 T0 lo hi φ O (O.map φ) (O.map fun a => O.map fun b => φ (nat_at M0 a b)) (O.map fun a => O.map fun b => φ (nat_at T0 a b)) (φ lo) (φ hi) := ⟨pO, iφ, rfl, rfl, rfl, rfl, rfl⟩
    have mφ : ∀ a, a < n → φ a ∈ pool := fun a ha => mnm _ (List.mem_of_getElem? (gφ a ha))
    have sF : ∀ F : Nat → Nat → Str, strsOf (O.map fun a => O.map fun b => F a b) = O.map fun a => (O.map fun b => F a b).map V.str := fun F => by
      unfold strsOf
      rw [List.map_map]
      rfl
    refine s_ret (ev_var rfl) fun H9 e9 => q d H9 fl jn tn rj rt _ _ _ _ _ φ O ((p4.ext e48).ext e9) (ToldM.ext ?_ e9) img mφ
    refine ⟨⟨_, upd_same, Nat.le_trans putK_len (Nat.succ_le_succ kl), ?_, ?_, ?_, ?_, ?_⟩, old8 _ _ hf7 (Ne.symm df), old8 _ _ hj7 jd, by rw [upd_ne td]; exact ht, ?_, ?_, ?_, img_good img pb0 fun a ha => ?_⟩
    · rw [valV_off (by decide +kernel), valV_off (by decide +kernel)]
      rw [merge3, valV_off (by decide +kernel), valV_off (by decide +kernel), valV_at]
    · rw [valV_off (by decide +kernel), valV_at]
    · rw [valV_at]
    · rw [valV_off (by decide +kernel), valV_off (by decide +kernel)]
      rw [merge3, valV_off (by decide +kernel), valV_at]
    · rw [valV_off (by decide +kernel), valV_off (by decide +kernel)]
      rw [merge3, valV_at]
    · rw [sF]
      exact (rj7.ext e8).keep fun q hq => upd_ne (fd6 q hq)
    · rw [sF]
      exact rwt.keep fun q hq => upd_ne fun z => by
        have := (frt q hq).1
        rw [z, hd7] at this
        cases this
    · rw [List.nodup_cons, List.nodup_append]
      refine ⟨fun z => ?_, ndj, ndt, fun x hx y hy z => ?_⟩
      · rcases List.mem_append.mp z with z | z
        · exact jf _ z rfl
        · have := (frt _ z).1
          rw [hf7] at this
          cases this
      · subst z
        have n7 := (frt _ hy).1
        obtain ⟨k, hk, ek⟩ := List.getElem_of_mem hx
        have hr : ∃ r, (O.map fun a => (O.map fun b => φ (nat_at M0 a b)).map V.str)[k]? = some r := ⟨_, List.getElem?_eq_getElem (by rw [← rj7.len]; exact hk)⟩
        obtain ⟨r, hr⟩ := hr
        have := rj7.at_ k x r (by rw [List.getElem?_eq_getElem hk, ek]) hr
        rw [n7] at this
        cases this
    · have all : ∀ x ∈ pool, runB x = true := by decide +kernel
      exact all _ (mφ a ha)
end
end K03

set_option Elab.async false
set_option linter.all false
set_option maxRecDepth 100000
set_option maxHeartbeats 8000000
/-! S35: _law_bent. -/
namespace S
open PySem PySem.Spec PyProof.Rows L2 Evl J ClX StX
theorem rws_get {H : Hp} {rs : List Addr} {Rs : List (List V)} (h : Rws H rs Rs) {x : Addr} (hx : x ∈ rs) : ∃ (n : Nat) (r : List V), rs[n]? = some x ∧ Rs[n]? = some r ∧ H x = some (.lst r) := by
  obtain ⟨n, hn, e⟩ := List.getElem_of_mem hx
  have h1 : rs[n]? = some x := by rw [List.getElem?_eq_getElem hn, e]
  have hr : Rs[n]? = some (Rs[n]'(by rw [← h.len]; exact hn)) := List.getElem?_eq_getElem _
  exact ⟨n, _, h1, hr, h.at_ n x _ h1 hr⟩
theorem rws_set {H : Hp} {rs : List Addr} {Rs : List (List V)} (h : Rws H rs Rs) (nd : rs.Nodup) {i : Nat} {r : Addr} (hr : rs[i]? = some r) (x : List V) : Rws (upd H r (.lst x)) rs (Rs.set i x) := by
  have hi : i < rs.length := (List.getElem?_eq_some_iff.mp hr).1
  refine ⟨by rw [List.length_set]; exact h.len, fun n p y hp hy => ?_⟩
  by_cases e : n = i
  · subst e
    rw [hr] at hp
    obtain rfl := Option.some.inj hp
    rw [List.getElem?_set_self (by rw [← h.len]; exact hi)] at hy
    obtain rfl := Option.some.inj hy
    exact upd_same
  · have ne : p ≠ r := fun z => by
      subst z
      have hn : n < rs.length := (List.getElem?_eq_some_iff.mp hp).1
      exact e ((List.getElem?_inj hn nd).mp (hp.trans hr.symm))
    rw [List.getElem?_set_ne (Ne.symm e)] at hy
    rw [upd_ne ne]
    exact h.at_ n p y hp hy
theorem wf_set {G : List Str} {J : List (List Str)} {i j : Nat} {row : List Str} {g : Str} (w : Wf G J) (h : J[i]? = some row) (hg : g ∈ G) : Wf G (J.set i (row.set j g)) := by
  have hm := List.mem_of_getElem? h
  have old : ∀ r ∈ J.set i (row.set j g), r ∈ J ∨ r = row.set j g := fun r hr => List.mem_or_eq_of_mem_set hr
  refine ⟨by rw [List.length_set]; exact w.len, fun r hr => ?_, fun r hr x hx => ?_⟩
  · rcases old r hr with q | rfl
    · exact w.row r q
    · rw [List.length_set]
      exact w.row _ hm
  · rcases old r hr with q | rfl
    · exact w.at_ r q x hx
    · rcases List.mem_or_eq_of_mem_set hx with q | rfl
      · exact w.at_ _ hm x q
      · exact hg
end S
namespace K03
open PySem PySem.Spec PyProof.Rows L2 Evl J ClX StX S
abbrev sBe : Stmt := topS 54
theorem PenC.up {H : Hp} {p c : Addr} {m k : Nat} (h : PenC H p c m) (l : m ≤ k) : PenC H p c k := by
  obtain ⟨ns, i, v, g1, g2, g3, g4, g5, g6⟩ := h
  exact ⟨ns, i, v, g1, g2, g3, g4, g5, by omega⟩
theorem PenC.ne {H : Hp} {p c : Addr} {m : Nat} (h : PenC H p c m) {a : Addr} {o : HO} (ha : H a = some o) (ho : ∀ i v : Int, o ≠ .lst [.ref c, .int i, .int v]) : a ≠ p := fun z => by
  obtain ⟨ns, i, v, g1, _⟩ := h
  rw [z, g1] at ha
  exact ho i v (Option.some.inj ha).symm
theorem strs_no {xs : List Str} {c : Addr} (i v : Int) : HO.lst (xs.map V.str) ≠ .lst [.ref c, .int i, .int v] := fun z => by
  have z := HO.lst.inj z
  cases xs with
  | nil => cases z
  | cons x r => exact nomatch (List.cons.inj z).1
theorem refs_no {xs : List Addr} {c : Addr} (i v : Int) : HO.lst (xs.map V.ref) ≠ .lst [.ref c, .int i, .int v] := fun z => by
  have z := HO.lst.inj z
  match xs, z with
  | [_], z => cases z
  | _ :: _ :: _, z => exact nomatch (List.cons.inj (List.cons.inj z).2).1
theorem rows_keep {H H' : Hp} {p c : Addr} {m : Nat} {rs : List Addr} {J : List (List Str)} (hp : PenC H p c m) (b : But p H H') (h : Rws H rs (strsOf J)) : Rws H' rs (strsOf J) := by
  refine ⟨h.len, fun n q r h1 h2 => b _ _ (hp.ne (h.at_ n q r h1 h2) fun i v => ?_) (h.at_ n q r h1 h2)⟩
  unfold strsOf at h2
  rw [List.getElem?_map] at h2
  cases hj : J[n]? with
  | none =>
    rw [hj] at h2
    cases h2
  | some row =>
    rw [hj] at h2
    obtain rfl := Option.some.inj h2
    exact strs_no i v
section
variable {K : PySem.W.Frag} {H H' : Hp} {d ln jn tn p c : Addr} {m : Nat} {rj rt : List Addr} {G : List Str} {J T : List (List Str)} {lo hi : Str}
theorem ToldM.but (t : ToldM K H d ln jn tn rj rt G J T lo hi) (hp : PenC H p c m) (b : But p H H') : ToldM K H' d ln jn tn rj rt G J T lo hi := by
  obtain ⟨kvs, h1, h2⟩ := t.dict
  exact ⟨⟨kvs, b _ _ (hp.ne h1 fun i v z => nomatch z) h1, h2⟩, b _ _ (hp.ne t.names strs_no) t.names, b _ _ (hp.ne t.joins refs_no) t.joins, b _ _ (hp.ne t.prods refs_no) t.prods, rows_keep hp b t.rowj, rows_keep hp b t.rowt, t.nd, t.gd⟩
theorem refs_strs {rs : List Addr} {row : List Str} (h : 1 ≤ row.length) : HO.lst (rs.map V.ref) ≠ .lst (row.map V.str) := fun z => by
  have z := HO.lst.inj z
  match rs, row, h, z with
  | [], _ :: _, _, z => cases z
  | _ :: _, _ :: _, _, z => exact nomatch (List.cons.inj z).1
theorem strs_at {J : List (List Str)} {n : Nat} {row : List Str} (h : J[n]? = some row) : (strsOf J)[n]? = some (row.map V.str) := by
  unfold strsOf
  rw [List.getElem?_map, h]
  rfl
theorem strs_set {J : List (List Str)} {i j : Nat} {row : List Str} {g : Str} : strsOf (J.set i (row.set j g)) = (strsOf J).set i ((row.map V.str).set j (.str g)) := by
  unfold strsOf
  rw [List.map_set, List.map_set]
theorem rows_off {rs : List Addr} {Rs : List (List V)} {r : Addr} {o : HO} (h : Rws H rs Rs) (n : r ∉ rs) : Rws (upd H r o) rs Rs := h.keep fun q hq => upd_ne fun z => n (z ▸ hq)
theorem ToldM.setJ (t : ToldM K H d ln jn tn rj rt G J T lo hi) {i j : Nat} {r : Addr} {row : List Str} {g : Str} (hr : rj[i]? = some r) (hrow : J[i]? = some row) (hg : g ∈ G) :
    H r = some (.lst (row.map V.str)) ∧ 1 ≤ row.length ∧ ToldM K (upd H r (.lst ((row.map V.str).set j (.str g)))) d ln jn tn rj rt G (J.set i (row.set j g)) T lo hi := by
  have hr0 := t.rowj.at_ i r _ hr (strs_at hrow)
  have z1 := t.gd.z1
  have len : 1 ≤ row.length := by
    rw [t.gd.wj.row _ (List.mem_of_getElem? hrow)]
    exact z1
  obtain ⟨kvs, h1, h2⟩ := t.dict
  have nd := t.nd
  rw [List.nodup_cons, List.nodup_append] at nd
  obtain ⟨n1, n2, n3, n4⟩ := nd
  have mr := List.mem_of_getElem? hr
  refine ⟨hr0, len, ⟨kvs, ?_, h2⟩, ?_, ?_, ?_, ?_, ?_, t.nd, ?_⟩
  · rw [upd_ne fun z => by rw [z, hr0] at h1; cases h1]
    exact h1
  · rw [upd_ne fun z => n1 (List.mem_append.mpr (.inl (by rw [z]; exact mr)))]
    exact t.names
  · rw [upd_ne fun z => by
      have e := t.joins
      rw [z, hr0] at e
      exact refs_strs len (Option.some.inj e).symm]
    exact t.joins
  · rw [upd_ne fun z => by
      have e := t.prods
      rw [z, hr0] at e
      exact refs_strs len (Option.some.inj e).symm]
    exact t.prods
  · rw [strs_set]
    exact rws_set t.rowj n2 hr _
  · exact rows_off t.rowt fun z => n4 r mr r z rfl
  · have g := t.gd
    exact ⟨g.nd, g.z1, g.z8, g.run, wf_set g.wj hrow hg, g.wt, g.lo, g.hi⟩
theorem ToldM.setT (t : ToldM K H d ln jn tn rj rt G J T lo hi) {i j : Nat} {r : Addr} {row : List Str} {g : Str} (hr : rt[i]? = some r) (hrow : T[i]? = some row) (hg : g ∈ G) :
    H r = some (.lst (row.map V.str)) ∧ 1 ≤ row.length ∧ ToldM K (upd H r (.lst ((row.map V.str).set j (.str g)))) d ln jn tn rj rt G J (T.set i (row.set j g)) lo hi := by
  have hr0 := t.rowt.at_ i r _ hr (strs_at hrow)
  have z1 := t.gd.z1
  have len : 1 ≤ row.length := by
    rw [t.gd.wt.row _ (List.mem_of_getElem? hrow)]
    exact z1
  obtain ⟨kvs, h1, h2⟩ := t.dict
  have nd := t.nd
  rw [List.nodup_cons, List.nodup_append] at nd
  obtain ⟨n1, n2, n3, n4⟩ := nd
  have mr := List.mem_of_getElem? hr
  refine ⟨hr0, len, ⟨kvs, ?_, h2⟩, ?_, ?_, ?_, ?_, ?_, t.nd, ?_⟩
  · rw [upd_ne fun z => by rw [z, hr0] at h1; cases h1]
    exact h1
  · rw [upd_ne fun z => n1 (List.mem_append.mpr (.inr (by rw [z]; exact mr)))]
    exact t.names
  · rw [upd_ne fun z => by
      have e := t.joins
      rw [z, hr0] at e
      exact refs_strs len (Option.some.inj e).symm]
    exact t.joins
  · rw [upd_ne fun z => by
      have e := t.prods
      rw [z, hr0] at e
      exact refs_strs len (Option.some.inj e).symm]
    exact t.prods
  · exact rows_off t.rowj fun z => n4 r z r mr rfl
  · rw [strs_set]
    exact rws_set t.rowt n3 hr _
  · have g := t.gd
    exact ⟨g.nd, g.z1, g.z8, g.run, g.wj, wf_set g.wt hrow hg, g.lo, g.hi⟩
theorem pen_row {r : Addr} {row : List Str} {o : HO} (hp : PenC H p c m) (hr : H r = some (.lst (row.map V.str))) (l : 1 ≤ row.length) : PenC (upd H r o) p c m := by
  have h1 : r ≠ p := hp.ne hr strs_no
  refine hp.keep (upd_ne (Ne.symm h1)) (upd_ne fun z => ?_)
  obtain ⟨ns, i, v, _, g2, _⟩ := hp
  rw [z, hr] at g2
  have z2 := HO.lst.inj (Option.some.inj g2)
  match row, ns, l, z2 with
  | _ :: _, [], _, z2 => cases z2
  | _ :: _, _ :: _, _, z2 => exact nomatch (List.cons.inj z2).1
/-- which of the two tables a word tells -/
def tblA (jn tn : Addr) (b : Bool) : Addr := if b then jn else tn
def tblW (b : Bool) : Str := if b then "joins" else "products"
/-- a store into one of the tables -/
theorem ToldM.store (t : ToldM K H d ln jn tn rj rt G J T lo hi) (b : Bool) {i j : Nat} {g : Str} (hil : i < G.length) (hj : j < G.length) (hg : g ∈ G) :
    ∃ (kvs : List (Key × V)) (tb r : Addr) (rs : List Addr) (row : List Str) (J' T' : List (List Str)), H d = some (.dK kvs) ∧ valV kvs (Sum.inr (tblW b)) = some (.ref tb) ∧ H tb = some (.lst (rs.map V.ref)) ∧ rs[i]? = some r ∧ H r = some (.lst (row.map V.str)) ∧ 1 ≤ row.length ∧ j < row.length ∧
      ∀ H2, Ex H H2 → ToldM K (upd H2 r (.lst ((row.map V.str).set j (.str g)))) d ln jn tn rj rt G J' T' lo hi := by
  obtain ⟨kvs, h1, h2, h3, h4, h5, h6⟩ := t.dict
  cases b with
  | true =>
    have li : i < J.length := by rw [t.gd.wj.len]; exact hil
    have lr : i < rj.length := by rw [t.rowj.len, strsOf, List.length_map]; exact li
    obtain ⟨a1, a2, a3⟩ := t.setJ (j := j) (List.getElem?_eq_getElem lr) (List.getElem?_eq_getElem li) hg
    exact ⟨kvs, jn, _, rj, _, _, _, h1, h4, t.joins, List.getElem?_eq_getElem lr, a1, a2, by rw [t.gd.wj.row _ (List.getElem_mem li)]; exact hj, fun H2 e => ((t.ext e).setJ (List.getElem?_eq_getElem lr) (List.getElem?_eq_getElem li) hg).2.2⟩
  | false =>
    have li : i < T.length := by rw [t.gd.wt.len]; exact hil
    have lr : i < rt.length := by rw [t.rowt.len, strsOf, List.length_map]; exact li
    obtain ⟨a1, a2, a3⟩ := t.setT (j := j) (List.getElem?_eq_getElem lr) (List.getElem?_eq_getElem li) hg
    exact ⟨kvs, tn, _, rt, _, _, _, h1, h5, t.prods, List.getElem?_eq_getElem lr, a1, a2, by rw [t.gd.wt.row _ (List.getElem_mem li)]; exact hj, fun H2 e => ((t.ext e).setT (List.getElem?_eq_getElem lr) (List.getElem?_eq_getElem li) hg).2.2⟩
end
section
variable {K : PySem.W.Frag} {σ : L2.St} {H : Hp} {tl tu : TE} {tr : TA} {tz : TS} {E : Ends} {p c l : Addr} {m n i u : Nat} {vs : List V} {Q : VK}
theorem te_draw (hσ : σ[0]? = some (some (.ref p))) (hP : PenC H p c m) (hm : m ≤ 1000000) (hu : Ev tu σ H (.int (u : Int))) (u1 : 1 ≤ u ∧ u ≤ 100000) (k : ∀ (g : Nat) H', g < u → But p H H' → PenC H' p c (m + 1) → Q (.int (g : Int)) H') : tCall spDrawC [] E0 (tCons (tVar 0) (tCons tu tNil)) σ H Q :=
  ⟨_, hσ, hu H (Ex.refl H) _ fun H1 e1 => ⟨p, c, (u : Int), m, rfl, by omega, by omega, hP.ext e1, hm, fun g H2 b2 p2 g0 g1 => by
    obtain ⟨n, rfl⟩ : ∃ n : Nat, g = (n : Int) := ⟨g.toNat, by omega⟩
    exact k n H2 (by omega) ((But.of e1).trans b2) p2⟩⟩
theorem te_menu (h : EvA tr σ H vs) (hσ : σ[0]? = some (some (.ref p))) (hP : PenC H p c m) (hm : m ≤ 1000000) (hu : Ev tu σ H (.int (vs.length : Int))) (hz : 1 ≤ vs.length ∧ vs.length ≤ 1000) (k : ∀ v H', v ∈ vs → But p H H' → PenC H' p c (m + 1) → Q v H') :
    tOp (rIxL K) (tLst tr) (tCall spDrawC [] E0 (tCons (tVar 0) (tCons tu tNil))) σ H Q :=
  h H (Ex.refl H) _ fun H1 e1 => ⟨sz_of (by omega), fun l hl => by
    have e2 : Ex H (upd H1 l (.lst vs)) := e1.trans (Ex.new hl)
    have lp : l ≠ p := fun z => by
      obtain ⟨ns, i, v, g1, _⟩ := hP
      rw [z, e1 _ _ g1] at hl
      cases hl
    refine te_draw hσ (hP.ext e2) hm (hu.mono e2) (by omega) fun g H2 hg b2 p2 => ?_
    exact ⟨l, vs, (g : Int), vs[g], rfl, rfl, sq_of (b2 _ _ lp upd_same), atI_nat (List.getElem?_eq_getElem hg), k _ _ (List.getElem_mem hg) ((But.of e2).trans b2) p2⟩⟩
end
def spBe (K : PySem.W.Frag) : Sp := fun vs H Q _ => ∃ (p c d ln jn tn : Addr) (m : Nat) (rj rt : List Addr) (G : List Str) (J T : List (List Str)) (lo hi : Str), vs = [.ref p, .ref d] ∧ PenC H p c m ∧ m ≤ 900000 ∧ ToldM K H d ln jn tn rj rt G J T lo hi ∧
  ∀ H' J' T' lo' hi', PenC H' p c (m + 200) → ToldAt K H' d G J' T' lo' hi' → Q .non H'
end K03

set_option Elab.async false
set_option linter.all false
set_option maxRecDepth 100000
set_option maxHeartbeats 8000000
/-! S36: _law_bent, its walk. -/
namespace S
open PySem PySem.Spec PyProof.Rows L2 Evl J ClX StX
theorem ite_t {P Q : Prop} {b : Bool} (h : b = true) (k : P) : if b = true then P else Q := by rw [if_pos h]; exact k
theorem ite_f {P Q : Prop} {b : Bool} (h : ¬b = true) (k : Q) : if b = true then P else Q := by rw [if_neg h]; exact k
section
variable {K : PySem.W.Frag} {σ : L2.St} {H : Hp} {D : Ends} {i : Nat}
theorem s_swap {dd : Addr} {kvs : List (Key × V)} {x1 x2 : Str} {u1 u2 : V} (hσ : σ[i]? = some (some (.ref dd))) (hd : H dd = some (.dK kvs)) (hz : kvs.length < 1000) (h1 : valV kvs (Sum.inr x1) = some u1) (h2 : valV kvs (Sum.inr x2) = some u2)
    (k : ∀ H1, Ex H H1 → D.nx σ (upd (upd H1 dd (.dK (putK kvs (Sum.inr x1) u2))) dd (.dK (putK (putK kvs (Sum.inr x1) u2) (Sum.inr x2) u1)))) :
    tAsg (tTup (tCons (tDGet (tVar i) (tC (.str x2))) (tCons (tDGet (tVar i) (tC (.str x1))) tNil))) (gTup K 2 (gCons (gSub (tVar i) (tC (.str x1)) rSetD) (gCons (gSub (tVar i) (tC (.str x2)) rSetD) gNil))) D σ H :=
  (ev_dget (key := Sum.inr x2) (ev_var hσ) ev_c hd h2) H (Ex.refl H) _ fun H1 e1 => (ev_dget (key := Sum.inr x1) (ev_var hσ) ev_c hd h1) H1 e1 _ fun H2 e2 => ⟨sz_of (by simp), fun tp htp => by
    have e3 : Ex H (upd H2 tp (.tup [u2, u1])) := (e1.trans e2).trans (Ex.new htp)
    exact ⟨tp, _, rfl, st_of upd_same, rfl, _, _, rfl, ⟨_, hσ, dd, _, rfl, DPut.k (k := Sum.inr x1) (e3 _ _ hd) (sz_lt (by omega)), _, _, rfl, ⟨_, hσ, dd, _, rfl, DPut.k (k := Sum.inr x2) upd_same (sz_lt (Nat.lt_of_le_of_lt putK_len (by omega))), rfl, k _ e3⟩⟩⟩⟩
end
end S
namespace K03
open PySem PySem.Spec PyProof.Rows L2 Evl J ClX StX S
section
variable {K : PySem.W.Frag} {H H' : Hp} {d ln jn tn p c : Addr} {m : Nat} {rj rt : List Addr} {G : List Str} {J T : List (List Str)} {lo hi lo' hi' : Str}
theorem ToldM.to (t : ToldM K H d ln jn tn rj rt G J T lo hi) {kvs : List (Key × V)} (hd : H' d = some (.dK kvs)) (ho : ∀ b, b ≠ d → H' b = H b) (h1 : valV kvs (Sum.inr "names") = some (.ref ln)) (h2 : valV kvs (Sum.inr "joins") = some (.ref jn)) (h3 : valV kvs (Sum.inr "products") = some (.ref tn))
    (h4 : valV kvs (Sum.inr "low") = some (.str lo')) (h5 : valV kvs (Sum.inr "high") = some (.str hi')) (ml : lo' ∈ G) (mh : hi' ∈ G) : ToldAt K H' d G J T lo' hi' := by
  obtain ⟨k0, d1, _⟩ := t.dict
  have off : ∀ b xs, H b = some (.lst xs) → H' b = some (.lst xs) := fun b xs z => by
    rw [ho b fun e => by rw [e, d1] at z; cases z]
    exact z
  have g := t.gd
  exact ⟨⟨kvs, ln, .ref jn, .ref tn, hd, h1, sq_of (off _ _ t.names), h2, dp_rows (off _ _ t.joins) ⟨t.rowj.len, fun n q r a b => off _ _ (t.rowj.at_ n q r a b)⟩, h3, dp_rows (off _ _ t.prods) ⟨t.rowt.len, fun n q r a b => off _ _ (t.rowt.at_ n q r a b)⟩, h4, h5⟩,
    ⟨g.nd, g.z1, g.z8, g.run, g.wj, g.wt, ml, mh⟩⟩
end
section
variable {P : Program} {w : World} {K : PySem.W.Frag} {mg : Str → Option Value} {base : Heap} {f : Addr} {fd : FuncData}
abbrev NBt : List Str := ["_law_pen_here", "_law_told_here", "_law_names", "_law_lap", "_law_i", "_law_j", "_law_word", "_law_grade"]
theorem scBt : FnScope NBt ["_law_pen_here", "_law_told_here"] (defScope sBe) := ⟨rfl, rfl, rfl, by decide +kernel, rfl, by decide +kernel, by decide +kernel⟩
theorem ok_be (F : FnP K "_law_bent" sBe f fd) (T : Bl mg) (cD : Cal P w K mg base CX0 2 "_law_draw" ["_law_pen_here", "_law_under"] spDrawC) : FnOk P w K mg base CX0 3 f fd ["_law_pen_here", "_law_told_here"] (spBe K) := by
  refine F.ok scBt (fun vs H Q E h => ?_) (fun cdv A outer s H vs Q E hr h => ?_)
  · obtain ⟨p, c, d, ln, jn, tn, m, rj, rt, G, J, T0, lo, hi, rfl, _⟩ := h
    rfl
  · obtain ⟨p, c, d, ln, jn, tn, m, rj, rt, G, J, T0, lo, hi, rfl, hp, hm, td, q⟩ := h
    have hu : (A.deeper (envOfC "_law_bent" (defScope sBe) s.heap.objs.size f cdv)).units + 1 < cLine := by
      have := hr.un
      omega
    refine ⟨_, PSs.nox (pss_cons (ps_set (i := 2) scBt.nd rfl (Or.inl rfl) (pe_dget hu (pv 1) pe_str (fun _ _ => rfl)))
      (pss_cons (ps_for PassesOwn.never rfl (pi_range1 rfl T.rng (pa_cons (pe_ix ix_list (pe_lst (pa_cons pe_int (pa_cons pe_int (pa_cons pe_int (pa_cons pe_int pa_nil))))) (pe_cal cD hr rfl pass0 (pa_cons (pv 0) (pa_cons pe_int pa_nil))) (fun _ _ => rfl)) pa_nil)) (pg_name (i := 3) scBt.nd rfl (Or.inl rfl))
        (pss_cons (ps_par (i := 4) (j := 5) rfl scBt.nd rfl rfl (by decide) rfl rfl (pa_cons (pe_cal cD hr rfl pass0 (pa_cons (pv 0) (pa_cons (pe_callB call_len_seq (by rfl) T.len boot_len (pa_cons (pv 2) pa_nil)) pa_nil))) (pa_cons (pe_cal cD hr rfl pass0 (pa_cons (pv 0) (pa_cons (pe_callB call_len_seq (by rfl) T.len boot_len (pa_cons (pv 2) pa_nil)) pa_nil))) pa_nil)) rfl)
        (pss_cons (ps_par (i := 6) (j := 7) rfl scBt.nd rfl rfl (by decide) rfl rfl (pa_cons (pe_ix ix_list (pe_lst (pa_cons pe_str (pa_cons pe_str pa_nil))) (pe_cal cD hr rfl pass0 (pa_cons (pv 0) (pa_cons pe_int pa_nil))) (fun _ _ => rfl)) (pa_cons (pe_ix ix_list (pv 2) (pe_cal cD hr rfl pass0 (pa_cons (pv 0) (pa_cons (pe_callB call_len_seq (by rfl) T.len boot_len (pa_cons (pv 2) pa_nil)) pa_nil))) (fun _ _ => rfl)) pa_nil)) rfl)
        (pss_cons (ps_asg (pv 7) (pg_sub (pe_ix ix_list (pe_dget hu (pv 1) (pv 6) (fun _ _ => rfl)) (pv 4) (fun _ _ => rfl)) (pv 5) set_list))
        (pss_one (ps_if (pt_cmpR op_eq (pe_cal cD hr rfl pass0 (pa_cons (pv 0) (pa_cons pe_int pa_nil))) pe_int (nomark _)) (pss_one (ps_asg (pv 7) (pg_sub (pe_ix ix_list (pe_dget hu (pv 1) (pv 6) (fun _ _ => rfl)) (pv 5) (fun _ _ => rfl)) (pv 4) set_list))) pss_nil))))))
      (pss_one (ps_if (pt_cmpR op_eq (pe_cal cD hr rfl pass0 (pa_cons (pv 0) (pa_cons pe_int pa_nil))) pe_int (nomark _)) (pss_one (ps_asg (pe_tup (pa_cons (pe_dget hu (pv 1) pe_str (fun _ _ => rfl)) (pa_cons (pe_dget hu (pv 1) pe_str (fun _ _ => rfl)) pa_nil))) (pg_tup rfl (pgs_cons (pg_sub (pv 1) pe_str (set_dict hu)) (pgs_cons (pg_sub (pv 1) pe_str (set_dict hu)) pgs_nil))))) pss_nil)))), ?_⟩
    obtain ⟨kvs, d1, d2, d3, d4, d5, d6, d7⟩ := td.dict
    have z1 := td.gd.z1
    have z8 := td.gd.z8
    refine q_asg (ev_dget (key := Sum.inr "names") (ev_var rfl) ev_c d1 d3) fun H1 e1 => ?_
    have td1 := td.ext e1
    refine te_menu (K := K) (vs := [.int 1, .int 1, .int 2, .int 30]) (ea_cons ev_c (ea_cons ev_c (ea_cons ev_c (ea_cons ev_c ea_nil)))) rfl (hp.ext e1) (by omega) ev_c (by simp) fun v H2 hv b2 p2 => ?_
    obtain ⟨k, rfl, hk⟩ : ∃ k : Nat, v = .int (k : Int) ∧ k ≤ 30 := by
      simp only [List.mem_cons, List.not_mem_nil, or_false] at hv
      rcases hv with rfl | rfl | rfl | rfl
      · exact ⟨1, rfl, by decide⟩
      · exact ⟨1, rfl, by decide⟩
      · exact ⟨2, rfl, by decide⟩
      · exact ⟨30, rfl, by decide⟩
    have lenE : ∀ (σ : L2.St) (H : Hp), σ[2]? = some (some (.ref ln)) → H ln = some (.lst (G.map V.str)) → Ev (tCB (fun (xs : List V) (H : Hp) (Q : VK) => ∃ p ys, xs = [.ref p] ∧ (SqL K H p ys ∨ SqT K H p ys) ∧ Q (.int ys.length) H) (tCons (tVar 2) tNil)) σ H (.int (G.length : Int)) := fun σ H h1 h2 => ev_is (ev_lenS (ev_var h1) (.inl (sq_of h2))) (by simp)
    refine ⟨(k : Int), rfl, by omega, by omega, for_range (lo := 0) (n := ((k : Int)).toNat) (fun i σ' H' => ∃ x3 x4 x5 x6 x7 J' T', σ' = [some (.ref p), some (.ref d), some (.ref ln), x3, x4, x5, x6, x7] ∧ PenC H' p c (m + 1 + 5 * i) ∧ ToldM K H' d ln jn tn rj rt G J' T' lo hi)
      ⟨_, _, _, _, _, _, _, rfl, p2, td1.but (hp.ext e1) b2⟩ ?_ ?_⟩
    · rintro i σ' H3 hi ⟨x3, x4, x5, x6, x7, J', T', rfl, p3, t3⟩
      have hi30 : i < 30 := by omega
      refine te_draw (u := G.length) rfl p3 (by omega) (lenE _ _ rfl t3.names) (by omega) fun a H4 ha b4 p4 => ?_
      have t4 := t3.but p3 b4
      refine te_draw (u := G.length) rfl p4 (by omega) (lenE _ _ rfl t4.names) (by omega) fun b H5 hb b5 p5 => ?_
      have t5 := t4.but p4 b5
      refine ⟨_, _, rfl, ?_⟩
      refine te_menu (K := K) (vs := [.str "joins", .str "products"]) (ea_cons ev_c (ea_cons ev_c ea_nil)) rfl p5 (by omega) ev_c (by simp) fun v H6 hv b6 p6 => ?_
      have t6 := t5.but p5 b6
      obtain ⟨wb, rfl⟩ : ∃ wb : Bool, v = .str (tblW wb) := by
        simp only [List.mem_cons, List.not_mem_nil, or_false] at hv
        rcases hv with rfl | rfl
        · exact ⟨true, rfl⟩
        · exact ⟨false, rfl⟩
      refine ⟨_, rfl, te_draw (u := G.length) rfl p6 (by omega) (lenE _ _ rfl t6.names) (by omega) fun g H7 hg b7 p7 => ?_⟩
      have t7 := t6.but p6 b7
      refine ⟨ln, _, (g : Int), .str G[g], rfl, rfl, sq_of t7.names, atI_nat (by rw [List.getElem?_map, List.getElem?_eq_getElem hg]; rfl), ⟨_, _, rfl, ?_⟩⟩
      obtain ⟨kv, tb, r, rs, row, J1, T1, s1, s2, s3, s4, s5, s6, s7, s8⟩ := t7.store wb (i := a) (j := b) ha hb (List.getElem_mem hg)
      refine q_setL (l := r) (j := b) s5 (ev_var rfl) (ev_op (ev_dget (key := Sum.inr (tblW wb)) (ev_var rfl) (ev_var rfl) s1 s2) (ev_var rfl) (rv_ixL (sq_of s3) (atI_nat (by rw [List.getElem?_map, s4]; rfl)))) (ev_var rfl) (by simpa using s7) fun H8 e8 => ?_
      have t8 := s8 H8 e8
      have p8 := pen_row (o := .lst ((row.map V.str).set b (.str G[g]))) (p7.ext e8) (e8 _ _ s5) s6
      show tIfS _ _ _ _ _ (upd H8 r (.lst ((row.map V.str).set b (.str G[g]))))
      generalize upd H8 r (.lst ((row.map V.str).set b (.str G[g]))) = H9 at t8 p8 ⊢
      refine te_draw (u := 2) rfl p8 (by omega) ev_c (by omega) fun y H10 hy b10 p10 => ⟨rfl, _, rfl, ?_⟩
      have t10 := t8.but p8 b10
      by_cases hd : decide (V.int (y : Int) = V.int 0) = true
      · refine S.ite_t hd ?_
        obtain ⟨kv, tb, r, rs, row, J2, T2, s1, s2, s3, s4, s5, s6, s7, s8⟩ := t10.store wb (i := b) (j := a) hb ha (List.getElem_mem hg)
        refine s_setL (l := r) (j := a) s5 (ev_var rfl) (ev_op (ev_dget (key := Sum.inr (tblW wb)) (ev_var rfl) (ev_var rfl) s1 s2) (ev_var rfl) (rv_ixL (sq_of s3) (atI_nat (by rw [List.getElem?_map, s4]; rfl)))) (ev_var rfl) (by simpa using s7) fun H11 e11 => ?_
        exact ⟨_, _, _, _, _, J2, T2, rfl, (pen_row (p10.ext e11) (e11 _ _ s5) s6).up (by omega), s8 H11 e11⟩
      · refine S.ite_f hd ?_
        exact ⟨_, _, _, _, _, J1, T1, rfl, p10.up (by omega), t10⟩
    · rintro σ' H3 ⟨x3, x4, x5, x6, x7, J', T', rfl, p3, t3⟩
      have hk2 : ((k : Int)).toNat ≤ 30 := by omega
      refine te_draw (u := 4) rfl p3 (by omega) ev_c (by omega) fun y H4 hy b4 p4 => ⟨rfl, _, rfl, ?_⟩
      have t4 := t3.but p3 b4
      by_cases hd : decide (V.int (y : Int) = V.int 0) = true
      · refine S.ite_t hd ?_
        obtain ⟨kv, g1, g2, g3, g4, g5, g6, g7⟩ := t4.dict
        refine s_swap (kvs := kv) rfl g1 (by omega) g6 g7 fun H5 e5 => ?_
        have dp : d ≠ p := p4.ne g1 fun i v z => nomatch z
        have dc : d ≠ c := fun z => by
          obtain ⟨ns, i, v, _, z2, _⟩ := p4
          rw [← z, g1] at z2
          cases z2
        refine q _ J' T' hi lo ?_ ((t4.ext e5).to (kvs := putK (putK kv (Sum.inr "low") (.str hi)) (Sum.inr "high") (.str lo)) upd_same (fun b hb => by rw [upd_ne hb, upd_ne hb]) ?_ ?_ ?_ ?_ ?_ t4.gd.hi t4.gd.lo)
        · exact ((p4.ext e5).keep (by rw [upd_ne (Ne.symm dp), upd_ne (Ne.symm dp)]) (by rw [upd_ne (Ne.symm dc), upd_ne (Ne.symm dc)])).up (by omega)
        · rw [valV_off (by decide +kernel), valV_off (by decide +kernel), g3]
        · rw [valV_off (by decide +kernel), valV_off (by decide +kernel), g4]
        · rw [valV_off (by decide +kernel), valV_off (by decide +kernel), g5]
        · rw [valV_off (by decide +kernel), valV_at]
        · rw [valV_at]
      · refine S.ite_f hd ?_
        exact q _ J' T' lo hi (p4.up (by omega)) t4.at_
end
end K03

set_option Elab.async false
set_option linter.all false
set_option maxRecDepth 100000
set_option maxHeartbeats 8000000
/-! S37: readings for the law: faults as data, repr, made scales. -/
namespace S
open PySem PySem.Spec PyProof.Rows L2 Evl J ClX StX K13
mutual
def noL : PyData → Bool
  | .list _ => false
  | .tuple ds => noLs ds
  | .dict _ => false
  | _ => true
def noLs : List PyData → Bool
  | [] => true
  | d :: r => noL d && noLs r
end
section
variable {K : PySem.W.Frag} {H H' : Hp} {p : Addr} {xs : List V}
theorem sqt_dlL {a : Addr} {ys : List V} (hp : H p = some (.lst xs)) (h : SqT K H a ys) : SqT K (dl p H) a ys := by
  rcases h with (h | ⟨o, h⟩) | h
  · have ne : a ≠ p := fun z => by
      rw [z, hp] at h
      cases h
    exact .inl (.inl (by rw [dl_ne ne]; exact h))
  · have ne : a ≠ p := fun z => by
      rw [z, hp] at h
      cases h
    exact .inl (.inr ⟨o, by rw [dl_ne ne]; exact h⟩)
  · exact .inr h
mutual
theorem dp_noL (hp : H p = some (.lst xs)) : ∀ {u : V} {d : PyData}, Dp K H u d → noL d = true → Dp K (dl p H) u d
  | _, _, .non, _ => .non
  | _, _, .bl b, _ => .bl b
  | _, _, .int i, _ => .int i
  | _, _, .str x, _ => .str x
  | _, .list ds, .lst h r, n => nomatch (show noL (.list ds) = true from n)
  | _, .tuple ds, .tup h r, n => .tup (sqt_dlL hp h) (dpa_noL hp r (show noLs ds = true from n))
theorem dpa_noL (hp : H p = some (.lst xs)) : ∀ {us : List V} {ds : List PyData}, DpAll K H us ds → noLs ds = true → DpAll K (dl p H) us ds
  | _, _, .nil, _ => .nil
  | _, d :: ds, .cons h r, n => by
    have n2 : (noL d && noLs ds) = true := n
    obtain ⟨n3, n4⟩ := Bool.and_eq_true_iff.mp n2
    exact .cons (dp_noL hp h n3) (dpa_noL hp r n4)
end
theorem dl_upd_ex {o : HO} : Ex (dl p H) (upd H p o) := fun b u z => by
  obtain ⟨h1, h2⟩ := dl_some z
  rw [upd_ne h1]
  exact h2
end
section
variable {K : PySem.W.Frag} {σ : L2.St} {H : Hp} {te ta tb : TE} {tr : TA} {d e : PyData} {ds es : List PyData} {tz : TS} {D : Ends} {i j : Nat}
theorem ev_reprD (h : EvD K te σ H d) (o1 : d.showable = true) (o2 : d.hasDict = false) (o3 : d.shown.length ≤ sizeLine) (o4 : d.depth ≤ 20) : Ev (tCB (rRepr K) (tCons te tNil)) σ H (.str d.shown) := fun H1 e Q q =>
  h H1 e _ fun v H2 e2 dp => ⟨v, d, rfl, dp, o1, o2, o3, o4, q H2 e2⟩
theorem et_notN (h : EvD K te σ H .none) : EvT (tB (tNotN te)) σ H false := fun H1 e Q q =>
  h H1 e _ fun v H2 e2 dp => by
    cases dp
    exact ⟨false, rfl, q H2 e2⟩
theorem q_asgEd (h : EvD K te σ H d) (k : ∀ v H1, Ex H H1 → Dp K H1 v d → tz D (σ.set i (some v)) H1) : tSeq (tAsg te (gName i)) tz D σ H := h H (Ex.refl H) _ k
theorem q_parD (h1 : EvD K ta σ H d) (h2 : EvD K tb σ H e) (k : ∀ v u H1, Ex H H1 → Dp K H1 v d → Dp K H1 u e → tz D ((σ.set i (some v)).set j (some u)) H1) : tSeq (tPar i j (tCons ta (tCons tb tNil))) tz D σ H :=
  h1 H (Ex.refl H) _ fun v H1 e1 d1 => h2 H1 e1 _ fun u H2 e2 d2 => ⟨v, u, rfl, k v u H2 (e1.trans e2) (dp_ext e2 d1) d2⟩
theorem q_appD {l : Addr} {xs : List V} (hl : H l = some (.lst xs)) (ha : Ev ta σ H (.ref l)) (h : EvD K te σ H d) (hz : xs.length < 100000) (da : DpAll K H xs ds) (nd : noLs ds = true) (nl : noL d = true)
    (k : ∀ v H1 H2, Ex H H1 → Ex (dl l H1) H2 → H2 l = some (.lst (xs ++ [v])) → DpAll K H2 (xs ++ [v]) (ds ++ [d]) → tz D σ H2) : tSeq (tDrop (tBM K "list" rAppend ta (tCons te tNil))) tz D σ H :=
  ha H (Ex.refl H) _ fun H1 e1 => ⟨.inl ⟨rfl, xs, sq_of (e1 _ _ hl)⟩, h H1 e1 _ fun v H2 e2 dp => ⟨l, xs, v, rfl, rfl, e2 _ _ (e1 _ _ hl), sz_lt hz, k v H2 _ (e1.trans e2) dl_upd_ex upd_same (dpa_app (dpa_ext dl_upd_ex (dpa_noL (e2 _ _ (e1 _ _ hl)) (dpa_ext (e1.trans e2) da) nd)) (.cons (dp_ext dl_upd_ex (dp_noL (e2 _ _ (e1 _ _ hl)) dp nl)) .nil))⟩⟩
theorem et_neD (h1 : EvD K ta σ H d) (h2 : EvD K tb σ H e) (s1 : SeqAt.shaped d = true) (s2 : SeqAt.shaped e = true) : EvT (tTest (tOp (rNeD K) ta tb)) σ H (!PyData.eqv d e) := fun H1 x Q q =>
  h1 H1 x _ fun v H2 e2 dp => h2 H2 (x.trans e2) _ fun u H3 e3 dq => ⟨d, e, dp_ext e3 dp, dq, s1, s2, ⟨_, rfl, q H3 (e2.trans e3)⟩⟩
theorem ev_eqD (h1 : EvD K ta σ H d) (h2 : EvD K tb σ H e) (s1 : SeqAt.shaped d = true) (s2 : SeqAt.shaped e = true) : Ev (tOp (rEqD K) ta tb) σ H (.bl (PyData.eqv d e)) := fun H1 x Q q =>
  h1 H1 x _ fun v H2 e2 dp => h2 H2 (x.trans e2) _ fun u H3 e3 dq => ⟨d, e, dp_ext e3 dp, dq, s1, s2, q H3 (e2.trans e3)⟩
theorem ed_str {x : Str} : EvD K (tC (.str x)) σ H (.str x) := ed_ev ev_c (.str x)
theorem ed_non : EvD K (tC .non) σ H .none := ed_ev ev_c .non
end
end S
namespace K03
open PySem PySem.Spec PyProof.Rows L2 Evl J ClX StX S K13
/-! ### faults as data -/
def words : List Str := demL.map (·.1)
def strB (x : Str) : Bool := PyData.canLay0 (.str x) && decide (x.cps.size ≤ 20)
theorem fault_in {G : List Str} {J T : List (List Str)} {lo hi : Str} {x : Str} {r : List Str} (h : fault G J T lo hi = some (x, r)) : x ∈ words ∧ r.length ≤ 3 ∧ ∀ y ∈ r, y ∈ G := by
  unfold fault at h
  obtain ⟨e, he, z⟩ := List.exists_of_findSome?_eq_some h
  rw [Option.map_eq_some_iff] at z
  obtain ⟨r2, h1, h2⟩ := z
  obtain ⟨rfl, rfl⟩ := Prod.mk.inj h2
  obtain ⟨m1, m2⟩ := tups_mem (List.mem_of_find?_eq_some h1)
  refine ⟨List.mem_map_of_mem he, ?_, m2⟩
  rw [m1]
  simp only [demL, List.mem_cons, List.not_mem_nil, or_false] at he
  rcases he with rfl | rfl | rfl | rfl | rfl | rfl | rfl | rfl | rfl | rfl <;> decide
theorem strs_lay : ∀ {r : List Str}, (∀ y ∈ r, strB y = true) → PyData.canLayAll0 (r.map .str) = true ∧ PyData.weightAll (r.map .str) ≤ 21 * r.length ∧ PyData.depthAll (r.map .str) = 0 ∧ PyData.showableAll (r.map .str) = true ∧ PyData.hasDictAll (r.map .str) = false ∧ PyData.intsShortAll 13 (r.map .str) = true
  | [], _ => by simp [PyData.canLayAll0, PyData.weightAll, PyData.depthAll, PyData.showableAll, PyData.hasDictAll, PyData.intsShortAll]
  | y :: r, h => by
    obtain ⟨h1, h2, h3, h4, h5, h6⟩ := strs_lay (r := r) fun z hz => h z (List.mem_cons_of_mem _ hz)
    have hy := h y List.mem_cons_self
    unfold strB at hy
    rw [Bool.and_eq_true, decide_eq_true_eq] at hy
    obtain ⟨k1, k2⟩ := hy
    refine ⟨?_, ?_, ?_, ?_, ?_, ?_⟩
    · simp only [List.map_cons, PyData.canLayAll0, k1, h1, Bool.and_self]
    · simp only [List.map_cons, PyData.weightAll, PyData.weight, List.length_cons]
      omega
    · simp only [List.map_cons, PyData.depthAll, PyData.depth, h3, Nat.max_self]
    · simp only [List.map_cons, PyData.showableAll, PyData.showable, h4, Bool.and_self]
    · simp only [List.map_cons, PyData.hasDictAll, PyData.hasDict, h5, Bool.or_self]
    · simp only [List.map_cons, PyData.intsShortAll, PyData.intsShort, h6, Bool.and_self]
structure ShowOk (d : PyData) : Prop where
  sh : d.showable = true
  nd : d.hasDict = false
  sz : d.shown.length ≤ sizeLine
  dz : d.depth ≤ 20
theorem fault_show {f : Option (Str × List Str)} (h : ∀ x r, f = some (x, r) → x ∈ words ∧ r.length ≤ 3 ∧ ∀ y ∈ r, y ∈ pool) : ShowOk (faultD f) := by
  cases f with
  | none => exact ⟨rfl, rfl, by decide +kernel, by decide⟩
  | some a =>
    obtain ⟨x, r⟩ := a
    obtain ⟨h1, h2, h3⟩ := h x r rfl
    have wB : ∀ x ∈ words, strB x = true := by decide +kernel
    have pB : ∀ x ∈ pool, strB x = true := by decide +kernel
    have hx := wB x h1
    obtain ⟨g1, g2, g3, g4, g5, g6⟩ := strs_lay (r := r) fun y hy => pB y (h3 y hy)
    unfold strB at hx
    rw [Bool.and_eq_true, decide_eq_true_eq] at hx
    obtain ⟨k1, k2⟩ := hx
    have dz : (faultD (some (x, r))).depth ≤ 2 := by
      show PyData.depth (.tuple [.str x, .tuple (r.map .str)]) ≤ 2
      simp only [PyData.depth, PyData.depthAll, g3]
      decide
    refine ⟨?_, ?_, ?_, by omega⟩
    · show PyData.showable (.tuple [.str x, .tuple (r.map .str)]) = true
      simp only [PyData.showable, PyData.showableAll, g4, Bool.and_self]
    · show PyData.hasDict (.tuple [.str x, .tuple (r.map .str)]) = false
      simp only [PyData.hasDict, PyData.hasDictAll, g5, Bool.or_self]
    · have lay : PyData.layable0 (faultD (some (x, r))) = true := by
        unfold PyData.layable0
        rw [Bool.and_eq_true, Bool.and_eq_true, decide_eq_true_eq, decide_eq_true_eq]
        refine ⟨⟨?_, by omega⟩, ?_⟩
        · show PyData.canLay0 (.tuple [.str x, .tuple (r.map .str)]) = true
          simp only [PyData.canLay0, PyData.canLayAll0, g1] at k1 ⊢
          simp only [k1, Bool.and_self]
        · show PyData.weight (.tuple [.str x, .tuple (r.map .str)]) ≤ 2 ^ 20
          simp only [PyData.weight, PyData.weightAll]
          omega
      have sh : PyData.intsShort 13 (faultD (some (x, r))) = true := by
        show PyData.intsShort 13 (.tuple [.str x, .tuple (r.map .str)]) = true
        simp only [PyData.intsShort, PyData.intsShortAll, g6, Bool.and_self]
      have := shown_le13 lay sh
      exact Nat.le_trans this (by decide +kernel)
section
variable {K : PySem.W.Frag} {σ : L2.St} {H : Hp} {C : Addr} {tl tj tt : TE} {tk : TA} {G : List Str} {J T : List (List Str)} {lo hi : Str} {vj vt : V}
/-- first_fault of what is told -/
theorem ed_ffTold {i : Nat} {d : Addr} (hσ : σ[i]? = some (some (.ref d))) (td : ToldAt K H d G J T lo hi) : EvD K (tCall (spFault K C) [] E0 (tCons (tCall (spTS K C) [] E0 (tCons (tVar i) tNil)) tNil)) σ H (faultD (fault G J T lo hi)) := fun H1 e Q q =>
  ⟨_, hσ, d, G, J, T, lo, hi, rfl, td.ext e, fun a H2 na e2 md => ⟨a, G, J, T, lo, hi, rfl, md.sc, fun v H3 e3 dp => q v H3 (e2.trans e3) dp⟩⟩
theorem ed_firstTold {i : Nat} {d : Addr} (hσ : σ[i]? = some (some (.ref d))) (td : ToldAt K H d G J T lo hi) : EvD K (tCall (spFirst K) [] E0 (tCons (tVar i) tNil)) σ H (faultD (fault G J T lo hi)) := fun H1 e Q q =>
  ⟨_, hσ, d, G, J, T, lo, hi, rfl, td.ext e, fun v H2 e2 dp => q v H2 e2 dp⟩
theorem mk_read {Q : VK} (el : EvL tl σ H (G.map V.str)) (ej : Ev tj σ H vj) (et : Ev tt σ H vt) (ek : EvA tk σ H [.str lo, .str hi]) (dj : Dp K H vj (rowsL J)) (dt : Dp K H vt (rowsL T)) (gd : Good G J T lo hi)
    (q : ∀ a H', H a = none → Ex H H' → Made K C H' a G J T lo hi → Q (.ref a) H') : tMakeK C 3 2 (spTInit K C) (fun vs zs => vs ++ zs) E0 (tCons tl (tCons tj (tCons tt tNil))) tk σ H Q :=
  el H (Ex.refl H) _ fun lg H1 n1 e1 h1 => ej H1 e1 _ fun H2 e2 => et H2 (e1.trans e2) _ fun H3 e3 => ek H3 ((e1.trans e2).trans e3) _ fun H4 e4 => ⟨rfl, rfl, fun x dx hx hdx ne => by
    have e14 := ((e1.trans e2).trans e3).trans e4
    have ed : Ex H4 (upd (upd H4 dx (.own x)) x (.ins C dx [])) := (Ex.new hdx).trans (Ex.new (by rw [upd_ne (Ne.symm ne)]; exact hx))
    refine ⟨x, dx, lg, vj, vt, G, J, T, lo, hi, rfl, upd_same, ex_l (((e2.trans e3).trans e4).trans ed) (sq_of h1), dp_ext (e14.trans ed) dj, dp_ext (e14.trans ed) dt, gd, fun H' b m => ⟨rfl, q x H' (fresh_back e14 hx) (fun c o z => ?_) m⟩⟩
    have z2 := e14 c o z
    exact b c o (ne_of_none z2 hx) (ed c o z2)⟩
theorem ed_ffMade (el : EvL tl σ H (G.map V.str)) (ej : Ev tj σ H vj) (et : Ev tt σ H vt) (ek : EvA tk σ H [.str lo, .str hi]) (dj : Dp K H vj (rowsL J)) (dt : Dp K H vt (rowsL T)) (gd : Good G J T lo hi) {f : Option (Str × List Str)} (hf : fault G J T lo hi = f) :
    EvD K (tCall (spFault K C) [] E0 (tCons (tMakeK C 3 2 (spTInit K C) (fun vs zs => vs ++ zs) E0 (tCons tl (tCons tj (tCons tt tNil))) tk) tNil)) σ H (faultD f) := fun H1 e Q q => by
  subst hf
  exact mk_read (Q := fun v H2 => spFault K C [v] H2 Q E0) (el.mono e) (ej.mono e) (et.mono e) (ek.mono e) (dp_ext e dj) (dp_ext e dt) gd fun a H2 na e2 md => ⟨a, G, J, T, lo, hi, rfl, md.sc, fun v H3 e3 dp => q v H3 (e2.trans e3) dp⟩
theorem ed_ffVar {i : Nat} {a : Addr} (hσ : σ[i]? = some (some (.ref a))) (md : ScAt K C H a G J T lo hi) {f : Option (Str × List Str)} (hf : fault G J T lo hi = f) : EvD K (tCall (spFault K C) [] E0 (tCons (tVar i) tNil)) σ H (faultD f) := fun H1 e Q q => by
  subst hf
  exact ⟨_, hσ, a, G, J, T, lo, hi, rfl, md.ext e, fun v H2 e2 dp => q v H2 e2 dp⟩
end
/-- a closed table is told -/
def goodB (G : List Str) (J T : List (List Str)) (lo hi : Str) : Bool :=
  let w := fun (M : List (List Str)) => decide (M.length = G.length) && M.all fun r => decide (r.length = G.length) && r.all fun x => decide (x ∈ G)
  decide G.Nodup && (decide (1 ≤ G.length) && (decide (G.length ≤ 8) && ((G.all runB) && (w J && (w T && (decide (lo ∈ G) && decide (hi ∈ G)))))))
theorem wf_of {G : List Str} {M : List (List Str)} (h : (decide (M.length = G.length) && M.all fun r => decide (r.length = G.length) && r.all fun x => decide (x ∈ G)) = true) : Wf G M := by
  simp only [Bool.and_eq_true, decide_eq_true_eq, List.all_eq_true] at h
  exact ⟨h.1, fun r hr => (h.2 r hr).1, fun r hr x hx => (h.2 r hr).2 x hx⟩
theorem good_of {G : List Str} {J T : List (List Str)} {lo hi : Str} (h : goodB G J T lo hi = true) : Good G J T lo hi := by
  unfold goodB at h
  obtain ⟨h1, h⟩ := Bool.and_eq_true_iff.mp h
  obtain ⟨h2, h⟩ := Bool.and_eq_true_iff.mp h
  obtain ⟨h3, h⟩ := Bool.and_eq_true_iff.mp h
  obtain ⟨h4, h⟩ := Bool.and_eq_true_iff.mp h
  obtain ⟨h5, h⟩ := Bool.and_eq_true_iff.mp h
  obtain ⟨h6, h⟩ := Bool.and_eq_true_iff.mp h
  obtain ⟨h7, h8⟩ := Bool.and_eq_true_iff.mp h
  exact ⟨of_decide_eq_true h1, of_decide_eq_true h2, of_decide_eq_true h3, fun x hx => List.all_eq_true.mp h4 x hx, wf_of h5, wf_of h6, of_decide_eq_true h7, of_decide_eq_true h8⟩
end K03

set_option Elab.async false
set_option linter.all false
set_option maxRecDepth 100000
set_option maxHeartbeats 8000000
/-! S38: the law's def. -/
namespace K03
open PySem PySem.Spec PyProof.Rows L2 Evl J ClX StX S
open K13 (EvD ed_ev ed_var da_cons da_nil ed_tup dl_lst ed_dl q_asgD et_same)
abbrev sLaw : Stmt := topS 58
def spLaw (K : PySem.W.Frag) : Sp := fun vs H Q _ => ∃ (a : Addr) (ns : List Int), vs = [.ref a] ∧ SqL K H a (ns.map V.int) ∧ ∀ H', Q (.bl true) H'
def spPenC (K : PySem.W.Frag) : Sp := fun vs H Q _ => ∃ (a : Addr) (ns : List Int), vs = [.ref a] ∧ SqL K H a (ns.map V.int) ∧ ∀ p c H', Ex H H' → PenC H' p c 0 → Q (.ref p) H'
section
variable {P : Program} {w : World} {K : PySem.W.Frag} {mg : Str → Option Value} {base : Heap} {f fT C : Addr} {fd fdT : FuncData}
theorem ok_penC (F : FnP K "_law_pen" sPen f fd) (T : Bl mg) : FnOk P w K mg base CX0 1 f fd ["_law_script"] (spPenC K) := by
  refine F.ok scPen (fun vs H Q E h => ?_) (fun cdv A outer s H vs Q E hr h => ?_)
  · obtain ⟨a, ns, rfl, _⟩ := h
    rfl
  · obtain ⟨a, ns, rfl, hS, q⟩ := h
    obtain ⟨ms, e1, e2⟩ := cut_ints ns
    refine ⟨_, pss_one (ps_ret (pe_lst (pa_cons (pe_callTy call_list_of rfl T.lst Boot.«list» (pa_cons (pe_slice sl_list (pv 0) po_none (po_some pe_int)) pa_nil)) (pa_cons pe_int (pa_cons pe_int pa_nil))))), ?_⟩
    refine ⟨.ref a, rfl, 60, rfl, a, _, rfl, hS, fun p hp => ?_⟩
    refine ⟨p, _, rfl, .inl (sq_of upd_same), fun l hl => ⟨sz_of (by simp), fun r hr => ?_⟩⟩
    have x1 : Ex H (upd H p (.lst (cutV (ns.map V.int) none (some 60)))) := Ex.new hp
    have x2 := x1.trans (Ex.new (o := .lst (cutV (ns.map V.int) none (some 60))) hl)
    refine q r l _ (x2.trans (Ex.new hr)) ⟨ms, 0, 0, upd_same, ?_, ?_, e2, by omega, by omega⟩
    · rw [upd_ne (fun z => ?_), upd_same, e1]
      subst z
      rw [upd_same] at hr
      cases hr
    · intro z
      subst z
      rw [upd_same] at hr
      cases hr
structure Bl4 (mg : Str → Option Value) : Prop where
  rep : mg "repr" = none
abbrev NLaw : List Str := ["_law_script", "_law_pen_here", "_law_lap", "_law_told_here", "_law_rows", "_law_more", "_law_seen", "_law_made"]
theorem scLaw : FnScope NLaw ["_law_script"] (defScope sLaw) := ⟨rfl, rfl, rfl, by decide +kernel, rfl, by decide +kernel, by decide +kernel⟩
abbrev G2 : List Str := ["0", "1"]
abbrev JA : List (List Str) := [["0", "1"], ["1", "1"]]
abbrev JB : List (List Str) := [["0", "0"], ["0", "1"]]
abbrev G3 : List Str := ["0", "1", "2"]
abbrev JC : List (List Str) := [["0", "1", "2"], ["1", "1", "2"], ["2", "2", "2"]]
abbrev JD : List (List Str) := [["0", "0", "0"], ["0", "1", "2"], ["0", "2", "2"]]
theorem f1 : fault G2 JA JA "0" "0" = some (("gone" : Str), [("1" : Str)]) := by decide +kernel
theorem f2 : fault G2 JA JB "0" "0" = some (("one" : Str), [("1" : Str)]) := by decide +kernel
theorem f3 : fault G2 JB JA "1" "0" = none := by decide +kernel
theorem f4 : fault G3 JC JD "0" "1" = some (("greatest" : Str), [("2" : Str)]) := by decide +kernel
theorem g1 : Good G2 JA JA "0" "0" := good_of (by decide +kernel)
theorem g2 : Good G2 JA JB "0" "0" := good_of (by decide +kernel)
theorem g3 : Good G2 JB JA "1" "0" := good_of (by decide +kernel)
theorem g4 : Good G3 JC JD "0" "1" := good_of (by decide +kernel)
def seenD : List PyData := [faultD (some ("gone", ["1"])), faultD (some ("one", ["1"])), faultD none]
section
variable {K : PySem.W.Frag} {σ : L2.St} {H : Hp} {C : Addr} {te tl tj tt : TE} {tk : TA} {G : List Str} {J T : List (List Str)} {lo hi : Str} {vj vt : V} {i : Nat} {tz : TS} {D : Ends} {ds : List PyData}
theorem q_mk (el : EvL tl σ H (G.map V.str)) (ej : Ev tj σ H vj) (et : Ev tt σ H vt) (ek : EvA tk σ H [.str lo, .str hi]) (dj : Dp K H vj (rowsL J)) (dt : Dp K H vt (rowsL T)) (gd : Good G J T lo hi) (q : ∀ a H', Ex H H' → Made K C H' a G J T lo hi → tz D (σ.set i (some (.ref a))) H') :
    tSeq (tAsg (tMakeK C 3 2 (spTInit K C) (fun vs zs => vs ++ zs) E0 (tCons tl (tCons tj (tCons tt tNil))) tk) (gName i)) tz D σ H :=
  mk_read (Q := fun v H' => tz D (σ.set i (some v)) H') el ej et ek dj dt gd fun a H' _ e md => q a H' e md
theorem q_asgDn (h : K13.EvDL K te σ H ds) (k : ∀ p xs H1, H p = none → Ex H H1 → H1 p = some (.lst xs) → DpAll K H1 xs ds → tz D (σ.set i (some (.ref p))) H1) : tSeq (tAsg te (gName i)) tz D σ H := h H (Ex.refl H) _ k
end
theorem ed_row2 {σ : L2.St} {H : Hp} {a b : Str} : EvD K (tLst (tCons (tC (.str a)) (tCons (tC (.str b)) tNil))) σ H (.list ([a, b].map .str)) := ed_dl (dl_lst (da_cons ed_str (da_cons ed_str da_nil)) (by simp))
theorem ed_row3 {σ : L2.St} {H : Hp} {a b c : Str} : EvD K (tLst (tCons (tC (.str a)) (tCons (tC (.str b)) (tCons (tC (.str c)) tNil)))) σ H (.list ([a, b, c].map .str)) := ed_dl (dl_lst (da_cons ed_str (da_cons ed_str (da_cons ed_str da_nil))) (by simp))
theorem ok_law (F : FnP K "law" sLaw f fd) (T : Bl mg) (T4 : Bl4 mg) (M : Mk K C fT) (gT : mg "TableScale" = some (.ref C)) (hb : KBn K fdT ["self", "grades", "joins", "products", "none", "nearest"] 4 ["none", "nearest"] (fun us ws => us ++ ws) (fun vs zs => vs ++ zs))
    (FT : FnOk P w K mg base CX0 8 fT fdT ["self", "grades", "joins", "products", "none", "nearest"] (spTInit K C))
    (cPen : Cal P w K mg base CX0 1 "_law_pen" ["_law_script"] (spPenC K)) (cPl : Cal P w K mg base CX0 3 "_law_places" ["_law_pen_here", "_law_most"] (spPl K)) (cTo : Cal P w K mg base CX0 4 "_law_told" ["_law_pen_here", "_law_places_here"] (spTo K))
    (cTS : Cal P w K mg base CX0 10 "_law_table_scale" ["_law_told_here"] (spTS K C)) (cFF : Cal P w K mg base CX0 5 "first_fault" ["scale"] (spFault K C)) (cBe : Cal P w K mg base CX0 3 "_law_bent" ["_law_pen_here", "_law_told_here"] (spBe K))
    (cFi : Cal P w K mg base CX0 3 "_law_first" ["_law_told_here"] (spFirst K)) : FnG P w K mg base CX0 11 f fd ["_law_script"] (spLaw K) := by
  refine fng F scLaw (fun vs H Q E h => ?_) (fun cdv A outer s H vs Q E hgd hr10 h => ?_)
  · obtain ⟨a, ns, rfl, _⟩ := h
    rfl
  · obtain ⟨a, ns, rfl, hS, q⟩ := h
    have hr1 : Room 1 (A.deeper (envOfC "law" (defScope sLaw) s.heap.objs.size f cdv)) := hr10.mono (by decide)
    have hr3 : Room 3 (A.deeper (envOfC "law" (defScope sLaw) s.heap.objs.size f cdv)) := hr10.mono (by decide)
    have hr4 : Room 4 (A.deeper (envOfC "law" (defScope sLaw) s.heap.objs.size f cdv)) := hr10.mono (by decide)
    have hr5 : Room 5 (A.deeper (envOfC "law" (defScope sLaw) s.heap.objs.size f cdv)) := hr10.mono (by decide)
    have hr9 : Room 9 (A.deeper (envOfC "law" (defScope sLaw) s.heap.objs.size f cdv)) := hr10.mono (by decide)
    have hu65 : (A.deeper (envOfC "law" (defScope sLaw) s.heap.objs.size f cdv)).units + 65 < cLine := by
      have := hr10.un
      omega
    have hu64 : (A.deeper (envOfC "law" (defScope sLaw) s.heap.objs.size f cdv)).units + 64 < cLine := by omega
    refine ⟨_, PSs.nox (pss_cons (ps_set (i := 1) scLaw.nd rfl (Or.inl rfl) (pe_cal cPen hr1 rfl pass0 (pa_cons (pv 0) pa_nil)))
      (pss_cons (ps_for PassesOwn.never rfl (pi_range1 rfl T.rng (pa_cons pe_int pa_nil)) (pg_name (i := 2) scLaw.nd rfl (Or.inl rfl))
        (pss_cons (ps_set (i := 3) scLaw.nd rfl (Or.inl rfl) (pe_cal cTo hr4 rfl pass0 (pa_cons (pv 1) (pa_cons (pe_cal cPl hr3 rfl pass0 (pa_cons (pv 1) (pa_cons (pe_ix ix_list (pe_lst (pa_cons pe_int (pa_cons pe_int (pa_cons pe_int pa_nil)))) (pv 2) (fun _ _ => rfl)) pa_nil))) pa_nil))))
        (pss_cons (ps_if (PW.pt (pw_and (pt_cmpR op_eq (pv 2) pe_int (nomark _)) (pw_and1 (pt_cmp (pc_notN (pe_cal cFF hr5 rfl pass0 (pa_cons (pe_cal cTS hr10 rfl pass0 (pa_cons (pv 3) pa_nil)) pa_nil))))))) (pss_one (ps_ret pe_bl)) pss_nil)
        (pss_cons (ps_expr (pe_cal cBe hr3 rfl pass0 (pa_cons (pv 1) (pa_cons (pv 3) pa_nil))))
        (pss_one (ps_if (pt_cmpR op_ne (pe_callB (call_repr hgd hu65) (by rfl) T4.rep boot_repr (pa_cons (pe_cal cFF hr5 rfl pass0 (pa_cons (pe_cal cTS hr10 rfl pass0 (pa_cons (pv 3) pa_nil)) pa_nil)) pa_nil)) (pe_callB (call_repr hgd hu65) (by rfl) T4.rep boot_repr (pa_cons (pe_cal cFi hr3 rfl pass0 (pa_cons (pv 3) pa_nil)) pa_nil)) (nomark _)) (pss_one (ps_ret pe_bl)) pss_nil))))))
      (pss_cons (ps_par (i := 4) (j := 5) rfl scLaw.nd rfl rfl (by decide) rfl rfl (pa_cons (pe_lst (pa_cons (pe_lst (pa_cons pe_str (pa_cons pe_str pa_nil))) (pa_cons (pe_lst (pa_cons pe_str (pa_cons pe_str pa_nil))) pa_nil))) (pa_cons (pe_lst (pa_cons (pe_lst (pa_cons pe_str (pa_cons pe_str pa_nil))) (pa_cons (pe_lst (pa_cons pe_str (pa_cons pe_str pa_nil))) pa_nil))) pa_nil)) rfl)
      (pss_cons (ps_set (i := 6) scLaw.nd rfl (Or.inl rfl) (pe_lst (pa_cons (pe_cal cFF hr5 rfl pass0 (pa_cons (pe_makeK (n := 3) M FT hr9 rfl gT hb pass0 (pa_cons (pe_lst (pa_cons pe_str (pa_cons pe_str pa_nil))) (pa_cons (pv 4) (pa_cons (pv 4) pa_nil))) (pk_cons pe_str (pk_cons pe_str pk_nil))) pa_nil)) pa_nil)))
      (pss_cons (ps_expr (pe_bm PySem.F.plainAttrs_list PySem.F.slot_list_append PySem.F.type_list_append mt_append (pv 6) (pa_cons (pe_cal cFF hr5 rfl pass0 (pa_cons (pe_makeK (n := 3) M FT hr9 rfl gT hb pass0 (pa_cons (pe_lst (pa_cons pe_str (pa_cons pe_str pa_nil))) (pa_cons (pv 4) (pa_cons (pv 5) pa_nil))) (pk_cons pe_str (pk_cons pe_str pk_nil))) pa_nil)) pa_nil)))
      (pss_cons (ps_expr (pe_bm PySem.F.plainAttrs_list PySem.F.slot_list_append PySem.F.type_list_append mt_append (pv 6) (pa_cons (pe_cal cFF hr5 rfl pass0 (pa_cons (pe_makeK (n := 3) M FT hr9 rfl gT hb pass0 (pa_cons (pe_lst (pa_cons pe_str (pa_cons pe_str pa_nil))) (pa_cons (pv 5) (pa_cons (pv 4) pa_nil))) (pk_cons pe_str (pk_cons pe_str pk_nil))) pa_nil)) pa_nil)))
      (pss_cons (ps_if (pt_cmpR (op_neD hu64) (pv 6) (pe_lst (pa_cons (pe_tup (pa_cons pe_str (pa_cons (pe_tup (pa_cons pe_str pa_nil)) pa_nil))) (pa_cons (pe_tup (pa_cons pe_str (pa_cons (pe_tup (pa_cons pe_str pa_nil)) pa_nil))) (pa_cons pe_non pa_nil)))) (nomark _)) (pss_one (ps_ret pe_bl)) pss_nil)
      (pss_cons (ps_set (i := 4) scLaw.nd rfl (Or.inl rfl) (pe_lst (pa_cons (pe_lst (pa_cons pe_str (pa_cons pe_str (pa_cons pe_str pa_nil)))) (pa_cons (pe_lst (pa_cons pe_str (pa_cons pe_str (pa_cons pe_str pa_nil)))) (pa_cons (pe_lst (pa_cons pe_str (pa_cons pe_str (pa_cons pe_str pa_nil)))) pa_nil)))))
      (pss_cons (ps_set (i := 5) scLaw.nd rfl (Or.inl rfl) (pe_lst (pa_cons (pe_lst (pa_cons pe_str (pa_cons pe_str (pa_cons pe_str pa_nil)))) (pa_cons (pe_lst (pa_cons pe_str (pa_cons pe_str (pa_cons pe_str pa_nil)))) (pa_cons (pe_lst (pa_cons pe_str (pa_cons pe_str (pa_cons pe_str pa_nil)))) pa_nil)))))
      (pss_cons (ps_set (i := 7) scLaw.nd rfl (Or.inl rfl) (pe_makeK (n := 3) M FT hr9 rfl gT hb pass0 (pa_cons (pe_lst (pa_cons pe_str (pa_cons pe_str (pa_cons pe_str pa_nil)))) (pa_cons (pv 4) (pa_cons (pv 5) pa_nil))) (pk_cons pe_str (pk_cons pe_str pk_nil))))
      (pss_one (ps_ret (pe_cmpR (op_eqD hu64) (pe_cal cFF hr5 rfl pass0 (pa_cons (pv 7) pa_nil)) (pe_tup (pa_cons pe_str (pa_cons (pe_tup (pa_cons pe_str pa_nil)) pa_nil))) (nomark _)))))))))))))), ?_⟩
    refine ⟨_, rfl, a, ns, rfl, hS, fun p c H1 e1 pen1 => ?_⟩
    refine q_forR1 (ea_cons ev_c ea_nil) (by decide) (fun i σ' H' => ∃ x2 x3 x4 x5 x6 x7, σ' = [some (.ref a), some (.ref p), x2, x3, x4, x5, x6, x7] ∧ PenC H' p c (216 * i)) (fun H' e => ⟨_, _, _, _, _, _, rfl, pen1.ext e⟩) ?_ ?_
    · rintro i σ' H2 hi ⟨x2, x3, x4, x5, x6, x7, rfl, pen2⟩
      have hi3 : i < 3 := by omega
      obtain ⟨k, k3, k4, ek⟩ : ∃ k : Nat, 3 ≤ k ∧ k ≤ 4 ∧ ([V.int 3, V.int 3, V.int 4] : List V)[i]? = some (V.int (k : Int)) := by
        match i, hi3 with
        | 0, _ => exact ⟨3, by decide, by decide, rfl⟩
        | 1, _ => exact ⟨3, by decide, by decide, rfl⟩
        | 2, _ => exact ⟨4, by decide, by decide, rfl⟩
      have ix : Ev (tOp (rIxL K) (tLst (tCons (tC (.int 3)) (tCons (tC (.int 3)) (tCons (tC (.int 4)) tNil)))) (tVar 2)) [some (.ref a), some (.ref p), some (.int (i : Int)), x3, x4, x5, x6, x7] H2 (.int (k : Int)) :=
        ev_opL1 (xs := [.int 3, .int 3, .int 4]) (el_lst (ea_cons ev_c (ea_cons ev_c (ea_cons ev_c ea_nil))) (by simp)) (fun H1 _ => ev_var rfl) (fun p H1 hp _ => rv_ixL (sq_of hp) (atI_nat ek))
      refine ⟨_, rfl, _, rfl, ?_⟩
      refine ix H2 (Ex.refl H2) _ fun H3 e3 => ⟨p, c, 216 * i, k, rfl, pen2.ext e3, k3, by omega, by omega, fun v H4 d b4 pen4 dp fam => ?_⟩
      obtain ⟨n, M0, T0, lo, hi, po⟩ := fam_plan fam k4
      refine ⟨p, c, 216 * i + 2, v, d, n, M0, T0, lo, hi, rfl, pen4, by omega, dp, po, fun td H5 ln jn tn rj rt G J T' l h φ O pen5 told img mφ => ?_⟩
      have nof := img_fault img po.2
      refine q_when (b := false) (et_is (et_and (et_test (ev_op (ev_var rfl) ev_c (rv_eq rfl))) (fun _ => et_notN (by
        have z := ed_ffTold (C := C) (i := 3) (σ := [some (.ref a), some (.ref p), some (.int (i : Int)), some (.ref td), x4, x5, x6, x7]) rfl told.at_
        rw [nof] at z
        exact z))) (by simp)) (fun z => nomatch z) (fun _ H6 e6 => ?_)
      refine ⟨_, rfl, _, rfl, p, c, td, ln, jn, tn, 216 * i + 2 + 14, rj, rt, G, J, T', l, h, rfl, pen5.ext e6, by omega, told.ext e6, fun H7 J7 T7 l7 h7 pen7 at7 => ?_⟩
      have hG : ∀ y ∈ G, y ∈ pool := fun y hy => by
        obtain ⟨a, ha, rfl⟩ := img_lt img hy
        exact mφ a ha
      have sok : ShowOk (faultD (fault G J7 T7 l7 h7)) := fault_show fun x r e => ⟨(fault_in e).1, (fault_in e).2.1, fun y hy => hG y ((fault_in e).2.2 y hy)⟩
      exact s_when (b := false) (et_same (ev_reprD (ed_ffTold rfl at7) sok.sh sok.nd sok.sz sok.dz) (ev_reprD (ed_firstTold rfl at7) sok.sh sok.nd sok.sz sok.dz)) (fun z => nomatch z) (fun _ H8 e8 => ⟨_, _, _, _, _, _, rfl, (pen7.ext e8).up (by omega)⟩)
    · rintro σ' H2 ⟨x2, x3, x4, x5, x6, x7, rfl, _⟩
      have el2 : ∀ (σ : L2.St) (H : Hp), EvL (tLst (tCons (tC (.str "0")) (tCons (tC (.str "1")) tNil))) σ H (G2.map V.str) := fun σ H => el_lst (ea_cons ev_c (ea_cons ev_c ea_nil)) (by simp)
      have el3 : ∀ (σ : L2.St) (H : Hp), EvL (tLst (tCons (tC (.str "0")) (tCons (tC (.str "1")) (tCons (tC (.str "2")) tNil)))) σ H (G3.map V.str) := fun σ H => el_lst (ea_cons ev_c (ea_cons ev_c (ea_cons ev_c ea_nil))) (by simp)
      refine q_parD (K := K) (d := rowsL JA) (e := rowsL JB) (ed_dl (dl_lst (da_cons ed_row2 (da_cons ed_row2 da_nil)) (by simp))) (ed_dl (dl_lst (da_cons ed_row2 (da_cons ed_row2 da_nil)) (by simp))) fun vr vm H3 e3 dr dm => ?_
      refine q_asgDn (K := K) (ds := [faultD (some ("gone", ["1"]))]) (dl_lst (da_cons (ed_ffMade (el2 _ _) (ev_var rfl) (ev_var rfl) (ea_cons ev_c (ea_cons ev_c ea_nil)) dr dr g1 f1) da_nil) (by simp)) fun ps xs H4 np e4 h4 d4 => ?_
      refine q_appD (ds := [faultD (some ("gone", ["1"]))]) (d := faultD (some ("one", ["1"]))) h4 (ev_var rfl) (ed_ffMade (el2 _ _) (ev_var rfl) (ev_var rfl) (ea_cons ev_c (ea_cons ev_c ea_nil)) (dp_ext e4 dr) (dp_ext e4 dm) g2 f2) (by rw [dpa_len d4]; decide) d4 rfl rfl fun v5 H5 H6 e5 x6 h6 d6 => ?_
      have e36 : Ex H3 H6 := fun b o z => x6 b o (by rw [dl_ne (ne_of_none z np)]; exact (e4.trans e5) b o z)
      refine q_appD (ds := [faultD (some ("gone", ["1"])), faultD (some ("one", ["1"]))]) (d := faultD none) h6 (ev_var rfl) (ed_ffMade (el2 _ _) (ev_var rfl) (ev_var rfl) (ea_cons ev_c (ea_cons ev_c ea_nil)) (dp_ext e36 dm) (dp_ext e36 dr) g3 f3) (by rw [dpa_len d6]; decide) d6 rfl rfl fun v7 H7 H8 e7 x8 h8 d8 => ?_
      refine q_when (b := false) (et_is (et_neD (K := K) (d := .list seenD) (e := .list seenD) (ed_var rfl (.lst (sq_of h8) d8)) (ed_dl (dl_lst (da_cons (ed_tup (da_cons ed_str (da_cons (ed_tup (da_cons ed_str da_nil) (by simp)) da_nil)) (by simp)) (da_cons (ed_tup (da_cons ed_str (da_cons (ed_tup (da_cons ed_str da_nil) (by simp)) da_nil)) (by simp)) (da_cons ed_non da_nil))) (by decide)))
        (by decide +kernel) (by decide +kernel)) (by decide +kernel)) (fun z => nomatch z) (fun _ H9 e9 => ?_)
      refine q_asgEd (K := K) (d := rowsL JC) (ed_dl (dl_lst (da_cons ed_row3 (da_cons ed_row3 (da_cons ed_row3 da_nil))) (by simp))) fun v4 H10 e10 d10 => ?_
      refine q_asgEd (K := K) (d := rowsL JD) (ed_dl (dl_lst (da_cons ed_row3 (da_cons ed_row3 (da_cons ed_row3 da_nil))) (by simp))) fun v5 H11 e11 d11 => ?_
      refine q_mk (K := K) (el3 _ _) (ev_var rfl) (ev_var rfl) (ea_cons ev_c (ea_cons ev_c ea_nil)) (dp_ext e11 d10) d11 g4 fun am H12 e12 md => ?_
      exact s_ret (ev_is (ev_eqD (K := K) (d := faultD (some ("greatest", ["2"]))) (e := faultD (some ("greatest", ["2"]))) (ed_ffVar rfl md.sc f4) (ed_tup (da_cons ed_str (da_cons (ed_tup (da_cons ed_str da_nil) (by simp)) da_nil)) (by simp)) (by decide +kernel) (by decide +kernel)) (by congr 1)) fun H13 e13 => q H13
end
end K03

set_option Elab.async false
set_option linter.all false
set_option maxRecDepth 100000
set_option maxHeartbeats 4000000
/-! S39: what the head is asked. -/
namespace K03
open PySem PySem.Spec PyProof.Rows L2 J S
/-- a tuple that stands among what is kept -/
def tupA (K : PySem.W.Frag) (a : Addr) (vs : List V) : Bool := match K.lookup a with
  | some o => decide (o.cls = .type "tuple") && (match o.data with
    | .seq its _ => decide (its.size ≤ sizeLine) && He.relAll vs its.toList
    | _ => false)
  | none => false
theorem tupA_ok {K : PySem.W.Frag} {a : Addr} {vs : List V} (h : tupA K a vs = true) (H : Hp) : SqT K H a vs := by
  unfold tupA at h
  cases q : K.lookup a with
  | none =>
    rw [q] at h
    cases h
  | some o =>
    rw [q] at h
    obtain ⟨h1, h2⟩ := He.ba h
    cases e : o.data with
    | seq its n =>
      rw [e] at h2
      obtain ⟨h3, h4⟩ := He.ba h2
      exact .inr ⟨o, its, n, q, of_decide_eq_true h1, e, of_decide_eq_true h3, He.relAll_ok h4⟩
    | _ =>
      rw [e] at h2
      cases h2
/-- the demands as the module tells them: word, number of grades, def -/
def dW : List (Str × Nat × Str) := [("join turned", 2, "_join_turned"), ("join joined", 3, "_join_joined"), ("join once", 1, "_join_once"), ("none", 1, "_none_joined"), ("product turned", 2, "_product_turned"), ("product joined", 3, "_product_joined"), ("spread", 3, "_product_spread"), ("gone", 1, "_none_gone"), ("one", 1, "_nearest_one"), ("greatest", 1, "_nearest_greatest")]
def dAt (i : Nat) : Str × Nat × Str := dW.getD i ("", 0, "")
def itA (i : Nat) (K : PySem.W.Frag) : Addr := match K.lookup (He.ga K "DEMANDS") with
  | some o => (match o.data with
    | .seq its _ => (match its.toList[i]? with
      | some (.ref b) => b
      | _ => 0)
    | _ => 0)
  | none => 0
def fkA (i : Nat) (K : PySem.W.Frag) : Addr := He.ga K (dAt i).2.2
def demB (K : PySem.W.Frag) : Bool := tupA K (He.ga K "DEMANDS") ((List.range 10).map fun i => V.ref (itA i K)) && (((List.range 10).all fun i => tupA K (itA i K) [.str (dAt i).1, .int ((dAt i).2.1 : Int), .ref (fkA i K)]) &&
  ((List.range 10).all fun i => (List.range 10).all fun j => decide (i = j) || !decide (fkA i K = fkA j K)))
/-- Scale.__init__ by the class's name -/
def ownB (K : PySem.W.Frag) : Bool := PySem.W.readsIn K (He.ga K "Scale") (.type "type") && (decide (PySem.W.specialIn K (.ref (He.ga K "Scale")) "__getattribute__" = some (some (.builtin "type.__getattribute__"))) && (match PySem.W.findCls K (.ref (He.ga K "Scale")) (.type "type") "__init__" with
  | some (.val (.ref a)) => decide (a = He.fAd K ("Scale", some "__init__"))
  | _ => false))
def mths7 : List Str := ["__contains__", "grades", "join", "then", "joined", "_place", "_put_together"]
def fas : List He.Fa := [.cls "TableScale", .mkr "TableScale", .str "SIGNS" signS, .int "LONGEST" 12, .int "MOST_GRADES" 8, .glo "DEMANDS", .glo "Scale", .glo "TableScale"]
def frees : List Str := ["isinstance", "str", "list", "tuple", "int", "len", "range", "all", "max", "min", "sum", "repr"]
def glo1 : List Str := ["within", "is_row", "is_run", "_grades_below", "_meet_rows", "_only_rows", "_check_grades", "_are_unlike", "_check_rows", "_check_entries", "_join_turned", "_join_joined", "_join_once", "_none_joined", "_product_turned", "_product_joined", "_product_spread", "_none_gone", "_nearest_one", "_nearest_greatest", "_tuples", "first_fault"]
def glo2 : List Str := ["_law_pen", "_law_next", "_law_draw", "_law_shuffled", "_law_costs", "_law_levels", "_law_sets", "_law_odd", "_law_places", "_law_told", "_law_table_scale", "_law_join", "_law_then", "_law_rows_of", "_law_bent", "_law_fails", "_law_fails_one", "_law_first", "law"]
def gloS : List Str := glo1 ++ glo2
def mkD (x : Str) (i : Nat) : He.DefD := ⟨(x, none), x, x, defArgs (topS i), defBody (topS i), defScope (topS i), [], []⟩
def mkM (C x : Str) (B : Str) (i j : Nat) : He.DefD := ⟨(C, some x), x, B ++ "." ++ x, defArgs (methS i j), defBody (methS i j), defScope (methS i j), [], []⟩
def fnD : List He.DefD := [mkD "within" 9, mkD "is_row" 13, mkD "is_run" 14, mkD "_grades_below" 18, mkD "_meet_rows" 19, mkD "_only_rows" 20, mkD "_check_grades" 22, mkD "_are_unlike" 23, mkD "_check_rows" 24, mkD "_check_entries" 25, mkD "_join_turned" 26, mkD "_join_joined" 27, mkD "_join_once" 28, mkD "_none_joined" 29, mkD "_product_turned" 30, mkD "_product_joined" 31, mkD "_product_spread" 32, mkD "_none_gone" 33, mkD "_nearest_one" 34, mkD "_nearest_greatest" 35, mkD "_tuples" 37, mkD "first_fault" 38, mkD "_law_pen" 40, mkD "_law_next" 41, mkD "_law_draw" 42, mkD "_law_shuffled" 43, mkD "_law_costs" 44, mkD "_law_levels" 45, mkD "_law_sets" 46, mkD "_law_odd" 47, mkD "_law_places" 48, mkD "_law_told" 49, mkD "_law_table_scale" 50, mkD "_law_join" 51, mkD "_law_then" 52, mkD "_law_rows_of" 53, mkD "_law_bent" 54, mkD "_law_fails" 55, mkD "_law_fails_one" 56, mkD "_law_first" 57, mkD "law" 58,
  mkM "TableScale" "__contains__" "Scale" 17 1, mkM "TableScale" "grades" "Scale" 17 4, mkM "TableScale" "join" "Scale" 17 5, mkM "TableScale" "then" "Scale" 17 6, mkM "TableScale" "joined" "Scale" 17 7, mkM "TableScale" "_place" "Scale" 17 11, mkM "TableScale" "_put_together" "Scale" 17 12, mkM "TableScale" "__init__" "TableScale" 21 0, mkM "Scale" "__init__" "Scale" 17 0]
def allB (K : PySem.W.Frag) : Bool := (fas.all fun f => f.ok K) && ((frees.all fun x => (He.Fa.free x).ok K) && ((gloS.all fun x => (He.Fa.glo x).ok K) && ((mths7.all fun m => (He.Fa.meth "TableScale" m).ok K) && ((fldN.all fun f => (He.Fa.noat "TableScale" f).ok K) && (demB K && (ownB K && (fnD.all fun d => d.ok K)))))))
abbrev AlK : Type := Bool × List He.FnW
def obsK (K : PySem.W.Frag) : AlK := (allB K, fnD.map fun d => He.fnW K d.at_)
def valK : AlK := (true, fnD.map He.DefD.val)
def SaysK (K : PySem.W.Frag) : Prop := obsK K = valK
def frK (g : Addr → Option Obj) : PySem.W.Frag := He.frG g (cStatics :: He.asD g 4)
def hkK : PySem.W.Hook where
  α := AlK
  obs := fun s => obsK (frK s.heap.get?)
  val := fun _ => valK
  says := fun _ h => ∃ K : PySem.W.Frag, K.In h ∧ SaysK K
  of := fun _ _ e => ⟨_, He.frG_in, e⟩
  keeps := fun _ _ _ ⟨K, hK, c⟩ k => ⟨K, PySem.W.Frag.In.keeps hK k, c⟩
def obK (s : PySem.W.SharedT) : AlK := obsK (frK (HandSHeadRun.getT s))
theorem obK_eq (s : PySem.W.SharedT) : obK s = hkK.obs s.abs := by
  have e : HandSHeadRun.getT s = s.abs.heap.get? := funext fun a => HandSHeadRun.getT_eq s a
  unfold obK
  rw [e] <;> rfl
end K03

set_option Elab.async false
set_option linter.all false
set_option maxRecDepth 100000
set_option maxHeartbeats 0
/-! S40: the run of the top. -/
namespace K03
open PySem PySem.Spec PyProof.Rows L2 J
abbrev RK : PySem.W.OpenRow := PySem.W.OpenLaw.row PySem.Challenge.rw_neargrades_k03_first_faults
def loose1 : List Str := ["_wall", "_kept", "_kept_row", "NeargradesError", "BadScale", "NameMissing", "UnknownGrade", "within", "is_row", "is_run", "_grades_below", "_meet_rows", "_only_rows", "_check_grades", "_are_unlike", "_check_rows", "_check_entries", "_join_turned", "_join_joined", "_join_once", "_none_joined", "_product_turned", "_product_joined", "_product_spread", "_none_gone"]
def loose2 : List Str := ["_nearest_one", "_nearest_greatest", "_tuples", "first_fault", "_law_pen", "_law_next", "_law_draw", "_law_shuffled", "_law_costs", "_law_levels", "_law_sets", "_law_odd", "_law_places", "_law_told", "_law_table_scale", "_law_join", "_law_then", "_law_rows_of", "_law_bent", "_law_fails", "_law_fails_one", "_law_first", "SIGNS", "LONGEST", "MOST_GRADES", "Scale", "TableScale", "DEMANDS", "__name__"]
def loose : List Str := loose1 ++ loose2
theorem run (w : World) : HandSHeadRun.RunEq RK (PySem.W.view RK.prog [58]) hkK obK 9000 loose w := by
  intro os
  kernel_rfl
end K03

set_option Elab.async false
set_option linter.all false
set_option maxRecDepth 100000
set_option maxHeartbeats 8000000
/-! S41: from what the head is asked to facts. -/
namespace K03
open PySem PySem.Spec PyProof.Rows L2 Evl J ClX StX S
section
variable {P : Program} {w : World} {K : PySem.W.Frag} {mg : Str → Option Value} {h base : Heap}
abbrev cT (K : PySem.W.Frag) : Addr := He.ga K "TableScale"
structure EnvK (K : PySem.W.Frag) (mg : Str → Option Value) : Prop where
  fre : ∀ x ∈ frees, mg x = none
  glo : ∀ x ∈ gloS, mg x = some (.ref (He.ga K x))
  met : ∀ m ∈ mths7, Meth K (cT K) m (He.ma K (cT K) m)
  clf : ClsF K (cT K) fldN
  mkr : Mk K (cT K) (He.ma K (cT K) "__init__")
  sgn : ∃ t, mg "SIGNS" = some (.str signS t)
  lng : ∃ t, mg "LONGEST" = some (.int 12 t)
  mst : ∃ t, mg "MOST_GRADES" = some (.int 8 t)
  gD : mg "DEMANDS" = some (.ref (He.ga K "DEMANDS"))
  gS : mg "Scale" = some (.ref (He.ga K "Scale"))
  gT : mg "TableScale" = some (.ref (cT K))
  row : ∀ H : Hp, SqT K H (He.ga K "DEMANDS") ((List.range 10).map fun i => V.ref (itA i K))
  at_ : ∀ i, i < 10 → ∀ H : Hp, SqT K H (itA i K) [.str (dAt i).1, .int ((dAt i).2.1 : Int), .ref (fkA i K)]
  un : ∀ i j, i < 10 → j < 10 → fkA i K = fkA j K → i = j
  rd : CRead K (He.ga K "Scale") (.type "type")
  ini : PySem.W.findCls K (.ref (He.ga K "Scale")) (.type "type") "__init__" = some (.val (.ref (He.fAd K ("Scale", some "__init__"))))
  fn : ∀ (i : Nat) (d : He.DefD), fnD[i]? = some d → ∃ fd, FunD K d.name d.qual d.params d.body d.scope (d.dvs K) (d.kws K) (He.fAd K d.at_) fd
theorem env_of (X : K.In h) (G : h.Ns mainGlobals mg) (c : SaysK K) : EnvK K mg := by
  have c0 : allB K = true := congrArg (fun z : AlK => z.1) c
  have e1 : fnD.map (fun d => He.fnW K d.at_) = fnD.map He.DefD.val := congrArg (fun z : AlK => z.2) c
  obtain ⟨a1, c1⟩ := He.ba c0
  obtain ⟨a2, c2⟩ := He.ba c1
  obtain ⟨a3, c3⟩ := He.ba c2
  obtain ⟨a4, c4⟩ := He.ba c3
  obtain ⟨a5, c5⟩ := He.ba c4
  obtain ⟨a6, c6⟩ := He.ba c5
  obtain ⟨a7, a8⟩ := He.ba c6
  have fa : ∀ (i : Nat) (f : He.Fa), fas[i]? = some f → f.ok K = true := fun i f hf => List.all_eq_true.mp a1 f (List.mem_of_getElem? hf)
  obtain ⟨d1, d2⟩ := He.ba a6
  obtain ⟨d2, d3⟩ := He.ba d2
  obtain ⟨o1, o2⟩ := He.ba a7
  obtain ⟨o2, o3⟩ := He.ba o2
  refine ⟨fun x hx => He.free_ok X G (List.all_eq_true.mp a2 x hx), fun x hx => He.glo_ok X G (List.all_eq_true.mp a3 x hx), fun m hm => He.meth_ok (List.all_eq_true.mp a4 m hm),
    ⟨He.cls_ok (fa 0 _ rfl), fun f hf => He.noat_ok (List.all_eq_true.mp a5 f hf)⟩, He.mkr_ok (fa 1 _ rfl), He.str_ok X G (fa 2 _ rfl), He.int_ok X G (fa 3 _ rfl), He.int_ok X G (fa 4 _ rfl),
    He.glo_ok X G (fa 5 _ rfl), He.glo_ok X G (fa 6 _ rfl), He.glo_ok X G (fa 7 _ rfl), fun H => tupA_ok d1 H, fun i hi H => tupA_ok (List.all_eq_true.mp d2 i (List.mem_range.mpr hi)) H, fun i j hi hj e => ?_, ⟨o1, of_decide_eq_true o2⟩, ?_, fun i d hd => ?_⟩
  · have z := List.all_eq_true.mp (List.all_eq_true.mp d3 i (List.mem_range.mpr hi)) j (List.mem_range.mpr hj)
    rcases (Bool.or_eq_true _ _).mp z with z | z
    · exact of_decide_eq_true z
    · rw [decide_eq_true e] at z
      cases z
  · split at o3
    · rename_i a ea
      rw [ea, of_decide_eq_true o3]
    · cases o3
  · have q : (fnD.map fun d => He.fnW K d.at_)[i]? = (fnD.map He.DefD.val)[i]? := by rw [e1]
    rw [List.getElem?_map, List.getElem?_map, hd] at q
    exact He.DefD.funD (Option.some.inj q) (List.all_eq_true.mp a8 d (List.mem_of_getElem? hd))
end
end K03

set_option Elab.async false
set_option linter.all false
set_option maxRecDepth 100000
set_option maxHeartbeats 8000000
/-! S42: what the head says makes each def's promise. -/
namespace K03
open PySem PySem.Spec PyProof.Rows L2 Evl J ClX StX S
section
variable {P : Program} {w : World} {K : PySem.W.Frag} {mg : Str → Option Value} {h base : Heap}
theorem factsK {f : Addr} (X : K.In h) (G : h.Ns mainGlobals mg) (hfa : mg ("law" : Str) = some (.ref f)) (c : SaysK K) :
    ∃ fd : FuncData, (∀ (s : Shared) (v : Value), BindsTo s fd ⟨[v], []⟩ [("_law_script", v)]) ∧ ∀ base : Heap, FnG P w K mg base CX0 11 f fd ["_law_script"] (spLaw K) := by
  have V : EnvK K mg := env_of X G c
  have T : Bl mg := ⟨V.fre _ (by decide), V.fre _ (by decide), V.fre _ (by decide), V.fre _ (by decide), V.fre _ (by decide), V.fre _ (by decide), V.fre _ (by decide)⟩
  have T2 : Bl2 mg := ⟨V.fre _ (by decide), V.sgn, V.lng, V.mst⟩
  have T3 : Bl3 mg := ⟨V.fre _ (by decide), V.fre _ (by decide), V.fre _ (by decide)⟩
  have T4 : Bl4 mg := ⟨V.fre _ (by decide)⟩
  have cf : ClsF K (cT K) fldN := V.clf
  obtain ⟨fd0, F0⟩ := V.fn 0 _ rfl
  obtain ⟨fd1, F1⟩ := V.fn 1 _ rfl
  obtain ⟨fd2, F2⟩ := V.fn 2 _ rfl
  obtain ⟨fd3, F3⟩ := V.fn 3 _ rfl
  obtain ⟨fd4, F4⟩ := V.fn 4 _ rfl
  obtain ⟨fd5, F5⟩ := V.fn 5 _ rfl
  obtain ⟨fd6, F6⟩ := V.fn 6 _ rfl
  obtain ⟨fd7, F7⟩ := V.fn 7 _ rfl
  obtain ⟨fd8, F8⟩ := V.fn 8 _ rfl
  obtain ⟨fd9, F9⟩ := V.fn 9 _ rfl
  obtain ⟨fd10, F10⟩ := V.fn 10 _ rfl
  obtain ⟨fd11, F11⟩ := V.fn 11 _ rfl
  obtain ⟨fd12, F12⟩ := V.fn 12 _ rfl
  obtain ⟨fd13, F13⟩ := V.fn 13 _ rfl
  obtain ⟨fd14, F14⟩ := V.fn 14 _ rfl
  obtain ⟨fd15, F15⟩ := V.fn 15 _ rfl
  obtain ⟨fd16, F16⟩ := V.fn 16 _ rfl
  obtain ⟨fd17, F17⟩ := V.fn 17 _ rfl
  obtain ⟨fd18, F18⟩ := V.fn 18 _ rfl
  obtain ⟨fd19, F19⟩ := V.fn 19 _ rfl
  obtain ⟨fd20, F20⟩ := V.fn 20 _ rfl
  obtain ⟨fd21, F21⟩ := V.fn 21 _ rfl
  obtain ⟨fd22, F22⟩ := V.fn 22 _ rfl
  obtain ⟨fd23, F23⟩ := V.fn 23 _ rfl
  obtain ⟨fd24, F24⟩ := V.fn 24 _ rfl
  obtain ⟨fd25, F25⟩ := V.fn 25 _ rfl
  obtain ⟨fd26, F26⟩ := V.fn 26 _ rfl
  obtain ⟨fd27, F27⟩ := V.fn 27 _ rfl
  obtain ⟨fd28, F28⟩ := V.fn 28 _ rfl
  obtain ⟨fd29, F29⟩ := V.fn 29 _ rfl
  obtain ⟨fd30, F30⟩ := V.fn 30 _ rfl
  obtain ⟨fd31, F31⟩ := V.fn 31 _ rfl
  obtain ⟨fd32, F32⟩ := V.fn 32 _ rfl
  obtain ⟨fd33, F33⟩ := V.fn 33 _ rfl
  obtain ⟨fd34, F34⟩ := V.fn 34 _ rfl
  obtain ⟨fd35, F35⟩ := V.fn 35 _ rfl
  obtain ⟨fd36, F36⟩ := V.fn 36 _ rfl
  obtain ⟨fd37, F37⟩ := V.fn 37 _ rfl
  obtain ⟨fd38, F38⟩ := V.fn 38 _ rfl
  obtain ⟨fd39, F39⟩ := V.fn 39 _ rfl
  obtain ⟨fd40, F40⟩ := V.fn 40 _ rfl
  obtain ⟨fd41, F41⟩ := V.fn 41 _ rfl
  obtain ⟨fd42, F42⟩ := V.fn 42 _ rfl
  obtain ⟨fd43, F43⟩ := V.fn 43 _ rfl
  obtain ⟨fd44, F44⟩ := V.fn 44 _ rfl
  obtain ⟨fd45, F45⟩ := V.fn 45 _ rfl
  obtain ⟨fd46, F46⟩ := V.fn 46 _ rfl
  obtain ⟨fd47, F47⟩ := V.fn 47 _ rfl
  obtain ⟨fd48, F48⟩ := V.fn 48 _ rfl
  obtain ⟨fd49, F49⟩ := V.fn 49 _ rfl
  have e := hfa.symm.trans (V.glo "law" (by decide))
  cases e
  have b := FunD.bindsA (ps := ["_law_script"]) F40 fun _ _ _ _ _ _ us hl => match us, hl with | [_], _ => rfl
  refine ⟨fd40, fun s v => b s [v] rfl, fun base => ?_⟩
  have mHas : MCal P w K mg base CX0 1 (cT K) "__contains__" ["self", "x"] (spHas K (cT K)) := ⟨_, _, cf.cl, V.met _ (by decide), FunD.bindsN F41 fun _ _ _ _ _ _ us hl => match us, hl with | [_, _], _ => rfl, ok_has F41 T cf⟩
  have mPl : MCal P w K mg base CX0 2 (cT K) "_place" ["self", "grade"] (spPlace K (cT K)) := ⟨_, _, cf.cl, V.met _ (by decide), FunD.bindsN F46 fun _ _ _ _ _ _ us hl => match us, hl with | [_, _], _ => rfl, ok_place F46 cf mHas⟩
  have mJ : MCal P w K mg base CX0 3 (cT K) "join" ["self", "a", "b"] (spJoin K (cT K) false) := ⟨_, _, cf.cl, V.met _ (by decide), FunD.bindsN F43 fun _ _ _ _ _ _ us hl => match us, hl with | [_, _, _], _ => rfl, ok_join F43 cf mPl⟩
  have mT : MCal P w K mg base CX0 3 (cT K) "then" ["self", "a", "b"] (spJoin K (cT K) true) := ⟨_, _, cf.cl, V.met _ (by decide), FunD.bindsN F44 fun _ _ _ _ _ _ us hl => match us, hl with | [_, _, _], _ => rfl, ok_then F44 cf mPl⟩
  have mG : MCal P w K mg base CX0 1 (cT K) "grades" ["self"] (spGrades K (cT K)) := ⟨_, _, cf.cl, V.met _ (by decide), FunD.bindsN F42 fun _ _ _ _ _ _ us hl => match us, hl with | [_], _ => rfl, ok_grades F42 T cf⟩
  have mU : MCal P w K mg base CX0 3 (cT K) "_put_together" ["self", "table", "row", "empty"] (spPut K (cT K)) := ⟨_, _, cf.cl, V.met _ (by decide), FunD.bindsN F47 fun _ _ _ _ _ _ us hl => match us, hl with | [_, _, _, _], _ => rfl, ok_put F47 cf mPl⟩
  have mJd : MCal P w K mg base CX0 4 (cT K) "joined" ["self", "row"] (spJoined K (cT K)) := ⟨_, _, cf.cl, V.met _ (by decide), FunD.bindsN F45 fun _ _ _ _ _ _ us hl => match us, hl with | [_, _], _ => rfl, ok_joined F45 cf mU⟩
  have cW : Cal P w K mg base CX0 4 "within" ["scale", "a", "b"] (spWithin K (cT K)) := ⟨_, _, V.glo _ (by decide), F0.kp, FunD.bindsN F0 fun _ _ _ _ _ _ us hl => match us, hl with | [_, _, _], _ => rfl, ok_within F0 mJ⟩
  have cB : Cal P w K mg base CX0 5 "_grades_below" ["scale"] (spBelow K (cT K)) := ⟨_, _, V.glo _ (by decide), F3.kp, FunD.bindsN F3 fun _ _ _ _ _ _ us hl => match us, hl with | [_], _ => rfl, ok_below F3 mG cW⟩
  have cM : Cal P w K mg base CX0 6 "_meet_rows" ["scale"] (spRowsOf K (cT K) false) := ⟨_, _, V.glo _ (by decide), F4.kp, FunD.bindsN F4 fun _ _ _ _ _ _ us hl => match us, hl with | [_], _ => rfl, ok_meetR F4 T mG cB mJd⟩
  have cO : Cal P w K mg base CX0 6 "_only_rows" ["scale"] (spRowsOf K (cT K) true) := ⟨_, _, V.glo _ (by decide), F5.kp, FunD.bindsN F5 fun _ _ _ _ _ _ us hl => match us, hl with | [_], _ => rfl, ok_onlyR F5 T mG cB mT mJd⟩
  have FI := ok_init (P := P) (w := w) (base := base) F49 T cf cM cO
  have bI : Binds K fd49 ["self", "grades", "joins", "products", "none", "nearest"] [] := FunD.bindsN F49 fun _ _ _ _ _ _ us hl => match us, hl with | [_, _, _, _, _, _], _ => rfl
  have cR : Cal P w K mg base CX0 1 "is_row" ["value"] (spIsRow K) := ⟨_, _, V.glo _ (by decide), F1.kp, FunD.bindsN F1 fun _ _ _ _ _ _ us hl => match us, hl with | [_], _ => rfl, ok_isRow F1 T⟩
  have cN : Cal P w K mg base CX0 1 "is_run" ["value"] spIsRun := ⟨_, _, V.glo _ (by decide), F2.kp, FunD.bindsN F2 fun _ _ _ _ _ _ us hl => match us, hl with | [_], _ => rfl, ok_isRun F2 T T2⟩
  have cU : Cal P w K mg base CX0 1 "_are_unlike" ["strings"] (spUnlike K) := ⟨_, _, V.glo _ (by decide), F7.kp, FunD.bindsN F7 fun _ _ _ _ _ _ us hl => match us, hl with | [_], _ => rfl, ok_unlike F7 T⟩
  have cCG : Cal P w K mg base CX0 2 "_check_grades" ["grades"] (spChG K) := ⟨_, _, V.glo _ (by decide), F6.kp, FunD.bindsN F6 fun _ _ _ _ _ _ us hl => match us, hl with | [_], _ => rfl, ok_chG F6 T T2 cR cN cU⟩
  have cCE : Cal P w K mg base CX0 1 "_check_entries" ["grades", "entries"] (spChE K) := ⟨_, _, V.glo _ (by decide), F9.kp, FunD.bindsN F9 fun _ _ _ _ _ _ us hl => match us, hl with | [_, _], _ => rfl, ok_chE F9⟩
  have cCR : Cal P w K mg base CX0 2 "_check_rows" ["grades", "rows"] (spChR K) := ⟨_, _, V.glo _ (by decide), F8.kp, FunD.bindsN F8 fun _ _ _ _ _ _ us hl => match us, hl with | [_, _], _ => rfl, ok_chR F8 T cR cCE⟩
  have FT := ok_tinit (P := P) (w := w) (base := base) F48 cCG cCR cCE V.gS V.rd V.ini F49.kp bI FI
  have hb : KBn K fd48 ["self", "grades", "joins", "products", "none", "nearest"] 4 ["none", "nearest"] (fun us ws => us ++ ws) (fun vs zs => vs ++ zs) := kbn0 F48 fun _ _ _ _ _ _ us ws h1 h2 => match us, ws, h1, h2 with | [_, _, _, _], [_, _], _, _ => rfl
  have H0 : Held P w K mg base 4 (fkA 0 K) (spDem K (cT K) 2 dm26) := ⟨_, _, ok_d26 F10 cf mJ mT, F10.kp, FunD.bindsN F10 fun _ _ _ _ _ _ us hl => match us, hl with | [_, _], _ => rfl⟩
  have H1 : Held P w K mg base 4 (fkA 1 K) (spDem K (cT K) 3 dm27) := ⟨_, _, ok_d27 F11 cf mJ mT, F11.kp, FunD.bindsN F11 fun _ _ _ _ _ _ us hl => match us, hl with | [_, _], _ => rfl⟩
  have H2 : Held P w K mg base 4 (fkA 2 K) (spDem K (cT K) 1 dm28) := ⟨_, _, ok_d28 F12 cf mJ mT, F12.kp, FunD.bindsN F12 fun _ _ _ _ _ _ us hl => match us, hl with | [_, _], _ => rfl⟩
  have H3 : Held P w K mg base 4 (fkA 3 K) (spDem K (cT K) 1 dm29) := ⟨_, _, ok_d29 F13 cf mJ mT, F13.kp, FunD.bindsN F13 fun _ _ _ _ _ _ us hl => match us, hl with | [_, _], _ => rfl⟩
  have H4 : Held P w K mg base 4 (fkA 4 K) (spDem K (cT K) 2 dm30) := ⟨_, _, ok_d30 F14 cf mJ mT, F14.kp, FunD.bindsN F14 fun _ _ _ _ _ _ us hl => match us, hl with | [_, _], _ => rfl⟩
  have H5 : Held P w K mg base 4 (fkA 5 K) (spDem K (cT K) 3 dm31) := ⟨_, _, ok_d31 F15 cf mJ mT, F15.kp, FunD.bindsN F15 fun _ _ _ _ _ _ us hl => match us, hl with | [_, _], _ => rfl⟩
  have H6 : Held P w K mg base 4 (fkA 6 K) (spDem K (cT K) 3 dm32) := ⟨_, _, ok_d32 F16 cf mJ mT, F16.kp, FunD.bindsN F16 fun _ _ _ _ _ _ us hl => match us, hl with | [_, _], _ => rfl⟩
  have H7 : Held P w K mg base 4 (fkA 7 K) (spDem K (cT K) 1 dm33) := ⟨_, _, ok_d33 F17 cf mJ mT, F17.kp, FunD.bindsN F17 fun _ _ _ _ _ _ us hl => match us, hl with | [_, _], _ => rfl⟩
  have H8 : Held P w K mg base 4 (fkA 8 K) (spDem K (cT K) 1 dm34) := ⟨_, _, ok_d34 F18 cf mJ mT, F18.kp, FunD.bindsN F18 fun _ _ _ _ _ _ us hl => match us, hl with | [_, _], _ => rfl⟩
  have H9 : Held P w K mg base 4 (fkA 9 K) (spDem K (cT K) 1 dm35) := ⟨_, _, ok_d35 F19 cf mJ mT, F19.kp, FunD.bindsN F19 fun _ _ _ _ _ _ us hl => match us, hl with | [_, _], _ => rfl⟩
  have D : DemF P w K mg base (cT K) (He.ga K "DEMANDS") (fun i => itA i K) (fun i => fkA i K) := by
    refine ⟨V.gD, V.row, fun i e he H => ?_, V.un, fun i e he => ?_⟩
    · match i, he with
      | 0, he => cases Option.some.inj he; exact V.at_ 0 (by decide) H
      | 1, he => cases Option.some.inj he; exact V.at_ 1 (by decide) H
      | 2, he => cases Option.some.inj he; exact V.at_ 2 (by decide) H
      | 3, he => cases Option.some.inj he; exact V.at_ 3 (by decide) H
      | 4, he => cases Option.some.inj he; exact V.at_ 4 (by decide) H
      | 5, he => cases Option.some.inj he; exact V.at_ 5 (by decide) H
      | 6, he => cases Option.some.inj he; exact V.at_ 6 (by decide) H
      | 7, he => cases Option.some.inj he; exact V.at_ 7 (by decide) H
      | 8, he => cases Option.some.inj he; exact V.at_ 8 (by decide) H
      | 9, he => cases Option.some.inj he; exact V.at_ 9 (by decide) H
      | i + 10, he => simp [demL] at he
    · match i, he with
      | 0, he => cases Option.some.inj he; exact H0
      | 1, he => cases Option.some.inj he; exact H1
      | 2, he => cases Option.some.inj he; exact H2
      | 3, he => cases Option.some.inj he; exact H3
      | 4, he => cases Option.some.inj he; exact H4
      | 5, he => cases Option.some.inj he; exact H5
      | 6, he => cases Option.some.inj he; exact H6
      | 7, he => cases Option.some.inj he; exact H7
      | 8, he => cases Option.some.inj he; exact H8
      | 9, he => cases Option.some.inj he; exact H9
      | i + 10, he => simp [demL] at he
  have cTu : Cal P w K mg base CX0 1 "_tuples" ["grades", "count"] (spTups K) := ⟨_, _, V.glo _ (by decide), F20.kp, FunD.bindsN F20 fun _ _ _ _ _ _ us hl => match us, hl with | [_, _], _ => rfl, ok_tups F20 T⟩
  have cFF : Cal P w K mg base CX0 5 "first_fault" ["scale"] (spFault K (cT K)) := ⟨_, _, V.glo _ (by decide), F21.kp, FunD.bindsN F21 fun _ _ _ _ _ _ us hl => match us, hl with | [_], _ => rfl, ok_fault F21 D mG cTu⟩
  have cPen : Cal P w K mg base CX0 1 "_law_pen" ["_law_script"] (spPenC K) := ⟨_, _, V.glo _ (by decide), F22.kp, FunD.bindsN F22 fun _ _ _ _ _ _ us hl => match us, hl with | [_], _ => rfl, ok_penC F22 T⟩
  have cNx : Cal P w K mg base CX0 1 "_law_next" ["_law_pen_here"] spNext := ⟨_, _, V.glo _ (by decide), F23.kp, FunD.bindsN F23 fun _ _ _ _ _ _ us hl => match us, hl with | [_], _ => rfl, ok_next F23 T⟩
  have cDr : Cal P w K mg base CX0 2 "_law_draw" ["_law_pen_here", "_law_under"] spDrawC := ⟨_, _, V.glo _ (by decide), F24.kp, FunD.bindsN F24 fun _ _ _ _ _ _ us hl => match us, hl with | [_, _], _ => rfl, ok_draw F24 T cNx⟩
  have cSh : Cal P w K mg base CX0 3 "_law_shuffled" ["_law_pen_here", "_law_items"] (spShuf K) := ⟨_, _, V.glo _ (by decide), F25.kp, FunD.bindsN F25 fun _ _ _ _ _ _ us hl => match us, hl with | [_, _], _ => rfl, ok_shuf F25 T cDr⟩
  have cLJ : Cal P w K mg base CX0 1 "_law_join" ["_law_told_here", "_law_a", "_law_b"] (spLJ K false) := ⟨_, _, V.glo _ (by decide), F33.kp, FunD.bindsN F33 fun _ _ _ _ _ _ us hl => match us, hl with | [_, _, _], _ => rfl, ok_lj F33⟩
  have cLT : Cal P w K mg base CX0 1 "_law_then" ["_law_told_here", "_law_a", "_law_b"] (spLJ K true) := ⟨_, _, V.glo _ (by decide), F34.kp, FunD.bindsN F34 fun _ _ _ _ _ _ us hl => match us, hl with | [_, _, _], _ => rfl, ok_lt F34⟩
  have cTS : Cal P w K mg base CX0 10 "_law_table_scale" ["_law_told_here"] (spTS K (cT K)) := ⟨_, _, V.glo _ (by decide), F32.kp, FunD.bindsN F32 fun _ _ _ _ _ _ us hl => match us, hl with | [_], _ => rfl, ok_ts F32 V.mkr V.gT hb FT⟩
  have cFo : Cal P w K mg base CX0 2 "_law_fails_one" ["_law_told_here", "_law_word", "_law_a"] (spFo K) := ⟨_, _, V.glo _ (by decide), F38.kp, FunD.bindsN F38 fun _ _ _ _ _ _ us hl => match us, hl with | [_, _, _], _ => rfl, ok_fo F38 cLJ cLT⟩
  have cFa : Cal P w K mg base CX0 2 "_law_fails" ["_law_told_here", "_law_word", "_law_row"] (spFa K) := ⟨_, _, V.glo _ (by decide), F37.kp, FunD.bindsN F37 fun _ _ _ _ _ _ us hl => match us, hl with | [_, _, _], _ => rfl, ok_fa F37 cLJ cLT⟩
  have cRo : Cal P w K mg base CX0 1 "_law_rows_of" ["_law_names", "_law_many"] (spTups K) := ⟨_, _, V.glo _ (by decide), F35.kp, FunD.bindsN F35 fun _ _ _ _ _ _ us hl => match us, hl with | [_, _], _ => rfl, ok_ro F35 T⟩
  have cFi : Cal P w K mg base CX0 3 "_law_first" ["_law_told_here"] (spFirst K) := ⟨_, _, V.glo _ (by decide), F39.kp, FunD.bindsN F39 fun _ _ _ _ _ _ us hl => match us, hl with | [_], _ => rfl, ok_first F39 cRo cFo cFa⟩
  have cLv : Cal P w K mg base CX0 1 "_law_levels" ["_law_top"] (spLv K) := ⟨_, _, V.glo _ (by decide), F27.kp, FunD.bindsN F27 fun _ _ _ _ _ _ us hl => match us, hl with | [_], _ => rfl, ok_lv F27 T T3⟩
  have cOd : Cal P w K mg base CX0 1 "_law_odd" ["_law_k"] (spOd K) := ⟨_, _, V.glo _ (by decide), F29.kp, FunD.bindsN F29 fun _ _ _ _ _ _ us hl => match us, hl with | [_], _ => rfl, ok_od F29 T T3⟩
  have cCo : Cal P w K mg base CX0 1 "_law_costs" ["_law_top", "_law_stops"] (spCo K) := ⟨_, _, V.glo _ (by decide), F26.kp, FunD.bindsN F26 fun _ _ _ _ _ _ us hl => match us, hl with | [_, _], _ => rfl, ok_co F26 T T3⟩
  have cSe : Cal P w K mg base CX0 1 "_law_sets" ["_law_many"] (spSe K) := ⟨_, _, V.glo _ (by decide), F28.kp, FunD.bindsN F28 fun _ _ _ _ _ _ us hl => match us, hl with | [_], _ => rfl, ok_se F28 T T3⟩
  have cPl : Cal P w K mg base CX0 3 "_law_places" ["_law_pen_here", "_law_most"] (spPl K) := ⟨_, _, V.glo _ (by decide), F30.kp, FunD.bindsN F30 fun _ _ _ _ _ _ us hl => match us, hl with | [_, _], _ => rfl, ok_pl F30 cDr cOd cCo cLv cSe⟩
  have cTo : Cal P w K mg base CX0 4 "_law_told" ["_law_pen_here", "_law_places_here"] (spTo K) := ⟨_, _, V.glo _ (by decide), F31.kp, FunD.bindsN F31 fun _ _ _ _ _ _ us hl => match us, hl with | [_, _], _ => rfl, ok_to F31 T cSh⟩
  have cBe : Cal P w K mg base CX0 3 "_law_bent" ["_law_pen_here", "_law_told_here"] (spBe K) := ⟨_, _, V.glo _ (by decide), F36.kp, FunD.bindsN F36 fun _ _ _ _ _ _ us hl => match us, hl with | [_, _], _ => rfl, ok_be F36 T cDr⟩
  exact ok_law F40 T T4 V.mkr V.gT hb FT cPen cPl cTo cTS cFF cBe cFi
end
end K03

set_option Elab.async false
set_option linter.all false
set_option maxRecDepth 100000
set_option maxHeartbeats 8000000
open PySem PySem.W PySem.Calls PyProof.Rows
theorem PySem.Challenge.cw_neargrades_k03_first_faults_holds : PySem.Challenge.rw_neargrades_k03_first_faults.Holds := by
  w_on; o_law
  refine HandSHeadRun.head_any (r := K03.RK) (q := view K03.RK.prog [58]) (H := K03.hkK) (ob := K03.obK) (M := 9000) (loose := K03.loose) (d := HandSHeadRun.topDef K03.RK.prog 58) (kwd := []) K03.obK_eq
    (by kernel_rfl) (fun s => by kernel_rfl) K03.run (by kernel_rfl) (by kernel_rfl) (by kernel_rfl) (by rfl) (by first | assumption | decide +kernel) (by decide +kernel) ⟨rfl, rfl, rfl, rfl, rfl, by decide +kernel⟩ ?hw ?hc
  case hw => w_witness2
  case hc =>
    refine J.walk_G (l := PySem.Challenge.rw_neargrades_k03_first_faults) (n := 63) (k := 11) (x := "_law_script") (CX := L2.CX0) rfl (by decide) (by kernel_rfl) ⟨rfl, by decide, by decide⟩ ?F (fun _ _ _ _ z => z)
    intro w mg fa h Y G hmg0
    obtain ⟨K, KX, c⟩ := Y
    have hmg : mg ("law" : PySem.Str) = some (.ref fa) := by
      have e : (HandSHeadRun.topDef K03.RK.prog 58).name = ("law" : PySem.Str) := by kernel_rfl
      rw [← e]
      exact hmg0
    obtain ⟨fd, hb, hF⟩ := K03.factsK (P := PySem.Challenge.rw_neargrades_k03_first_faults.prog) (w := w) KX G hmg c
    exact ⟨K, fd, K03.spLaw K, KX, hb, fun H a ns hl _ hS => ⟨a, ns, rfl, hS, fun _ => rfl⟩, fun base _ _ => hF base⟩

