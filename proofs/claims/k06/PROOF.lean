import PyProof.Rows.All
import Wide.All
import OpenK.AllK
import Wide.FinOn
import HandS.ForMost
import HandS.Exc
import HandS.ExcInit
import HandS.IsInst
import HandS.ExcIs
import KE.KExcInit
import KE.KExcIs
import HandS.Zip
import HandS.Evl
import HandS.Walk
import HandS.ExcValue
import HandS.Flow
import HandS.Defaults
import KE.RegKIsAll
import PySem.Challenge.RW_undermasters_k06_errors_by_themselves
set_option Elab.async false
set_option linter.all false
set_option maxRecDepth 100000
set_option maxHeartbeats 4000000
/-! Own error classes directly under a built-in one, as values: made (by place or by name), fields read, isinstance asked. -/
namespace L2.Um
open PySem PySem.Spec PyProof.Rows

/-- an own error class at C whose base is the built-in B -/
structure OwnE (K : PySem.W.Frag) (C : Addr) (B : String) : Prop where
  base : ∃ (nid iid : String) (tl : List Value), ExcBaseFacts B nid iid tl ∧ StoreFacts B tl "object.__setattr__" "object" ∧ PySem.W.excInitIn K C tl nid = true ∧ PySem.W.excOver K C tl = true
  hd : PySem.W.hasDictIn K C = true
  sa : PySem.W.findIn K (.ref C) "__setattr__" = some (some (.builtin "object.__setattr__"))
  ga : PySem.W.findIn K (.ref C) "__getattribute__" = some (some (.builtin "BaseException.__getattribute__"))
  gg : PySem.W.findIn K (.ref C) "__getattr__" = some none
  exC : PySem.W.subIn K (.ref C) (.type "BaseException") = some true
  kC : PySem.W.keepIn K (.ref C) = true
  cc : PySem.W.findIn K (.ref C) "__class__" = some (some (.builtin "object.__class__"))
  cn : PySem.W.specialIn K (.builtin "object.__class__") "__get__" = some (some (.builtin "getset_descriptor.__get__"))
  ct : PySem.W.takesIn K (.builtin "object.__class__") = some true
  cm : PySem.W.mroIn K C (.type "object") = some true
theorem OwnE.isc {K : PySem.W.Frag} {C : Addr} {B : String} (T : OwnE K C B) : (PySem.W.clsIn K C).isSome = true := by
  obtain ⟨cd, h, _⟩ := PySem.W.any_some T.hd
  rw [h]
  rfl

/-! ### a store into such an object -/
section
open Builtin Builtin.ObjectAttr
variable {prog : Program} {w : World} {A : Around} {E : Value → Shared → Prop} {R : Result → Shared → Prop} {hp : Heap} {g : Array GenState} {d : Drawn} {t : Nat} {os : OsState} {K : PySem.W.Frag} {x C : Addr} {B : String} {name : Str} {tk : Tok} {v : Value} {fv : Array Value}
theorem take_none (ha : PySem.W.findIn K (.ref C) name = some none) : PySem.W.takerIn K C name = some none := by
  unfold PySem.W.takerIn
  rw [ha]
  rfl
theorem put_first (T : OwnE K C B) (X : K.In hp) (hx : hp.get? x = some { cls := .ref C, data := .fields fv }) (ha : PySem.W.findIn K (.ref C) name = some none)
    (hq : ∀ h' tk' dx, (∀ b o, b ≠ x → hp.get? b = some o → h'.get? b = some o) → hp.objs.size ≤ dx → dx ≠ x → h'.get? x = some { cls := .ref C, dict := some dx, data := .fields fv } →
      h'.Ns1 dx (fun y => if y = name then some v else none) → R (.ok (.ret .none)) ⟨h', g, d, tk', os⟩) :
    codeAny (model prog w) A (.call (.builtin "object.__setattr__") ⟨[.ref x, .str name tk, v], []⟩) R ⟨hp, g, d, t, os⟩ := by
  obtain ⟨nid, iid, tl, F, SF, q1, q2⟩ := T.base
  obtain ⟨cd, hcd, hh⟩ := PySem.W.any_some T.hd
  have hne : x ≠ hp.objs.size := Nat.ne_of_lt (Heap.lt_size hx)
  have I : PySem.W.InstAt hp x { cls := .ref C, data := .fields fv } C none := ⟨hx, rfl, rfl, trivial⟩
  refine PySem.W.osa_openX (od := none) SF X I q2 (take_none ha) fun b => ?_
  have hcls : PySem.W.Looks (model prog w) hp (classData C) cd := PySem.W.looks_clsIn X hcd
  obtain ⟨nm, bs, mro, ns, qn, hdd, sn, sb, ab, col, del⟩ := cd
  dsimp only at hh
  subst hh
  dsimp only
  unfold storeInOwnDict ownDictForStores
  repeat (first | with_reducible refine PySem.HandSPX.store_in_new ?_ ?_ | with_reducible refine wpAny_loadPart_at hx ?_ | with_reducible refine hcls.at ?_ | wp_step)
  · exact ⟨_, #[], _, (Heap.get?_update_ne _ _ _ _ hne.symm).trans (Heap.get?_push_at rfl rfl), rfl, fun e he => absurd he (by simp), fun _ => rfl⟩
  · intro h' tk' hn' hs
    have hx1 : (hp.push { cls := .type "dict", data := .dict #[] }).get? x = some { cls := .ref C, data := .fields fv } := Heap.get?_push_of_some _ hx
    refine hq h' tk' hp.objs.size (fun b o hb ho => ?_) (Nat.le_refl _) hne.symm ?_ hn'
    · exact (hs.2 b (Nat.ne_of_lt (Heap.lt_size ho))).trans ((Heap.get?_update_ne _ _ _ _ hb).trans (Heap.get?_push_of_some _ ho))
    · exact (hs.2 x hne).trans (Heap.get?_update_self _ hx1 rfl)
theorem put_more {dx : Addr} {m0 : Str → Option Value} {nl : List Str} (T : OwnE K C B) (X : K.In hp) (hx : hp.get? x = some { cls := .ref C, dict := some dx, data := .fields fv }) (hns : hp.Ns1 dx m0) (hw : Within m0 nl) (hz : nl.length ≤ 1000)
    (ha : PySem.W.findIn K (.ref C) name = some none)
    (hq : ∀ h' tk', (∀ b o, b ≠ dx → hp.get? b = some o → h'.get? b = some o) → h'.Ns1 dx (fun y => if y = name then some v else m0 y) → R (.ok (.ret .none)) ⟨h', g, d, tk', os⟩) :
    codeAny (model prog w) A (.call (.builtin "object.__setattr__") ⟨[.ref x, .str name tk, v], []⟩) R ⟨hp, g, d, t, os⟩ := by
  obtain ⟨nid, iid, tl, F, SF, q1, q2⟩ := T.base
  obtain ⟨cd, hcd, hh⟩ := PySem.W.any_some T.hd
  obtain ⟨oD, _, _, hoD, _, _⟩ := hns.count hw
  have I : PySem.W.InstAt hp x { cls := .ref C, dict := some dx, data := .fields fv } C (some oD) := ⟨hx, rfl, rfl, hoD⟩
  refine PySem.W.osa_openX (od := some oD) SF X I q2 (take_none ha) fun b => ?_
  have hcls : PySem.W.Looks (model prog w) hp (classData C) cd := PySem.W.looks_clsIn X hcd
  obtain ⟨nm, bs, mro, ns, qn, hdd, sn, sb, ab, col, del⟩ := cd
  dsimp only at hh
  subst hh
  dsimp only
  unfold storeInOwnDict ownDictForStores
  repeat (first | with_reducible refine PySem.OEX.store_in_old hns hw hz ?_ | with_reducible refine wpAny_loadPart_at hx ?_ | with_reducible refine hcls.at ?_ | wp_step)
  intro h' tk' hn' hs
  exact hq h' tk' (fun b o hb ho => (hs.2 b hb).trans ho) hn'
end

section
variable {X : Cx} {pins : List (Addr × Obj)} {σ : St} {H : Hp} {s : Shared} {a C dx : Addr} {B : String} {f : Str} {y : V} {u : Value} {fs : List (Str × V)} {Q : Unit → Shared → Prop} {E : Value → Shared → Prop} {A : Around}
theorem first_ok (T : OwnE X.K C B) (I : Inv X pins σ H s) (e : H a = some (exo a C none)) (hno : PySem.W.findIn X.K (.ref C) f = some none) (ry : RelV y u)
    (h : ∀ dx s', H dx = none → dx ≠ a → Inv X pins σ (upd (upd H dx (exd dx [(f, y)])) a (exo a C (some dx))) s' → Q () s') : wpAny (model X.prog X.w) A (setAttr (.ref a) f u) Q E s := by
  obtain ⟨t1, ho⟩ := exo_at I.hok e
  obtain ⟨hp, g, d, t, os⟩ := s
  refine PySem.W.set_plain I.kIn (ox := { cls := .ref C, dict := none, data := .fields #[.ref t1, .none, .none, .none, .bool false, .none] }) (od := none) ⟨ho, rfl, rfl, trivial⟩ T.sa ?_
  refine put_first T I.kIn ho hno fun h' tk' dx k dn dne hx hn => ?_
  have hnd : H dx = none := I.hok.fresh dn
  have nd : ∀ {b : Addr} {o : Obj}, hp.get? b = some o → b ≠ dx := fun {b o} q => Nat.ne_of_lt (Nat.lt_of_lt_of_le (Heap.lt_size q) dn)
  have na : ∀ {b : Addr}, H b = none → b ≠ a := fun {b} n z => by
    rw [z, e] at n
    cases n
  have U : Un X.fs [] H (upd (upd H dx (exd dx [(f, y)])) a (exo a C (some dx))) hp h' := {
    keep := fun b o q n _ _ => k b o (na n) q
    slot := fun b o q n _ _ => ⟨o.slots, k b o (na n) q⟩
    free := fun b o q n _ => by rw [upd_ne (na n), upd_ne (nd q)]; exact n
    there := fun b o q _ => by
      by_cases hb : b = a
      · exact ⟨_, by rw [hb]; exact hx⟩
      · exact ⟨o, k b o hb q⟩
    tups := fun b xs q => by rw [upd_ne (at_ne e q exo_tup), upd_ne (ne_of_none q hnd)]; exact q
    frzs := fun b o v q => by rw [upd_ne (at_ne e q exo_frz), upd_ne (ne_of_none q hnd)]; exact q
    tbls := fun b ps q => ⟨#[], by rw [upd_ne (at_ne e q exo_tbl), upd_ne (ne_of_none q hnd), q]; simp⟩ }
  refine h dx _ hnd dne (I.un (t' := tk') U fun b o q => ?_)
  by_cases hb : b = a
  · subst hb
    rw [upd_same] at q
    cases q
    exact exo_ok hx
  · rw [upd_ne hb] at q
    by_cases hd : b = dx
    · subst hd
      rw [upd_same] at q
      cases q
      exact exd_ok hn (relO_put (fs := []) ry fun g => True.intro)
    · rw [upd_ne hd] at q
      exact (I.hok b o q).stay (fun c v hc z => k c v (by
          rcases hc with hc | hc
          · rw [hc]
            exact hb
          · exact at_ne e hc exo_own) z)
        (fun c hc => by rw [upd_ne (at_ne e hc exo_own), upd_ne (ne_of_none hc hnd)]; exact hc) (fun c xs hc => by rw [upd_ne (at_ne e hc exo_tup), upd_ne (ne_of_none hc hnd)]; exact hc)
theorem more_ok (T : OwnE X.K C B) (I : Inv X pins σ H s) (e : H a = some (exo a C (some dx))) (ed : H dx = some (exd dx fs)) (hl : fs.length ≤ 900) (hno : PySem.W.findIn X.K (.ref C) f = some none) (ry : RelV y u)
    (h : ∀ s', Inv X pins σ (upd H dx (exd dx ((f, y) :: fs))) s' → Q () s') : wpAny (model X.prog X.w) A (setAttr (.ref a) f u) Q E s := by
  obtain ⟨t1, ho⟩ := exo_at I.hok e
  obtain ⟨mA, hns, rel⟩ := exd_at I.hok ed
  have hw := within_of rel
  obtain ⟨hp, g, d, t, os⟩ := s
  obtain ⟨oD, _, _, hoD, _, _⟩ := hns.count hw
  refine PySem.W.set_plain I.kIn (ox := { cls := .ref C, dict := some dx, data := .fields #[.ref t1, .none, .none, .none, .bool false, .none] }) (od := some oD) ⟨ho, rfl, rfl, hoD⟩ T.sa ?_
  refine put_more T I.kIn ho hns hw (by rw [List.length_map]; omega) hno fun h' tk' k hn => ?_
  have hd : ∃ o, h'.get? dx = some o := by
    obtain ⟨o, _, _, e', _⟩ := hn
    exact ⟨o, e'⟩
  exact h _ (I.write (t' := tk') (x := dx) (e := dx) (o := exd dx ((f, y) :: fs)) (by rw [ed]; exact True.intro) (.inl rfl) k hd (exd_ok hn (relO_put ry rel)))
end

/-! ### the rules -/
/-- self.f = e, self an own error that is being made, or was -/
def tPut (K : PySem.W.Frag) (f : Str) (to te : TE) : TS := fun D σ H => te σ H fun y H1 => to σ H1 fun x H2 => ∃ (a C : Addr) (B : String), x = .ref a ∧ OwnE K C B ∧ PySem.W.findIn K (.ref C) f = some none ∧
  ((H2 a = some (exo a C none) ∧ ∀ dx, H2 dx = none → dx ≠ a → D.nx σ (upd (upd H2 dx (exd dx [(f, y)])) a (exo a C (some dx)))) ∨
    ∃ (dx : Addr) (fs : List (Str × V)), H2 a = some (exo a C (some dx)) ∧ H2 dx = some (exd dx fs) ∧ fs.length ≤ 900 ∧ D.nx σ (upd H2 dx (exd dx ((f, y) :: fs))))
theorem ps_put {X : Cx} {o e : Expr} {to te : TE} {f : Str} {p' pos : Pos} (ho : PE X o to) (he : PE X e te) (hs : swapsWith e (some (.Attribute o f p')) pos.line X.env = pure false := by rfl) : PS X (.Assign [.Attribute o f p'] e pos) (tPut X.K f to te) := by
  refine ⟨fun pins s σ H D I h => ?_⟩
  refine plainObj_wpAny_Assign_Attribute (thn (he.run pins s σ H _ I h) fun v s1 ⟨y, H1, I1, r1, q1⟩ => thn (ho.run pins s1 σ H1 _ I1 q1) fun u s2 ⟨x, H2, I2, r2, a, C, B, ex, T, hno, q⟩ => ?_) hs
  subst ex
  obtain rfl : u = Value.ref a := r2
  rcases q with ⟨ea, q⟩ | ⟨dx, fs, ea, ed, hl, q⟩
  · exact first_ok T I2 ea hno r1 fun dx s' n ne J => ⟨σ, _, J, q dx n ne⟩
  · exact more_ok T I2 ea ed hl hno r1 fun s' J => ⟨σ, _, J, q⟩

/-- e.n, e an own error (made) -/
def tGet (K : PySem.W.Frag) (n : Str) (te : TE) : TE := fun σ H Q => te σ H fun x H1 => ∃ (a C dx : Addr) (B : String) (fs : List (Str × V)) (v : V), x = .ref a ∧ OwnE K C B ∧ PySem.W.findIn K (.ref C) n = some none ∧
  H1 a = some (exo a C (some dx)) ∧ H1 dx = some (exd dx fs) ∧ fs.lookup n = some v ∧ Q v H1
theorem pe_get {X : Cx} {e : Expr} {te : TE} {pos : Pos} {n : Str} (he : PE X e te) (hb : attributeBase e n X.env (eval e X.env) = eval e X.env := by rfl) : PE X (.Attribute e n pos) (tGet X.K n te) := by
  refine ⟨fun pins s σ H Q I h => ?_⟩
  refine attr_of hb (thn (he.run pins s σ H _ I h) fun u s1 hh => ?_)
  obtain ⟨x, H1, I1, rx, a, C, dx, B, fs, v, ex, T, hno, ea, ed, l, q⟩ := hh
  subst ex
  obtain rfl : u = Value.ref a := rx
  obtain ⟨t1, ho⟩ := exo_at I1.hok ea
  obtain ⟨mA, hns, hr⟩ := exd_at I1.hok ed
  obtain ⟨oD, hoD, hl⟩ := lookIn_ns hns
  obtain ⟨u, hu, ru⟩ := RelO.some_of (v := v) (o := mA n) (by rw [← l]; exact hr n)
  have J : PySem.W.InstAt s1.heap a _ C (some oD) := ⟨ho, rfl, rfl, hoD⟩
  exact HandSPX.exc_get I1.kIn J T.ga T.gg T.exC (PySem.W.findObj_own T.hd hno rfl (by rw [hl, hu])) (handed_of ru) ⟨v, H1, I1.tok _, ru, q⟩

/-- C(e, ..) as a value; C's own __init__ keeps sp -/
def tMk (C : Addr) (sp : Sp) (dvs : List V) (ta : TA) : TE := fun σ H Q => ta σ H fun vs H1 => vs.length ≤ 1000 ∧ ∀ a, H1 a = none → sp (.ref a :: (vs ++ dvs)) (upd H1 a (exo a C none)) (fun v H2 => v = .non ∧ Q (.ref a) H2) (fun _ _ _ => False)
section
variable {X : Cx} {CX : CXT} {k : Nat} {C fI : Addr} {B : String} {fd : FuncData} {ps : List Str} {sp : Sp} {dvs : List V} {ds : List Value} {x : Str} {p pos : Pos} {e : Expr} {es : List Expr} {ta : TA}
theorem pe_mk (T : OwnE X.K C B) (iC : PySem.W.findIn X.K (.ref C) "__init__" = some (some (.ref fI))) (tI : PySem.W.typeIn X.K (.ref fI) = some (.type "function")) (F1 : FnOk X.prog X.w X.K X.mg X.base CX k fI fd ps sp) (hr : Room (k + 1) X.A)
    (hb : Binds X.K fd ps ds) (hd : Vals dvs ds) (hx : Passes CX X (fun _ _ _ => False)) (hg : Gl X x) (hm : X.mg x = some (.ref C)) (ha : PA X (e :: es) ta)
    (hdb : (x == ("__debug__" : Str)) = false := by decide) (he : starEach (e :: es) X.env = (false, eval e X.env) :: starEach es X.env := by rfl) (hpl : (backTo pos (starEach es X.env)).any (·.1) = false := by rfl) :
    PE X (.Call (.Name x p) (e :: es) [] pos) (tMk C sp dvs ta) := by
  refine ⟨fun pins s σ H Q I h => ?_⟩
  refine wpAny_Call_Name_kw (ld_glob I hg hm ?_ hdb)
  refine PySem.W.callWith_K (h₀ := X.base) I.ok.mod.kin T.kC (thn (ha.run pos pins s σ H _ I h) fun us s1 ⟨vs, H1, I1, r1, hz, q1⟩ => ⟨I1.kIn, ?_⟩) he hpl
  show wpAny _ _ (call (.ref C) us) _ _ _
  obtain ⟨nid, iid, tl, F, SF, w1, w2⟩ := T.base
  obtain ⟨nm, N, qn, bs, bm, hdct, sn, sub, ab, col, dd, k0, k1, k2, k3, k5, hC, hT⟩ := PySem.W.excInit_of I1.kIn w1
  obtain ⟨hp, g, dr, tk, os⟩ := s1
  have hsz : hp.objs.size ≤ hp.objs.size + 1 := Nat.le_succ _
  have hn : H1 (hp.objs.size + 1) = none := I1.hok.fresh hsz
  have hq := q1 (hp.objs.size + 1) hn
  have kk : ∀ b o, hp.get? b = some o → ((hp.push (PySem.W.kdv_tup us)).push (PySem.HandSPX.excO C hp.objs.size)).get? b = some o := fun b o e => Heap.get?_push_of_some _ (Heap.get?_push_of_some _ e)
  have hget : ((hp.push (PySem.W.kdv_tup us)).push (PySem.HandSPX.excO C hp.objs.size)).get? (hp.objs.size + 1) = some (PySem.HandSPX.excO C hp.objs.size) := by heap_get
  have I2 : Inv X pins σ (upd H1 (hp.objs.size + 1) (exo (hp.objs.size + 1) C none)) ⟨(hp.push (PySem.W.kdv_tup us)).push (PySem.HandSPX.excO C hp.objs.size), g, dr, tk, os⟩ :=
    I1.laid (t' := tk) (a := hp.objs.size + 1) (o := exo (hp.objs.size + 1) C none) (h' := (hp.push (PySem.W.kdv_tup us)).push (PySem.HandSPX.excO C hp.objs.size)) kk hsz (exo_ok hget)
  have r2 : Vals (V.ref (hp.objs.size + 1) :: (vs ++ dvs)) (Value.ref (hp.objs.size + 1) :: (us ++ ds)) := .cons rfl (r1.append hd)
  have hl : (Value.ref (hp.objs.size + 1) :: us ++ ds).length = ps.length := by
    have e := r2.length
    rw [F1.len _ _ _ _ hq] at e
    exact e.symm
  have hus : us.length ≤ sizeLine := by
    rw [← Paired.length r1, sizeLine_eq]
    omega
  refine wpAny_call (PySem.HandSPX.call_own F hT hC (PySem.W.looks_findIn I1.kIn iC) (fun self => PySem.W.bind_fn I1.kIn self tI) hus
    (codeAny_mono (F1.run _ X.stack _ _ ⟨Value.ref (hp.objs.size + 1) :: us, []⟩ (Value.ref (hp.objs.size + 1) :: (us ++ ds)) _ _ (fun _ _ _ => False) (hr.make C us []) (I2.env0.make C us []) (hb _ (Value.ref (hp.objs.size + 1) :: us) I2.kIn hl) r2 hq) fun r s' hq' => ?_))
  cases r with
  | error er => exact hx pins σ _ _ er s' I2 hq'
  | ok fl =>
    cases fl with
    | ret u =>
      obtain ⟨v, H', I3, rv, ev, q3⟩ := I2.after hq'
      subst ev
      exact ⟨rv, ⟨V.ref (hp.objs.size + 1), H', I3, rfl, q3⟩⟩
    | next => exact False.elim hq'
    | brk => exact False.elim hq'
    | cont => exact False.elim hq'
end

/-- isinstance(e, c), e an own error -/
def rIsO (K : PySem.W.Frag) : List V → Hp → VK → Prop := fun xs H Q => ∃ (a C : Addr) (B : String) (d : Option Addr) (c : V) (u : Value) (b : Bool), xs = [.ref a, c] ∧ OwnE K C B ∧ H a = some (exo a C d) ∧ (∀ dx, d = some dx → ∃ fs, H dx = some (exd dx fs)) ∧ ClsV c u ∧ PySem.W.kitOne K (.ref C) u = some b ∧ Q (.bl b) H
def rIsOT (K : PySem.W.Frag) : List V → Hp → VK → Prop := fun xs H Q => ∃ (a C : Addr) (B : String) (d : Option Addr) (tp : Addr) (cs : List V) (us : List Value) (b : Bool), xs = [.ref a, .ref tp] ∧ OwnE K C B ∧ H a = some (exo a C d) ∧ (∀ dx, d = some dx → ∃ fs, H dx = some (exd dx fs)) ∧
  H tp = some (.tup cs) ∧ Paired ClsV cs us ∧ PySem.W.kitAny K (.ref C) us = some b ∧ Q (.bl b) H
section
variable {X : Cx}
theorem inst_own {pins : List (Addr × Obj)} {σ : St} {H : Hp} {s : Shared} {a C : Addr} {d : Option Addr} (I : Inv X pins σ H s) (ea : H a = some (exo a C d)) (ed : ∀ dx, d = some dx → ∃ fs, H dx = some (exd dx fs)) : ∃ ox od, PySem.W.InstAt s.heap a ox C od := by
  obtain ⟨t1, ho⟩ := exo_at I.hok ea
  cases d with
  | none => exact ⟨_, none, ho, rfl, rfl, trivial⟩
  | some dx =>
    obtain ⟨fs, ed⟩ := ed dx rfl
    obtain ⟨mA, hns, hr⟩ := exd_at I.hok ed
    obtain ⟨oD, hoD, hl⟩ := lookIn_ns hns
    exact ⟨_, some oD, ho, rfl, rfl, hoD⟩
theorem call_isO : CallR X (.builtin "isinstance") (rIsO X.K) := by
  intro pins s σ H xs us Q I r h
  obtain ⟨a, C, B, d, c, u, b, rfl, T, ea, ed, k, e, q⟩ := h
  obtain ⟨u1, u2, rfl, r1, r2⟩ := vals2 r
  have e2 := k.eq r2
  subst e2
  cases (show u1 = Value.ref a from r1)
  obtain ⟨ox, od, J⟩ := inst_own I ea ed
  exact PySem.W.kia_one (PySem.W.kitx_exc T.isc T.ga T.gg T.exC T.cc T.cn T.ct T.cm) I.kIn J e (fun z => nomatch z) fun tk => ⟨.bl b, H, I.tok tk, rfl, q⟩
theorem call_isOT : CallR X (.builtin "isinstance") (rIsOT X.K) := by
  intro pins s σ H xs us Q I r h
  obtain ⟨a, C, B, d, tp, cs, ws, b, rfl, T, ea, ed, hT, k, e, q⟩ := h
  obtain ⟨u1, u2, rfl, r1, r2⟩ := vals2 r
  cases (show u2 = Value.ref tp from r2)
  cases (show u1 = Value.ref a from r1)
  obtain ⟨ox, od, J⟩ := inst_own I ea ed
  obtain ⟨_, its, rv, o, h1, h2, n, h3⟩ := (show ObjOk X.prog X.w H s.heap tp (.tup cs) from I.hok tp _ hT)
  have e3 := ClsV.all k rv
  subst e3
  obtain ⟨oc, od', dt, sl⟩ := o
  simp only at h2 h3
  subst h2 h3
  exact PySem.W.kia_tup (PySem.W.kitx_exc T.isc T.ga T.gg T.exC T.cc T.cn T.ct T.cm) I.kIn J h1 e (fun z => nomatch z) fun tk => ⟨.bl b, H, I.tok tk, rfl, q⟩
end
end L2.Um

set_option Elab.async false
set_option linter.all false
set_option maxRecDepth 100000
set_option maxHeartbeats 4000000
/-! Plain data: what a value is worth, read off the abstract heap at any depth; kept by every extension of the heap. -/
namespace L2.Um
open PySem PySem.Spec PyProof.Rows
open Evl (Ex)

inductive D where
  | non
  | bl (b : Bool)
  | int (i : Int)
  | str (z : Str)
  | lst (xs : List D)
  | tup (xs : List D)
  /-- an own error of the class at C, its fields by name, the newest first -/
  | exc (C : Addr) (ns : List Str) (xs : List D)

mutual
/-- the value v, over H, is worth d -/
def Dat (H : Hp) : D → V → Prop
  | .non, v => v = .non
  | .bl b, v => v = .bl b
  | .int i, v => v = .int i
  | .str z, v => v = .str z
  | .lst ds, v => ∃ (a : Addr) (xs : List V), v = .ref a ∧ H a = some (.lst xs) ∧ Dats H ds xs ∧ xs.length ≤ sizeLine
  | .tup ds, v => ∃ (a : Addr) (xs : List V), v = .ref a ∧ H a = some (.tup xs) ∧ Dats H ds xs ∧ xs.length ≤ sizeLine
  | .exc C ns ds, v => ∃ (a : Addr) (od : Option Addr) (xs : List V), v = .ref a ∧ H a = some (exo a C od) ∧ (∀ dx, od = some dx → H dx = some (exd dx (ns.zip xs))) ∧ (od = none → ns = []) ∧ Dats H ds xs
def Dats (H : Hp) : List D → List V → Prop
  | [], xs => xs = []
  | d :: ds, xs => ∃ (v : V) (r : List V), xs = v :: r ∧ Dat H d v ∧ Dats H ds r
end
mutual
theorem Dat.ex {H H' : Hp} (e : Ex H H') : ∀ (d : D) (v : V), Dat H d v → Dat H' d v
  | .non, _, h => h
  | .bl _, _, h => h
  | .int _, _, h => h
  | .str _, _, h => h
  | .lst ds, _, ⟨a, xs, ev, ha, hs, hl⟩ => ⟨a, xs, ev, e a _ ha, Dats.ex e ds xs hs, hl⟩
  | .tup ds, _, ⟨a, xs, ev, ha, hs, hl⟩ => ⟨a, xs, ev, e a _ ha, Dats.ex e ds xs hs, hl⟩
  | .exc C ns ds, _, ⟨a, od, xs, ev, ha, hd, hn, hs⟩ => ⟨a, od, xs, ev, e a _ ha, fun dx q => e dx _ (hd dx q), hn, Dats.ex e ds xs hs⟩
theorem Dats.ex {H H' : Hp} (e : Ex H H') : ∀ (ds : List D) (xs : List V), Dats H ds xs → Dats H' ds xs
  | [], _, h => h
  | d :: ds, _, ⟨v, r, ev, hd, hs⟩ => ⟨v, r, ev, Dat.ex e d v hd, Dats.ex e ds r hs⟩
end
theorem Dats.length {H : Hp} : ∀ {ds : List D} {xs : List V}, Dats H ds xs → ds.length = xs.length
  | [], _, h => by rw [show _ = [] from h]; rfl
  | d :: ds, _, ⟨v, r, ev, hd, hs⟩ => by rw [ev, List.length_cons, List.length_cons, Dats.length hs]
theorem Dats.get {H : Hp} : ∀ {ds : List D} {xs : List V} {i : Nat} {x : V}, Dats H ds xs → xs[i]? = some x → ∃ d, ds[i]? = some d ∧ Dat H d x
  | [], _, i, x, h, hx => by
    rw [show _ = [] from h] at hx
    simp at hx
  | d :: ds, _, 0, x, ⟨v, r, ev, hd, hs⟩, hx => by
    rw [ev] at hx
    have e : v = x := Option.some.inj hx
    exact ⟨d, rfl, e ▸ hd⟩
  | d :: ds, _, i + 1, x, ⟨v, r, ev, hd, hs⟩, hx => by
    rw [ev] at hx
    exact Dats.get (i := i) hs hx
theorem Dats.snoc {H : Hp} : ∀ {ds : List D} {xs : List V} {d : D} {x : V}, Dats H ds xs → Dat H d x → Dats H (ds ++ [d]) (xs ++ [x])
  | [], _, d, x, h, hx => by
    rw [show _ = [] from h]
    exact ⟨x, [], rfl, hx, rfl⟩
  | d :: ds, _, e, x, ⟨v, r, ev, hd, hs⟩, hx => by
    rw [ev]
    exact ⟨v, r ++ [x], rfl, hd, Dats.snoc hs hx⟩
theorem Dats.append {H : Hp} : ∀ {ds es : List D} {xs ys : List V}, Dats H ds xs → Dats H es ys → Dats H (ds ++ es) (xs ++ ys)
  | [], es, _, ys, h, hy => by
    rw [show _ = [] from h]
    exact hy
  | d :: ds, es, _, ys, ⟨v, r, ev, hd, hs⟩, hy => by
    rw [ev]
    exact ⟨v, r ++ ys, rfl, hd, Dats.append hs hy⟩
mutual
/-- how deep lists and tuples lie in one another -/
def D.deep : D → Nat
  | .lst ds => deeps ds + 1
  | .tup ds => deeps ds + 1
  | _ => 0
def deeps : List D → Nat
  | [] => 0
  | d :: ds => max d.deep (deeps ds)
end
theorem deeps_mem : ∀ {ds : List D} {d : D}, d ∈ ds → d.deep ≤ deeps ds
  | e :: ds, d, h => by
    rcases List.mem_cons.mp h with rfl | h
    · exact Nat.le_max_left _ _
    · exact Nat.le_trans (deeps_mem h) (Nat.le_max_right _ _)
mutual
/-- the same with tuples for lists -/
def D.tupled : D → D
  | .lst ds => .tup (tupleds ds)
  | .tup ds => .tup (tupleds ds)
  | .non => .non
  | .bl b => .bl b
  | .int i => .int i
  | .str z => .str z
  | .exc C ns ds => .exc C ns ds
def tupleds : List D → List D
  | [] => []
  | d :: ds => d.tupled :: tupleds ds
end
theorem tupleds_map : ∀ ds : List D, tupleds ds = ds.map D.tupled
  | [] => rfl
  | d :: ds => by
    show d.tupled :: tupleds ds = d.tupled :: ds.map D.tupled
    rw [tupleds_map ds]
/-- the type of a value -/
def D.ty : D → String
  | .non => "NoneType"
  | .bl _ => "bool"
  | .int _ => "int"
  | .str _ => "str"
  | .lst _ => "list"
  | .tup _ => "tuple"
  | .exc _ _ _ => ""
/-- no error at the top -/
def D.pl : D → Bool
  | .exc _ _ _ => false
  | _ => true
mutual
/-- no error in it, and nothing too wide, at any depth -/
def D.plain : D → Bool
  | .lst ds => decide (ds.length ≤ 80000) && plains ds
  | .tup ds => decide (ds.length ≤ 80000) && plains ds
  | .exc _ _ _ => false
  | _ => true
def plains : List D → Bool
  | [] => true
  | d :: ds => d.plain && plains ds
end
theorem plain_pl : ∀ {d : D}, d.plain = true → d.pl = true
  | .non, _ => rfl
  | .bl _, _ => rfl
  | .int _, _ => rfl
  | .str _, _ => rfl
  | .lst _, _ => rfl
  | .tup _, _ => rfl
theorem plains_mem : ∀ {ds : List D} {d : D}, plains ds = true → d ∈ ds → d.plain = true
  | e :: ds, d, h, m => by
    have h' : (e.plain && plains ds) = true := h
    obtain ⟨h1, h2⟩ := Bool.and_eq_true_iff.mp h'
    rcases List.mem_cons.mp m with rfl | m
    · exact h1
    · exact plains_mem h2 m
theorem Dat.ty {K : PySem.W.Frag} {H : Hp} : ∀ {d : D} {v : V}, d.pl = true → Dat H d v → TyX K H v (.type d.ty)
  | .non, _, _, h => by rw [show _ = V.non from h]; exact .base .non
  | .bl b, _, _, h => by rw [show _ = V.bl b from h]; exact .base (.bl b)
  | .int i, _, _, h => by rw [show _ = V.int i from h]; exact .base (.int i)
  | .str z, _, _, h => by rw [show _ = V.str z from h]; exact .base (.str z)
  | .lst ds, _, _, ⟨a, xs, ev, ha, _⟩ => by rw [ev]; exact .base (.lst ha)
  | .tup ds, _, _, ⟨a, xs, ev, ha, _⟩ => by rw [ev]; exact .base (.tup ha)
theorem plain_lst {ds : List D} (h : (D.lst ds).plain = true) : ds.length ≤ 80000 ∧ plains ds = true := by
  have h' : (decide (ds.length ≤ 80000) && plains ds) = true := h
  obtain ⟨a, b⟩ := Bool.and_eq_true_iff.mp h'
  exact ⟨of_decide_eq_true a, b⟩
theorem plain_tup {ds : List D} (h : (D.tup ds).plain = true) : ds.length ≤ 80000 ∧ plains ds = true := plain_lst h
theorem deep_lst {ds : List D} {n : Nat} (h : (D.lst ds).deep ≤ n + 1) : deeps ds ≤ n := by
  have h' : deeps ds + 1 ≤ n + 1 := h
  omega
theorem deep_tup {ds : List D} {n : Nat} (h : (D.tup ds).deep ≤ n + 1) : deeps ds ≤ n := deep_lst h
end L2.Um

set_option Elab.async false
set_option linter.all false
set_option maxRecDepth 100000
set_option maxHeartbeats 4000000
/-! What a reading is worth as data. G: the part of the heap H that is known and stays; R: what a step may do to the rest. -/
namespace L2.Um
open PySem PySem.Spec PyProof.Rows
open Evl (Ex)


/-- what the steps keep of the state (G: what is known and stays, a part of the heap H), and what they may change -/
structure Wd where
  I : Hp → Hp → Prop
  Own : Addr → Prop
/-- nothing is changed that stood -/
def W0 : Wd := ⟨fun _ _ => True, fun _ => False⟩
/-- what G2 adds to G1 was not there in H1 -/
def New (H1 G1 G2 : Hp) : Prop := ∀ a o, G2 a = some o → G1 a = some o ∨ H1 a = none
structure Ok (R : Wd) (G H : Hp) : Prop where
  sub : Ex G H
  inv : R.I G H
structure Way (R : Wd) : Prop where
  own : ∀ {G H a}, R.I G H → R.Own a → G a = none ∧ H a ≠ none
  pure : ∀ {G1 H1 G2 H2}, R.I G1 H1 → Ex H1 H2 → New H1 G1 G2 → R.I G2 H2
  upd : ∀ {G H a o}, R.I G H → ¬ R.Own a → R.I G (L2.upd H a o)
  know : ∀ {G1 G2 H}, R.I G1 H → Ex G2 H → (∀ a o, G2 a = some o → G1 a = some o ∨ ¬ R.Own a) → R.I G2 H
theorem way0 : Way W0 := ⟨fun _ h => h.elim, fun _ _ _ => trivial, fun _ _ => trivial, fun _ _ _ => trivial⟩
structure Step (R : Wd) (G1 H1 G2 H2 : Hp) : Prop where
  up : Ex G1 G2
  ok : Ok R G2 H2
  keep : ∀ a o, ¬ R.Own a → H1 a = some o → H2 a = some o
  new : New H1 G1 G2
theorem Step.refl {R : Wd} (W : Way R) {G H : Hp} (h : Ok R G H) : Step R G H G H := ⟨Ex.refl G, h, fun _ _ _ e => e, fun _ _ e => .inl e⟩
theorem Step.trans {R : Wd} (W : Way R) {G1 H1 G2 H2 G3 H3 : Hp} (a : Step R G1 H1 G2 H2) (b : Step R G2 H2 G3 H3) : Step R G1 H1 G3 H3 where
  up := a.up.trans b.up
  ok := b.ok
  keep := fun x o n e => b.keep x o n (a.keep x o n e)
  new := fun x o h => by
    rcases b.new x o h with q | q
    · exact a.new x o q
    · by_cases w : R.Own x
      · exact absurd q (W.own a.ok.inv w).2
      · refine .inr ?_
        cases e : H1 x with
        | none => rfl
        | some u =>
          rw [a.keep x u w e] at q
          cases q
/-- from a step that changes nothing -/
theorem Step.of0 {R : Wd} (W : Way R) {G1 H1 G2 H2 : Hp} (h : R.I G1 H1) (a : Step W0 G1 H1 G2 H2) : Step R G1 H1 G2 H2 :=
  have e : Ex H1 H2 := fun x o => a.keep x o id
  ⟨a.up, ⟨a.ok.sub, W.pure h e a.new⟩, fun x o _ => e x o, a.new⟩
/-- a new object, known from now on -/
theorem Step.new' {R : Wd} (W : Way R) {G H : Hp} {p : Addr} {o : HO} (h : Ok R G H) (hp : H p = none) : Step R G H (L2.upd G p o) (L2.upd H p o) := by
  have n : New H G (L2.upd G p o) := fun a u e => by
    by_cases q : a = p
    · exact .inr (by rw [q]; exact hp)
    · rw [upd_ne q] at e
      exact .inl e
  refine ⟨Ex.new (Evl.fresh_back h.sub hp), ⟨fun a u e => ?_, W.pure h.inv (Ex.new hp) n⟩, fun a u _ e => Ex.new hp a u e, n⟩
  by_cases q : a = p
  · subst q
    rw [upd_same] at e ⊢
    exact e
  · rw [upd_ne q] at e ⊢
    exact h.sub a u e
/-- a new object that is of no further use -/
theorem Step.drop {R : Wd} (W : Way R) {G H : Hp} {p : Addr} {o : HO} (h : Ok R G H) (hp : H p = none) : Step R G H G (L2.upd H p o) :=
  have n : New H G G := fun a u e => .inl e
  ⟨Ex.refl G, ⟨h.sub.trans (Ex.new hp), W.pure h.inv (Ex.new hp) n⟩, fun a u _ e => Ex.new hp a u e, n⟩

def Ev (R : Wd) (te : TE) (σ : L2.St) (G : Hp) (P : D → Prop) : Prop := ∀ G1 H1, Ex G G1 → Ok R G1 H1 → ∀ Q : VK, (∀ v d G2 H2, Step R G1 H1 G2 H2 → Dat G2 d v → P d → Q v H2) → te σ H1 Q
def Evs (R : Wd) (ta : TA) (σ : L2.St) (G : Hp) (P : List D → Prop) : Prop := ∀ G1 H1, Ex G G1 → Ok R G1 H1 → ∀ Q : List V → Hp → Prop, (∀ vs ds G2 H2, Step R G1 H1 G2 H2 → Dats G2 ds vs → P ds → Q vs H2) → ta σ H1 Q
def EvT (R : Wd) (tt : TT) (σ : L2.St) (G : Hp) (P : Bool → Prop) : Prop := ∀ G1 H1, Ex G G1 → Ok R G1 H1 → ∀ Q : Bool → Hp → Prop, (∀ b G2 H2, Step R G1 H1 G2 H2 → P b → Q b H2) → tt σ H1 Q
def Rv (R : Wd) (r : R2) (x y : D) (G : Hp) (P : D → Prop) : Prop := ∀ G1 H1, Ex G G1 → Ok R G1 H1 → ∀ (u v : V), Dat G1 x u → Dat G1 y v → ∀ Q : VK, (∀ w d G2 H2, Step R G1 H1 G2 H2 → Dat G2 d w → P d → Q w H2) → r u v H1 Q
def Rc (R : Wd) (r : List V → Hp → VK → Prop) (xs : List D) (G : Hp) (P : D → Prop) : Prop := ∀ G1 H1, Ex G G1 → Ok R G1 H1 → ∀ (us : List V), Dats G1 xs us → ∀ Q : VK, (∀ w d G2 H2, Step R G1 H1 G2 H2 → Dat G2 d w → P d → Q w H2) → r us H1 Q
def Sv (R : Wd) (sp : Sp) (xs : List D) (G : Hp) (P : D → Prop) : Prop := ∀ G1 H1, Ex G G1 → Ok R G1 H1 → ∀ (us : List V), Dats G1 xs us → ∀ (Q : VK) (E : XK), (∀ w d G2 H2, Step R G1 H1 G2 H2 → Dat G2 d w → P d → Q w H2) → sp us H1 Q E
theorem datI {H : Hp} {i : Int} : Dat H (.int i) (.int i) := rfl
theorem datB {H : Hp} {i : Bool} : Dat H (.bl i) (.bl i) := rfl
theorem datS {H : Hp} {i : Str} : Dat H (.str i) (.str i) := rfl
theorem datN {H : Hp} : Dat H .non .non := rfl
theorem one {α : Type} {p : α → Prop} {x : α} (h : p x) : ∀ y, y = x → p y := fun _ e => e ▸ h
theorem two {α β : Type} {p : α → β → Prop} {x : α} {y : β} (h : p x y) : ∀ a b, a = x → b = y → p a b := fun _ _ e f => e ▸ f ▸ h

section
variable {R : Wd} {K : PySem.W.Frag} {σ : L2.St} {G G' H : Hp} {ta tb te tc : TE} {t u : TT} {x y z d : D} {A B P P' : D → Prop} {v : V} {r : R2}
theorem Ev.mono (e : Ex G G') (h : Ev R te σ G P) : Ev R te σ G' P := fun G1 H1 a b Q q => h G1 H1 (e.trans a) b Q q
theorem Evs.mono {ta : TA} {P : List D → Prop} (e : Ex G G') (h : Evs R ta σ G P) : Evs R ta σ G' P := fun G1 H1 a b Q q => h G1 H1 (e.trans a) b Q q
theorem EvT.mono {P : Bool → Prop} (e : Ex G G') (h : EvT R t σ G P) : EvT R t σ G' P := fun G1 H1 a b Q q => h G1 H1 (e.trans a) b Q q
theorem Ev.imp (h : Ev R te σ G P) (i : ∀ d, P d → P' d) : Ev R te σ G P' := fun G1 H1 a b Q q => h G1 H1 a b Q fun v d G2 H2 s hd p => q v d G2 H2 s hd (i d p)
theorem EvT.imp {P P' : Bool → Prop} (h : EvT R t σ G P) (i : ∀ d, P d → P' d) : EvT R t σ G P' := fun G1 H1 a b Q q => h G1 H1 a b Q fun v G2 H2 s p => q v G2 H2 s (i v p)
theorem Ev.of0 (W : Way R) (h : Ev W0 te σ G P) : Ev R te σ G P := fun G1 H1 a b Q q => h G1 H1 a ⟨b.sub, trivial⟩ Q fun v d G2 H2 s hd p => q v d G2 H2 (s.of0 W b.inv) hd p
theorem Sv.of0 (W : Way R) {sp : Sp} {xs : List D} (h : Sv W0 sp xs G P) : Sv R sp xs G P := fun G1 H1 a b us hs Q E q => h G1 H1 a ⟨b.sub, trivial⟩ us hs Q E fun v d G2 H2 s hd p => q v d G2 H2 (s.of0 W b.inv) hd p
theorem ev_var (W : Way R) {i : Nat} (h : σ[i]? = some (some v)) (hd : Dat G d v) (p : P d) : Ev R (tVar i) σ G P := fun G1 H1 a b _ q => ⟨v, h, q v d G1 H1 (.refl W b) (Dat.ex a d v hd) p⟩
theorem ev_int (W : Way R) {i : Int} (p : P (.int i)) : Ev R (tC (.int i)) σ G P := fun G1 H1 _ b _ q => q _ _ G1 H1 (.refl W b) datI p
theorem ev_bl (W : Way R) {i : Bool} (p : P (.bl i)) : Ev R (tC (.bl i)) σ G P := fun G1 H1 _ b _ q => q _ _ G1 H1 (.refl W b) datB p
theorem ev_str (W : Way R) {i : Str} (p : P (.str i)) : Ev R (tC (.str i)) σ G P := fun G1 H1 _ b _ q => q _ _ G1 H1 (.refl W b) datS p
theorem ev_non (W : Way R) (p : P .non) : Ev R (tC .non) σ G P := fun G1 H1 _ b _ q => q _ _ G1 H1 (.refl W b) datN p
theorem evs_nil (W : Way R) {P : List D → Prop} (p : P []) : Evs R tNil σ G P := fun G1 H1 _ b _ q => q [] [] G1 H1 (.refl W b) rfl p
theorem evs_cons (W : Way R) {tr : TA} {P B : List D → Prop} (h : Ev R te σ G A) (hr : Evs R tr σ G B) (p : ∀ d ds, A d → B ds → P (d :: ds)) : Evs R (tCons te tr) σ G P := fun G1 H1 a b _ q =>
  h G1 H1 a b _ fun v d G2 H2 s hv pa => hr G2 H2 (a.trans s.up) s.ok _ fun vs ds G3 H3 s2 hs pb => q (v :: vs) (d :: ds) G3 H3 (s.trans W s2) ⟨v, vs, rfl, Dat.ex s2.up d v hv, hs⟩ (p d ds pa pb)
theorem dat_tup {ds : List D} {vs : List V} {p : Addr} (hs : Dats G ds vs) (hl : vs.length ≤ sizeLine) (hp : G p = none) : Dat (upd G p (.tup vs)) (.tup ds) (.ref p) :=
  ⟨p, vs, rfl, upd_same, Dats.ex (Ex.new hp) ds vs hs, hl⟩
theorem dat_lst {ds : List D} {vs : List V} {p : Addr} (hs : Dats G ds vs) (hl : vs.length ≤ sizeLine) (hp : G p = none) : Dat (upd G p (.lst vs)) (.lst ds) (.ref p) :=
  ⟨p, vs, rfl, upd_same, Dats.ex (Ex.new hp) ds vs hs, hl⟩
theorem ev_tup (W : Way R) {ta : TA} {B : List D → Prop} (h : Evs R ta σ G B) (hl : ∀ ds, B ds → ds.length ≤ 100000) (p : ∀ ds, B ds → P (.tup ds)) : Ev R (tTup ta) σ G P := fun G1 H1 a b _ q =>
  h G1 H1 a b _ fun vs ds G2 H2 s hs pb => have hz := Evl.sz_of (Dats.length hs ▸ hl ds pb); ⟨hz, fun l hp => q _ _ _ _ (s.trans W (.new' W s.ok hp)) (dat_tup hs hz (Evl.fresh_back s.ok.sub hp)) (p ds pb)⟩
theorem ev_lst (W : Way R) {ta : TA} {B : List D → Prop} (h : Evs R ta σ G B) (hl : ∀ ds, B ds → ds.length ≤ 100000) (p : ∀ ds, B ds → P (.lst ds)) : Ev R (tLst ta) σ G P := fun G1 H1 a b _ q =>
  h G1 H1 a b _ fun vs ds G2 H2 s hs pb => have hz := Evl.sz_of (Dats.length hs ▸ hl ds pb); ⟨hz, fun l hp => q _ _ _ _ (s.trans W (.new' W s.ok hp)) (dat_lst hs hz (Evl.fresh_back s.ok.sub hp)) (p ds pb)⟩
theorem ev_op (W : Way R) (ha : Ev R ta σ G A) (hb : Ev R tb σ G B) (hr : ∀ x y, A x → B y → Rv R r x y G P) : Ev R (tOp r ta tb) σ G P := fun G1 H1 a b Q q =>
  ha G1 H1 a b _ fun u x G2 H2 s hu pa => hb G2 H2 (a.trans s.up) s.ok _ fun v y G3 H3 s2 hv pb => hr x y pa pb G3 H3 ((a.trans s.up).trans s2.up) s2.ok u v (Dat.ex s2.up x u hu) hv Q fun w d G4 H4 s3 hw p => q w d G4 H4 ((s.trans W s2).trans W s3) hw p
theorem ev_cb (W : Way R) {r : List V → Hp → VK → Prop} {ta : TA} {B : List D → Prop} (h : Evs R ta σ G B) (hr : ∀ xs, B xs → Rc R r xs G P) : Ev R (tCB r ta) σ G P := fun G1 H1 a b Q q =>
  h G1 H1 a b _ fun us ds G2 H2 s hs pb => hr ds pb G2 H2 (a.trans s.up) s.ok us hs Q fun w d G3 H3 s2 => q w d G3 H3 (s.trans W s2)
theorem ev_call (W : Way R) {sp : Sp} {E : XK} {ta : TA} {B : List D → Prop} (h : Evs R ta σ G B) (hr : ∀ xs, B xs → Sv R sp xs G P) : Ev R (tCall sp [] E ta) σ G P := fun G1 H1 a b Q q =>
  h G1 H1 a b _ fun us ds G2 H2 s hs pb => by
    show sp (us ++ []) H2 Q E
    rw [List.append_nil]
    exact hr ds pb G2 H2 (a.trans s.up) s.ok us hs Q E fun w d G3 H3 s2 => q w d G3 H3 (s.trans W s2)
/-! tests -/
theorem et_val {P : Bool → Prop} (h : Ev R te σ G fun d => ∃ b, d = .bl b ∧ P b) : EvT R (tTest te) σ G P := fun G1 H1 a b _ q => h G1 H1 a b _ fun v d G2 H2 s hv ⟨k, ed, p⟩ => ⟨k, by rw [ed] at hv; exact hv, q k G2 H2 s p⟩
theorem et_B {P : Bool → Prop} (h : Ev R te σ G fun d => ∃ b, d = .bl b ∧ P b) : EvT R (tB te) σ G P := fun G1 H1 a b _ q => h G1 H1 a b _ fun v d G2 H2 s hv ⟨k, ed, p⟩ => ⟨k, by rw [ed] at hv; exact hv, q k G2 H2 s p⟩
theorem et_not {P B : Bool → Prop} (h : EvT R t σ G B) (p : ∀ b, B b → P (!b)) : EvT R (tNot t) σ G P := fun G1 H1 a b _ q => h G1 H1 a b _ fun k G2 H2 s pb => q (!k) G2 H2 s (p k pb)
theorem et_and (W : Way R) {P B C : Bool → Prop} (h1 : EvT R t σ G B) (h2 : B true → EvT R u σ G C) (p : B false → P false) (p2 : ∀ b, B true → C b → P b) : EvT R (tAnd t u) σ G P := fun G1 H1 a b Q q => h1 G1 H1 a b _ fun k G2 H2 s pb => by
  cases k with
  | true =>
    show u σ H2 Q
    exact h2 pb G2 H2 (a.trans s.up) s.ok Q fun k2 G3 H3 s2 pc => q k2 G3 H3 (s.trans W s2) (p2 k2 pb pc)
  | false =>
    show Q false H2
    exact q false G2 H2 s (p pb)
theorem et_or (W : Way R) {P B C : Bool → Prop} (h1 : EvT R t σ G B) (h2 : B false → EvT R u σ G C) (p : B true → P true) (p2 : ∀ b, B false → C b → P b) : EvT R (tOr t u) σ G P := fun G1 H1 a b Q q => h1 G1 H1 a b _ fun k G2 H2 s pb => by
  cases k with
  | false =>
    show u σ H2 Q
    exact h2 pb G2 H2 (a.trans s.up) s.ok Q fun k2 G3 H3 s2 pc => q k2 G3 H3 (s.trans W s2) (p2 k2 pb pc)
  | true =>
    show Q true H2
    exact q true G2 H2 s (p pb)
theorem ev_andV (W : Way R) {B C : Bool → Prop} (h1 : Ev R ta σ G fun d => ∃ b, d = .bl b ∧ B b) (h2 : B true → Ev R tb σ G fun d => ∃ b, d = .bl b ∧ C b) (p : B false → P (.bl false)) (p2 : ∀ b, B true → C b → P (.bl b)) : Ev R (tAndV ta tb) σ G P :=
  fun G1 H1 a b Q q => h1 G1 H1 a b _ fun v d G2 H2 s hv ⟨k, ed, pb⟩ => ⟨k, by rw [ed] at hv; exact hv, by
  cases k with
  | true =>
    show tb σ H2 Q
    exact h2 pb G2 H2 (a.trans s.up) s.ok Q fun w d G3 H3 s2 hw ⟨k2, e2, pc⟩ => q w d G3 H3 (s.trans W s2) hw (by rw [e2]; exact p2 k2 pb pc)
  | false =>
    show Q (.bl false) H2
    exact q _ _ G2 H2 s datB (p pb)⟩
theorem ev_notV {B : Bool → Prop} (h : Ev R ta σ G fun d => ∃ b, d = .bl b ∧ B b) (p : ∀ b, B b → P (.bl !b)) : Ev R (tNotV ta) σ G P := fun G1 H1 a b _ q => h G1 H1 a b _ fun v d G2 H2 s hv ⟨k, ed, pb⟩ => ⟨k, by rw [ed] at hv; exact hv, q _ _ G2 H2 s datB (p k pb)⟩
/-! operators -/
theorem rv_int (W : Way R) {g : Int → Int → V} {i j : Int} {z : D} (hz : ∀ H, Dat H z (g i j)) (p : P z) : Rv R (rI0 g) (.int i) (.int j) G P := fun G1 H1 _ b u v hu hv _ q => ⟨i, j, hu, hv, q _ _ G1 H1 (.refl W b) (hz G1) p⟩
theorem rv_intC (W : Way R) {C : Int → Int → Prop} {g : Int → Int → V} {i j : Int} {z : D} (hc : C i j) (hz : ∀ H, Dat H z (g i j)) (p : P z) : Rv R (rI C g) (.int i) (.int j) G P := fun G1 H1 _ b u v hu hv _ q => ⟨i, j, hu, hv, hc, q _ _ G1 H1 (.refl W b) (hz G1) p⟩
/-- == of things that are no lists, no tuples -/
theorem rv_eq (W : Way R) {u v : V} (hx : ∀ H w, Dat H x w → w = u) (hy : ∀ H w, Dat H y w → w = v) (h : scal u v = true) (p : P (.bl (decide (u = v)))) : Rv R rEq x y G P := fun G1 H1 _ b a c ha hc _ q => by
  rw [hx G1 a ha, hy G1 c hc]
  exact ⟨h, q _ _ G1 H1 (.refl W b) datB p⟩
theorem rv_ne (W : Way R) {u v : V} (hx : ∀ H w, Dat H x w → w = u) (hy : ∀ H w, Dat H y w → w = v) (h : scal u v = true) (p : P (.bl (!decide (u = v)))) : Rv R rNe x y G P := fun G1 H1 _ b a c ha hc _ q => by
  rw [hx G1 a ha, hy G1 c hc]
  exact ⟨h, q _ _ G1 H1 (.refl W b) datB p⟩
theorem rv_cat (W : Way R) {xs ys : List D} (hl : xs.length + ys.length ≤ 100000) (p : P (.lst (xs ++ ys))) : Rv R rCat (.lst xs) (.lst ys) G P := fun G1 H1 _ b' u v ⟨a, as, ea, ha, hA, _⟩ ⟨b, bs, eb, hb, hB, _⟩ _ q => by
  have z : as.length + bs.length ≤ 100000 := by rw [← Dats.length hA, ← Dats.length hB]; exact hl
  refine ⟨a, b, as, bs, ea, eb, b'.sub _ _ ha, b'.sub _ _ hb, Evl.sz_of z, fun l hp => q _ _ _ _ (.new' W b' hp) (dat_lst (Dats.append hA hB) ?_ (Evl.fresh_back b'.sub hp)) p⟩
  rw [List.length_append]
  exact Evl.sz_of z
theorem dats_rep {H : Hp} {ds : List D} {vs : List V} (h : Dats H ds vs) : ∀ k : Nat, Dats H (List.replicate k ds).flatten (List.replicate k vs).flatten
  | 0 => rfl
  | k + 1 => by
    rw [List.replicate_succ, List.replicate_succ, List.flatten_cons, List.flatten_cons]
    exact Dats.append h (dats_rep h k)
theorem flat_len (vs : List V) : ∀ k : Nat, (List.replicate k vs).flatten.length = vs.length * k
  | 0 => rfl
  | k + 1 => by
    rw [List.replicate_succ, List.flatten_cons, List.length_append, flat_len vs k, Nat.mul_succ]
    omega
theorem rv_rep (W : Way R) {xs : List D} {k : Int} (h1 : -(2 ^ 63) ≤ k) (h2 : k < 2 ^ 63) (hl : xs.length * k.toNat ≤ 100000) (p : P (.lst (List.replicate k.toNat xs).flatten)) : Rv R rRep (.lst xs) (.int k) G P := fun G1 H1 _ b u v ⟨a, as, ea, ha, hA, _⟩ hv _ q => by
  have z : as.length * k.toNat ≤ 100000 := by rw [← Dats.length hA]; exact hl
  refine ⟨a, k, as, ea, hv, b.sub _ _ ha, h1, h2, Evl.sz_of z, fun l hp => q _ _ _ _ (.new' W b hp) (dat_lst (dats_rep hA _) ?_ (Evl.fresh_back b.sub hp)) p⟩
  rw [flat_len]
  exact Evl.sz_of z
/-! built-ins -/
theorem ev_isi {n : String} {f : D → Bool} (h : Ev R te σ G A) (hk : ∀ d, A d → d.pl = true ∧ kitB d.ty n = some (f d)) (p : ∀ d, A d → P (.bl (f d))) : Ev R (tCB (rIsi K) (tCons te (tCons (tC (.ty n)) tNil))) σ G P := fun G1 H1 a b Q q =>
  h G1 H1 a b _ fun v d G2 H2 s hv pa => ⟨v, .ty n, .type d.ty, .type n, f d, rfl, .ty n, Dat.ty (hk d pa).1 (Dat.ex s.ok.sub d v hv), kit_ty (hk d pa).2, q _ _ G2 H2 s datB (p d pa)⟩
theorem pt2 (m n : String) : Paired ClsV [.ty m, .ty n] [.type m, .type n] := .cons (.ty m) (.cons (.ty n) .nil)
theorem any2 {K : PySem.W.Frag} {t : String} {m n : String} {a b : Bool} (h1 : kitB t m = some a) (h2 : kitB t n = some b) : PySem.W.kitAny K (.type t) [.type m, .type n] = some (a || b) :=
  kitAny_cons (kit_ty h1) (r := a || b) (fun e1 => by subst e1; exact kitAny_cons (kit_ty h2) (fun e2 => by subst e2; rfl) (fun e2 => by subst e2; rfl)) (fun e1 => by subst e1; rfl)
theorem ev_isi2 (W : Way R) {m n : String} {f g : D → Bool} (h : Ev R te σ G A) (hk : ∀ d, A d → d.pl = true ∧ kitB d.ty m = some (f d) ∧ kitB d.ty n = some (g d)) (p : ∀ d, A d → P (.bl (f d || g d))) :
    Ev R (tCB (rIsiT K) (tCons te (tCons (tTup (tCons (tC (.ty m)) (tCons (tC (.ty n)) tNil))) tNil))) σ G P := fun G1 H1 a b Q q =>
  h G1 H1 a b _ fun v d G2 H2 s hv pa => ⟨by show 2 ≤ sizeLine; decide, fun l hp =>
    ⟨v, l, _, .type d.ty, _, f d || g d, rfl, upd_same, pt2 m n, Dat.ty (hk d pa).1 (Dat.ex (s.ok.sub.trans (Ex.new hp)) d v hv), any2 (hk d pa).2.1 (hk d pa).2.2, q _ _ _ _ (s.trans W (.drop W s.ok hp)) datB (p d pa)⟩⟩
/-- how many things a list, a tuple holds -/
def D.many : D → Option Nat
  | .lst xs => some xs.length
  | .tup xs => some xs.length
  | _ => none
theorem Dat.seq {H : Hp} : ∀ {d : D} {v : V} {n : Nat}, d.many = some n → Dat H d v → ∃ a as, v = .ref a ∧ (SqL K H a as ∨ SqT K H a as) ∧ as.length = n
  | .lst xs, _, n, e, ⟨a, as, ea, ha, hA, _⟩ => ⟨a, as, ea, .inl (SqL.of ha), by rw [← Dats.length hA]; exact Option.some.inj e⟩
  | .tup xs, _, n, e, ⟨a, as, ea, ha, hA, _⟩ => ⟨a, as, ea, .inr (SqT.of ha), by rw [← Dats.length hA]; exact Option.some.inj e⟩
theorem ev_len (h : Ev R te σ G A) (p : ∀ d, A d → ∃ n, d.many = some n ∧ P (.int (n : Int))) : Ev R (tCB (Evl.rLenS K) (tCons te tNil)) σ G P := fun G1 H1 a b _ q =>
  h G1 H1 a b _ fun v d G2 H2 s hv pa => by
    obtain ⟨n, hn, pn⟩ := p d pa
    obtain ⟨l, as, ev, hs, hl⟩ := Dat.seq (K := K) hn (Dat.ex s.ok.sub d v hv)
    exact ⟨l, as, by rw [ev], hs, by rw [hl]; exact q _ _ G2 H2 s datI pn⟩
/-! items -/
theorem Dats.at {ds : List D} {xs : List V} {i : Nat} {d : D} (h : Dats H ds xs) (hd : ds[i]? = some d) : ∃ x, xs[i]? = some x ∧ Dat H d x := by
  cases e : xs[i]? with
  | none =>
    have z := List.getElem?_eq_none_iff.mp e
    rw [← Dats.length h] at z
    rw [List.getElem?_eq_none_iff.mpr z] at hd
    cases hd
  | some x =>
    obtain ⟨d', q, hx⟩ := Dats.get h e
    rw [hd] at q
    cases q
    exact ⟨x, rfl, hx⟩
theorem rv_ixL (W : Way R) {xs : List D} {i : Nat} (hx : xs[i]? = some d) (p : P d) : Rv R (rIxL K) (.lst xs) (.int (i : Int)) G P := fun G1 H1 _ b u v ⟨a, as, ea, ha, hA, _⟩ hv _ q => by
  obtain ⟨x, hx', hd⟩ := Dats.at hA hx
  exact ⟨a, as, i, x, ea, hv, SqL.of (b.sub _ _ ha), atI_nat hx', q x _ G1 H1 (.refl W b) hd p⟩
theorem rv_ixT (W : Way R) {xs : List D} {i : Nat} (hx : xs[i]? = some d) (p : P d) : Rv R (rIxT K) (.tup xs) (.int (i : Int)) G P := fun G1 H1 _ b u v ⟨a, as, ea, ha, hA, _⟩ hv _ q => by
  obtain ⟨x, hx', hd⟩ := Dats.at hA hx
  exact ⟨a, as, i, x, ea, hv, SqT.of (b.sub _ _ ha), atI_nat hx', q x _ G1 H1 (.refl W b) hd p⟩
/-! statements -/
variable {D : Ends} {tz tu tw : TS}
theorem s_set {i : Nat} (h : Ev R te σ G P) (hx : Ok R G H) (k : ∀ v d G1 H1, Step R G H G1 H1 → Dat G1 d v → P d → D.nx (σ.set i (some v)) H1) : tAsg te (gName i) D σ H := h G H (Ex.refl G) hx _ k
theorem q_set {i : Nat} (h : Ev R te σ G P) (hx : Ok R G H) (k : ∀ v d G1 H1, Step R G H G1 H1 → Dat G1 d v → P d → tz D (σ.set i (some v)) H1) : tSeq (tAsg te (gName i)) tz D σ H := s_set (D := { D with nx := tz D }) h hx k
theorem s_ret (h : Ev R te σ G P) (hx : Ok R G H) (k : ∀ v d G1 H1, Step R G H G1 H1 → Dat G1 d v → P d → D.rt v H1) : tRet te D σ H := h G H (Ex.refl G) hx _ k
theorem s_if {B : Bool → Prop} (h : EvT R t σ G B) (hx : Ok R G H) (h1 : B true → ∀ G1 H1, Step R G H G1 H1 → tu D σ H1) (h2 : B false → ∀ G1 H1, Step R G H G1 H1 → tw D σ H1) : tIfS t tu tw D σ H := h G H (Ex.refl G) hx _ fun b G1 H1 s pb => by
  cases b with
  | true => exact h1 pb G1 H1 s
  | false => exact h2 pb G1 H1 s
theorem q_if {B : Bool → Prop} (h : EvT R t σ G B) (hx : Ok R G H) (h1 : B true → ∀ G1 H1, Step R G H G1 H1 → tu { D with nx := tz D } σ H1) (h2 : B false → ∀ G1 H1, Step R G H G1 H1 → tw { D with nx := tz D } σ H1) : tSeq (tIfS t tu tw) tz D σ H := s_if (D := { D with nx := tz D }) h hx h1 h2
theorem q_when {B : Bool → Prop} (h : EvT R t σ G B) (hx : Ok R G H) (h1 : B true → ∀ G1 H1, Step R G H G1 H1 → tu { D with nx := tz D } σ H1) (h2 : B false → ∀ G1 H1, Step R G H G1 H1 → tz D σ H1) : tSeq (tIfS t tu tNext) tz D σ H := s_if (D := { D with nx := tz D }) h hx h1 h2
theorem q_drop (h : Ev R te σ G P) (hx : Ok R G H) (k : ∀ v d G1 H1, Step R G H G1 H1 → Dat G1 d v → P d → tz D σ H1) : tSeq (tDrop te) tz D σ H := h G H (Ex.refl G) hx _ k
end
end L2.Um

set_option Elab.async false
set_option linter.all false
set_option maxRecDepth 100000
set_option maxHeartbeats 4000000
/-! Comprehensions, zip, all, is None, by what they are worth. -/
namespace L2.Um
open PySem PySem.Spec PyProof.Rows
open Evl (Ex)

/-- the heap with what is known, and a list at D' that grows -/
structure Fill (R : Wd) (G0 H0 : Hp) (D' : Addr) (ds : List D) (n : Nat) (G H : Hp) : Prop where
  up : Ex G0 G
  ok : Ok R G H
  unk : G D' = none
  new : New H0 G0 G
  keep : ∀ a o, ¬ R.Own a → H0 a = some o → H a = some o
  at' : ∃ acc : List V, H D' = some (.lst acc) ∧ Dats G ds acc ∧ acc.length ≤ n

section
variable {R : Wd} {K : PySem.W.Frag} {σ : L2.St} {G G' H : Hp} {ta tb te tc tl : TE} {t u tt : TT} {x y z d : D} {A B P P' : D → Prop} {v : V} {r : R2}
theorem not_own (W : Way R) {D' : Addr} (b : Ok R G H) (hD : H D' = none) : ¬ R.Own D' := fun w => (W.own b.inv w).2 hD
theorem fill_start (W : Way R) {D' : Addr} (b : Ok R G H) (hD : H D' = none) : Fill R G H D' [] 0 G (upd H D' (.lst [])) :=
  ⟨Ex.refl G, ⟨b.sub.trans (Ex.new hD), W.upd b.inv (not_own W b hD)⟩, Evl.fresh_back b.sub hD, fun a o e => .inl e, fun a o _ e => Ex.new hD a o e, [], upd_same, rfl, Nat.zero_le _⟩
theorem fill_step (W : Way R) {D' : Addr} {ds : List D} {n : Nat} {G1 H1 G2 H2 : Hp} (hD : H D' = none) (b : Ok R G H) (f : Fill R G H D' ds n G1 H1) (s : Step R G1 H1 G2 H2) : Fill R G H D' ds n G2 H2 := by
  obtain ⟨acc, hH, hA, hl⟩ := f.at'
  refine ⟨f.up.trans s.up, s.ok, ?_, fun a o e => ?_, fun a o w e => s.keep a o w (f.keep a o w e), acc, s.keep D' _ (not_own W b hD) hH, Dats.ex s.up ds acc hA, hl⟩
  · cases e : G2 D' with
    | none => rfl
    | some o =>
      rcases s.new D' o e with q | q
      · rw [f.unk] at q; cases q
      · rw [hH] at q; cases q
  · rcases s.new a o e with q | q
    · exact f.new a o q
    · by_cases w : R.Own a
      · exact absurd q (W.own f.ok.inv w).2
      · refine .inr ?_
        cases e0 : H a with
        | none => rfl
        | some u =>
          rw [f.keep a u w e0] at q
          cases q
/-- one thing more -/
theorem fill_more (W : Way R) {D' : Addr} {ds : List D} {n : Nat} {G1 H1 : Hp} {d : D} {v : V} (hD : H D' = none) (b : Ok R G H) (f : Fill R G H D' ds n G1 H1) (hv : Dat G1 d v) (hn : n < 90000) :
    ∃ acc, H1 D' = some (.lst acc) ∧ acc.length < sizeLine ∧ Fill R G H D' (ds ++ [d]) (n + 1) G1 (upd H1 D' (.lst (acc ++ [v]))) := by
  obtain ⟨acc, hH, hA, hl⟩ := f.at'
  refine ⟨acc, hH, Evl.sz_lt (by omega), f.up, ⟨fun a o e => ?_, W.upd f.ok.inv (not_own W b hD)⟩, f.unk, f.new, fun a o w e => ?_, acc ++ [v], upd_same, Dats.snoc hA hv, ?_⟩
  · have ne : a ≠ D' := fun z => by
      rw [z, f.unk] at e
      cases e
    rw [upd_ne ne]
    exact f.ok.sub a o e
  · have ne : a ≠ D' := fun z => by
      rw [z, hD] at e
      cases e
    rw [upd_ne ne]
    exact f.keep a o w e
  · rw [List.length_append, List.length_singleton]
    omega
theorem fill_skip {D' : Addr} {ds : List D} {n m : Nat} {G1 H1 : Hp} (hm : n ≤ m) (f : Fill R G H D' ds n G1 H1) : Fill R G H D' ds m G1 H1 := by
  obtain ⟨acc, hH, hA, hl⟩ := f.at'
  exact ⟨f.up, f.ok, f.unk, f.new, f.keep, acc, hH, hA, Nat.le_trans hl hm⟩
theorem fill_end (W : Way R) {D' : Addr} {ds : List D} {n : Nat} {G1 H1 : Hp} (hn : n ≤ 90000) (hD : H D' = none) (b : Ok R G H) (f : Fill R G H D' ds n G1 H1) : ∃ G2, Step R G H G2 H1 ∧ Dat G2 (.lst ds) (.ref D') := by
  obtain ⟨acc, hH, hA, hl⟩ := f.at'
  have up : Ex G1 (upd G1 D' (.lst acc)) := Ex.new f.unk
  have sub : Ex (upd G1 D' (.lst acc)) H1 := fun a o e => by
    by_cases q : a = D'
    · subst q
      rw [upd_same] at e
      rw [hH]
      exact e
    · rw [upd_ne q] at e
      exact f.ok.sub a o e
  refine ⟨upd G1 D' (.lst acc), ⟨f.up.trans up, ⟨sub, ?_⟩, f.keep, fun a o e => ?_⟩, ⟨D', acc, rfl, upd_same, Dats.ex up ds acc hA, Evl.sz_of (by omega)⟩⟩
  · exact W.know f.ok.inv sub fun a o e => by
      by_cases q : a = D'
      · exact .inr (by rw [q]; exact not_own W b hD)
      · rw [upd_ne q] at e
        exact .inl e
  · by_cases q : a = D'
    · exact .inr (by rw [q]; exact hD)
    · rw [upd_ne q] at e
      exact f.new a o e

/-- what a for walks: the things it gives, in order -/
def EvI (R : Wd) (wi : TI) (σ : L2.St) (G : Hp) (B : List D → Prop) : Prop := ∀ G1 H1, Ex G G1 → Ok R G1 H1 → ∀ Q : It → Hp → Prop,
  (∀ (J : It) (items : List D) (g : Hp → Prop) (Y : Nat → Hp → V → Hp → Prop) (G2 H2 : Hp), Step R G1 H1 G2 H2 → B items → Walk J items.length g Y → (∀ H, Ex G2 H → g H) →
    (∀ (i : Nat) (d : D) (x : V) (Ga Ha Hb : Hp), items[i]? = some d → Ex G2 Ga → Ok R Ga Ha → Y i Ha x Hb → ∃ Gb, Step R Ga Ha Gb Hb ∧ Dat Gb d x) → Q J H2) → wi σ H1 Q
theorem yat (W : Way R) {ds : List D} {xs : List V} {i : Nat} {d : D} {x : V} {Ga Ha Hb : Hp} (hA : Dats Ga ds xs) (hi : ds[i]? = some d) (b : Ok R Ga Ha) (y : YAt xs i Ha x Hb) : ∃ Gb, Step R Ga Ha Gb Hb ∧ Dat Gb d x := by
  obtain ⟨rfl, hx⟩ := y
  obtain ⟨d', q, hd⟩ := Dats.get hA hx
  rw [hi] at q
  cases q
  exact ⟨Ga, .refl W b, hd⟩
theorem ei_list (W : Way R) {B : List D → Prop} (h : Ev R tl σ G fun d => ∃ xs, d = .lst xs ∧ B xs) : EvI R (iList K tl) σ G B := fun G1 H1 a b Q q => h G1 H1 a b _ fun v d G2 H2 s hv ⟨xs, ed, pb⟩ => by
  subst ed
  obtain ⟨l, as, ev, ha, hA, hl⟩ := hv
  refine ⟨l, ev, ⟨as, SqL.of (s.ok.sub _ _ ha)⟩, q _ xs (fun H => SqL K H l as) (YAt as) G2 H2 s pb ?_ (fun H e => SqL.of (e _ _ ha)) fun i d x Ga Ha Hb hi e o y => yat W (Dats.ex e xs as hA) hi o y⟩
  rw [Dats.length hA]
  exact walk_list
theorem ei_tup (W : Way R) {B : List D → Prop} (h : Ev R tl σ G fun d => ∃ xs, d = .tup xs ∧ B xs) : EvI R (iTup K tl) σ G B := fun G1 H1 a b Q q => h G1 H1 a b _ fun v d G2 H2 s hv ⟨xs, ed, pb⟩ => by
  subst ed
  obtain ⟨l, as, ev, ha, hA, hl⟩ := hv
  refine ⟨l, ev, ⟨as, SqT.of (s.ok.sub _ _ ha)⟩, q _ xs (fun H => SqT K H l as) (YAt as) G2 H2 s pb ?_ (fun H e => SqT.of (e _ _ ha)) fun i d x Ga Ha Hb hi e o y => yat W (Dats.ex e xs as hA) hi o y⟩
  rw [Dats.length hA]
  exact walk_tup
/-- pairs, in order -/
def pairs (xs ys : List D) : List D := (xs.zip ys).map fun p => .tup [p.1, p.2]
theorem pairs_at {xs ys : List D} {i : Nat} {d : D} (h : (pairs xs ys)[i]? = some d) : ∃ x y, xs[i]? = some x ∧ ys[i]? = some y ∧ d = .tup [x, y] := by
  unfold pairs at h
  rw [List.getElem?_map] at h
  cases e : (xs.zip ys)[i]? with
  | none =>
    rw [e] at h
    cases h
  | some p =>
    rw [e] at h
    obtain ⟨h1, h2⟩ := List.getElem?_zip_eq_some.mp e
    exact ⟨p.1, p.2, h1, h2, (Option.some.inj h).symm⟩
theorem pairs_len {xs ys : List D} : (pairs xs ys).length = min xs.length ys.length := by
  unfold pairs
  rw [List.length_map, List.length_zip]
theorem ypair (W : Way R) {xs ys : List D} {as bs : List V} {i : Nat} {d : D} {x : V} {Ga Ha Hb : Hp} (hA : Dats Ga xs as) (hB : Dats Ga ys bs) (hi : (pairs xs ys)[i]? = some d) (b : Ok R Ga Ha) (y : YPair (fun i => as[i]?) (fun i => bs[i]?) i Ha x Hb) :
    ∃ Gb, Step R Ga Ha Gb Hb ∧ Dat Gb d x := by
  obtain ⟨T, x1, y1, rfl, hT, rfl, hx, hy⟩ := y
  obtain ⟨dx, dy, qx, qy, rfl⟩ := pairs_at hi
  obtain ⟨d1, q1, w1⟩ := Dats.get hA hx
  obtain ⟨d2, q2, w2⟩ := Dats.get hB hy
  rw [qx] at q1
  cases q1
  rw [qy] at q2
  cases q2
  have n := Evl.fresh_back b.sub hT
  exact ⟨upd Ga T (.tup [x1, y1]), .new' W b hT, T, [x1, y1], rfl, upd_same, ⟨x1, [y1], rfl, Dat.ex (Ex.new n) _ _ w1, y1, [], rfl, Dat.ex (Ex.new n) _ _ w2, rfl⟩, by show 2 ≤ sizeLine; decide⟩
theorem ei_zip (W : Way R) {B : List D → Prop} (h : Evs R (tCons ta (tCons tb tNil)) σ G fun ds => ∃ xs ys, ((ds = [.lst xs, .lst ys]) ∨ (ds = [.tup xs, .tup ys])) ∧ B (pairs xs ys)) : EvI R (RZ.iZipA K (tCons ta (tCons tb tNil))) σ G B := fun G1 H1 a b Q q =>
  h G1 H1 a b _ fun vs ds G2 H2 s hv ⟨xs, ys, ed, pb⟩ => by
  rcases ed with ed | ed
  · subst ed
    obtain ⟨_, _, rfl, ⟨l, as, rfl, ha, hA, _⟩, _, _, rfl, ⟨m, bs, rfl, hb, hB, _⟩, rfl⟩ := hv
    refine ⟨l, m, as, bs, rfl, .inl ⟨SqL.of (s.ok.sub _ _ ha), SqL.of (s.ok.sub _ _ hb), q _ (pairs xs ys) (fun H => SqL K H l as ∧ SqL K H m bs) _ G2 H2 s pb (walk_zip (K := K) ?_) (fun H e => ⟨SqL.of (e _ _ ha), SqL.of (e _ _ hb)⟩)
      fun i d x Ga Ha Hb hi e o y => ypair W (Dats.ex e xs as hA) (Dats.ex e ys bs hB) hi o y⟩⟩
    rw [pairs_len, Dats.length hA, Dats.length hB]
  · subst ed
    obtain ⟨_, _, rfl, ⟨l, as, rfl, ha, hA, _⟩, _, _, rfl, ⟨m, bs, rfl, hb, hB, _⟩, rfl⟩ := hv
    refine ⟨l, m, as, bs, rfl, .inr ⟨SqT.of (s.ok.sub _ _ ha), SqT.of (s.ok.sub _ _ hb), q _ (pairs xs ys) (fun H => SqT K H l as ∧ SqT K H m bs) (YPair (fun i => as[i]?) (fun i => bs[i]?)) G2 H2 s pb ?_ (fun H e => ⟨SqT.of (e _ _ ha), SqT.of (e _ _ hb)⟩)
      fun i d x Ga Ha Hb hi e o y => ypair W (Dats.ex e xs as hA) (Dats.ex e ys bs hB) hi o y⟩⟩
    refine ⟨fun i H hi q => ?_, fun H q => ⟨as, bs, q.1, q.2, ?_⟩, fun i H v H' _ q y => ?_⟩
    · have h1 : i < as.length := by rw [pairs_len, Dats.length hA, Dats.length hB] at hi; omega
      have h2 : i < bs.length := by rw [pairs_len, Dats.length hA, Dats.length hB] at hi; omega
      exact ⟨as, bs, as[i], bs[i], q.1, q.2, by simp [h1], by simp [h2]⟩
    · rw [pairs_len, Dats.length hA, Dats.length hB]; omega
    · obtain ⟨T, x, z, h1, h2, h3, h4, h5⟩ := y
      exact ⟨T, x, z, h1, h2, h3, h4 as q.1, h5 bs q.2⟩

/-- the target gets the thing d at x: in which slots the turn then stands -/
def EvG (R : Wd) (g : TG) (d : D) (σ : L2.St) (σ' : L2.St → Prop) : Prop := ∀ G H x, Ok R G H → Dat G d x → ∀ Q : L2.St → Hp → Prop, (∀ σ2, σ' σ2 → Q σ2 H) → g x σ H Q

theorem Paired.snoc' {α β : Type} {F : α → β → Prop} : ∀ {l : List α} {m : List β} {x : α} {y : β}, PySem.Paired F l m → F x y → PySem.Paired F (l ++ [x]) (m ++ [y])
  | _, _, _, _, .nil, h => .cons h .nil
  | _, _, _, _, .cons a r, h => .cons a (Paired.snoc' r h)
/-- [te for g in wi if tt]: E tells what comes of a thing, p whether it is taken -/
theorem ev_lc (W : Way R) {wi : TI} {g : TG} {vs : List Nat} {B : List D → Prop} (hi : EvI R wi σ G B) (E : D → D → Prop) (p : D → Bool)
    (ht : ∀ items, B items → items.length ≤ 80000 ∧ ∀ (i : Nat) (d : D) (v : V) (G1 H1 : Hp), items[i]? = some d → Ex G G1 → Ok R G1 H1 → Dat G1 d v → ∀ Q : L2.St → Hp → Prop,
      (∀ σ2, wipe σ2 vs = wipe σ vs → EvT R tt σ2 G1 (fun b => b = p d) → (p d = true → Ev R te σ2 G1 (E d)) → Q σ2 H1) → g v (wipe σ vs) H1 Q)
    (hp : ∀ items ds, B items → PySem.Paired E (items.filter p) ds → P (.lst ds)) : Ev R (tLc wi g tt te vs) σ G P := fun G1 H1 a b Q q =>
  hi G1 H1 a b _ fun J items gg Y G2 H2 s pb w hg hy => fun D' hD => by
  obtain ⟨hz, ht⟩ := ht items pb
  refine lc_it w (fun i H => ∃ ds Gc, Fill R G2 H2 D' ds i Gc H ∧ PySem.Paired E ((items.take i).filter p) ds) ⟨[], G2, fill_start W s.ok hD, .nil⟩ (fun i H _ ⟨ds, Gc, f, _⟩ => hg H (f.up.trans f.ok.sub)) ?_ ?_
  · rintro i x Ha Hb hlt ⟨ds, Gc, f, pr⟩ y
    have hd : items[i]? = some items[i] := by simp [hlt]
    obtain ⟨Gb, s1, hx⟩ := hy i items[i] x Gc Ha Hb hd f.up f.ok y
    have f1 := fill_step W hD s.ok f s1
    have tk : (items.take (i + 1)).filter p = (items.take i).filter p ++ (if p items[i] = true then [items[i]] else []) := by
      rw [List.take_succ, hd, List.filter_append]
      congr 1
      show List.filter p [items[i]] = _
      by_cases c : p items[i] = true
      · rw [if_pos c, List.filter_cons_of_pos c]
        rfl
      · rw [if_neg c, List.filter_cons_of_neg c]
        rfl
    refine ht i items[i] x Gb Hb hd ((a.trans s.up).trans f1.up) f1.ok hx _ fun σ2 hw e1 e2 => ⟨hw, e1 Gb Hb (Ex.refl Gb) f1.ok _ fun k G3 H3 s3 pk => ?_⟩
    have f3 := fill_step W hD s.ok f1 s3
    subst pk
    by_cases c : p items[i] = true
    · rw [if_pos c]
      refine e2 c G3 H3 s3.up f3.ok _ fun v' d' G4 H4 s4 hv' pe => ?_
      have f4 := fill_step W hD s.ok f3 s4
      obtain ⟨acc, k1, k2, f5⟩ := fill_more W hD s.ok f4 hv' (by omega)
      refine ⟨acc, k1, k2, ds ++ [d'], G4, f5, ?_⟩
      rw [tk, if_pos c]
      exact Paired.snoc' pr pe
    · rw [if_neg c]
      refine ⟨ds, G3, fill_skip (Nat.le_succ _) f3, ?_⟩
      rw [tk, if_neg c, List.append_nil]
      exact pr
  · rintro He ⟨ds, Gc, f, pr⟩
    obtain ⟨G3, s3, hd⟩ := fill_end W (by omega) hD s.ok f
    rw [List.take_length] at pr
    exact q (.ref D') (.lst ds) G3 He (s.trans W s3) hd (hp items ds pb pr)
theorem et_yes (W : Way R) {P : Bool → Prop} (p : P true) : EvT R tYes σ G P := fun G1 H1 a b _ q => q true G1 H1 (.refl W b) p
theorem paired_map {f : D → D} : ∀ {xs ds : List D}, PySem.Paired (fun d r => r = f d) xs ds → ds = xs.map f
  | _, _, .nil => rfl
  | _, _, .cons a r => by rw [a, paired_map r]; rfl
/-- all(..) of truth values -/
theorem ev_all (h : Ev R te σ G A) (p : ∀ d, A d → ∃ bs : List Bool, d = .lst (bs.map D.bl) ∧ P (.bl (bs.all id))) : Ev R (tCB (rAll K) (tCons te tNil)) σ G P := fun G1 H1 a b _ q =>
  h G1 H1 a b _ fun v d G2 H2 s hv pa => by
    obtain ⟨bs, rfl, pp⟩ := p d pa
    obtain ⟨l, as, rfl, ha, hA, _⟩ := hv
    have e : as = bs.map V.bl := by
      have key : ∀ (bs : List Bool) (as : List V), Dats G2 (bs.map D.bl) as → as = bs.map V.bl := by
        intro bs
        induction bs with
        | nil => intro as h; exact h
        | cons c r ih =>
          intro as h
          obtain ⟨v, t, rfl, hv, ht⟩ := h
          rw [ih t ht, show v = V.bl c from hv]
          rfl
      exact key bs as hA
    subst e
    exact ⟨l, bs, rfl, SqL.of (s.ok.sub _ _ ha), q _ _ G2 H2 s datB pp⟩
end
end L2.Um

set_option Elab.async false
set_option linter.all false
set_option maxRecDepth 100000
set_option maxHeartbeats 4000000
/-! Own errors as data: made, read, asked for their class. -/
namespace L2.Um
open PySem PySem.Spec PyProof.Rows
open Evl (Ex)

/-- an error is being made at a, over what was known (G) when H1 stood: what is known now (Gk), its dict so far -/
structure Mid (G H1 : Hp) (a C : Addr) (od : Option (Addr × List (Str × V))) (Gk Hk : Hp) : Prop where
  up : Ex G Gk
  sub : Ex Gk Hk
  keep : Ex H1 Hk
  new : New H1 G Gk
  ua : Gk a = none
  a1 : H1 a = none
  at' : Hk a = some (exo a C (od.map (·.1)))
  dx : ∀ p, od = some p → Hk p.1 = some (exd p.1 p.2) ∧ Gk p.1 = none ∧ H1 p.1 = none ∧ p.1 ≠ a
section
variable {G H1 Gk Hk G' H' : Hp} {a C : Addr} {od : Option (Addr × List (Str × V))}
theorem mid_start (e : Ex G H1) (ha : H1 a = none) : Mid G H1 a C none G (upd H1 a (exo a C none)) :=
  ⟨Ex.refl G, e.trans (Ex.new ha), Ex.new ha, fun b o h => .inl h, Evl.fresh_back e ha, ha, upd_same, fun p z => by cases z⟩
theorem mid_ok (m : Mid G H1 a C od Gk Hk) : Ok W0 Gk Hk := ⟨m.sub, trivial⟩
theorem unk {Gk Hk G' H' : Hp} {b : Addr} {o : HO} (s : Step W0 Gk Hk G' H') (h : Hk b = some o) (u : Gk b = none) : G' b = none := by
  cases e : G' b with
  | none => rfl
  | some x =>
    rcases s.new b x e with q | q
    · rw [u] at q; cases q
    · rw [h] at q; cases q
theorem mid_step (m : Mid G H1 a C od Gk Hk) (s : Step W0 Gk Hk G' H') : Mid G H1 a C od G' H' := by
  have k : Ex Hk H' := fun b o e => s.keep b o id e
  refine ⟨m.up.trans s.up, s.ok.sub, m.keep.trans k, fun b o e => ?_, unk s m.at' m.ua, m.a1, k _ _ m.at', fun p z => ?_⟩
  · rcases s.new b o e with q | q
    · exact m.new b o q
    · exact .inr (Evl.fresh_back m.keep q)
  · obtain ⟨h1, h2, h3, h4⟩ := m.dx p z
    exact ⟨k _ _ h1, unk s h1 h2, h3, h4⟩
theorem mid_put1 {dx : Addr} {f : Str} {y : V} (m : Mid G H1 a C none Gk Hk) (hd : Hk dx = none) (ne : dx ≠ a) : Mid G H1 a C (some (dx, [(f, y)])) Gk (upd (upd Hk dx (exd dx [(f, y)])) a (exo a C (some dx))) where
  up := m.up
  sub := fun b o e => by
    rw [upd_ne (fun z => by rw [z, m.ua] at e; cases e), upd_ne (ne_of_none (m.sub b o e) hd)]
    exact m.sub b o e
  keep := fun b o e => by
    rw [upd_ne (ne_of_none e m.a1), upd_ne (ne_of_none (m.keep b o e) hd)]
    exact m.keep b o e
  new := m.new
  ua := m.ua
  a1 := m.a1
  at' := upd_same
  dx := fun p z => by
    cases z
    refine ⟨?_, Evl.fresh_back m.sub hd, Evl.fresh_back m.keep hd, ne⟩
    rw [upd_ne ne]
    exact upd_same
theorem mid_put2 {dx : Addr} {fs : List (Str × V)} {f : Str} {y : V} (m : Mid G H1 a C (some (dx, fs)) Gk Hk) : Mid G H1 a C (some (dx, (f, y) :: fs)) Gk (upd Hk dx (exd dx ((f, y) :: fs))) := by
  obtain ⟨h1, h2, h3, h4⟩ := m.dx _ rfl
  refine ⟨m.up, fun b o e => ?_, fun b o e => ?_, m.new, m.ua, m.a1, ?_, fun p z => ?_⟩
  · rw [upd_ne (fun z => by rw [z] at e; exact absurd (h2.symm.trans e) (by simp))]
    exact m.sub b o e
  · rw [upd_ne (ne_of_none e h3)]
    exact m.keep b o e
  · rw [upd_ne (Ne.symm h4)]
    exact m.at'
  · cases z
    exact ⟨upd_same, h2, h3, h4⟩
/-- made: known from now on -/
theorem mid_end {dx : Addr} {ns : List Str} {xs : List V} {ds : List D} (m : Mid G H1 a C (some (dx, ns.zip xs)) Gk Hk) (hA : Dats Gk ds xs) : ∃ G2, Step W0 G H1 G2 Hk ∧ Dat G2 (.exc C ns ds) (.ref a) := by
  obtain ⟨h1, h2, h3, h4⟩ := m.dx _ rfl
  have n1 : (upd Gk dx (exd dx (ns.zip xs))) a = none := by
    rw [upd_ne (Ne.symm h4)]
    exact m.ua
  have e1 : Ex Gk (upd (upd Gk dx (exd dx (ns.zip xs))) a (exo a C (some dx))) := (Ex.new h2).trans (Ex.new n1)
  refine ⟨upd (upd Gk dx (exd dx (ns.zip xs))) a (exo a C (some dx)), ⟨m.up.trans e1, ⟨fun b o e => ?_, trivial⟩, fun b o _ e => m.keep b o e, fun b o e => ?_⟩, a, some dx, xs, rfl, upd_same, fun d z => ?_, (fun z => nomatch z), Dats.ex e1 ds xs hA⟩
  · by_cases q : b = a
    · subst q
      rw [upd_same] at e
      rw [← e]
      exact m.at'
    · rw [upd_ne q] at e
      by_cases q2 : b = dx
      · subst q2
        rw [upd_same] at e
        rw [← e]
        exact h1
      · rw [upd_ne q2] at e
        exact m.sub b o e
  · by_cases q : b = a
    · exact .inr (by rw [q]; exact m.a1)
    · rw [upd_ne q] at e
      by_cases q2 : b = dx
      · exact .inr (by rw [q2]; exact h3)
      · rw [upd_ne q2] at e
        exact m.new b o e
  · cases z
    rw [upd_ne h4]
    exact upd_same
end

/-- C's __init__ with the things xs makes an error with the fields ns, f xs -/
def spErr (C : Addr) (ns : List Str) (ok : List D → Prop) (f : List D → List D) : Sp := fun vs H Q _ => ∃ (G H1 : Hp) (a : Addr) (us : List V) (xs : List D), vs = .ref a :: us ∧ H = upd H1 a (exo a C none) ∧ H1 a = none ∧ Ex G H1 ∧ Dats G xs us ∧ ok xs ∧
  ∀ G2 H2, Step W0 G H1 G2 H2 → Dat G2 (.exc C ns (f xs)) (.ref a) → Q .non H2
section
variable {R : Wd} {K : PySem.W.Frag} {σ : L2.St} {G G' H : Hp} {ta tb te tc tl : TE} {t u tt : TT} {x y z d : D} {A B P P' : D → Prop} {v : V} {r : R2}
/-- C(..), by places -/
theorem ev_mk (W : Way R) {C : Addr} {ns : List Str} {ok : List D → Prop} {f : List D → List D} {ta : TA} {B : List D → Prop} (h : Evs R ta σ G B) (p : ∀ xs, B xs → xs.length ≤ 1000 ∧ ok xs ∧ P (.exc C ns (f xs))) : Ev R (tMk C (spErr C ns ok f) [] ta) σ G P := fun G1 H1 a b Q q =>
  h G1 H1 a b _ fun us xs G2 H2 s hs pb => by
    obtain ⟨p1, p2, p3⟩ := p xs pb
    refine ⟨by rw [← Dats.length hs]; exact p1, fun l hl => ⟨G2, H2, l, us, xs, by rw [List.append_nil], rfl, hl, s.ok.sub, hs, p2, fun G3 H3 s3 hd => ⟨rfl, ?_⟩⟩⟩
    exact q _ _ G3 H3 (s.trans W (s3.of0 W s.ok.inv)) hd p3
theorem look_cons {α : Type} (n m : Str) (e : α) (r : List (Str × α)) : ((m, e) :: r).lookup n = if n = m then some e else r.lookup n := by
  by_cases h : n = m
  · subst h
    simp [List.lookup]
  · have q : (n == m) = false := by simpa using h
    rw [if_neg h]
    simp [List.lookup, q]
theorem zip_look {n : Str} {d : D} : ∀ {ns : List Str} {ds : List D} {xs : List V}, Dats G ds xs → (ns.zip ds).lookup n = some d → ∃ x, (ns.zip xs).lookup n = some x ∧ Dat G d x
  | [], _, _, _, h => by cases h
  | m :: ns, [], _, _, h => by cases h
  | m :: ns, e :: ds, _, ⟨y, r, ex, hy, hr⟩, h => by
    subst ex
    rw [List.zip_cons_cons, look_cons] at h
    rw [List.zip_cons_cons, look_cons]
    by_cases q : n = m
    · rw [if_pos q] at h
      rw [if_pos q]
      cases h
      exact ⟨y, rfl, hy⟩
    · rw [if_neg q] at h
      rw [if_neg q]
      exact zip_look hr h
/-- e.n -/
theorem ev_get {n : Str} (h : Ev R te σ G A) (p : ∀ d, A d → ∃ (C : Addr) (B : String) (ns : List Str) (ds : List D) (y : D), d = .exc C ns ds ∧ OwnE K C B ∧ PySem.W.findIn K (.ref C) n = some none ∧ (ns.zip ds).lookup n = some y ∧ P y) : Ev R (tGet K n te) σ G P := fun G1 H1 a b Q q =>
  h G1 H1 a b _ fun v d G2 H2 s hv pa => by
    obtain ⟨C, B, ns, ds, y, rfl, T, hno, hl, py⟩ := p d pa
    obtain ⟨l, od, xs, rfl, ha, hd, hn, hA⟩ := hv
    obtain ⟨x, lx, hx⟩ := zip_look hA hl
    cases od with
    | none =>
      rw [hn rfl] at hl
      cases hl
    | some dx => exact ⟨l, C, dx, B, ns.zip xs, x, rfl, T, hno, s.ok.sub _ _ ha, s.ok.sub _ _ (hd dx rfl), lx, q x y G2 H2 s hx py⟩
/-- isinstance(e, c), e an error, c a class -/
theorem ev_isO {c : V} {u : Value} (cv : ClsV c u) (hc : ∀ (σ : L2.St) (H : Hp) (Q : VK), Q c H → tc σ H Q) (h : Ev R te σ G A) (p : ∀ d, A d → ∃ (C : Addr) (B : String) (ns : List Str) (ds : List D) (b : Bool), d = .exc C ns ds ∧ OwnE K C B ∧ PySem.W.kitOne K (.ref C) u = some b ∧ P (.bl b)) :
    Ev R (tCB (rIsO K) (tCons te (tCons tc tNil))) σ G P := fun G1 H1 a b Q q =>
  h G1 H1 a b _ fun v d G2 H2 s hv pa => hc _ _ _ (by
    obtain ⟨C, B, ns, ds, k, rfl, T, hk, pk⟩ := p d pa
    obtain ⟨l, od, xs, rfl, ha, hd, hn, hA⟩ := hv
    exact ⟨l, C, B, od, c, u, k, rfl, T, s.ok.sub _ _ ha, fun dx e => ⟨_, s.ok.sub _ _ (hd dx e)⟩, cv, hk, q _ _ G2 H2 s datB pk⟩)
theorem ev_isO2 (W : Way R) {m n : String} (h : Ev R te σ G A) (p : ∀ d, A d → ∃ (C : Addr) (B : String) (ns : List Str) (ds : List D) (b : Bool), d = .exc C ns ds ∧ OwnE K C B ∧ PySem.W.kitAny K (.ref C) [.type m, .type n] = some b ∧ P (.bl b)) :
    Ev R (tCB (rIsOT K) (tCons te (tCons (tTup (tCons (tC (.ty m)) (tCons (tC (.ty n)) tNil))) tNil))) σ G P := fun G1 H1 a b Q q =>
  h G1 H1 a b _ fun v d G2 H2 s hv pa => ⟨by show 2 ≤ sizeLine; decide, fun tp hp => by
    obtain ⟨C, B, ns, ds, k, rfl, T, hk, pk⟩ := p d pa
    obtain ⟨l, od, xs, rfl, ha, hd, hn, hA⟩ := hv
    have e := s.ok.sub.trans (Ex.new (o := .tup [.ty m, .ty n]) hp)
    exact ⟨l, C, B, od, tp, _, _, k, rfl, T, e _ _ ha, fun dx z => ⟨_, e _ _ (hd dx z)⟩, upd_same, pt2 m n, hk, q _ _ _ _ (s.trans W (.drop W s.ok hp)) datB pk⟩⟩
/-- C(), a class without an __init__ of its own -/
def tMk0 (C : Addr) : TE := fun _ H Q => ∀ a, H a = none → Q (.ref a) (upd H a (exo a C none))
theorem pe_mk0 {X : Cx} {C : Addr} {bmB : List Value} {B newId initId : String} {x : Str} {p pos : Pos} (F : ExcBaseFacts B newId initId bmB) (q : PySem.W.excIn X.K C bmB newId = true) (kC : PySem.W.keepIn X.K (.ref C) = true) (hg : Gl X x) (gC : X.mg x = some (.ref C))
    (hdb : (x == ("__debug__" : Str)) = false := by decide) : PE X (.Call (.Name x p) [] [] pos) (tMk0 C) := by
  refine ⟨fun pins s σ H Q I h => ?_⟩
  refine wpAny_Call_Name_kw (ld_glob I hg gC ?_ hdb)
  refine PySem.W.callWith_K0 I.kIn kC ?_
  obtain ⟨bm, N, nm, qn, bs, hdct, sn, sub, ab, col, dd, k0, k1, k2, k3, k5, mN, hC, hN, hni, T⟩ := exc_obj I.kIn q
  refine wpAny_call_exc_subT F T hC hN hni (fun h' a hm => ?_) (by show 0 ≤ sizeLine; exact Nat.zero_le _)
  have hn : H a = none := I.hok.gone hm.new
  obtain ⟨t, ht, _, _⟩ := hm.there
  exact ⟨.ref a, upd H a (exo a C none), I.laidN hm.keeps hm.new hn (exo_ok ht), rfl, h a hn⟩
theorem ev_mk0 (W : Way R) {C : Addr} (p : P (.exc C [] [])) : Ev R (tMk0 C) σ G P := fun G1 H1 a b _ q l hl =>
  q _ (.exc C [] []) _ _ (.new' W b hl) ⟨l, none, [], rfl, upd_same, (fun _ z => nomatch z), fun _ => rfl, rfl⟩ p
end
end L2.Um

set_option Elab.async false
set_option linter.all false
set_option maxRecDepth 100000
set_option maxHeartbeats 4000000
/-! Whole numbers, by what they are worth; a box of three numbers that one draws from. -/
namespace L2.Um
open PySem PySem.Spec PyProof.Rows
open Evl (Ex)
section
variable {R : Wd} {K : PySem.W.Frag} {σ : L2.St} {G G' H : Hp} {ta tb te tc tl : TE} {t u tt : TT} {x y z d : D} {A B P P' : D → Prop} {v : V} {r : R2} {i j m n : Int}
theorem isI {H : Hp} {d : D} {v : V} {i : Int} (hv : Dat H d v) (e : d = .int i) : v = .int i := by
  subst e
  exact hv
theorem isB {H : Hp} {d : D} {v : V} {i : Bool} (hv : Dat H d v) (e : d = .bl i) : v = .bl i := by
  subst e
  exact hv
/-- a whole number, this one -/
abbrev Iv (R : Wd) (te : TE) (σ : L2.St) (G : Hp) (n : Int) : Prop := Ev R te σ G fun d => d = .int n
theorem iv_c (W : Way R) : Iv R (tC (.int n)) σ G n := ev_int W rfl
theorem iv_var (W : Way R) {k : Nat} (h : σ[k]? = some (some (.int n))) : Iv R (tVar k) σ G n := ev_var W h datI rfl
theorem iv_op (W : Way R) {g : Int → Int → V} {e : Int} (ha : Iv R ta σ G i) (hb : Iv R tb σ G j) (hz : g i j = .int e) : Iv R (tOp (rI0 g) ta tb) σ G e :=
  ev_op W ha hb (two (rv_int W (z := .int e) (fun _ => hz) rfl))
theorem iv_opC (W : Way R) {C : Int → Int → Prop} {g : Int → Int → V} {e : Int} (ha : Iv R ta σ G i) (hb : Iv R tb σ G j) (hc : C i j) (hz : g i j = .int e) : Iv R (tOp (rI C g) ta tb) σ G e :=
  ev_op W ha hb (two (rv_intC W (z := .int e) hc (fun _ => hz) rfl))
theorem ev_cmp (W : Way R) {g : Int → Int → V} {e : Bool} (ha : Iv R ta σ G i) (hb : Iv R tb σ G j) (hz : g i j = .bl e) : Ev R (tOp (rI0 g) ta tb) σ G fun d => d = .bl e :=
  ev_op W ha hb (two (rv_int W (z := .bl e) (fun _ => hz) rfl))
theorem iv_add (W : Way R) (ha : Iv R ta σ G i) (hb : Iv R tb σ G j) : Iv R (tOp (rI0 fun i j => .int (i + j)) ta tb) σ G (i + j) := iv_op W ha hb rfl
theorem iv_sub (W : Way R) (ha : Iv R ta σ G i) (hb : Iv R tb σ G j) : Iv R (tOp (rI0 fun i j => .int (i - j)) ta tb) σ G (i - j) := iv_op W ha hb rfl
theorem iv_mul (W : Way R) (ha : Iv R ta σ G i) (hb : Iv R tb σ G j) (hc : CMul i j) : Iv R (tOp (rI CMul fun i j => .int (i * j)) ta tb) σ G (i * j) := iv_opC W ha hb hc rfl
theorem iv_mod (W : Way R) (ha : Iv R ta σ G i) (hb : Iv R tb σ G j) (hc : 0 < j) : Iv R (tOp (rI (fun _ j => 0 < j) fun i j => .int (i % j)) ta tb) σ G (i % j) := iv_opC (C := fun _ j => 0 < j) W ha hb hc rfl
theorem iv_div (W : Way R) (ha : Iv R ta σ G i) (hb : Iv R tb σ G j) (hc : CDiv i j) : Iv R (tOp (rI CDiv fun i j => .int (i / j)) ta tb) σ G (i / j) := iv_opC W ha hb hc rfl
theorem iv_pow (W : Way R) (ha : Iv R ta σ G i) (hb : Iv R tb σ G j) (hc : CPow i j) : Iv R (tOp (rI CPow fun i j => .int (i ^ j.toNat)) ta tb) σ G (i ^ j.toNat) := iv_opC W ha hb hc rfl
theorem cmp_gt (W : Way R) (ha : Iv R ta σ G i) (hb : Iv R tb σ G j) : Ev R (tOp (rI0 fun i j => .bl (decide (j < i))) ta tb) σ G fun d => d = .bl (decide (j < i)) := ev_cmp W ha hb rfl
theorem cmp_lt (W : Way R) (ha : Iv R ta σ G i) (hb : Iv R tb σ G j) : Ev R (tOp (rI0 fun i j => .bl (decide (i < j))) ta tb) σ G fun d => d = .bl (decide (i < j)) := ev_cmp W ha hb rfl
theorem cmp_ge (W : Way R) (ha : Iv R ta σ G i) (hb : Iv R tb σ G j) : Ev R (tOp (rI0 fun i j => .bl (decide (j ≤ i))) ta tb) σ G fun d => d = .bl (decide (j ≤ i)) := ev_cmp W ha hb rfl
theorem cmp_le (W : Way R) (ha : Iv R ta σ G i) (hb : Iv R tb σ G j) : Ev R (tOp (rI0 fun i j => .bl (decide (i ≤ j))) ta tb) σ G fun d => d = .bl (decide (i ≤ j)) := ev_cmp W ha hb rfl
theorem iv_int (W : Way R) (ha : Iv R ta σ G i) : Iv R (tCB (fun xs H Q => (∃ i, xs = [V.int i] ∧ Q (.int i) H) ∨ ∃ k, xs = [V.bl k] ∧ Q (.int (if k then 1 else 0)) H) (tCons ta tNil)) σ G i := fun G1 H1 a b Q q =>
  ha G1 H1 a b _ fun v d G2 H2 s hv e => .inl ⟨i, by rw [isI hv e], q _ _ G2 H2 s datI rfl⟩
theorem iv_bool (W : Way R) {k : Bool} (ha : Ev R ta σ G fun d => d = .bl k) : Iv R (tCB (fun xs H Q => (∃ i, xs = [V.int i] ∧ Q (.int i) H) ∨ ∃ k, xs = [V.bl k] ∧ Q (.int (if k then 1 else 0)) H) (tCons ta tNil)) σ G (if k then 1 else 0) := fun G1 H1 a b Q q =>
  ha G1 H1 a b _ fun v d G2 H2 s hv e => .inr ⟨k, by rw [isB hv e], q _ _ G2 H2 s datI rfl⟩
theorem iv_abs (W : Way R) (ha : Iv R ta σ G i) : Iv R (tCB (fun xs H Q => ∃ i, xs = [V.int i] ∧ Q (.int (if i < 0 then -i else i)) H) (tCons ta tNil)) σ G (if i < 0 then -i else i) := fun G1 H1 a b Q q =>
  ha G1 H1 a b _ fun v d G2 H2 s hv e => ⟨i, by rw [isI hv e], q _ _ G2 H2 s datI rfl⟩
theorem iv_ix (W : Way R) {xs : List D} {k : Nat} (ha : Ev R ta σ G fun d => d = .lst xs) (hb : Iv R tb σ G (k : Int)) (hx : xs[k]? = some (.int n)) : Iv R (tOp (rIxL K) ta tb) σ G n :=
  ev_op W ha hb (two (rv_ixL W hx rfl))
theorem ev_isI {b : Bool} (h : Ev R te σ G fun d => d = .bl b) : EvT R (tTest te) σ G (fun c => c = b) := et_val (h.imp (one ⟨b, rfl, rfl⟩))
end

/-- a box: three numbers, none below 0, the third at most n -/
def BoxIs (b : Addr) (n : Int) (H : Hp) : Prop := ∃ x y z : Int, H b = some (.lst [.int x, .int y, .int z]) ∧ 0 ≤ x ∧ 0 ≤ y ∧ y < 4611686018427387904 ∧ 0 ≤ z ∧ z ≤ n
/-- all but b stands -/
def Keep (b : Addr) (H H' : Hp) : Prop := ∀ a o, a ≠ b → H a = some o → H' a = some o
theorem Keep.refl (b : Addr) (H : Hp) : Keep b H H := fun _ _ _ e => e
theorem Keep.trans {b : Addr} {H H' H2 : Hp} (k : Keep b H H') (l : Keep b H' H2) : Keep b H H2 := fun a o n e => l a o n (k a o n e)
theorem Keep.ex {b : Addr} {H H' : Hp} (e : Ex H H') : Keep b H H' := fun a o _ h => e a o h
/-- what is known, if b is not, stays known -/
theorem Keep.know {b : Addr} {G H H' : Hp} (k : Keep b H H') (e : Ex G H) (u : G b = none) : Ex G H' := fun a o h => k a o (fun z => by rw [z, u] at h; cases h) (e a o h)
theorem BoxIs.up {b : Addr} {n m : Int} {H : Hp} (h : BoxIs b n H) (l : n ≤ m) : BoxIs b m H := by
  obtain ⟨x, y, z, e, h1, h2, h3, h4, h5⟩ := h
  exact ⟨x, y, z, e, h1, h2, h3, h4, Int.le_trans h5 l⟩
theorem BoxIs.ex {b : Addr} {n : Int} {H H' : Hp} (h : BoxIs b n H) (e : Ex H H') : BoxIs b n H' := by
  obtain ⟨x, y, z, q, r⟩ := h
  exact ⟨x, y, z, e _ _ q, r⟩
/-- draw(box, top): some number below top -/
def spTake : Sp := fun vs H Q _ => ∃ (b : Addr) (top n : Int), vs = [.ref b, .int top] ∧ BoxIs b n H ∧ n < 1152921504606846976 ∧ 0 < top ∧ top < 1073741824 ∧
  ∀ (r : Int) H', 0 ≤ r → r < top → Keep b H H' → BoxIs b (n + 1) H' → Q (.int r) H'
end L2.Um

set_option Elab.async false
set_option linter.all false
set_option maxRecDepth 100000
set_option maxHeartbeats 4000000
namespace L2.Um
open PySem PySem.Spec PyProof.Rows
open Evl (Ex)
/-- tuple(list) -/
theorem rc_tuple {R : Wd} {K : PySem.W.Frag} (W : Way R) {G : Hp} {P : D → Prop} {xs : List D} (p : P (.tup xs)) :
    Rc R (fun xs H Q => ∃ p ys, xs = [.ref p] ∧ ((SqL K H p ys ∧ ∀ l, H l = none → Q (.ref l) (upd H l (.tup ys))) ∨ (SqT K H p ys ∧ Q (.ref p) H))) [.lst xs] G P := fun G1 H1 _ b us ⟨v, _, eu, ⟨a, as, ev, ha, hA, hl⟩, er⟩ Q q => by
  subst er
  subst ev
  exact ⟨a, as, eu, .inl ⟨SqL.of (b.sub _ _ ha), fun l hp => q _ _ _ _ (.new' W b hp) (dat_tup hA hl (Evl.fresh_back b.sub hp)) p⟩⟩
theorem pe_ty {X : Cx} {x : Str} {n : String} {pos : Pos} (hg : Gl X x) (hm : X.mg x = none) (hb : bootBuiltins x = some (.type n)) (hn : x ≠ "__name__" := by decide) (hd : (x == ("__debug__" : Str)) = false := by decide) : PE X (.Name x pos) (tC (.ty n)) := pe_bltn (v := .ty n) hg hm hb rfl hn hd
end L2.Um
namespace K06
open PySem PySem.Spec PyProof.Rows L2 L2.Um
open Evl (Ex)
def top (i : Nat) : Stmt := PySem.Challenge.pw_undermasters_k06_errors_by_themselves.main.body.getD i (.Pass ⟨0, 0, 0, 0⟩)
abbrev sAs : Stmt := top 1

/-! ### as_tuples -/
def spTup (n : Nat) : Sp := fun vs H Q _ => ∃ (G : Hp) (d : D) (v : V), vs = [v] ∧ Ex G H ∧ Dat G d v ∧ d.plain = true ∧ d.deep ≤ n ∧ ∀ w G2 H2, Step W0 G H G2 H2 → Dat G2 d.tupled w → Q w H2
def seqB (d : D) : Bool := match d with | .lst _ => true | .tup _ => true | _ => false
def lstB (d : D) : Bool := match d with | .lst _ => true | _ => false
def tupB (d : D) : Bool := match d with | .tup _ => true | _ => false
theorem kit_lst : ∀ {d : D}, d.pl = true → kitB d.ty "list" = some (lstB d)
  | .non, _ => by decide +kernel
  | .bl _, _ => by show kitB "bool" "list" = some false; decide +kernel
  | .int _, _ => by show kitB "int" "list" = some false; decide +kernel
  | .str _, _ => by show kitB "str" "list" = some false; decide +kernel
  | .lst _, _ => by show kitB "list" "list" = some true; decide +kernel
  | .tup _, _ => by show kitB "tuple" "list" = some false; decide +kernel
theorem kit_tup : ∀ {d : D}, d.pl = true → kitB d.ty "tuple" = some (tupB d)
  | .non, _ => by decide +kernel
  | .bl _, _ => by show kitB "bool" "tuple" = some false; decide +kernel
  | .int _, _ => by show kitB "int" "tuple" = some false; decide +kernel
  | .str _, _ => by show kitB "str" "tuple" = some false; decide +kernel
  | .lst _, _ => by show kitB "list" "tuple" = some false; decide +kernel
  | .tup _, _ => by show kitB "tuple" "tuple" = some true; decide +kernel
theorem or_seq (d : D) : (lstB d || tupB d) = seqB d := by cases d <;> rfl
theorem tupled_not : ∀ {d : D}, seqB d = false → d.tupled = d
  | .non, _ => rfl
  | .bl _, _ => rfl
  | .int _, _ => rfl
  | .str _, _ => rfl
  | .exc _ _ _, _ => rfl
theorem scAs : FnScope ["thing", "part"] ["thing"] (defScope sAs) := ⟨rfl, rfl, rfl, by decide +kernel, rfl, by decide +kernel, by decide +kernel⟩
structure TxA (mg : Str → Option Value) (f : Addr) : Prop where
  isi : mg "isinstance" = none
  list : mg "list" = none
  tuple : mg "tuple" = none
  me : mg "as_tuples" = some (.ref f)
section
variable {P : Program} {w : World} {K : PySem.W.Frag} {mg : Str → Option Value} {base : Heap} {f : Addr} {fd : FuncData}
theorem as_one {d : D} {σ : L2.St} {G : Hp} {v : V} (hv : σ[0]? = some (some v)) (hd : Dat G d v) (hp : d.pl = true) :
    L2.Um.EvT W0 (tNot (tTest (tCB (rIsiT K) (tCons (tVar 0) (tCons (tTup (tCons (tC (.ty "list")) (tCons (tC (.ty "tuple")) tNil))) tNil))))) σ G (fun b => b = !seqB d) :=
  et_not (B := fun b => b = seqB d) (et_val (ev_isi2 way0 (A := fun x => x = d) (f := lstB) (g := tupB) (ev_var way0 hv hd rfl) (one ⟨hp, kit_lst hp, kit_tup hp⟩) (one ⟨_, rfl, or_seq d⟩))) fun b e => by rw [e]
theorem ok_as (F : Fun K "as_tuples" "as_tuples" sAs f fd) (T : TxA mg f) (bA : Binds K fd ["thing"] []) : ∀ n : Nat, FnOk P w K mg base CX0 (n + 1) f fd ["thing"] (spTup n) := by
  intro n
  induction n with
  | zero =>
    refine F.ok scAs (fun vs H Q E h => ?_) (fun cdv A outer s H vs Q E hr h => ?_)
    · obtain ⟨G, d, v, rfl, _⟩ := h
      rfl
    · obtain ⟨G, d, v, rfl, ex, hd, hp, hn, k⟩ := h
      have hs : seqB d = false := by cases d <;> first | rfl | exact absurd hn (Nat.not_succ_le_zero _)
      refine ⟨_, pss_cons (ps_if (pt_not (pt_val (pe_callB call_isiT (by rfl) T.isi boot_isinstance (pa_cons (pv 0) (pa_cons (pe_tup (pa_cons (pe_ty (by rfl) T.list boot_list) (pa_cons (pe_ty (by rfl) T.tuple boot_tuple) pa_nil))) pa_nil)))))
        (pss_one (ps_ret (pv 0))) pss_nil) pss_never, ?_⟩
      refine q_when (as_one rfl hd (plain_pl hp)) ⟨ex, trivial⟩ (fun _ G1 H1 s1 => ?_) (fun z => ?_)
      · refine s_ret (P := fun x => x = d) (ev_var way0 rfl (Dat.ex s1.up d v hd) rfl) s1.ok fun v' d' G2 H2 s2 hd' e => ?_
        subst e
        exact k v' G2 H2 (s1.trans way0 s2) (by rw [tupled_not hs]; exact hd')
      · rw [hs] at z
        cases z
  | succ n ih =>
    refine F.ok scAs (fun vs H Q E h => ?_) (fun cdv A outer s H vs Q E hr h => ?_)
    · obtain ⟨G, d, v, rfl, _⟩ := h
      rfl
    · obtain ⟨G, d, v, rfl, ex, hd, hp, hn, k⟩ := h
      have call : ∀ (e : D) (G' : Hp), e.plain = true → e.deep ≤ n → Sv W0 (spTup n) [e] G' (fun r => r = e.tupled) := fun e G' h1 h2 G1 H1 _ b us ⟨u, _, eu, hu, er⟩ Q E q => by
        subst er
        exact ⟨G1, e, u, eu, b.sub, hu, h1, h2, fun w G2 H2 s hw => q w _ G2 H2 s hw rfl⟩
      by_cases hs : seqB d = true
      · have tl : ∃ ds, (d = .lst ds ∨ d = .tup ds) ∧ ds.length ≤ 80000 ∧ plains ds = true ∧ deeps ds ≤ n := by
          cases d with
          | lst ds => exact ⟨ds, .inl rfl, (plain_lst hp).1, (plain_lst hp).2, deep_lst hn⟩
          | tup ds => exact ⟨ds, .inr rfl, (plain_tup hp).1, (plain_tup hp).2, deep_tup hn⟩
          | _ => cases hs
        obtain ⟨ds, de, hw, hpl, hdp⟩ := tl
        have td : d.tupled = .tup (ds.map D.tupled) := by
          rcases de with rfl | rfl <;> (show D.tup (tupleds ds) = _; rw [tupleds_map])
        have body : ∀ (wi : TI) (G1 H1 : Hp) (s1 : Step W0 G H G1 H1) (hi : EvI W0 wi [some v, none] G1 (fun xs => xs = ds)) (D' : Ends), D'.rt = Q →
            tRet (tCB (fun xs H Q => ∃ p ys, xs = [V.ref p] ∧ ((SqL K H p ys ∧ ∀ l, H l = none → Q (.ref l) (upd H l (.tup ys))) ∨ (SqT K H p ys ∧ Q (.ref p) H))) (tCons (tLc wi (gName 1) tYes (tCall (spTup n) [] (fun _ _ _ => False) (tCons (tVar 1) tNil)) [1]) tNil)) D' [some v, none] H1 := by
          intro wi G1 H1 s1 hi D' hD
          refine s_ret (P := fun x => x = d.tupled) (ev_cb way0 (B := fun xs => xs = [.lst (ds.map D.tupled)]) (evs_cons way0 (A := fun x => x = .lst (ds.map D.tupled)) (B := fun xs => xs = []) ?_ (evs_nil way0 rfl) (by rintro _ _ rfl rfl; rfl)) (one (rc_tuple way0 td.symm))) s1.ok fun v' d' G2 H2 s2 hd' e => ?_
          · refine ev_lc way0 hi (fun x r => r = x.tupled) (fun _ => true) (one ⟨hw, fun i x u G3 H3 hx e3 o3 hu Q' q' => ?_⟩) (fun items rs e pr => ?_)
            · have mem : x ∈ ds := List.mem_of_getElem? hx
              refine q' _ rfl (et_yes way0 rfl) fun _ => ?_
              exact ev_call way0 (B := fun xs => xs = [x]) (evs_cons way0 (A := fun y => y = x) (B := fun xs => xs = []) (ev_var way0 rfl hu rfl) (evs_nil way0 rfl) (by rintro _ _ rfl rfl; rfl)) (one (call x _ (plains_mem hpl mem) (Nat.le_trans (deeps_mem mem) hdp)))
            · subst e
              rw [show items.filter (fun _ => true) = items from List.filter_eq_self.mpr fun _ _ => rfl] at pr
              rw [paired_map pr]
          · rw [hD]
            subst e
            exact k v' G2 H2 (s1.trans way0 s2) hd'
        rcases de with rfl | rfl
        · refine ⟨_, pss_cons (ps_if (pt_not (pt_val (pe_callB call_isiT (by rfl) T.isi boot_isinstance (pa_cons (pv 0) (pa_cons (pe_tup (pa_cons (pe_ty (by rfl) T.list boot_list) (pa_cons (pe_ty (by rfl) T.tuple boot_tuple) pa_nil))) pa_nil)))))
            (pss_one (ps_ret (pv 0))) pss_nil)
            (pss_one (ps_ret (pe_callTy call_tuple_of (by rfl) T.tuple boot_tuple (pa_cons
              (pe_lc (own := [("part", 1)]) (g := gName 1) (tt := tYes) rfl scAs.nd (pi_list (pv 0)) (blkOk_by (own := [("part", 1)]) (N := ["thing", "part"]) (sc := defScope sAs) (by decide +kernel))
                (fun _ _ _ _ _ => pg_name (i := 1) scAs.nd rfl (Or.inl rfl)) (fun _ _ _ _ _ => pts_nil) (fun _ _ _ _ _ => pe_call ih hr rfl T.me F.kp bA .nil pass0 (pa_cons (pv 1) pa_nil))) pa_nil)))), ?_⟩
          refine q_when (as_one rfl hd (plain_pl hp)) ⟨ex, trivial⟩ (fun z => ?_) (fun _ G1 H1 s1 => body _ G1 H1 s1 (ei_list way0 (ev_var way0 rfl (Dat.ex s1.up _ v hd) ⟨ds, rfl, rfl⟩)) _ rfl)
          cases z
        · refine ⟨_, pss_cons (ps_if (pt_not (pt_val (pe_callB call_isiT (by rfl) T.isi boot_isinstance (pa_cons (pv 0) (pa_cons (pe_tup (pa_cons (pe_ty (by rfl) T.list boot_list) (pa_cons (pe_ty (by rfl) T.tuple boot_tuple) pa_nil))) pa_nil)))))
            (pss_one (ps_ret (pv 0))) pss_nil)
            (pss_one (ps_ret (pe_callTy call_tuple_of (by rfl) T.tuple boot_tuple (pa_cons
              (pe_lc (own := [("part", 1)]) (g := gName 1) (tt := tYes) rfl scAs.nd (pi_tup (pv 0)) (blkOk_by (own := [("part", 1)]) (N := ["thing", "part"]) (sc := defScope sAs) (by decide +kernel))
                (fun _ _ _ _ _ => pg_name (i := 1) scAs.nd rfl (Or.inl rfl)) (fun _ _ _ _ _ => pts_nil) (fun _ _ _ _ _ => pe_call ih hr rfl T.me F.kp bA .nil pass0 (pa_cons (pv 1) pa_nil))) pa_nil)))), ?_⟩
          refine q_when (as_one rfl hd (plain_pl hp)) ⟨ex, trivial⟩ (fun z => ?_) (fun _ G1 H1 s1 => body _ G1 H1 s1 (ei_tup way0 (ev_var way0 rfl (Dat.ex s1.up _ v hd) ⟨ds, rfl, rfl⟩)) _ rfl)
          cases z
      · have hs' : seqB d = false := Bool.eq_false_iff.mpr hs
        refine ⟨_, pss_cons (ps_if (pt_not (pt_val (pe_callB call_isiT (by rfl) T.isi boot_isinstance (pa_cons (pv 0) (pa_cons (pe_tup (pa_cons (pe_ty (by rfl) T.list boot_list) (pa_cons (pe_ty (by rfl) T.tuple boot_tuple) pa_nil))) pa_nil)))))
          (pss_one (ps_ret (pv 0))) pss_nil) pss_never, ?_⟩
        refine q_when (as_one rfl hd (plain_pl hp)) ⟨ex, trivial⟩ (fun _ G1 H1 s1 => ?_) (fun z => ?_)
        · refine s_ret (P := fun x => x = d) (ev_var way0 rfl (Dat.ex s1.up d v hd) rfl) s1.ok fun v' d' G2 H2 s2 hd' e => ?_
          subst e
          exact k v' G2 H2 (s1.trans way0 s2) (by rw [tupled_not hs']; exact hd')
        · rw [hs'] at z
          cases z
end
end K06

set_option Elab.async false
set_option linter.all false
set_option maxRecDepth 100000
set_option maxHeartbeats 4000000
namespace L2.Um
open PySem PySem.Spec PyProof.Rows
open Evl (Ex)
def nonB : D → Bool
  | .non => true
  | _ => false
theorem Dat.nonB {H : Hp} : ∀ {d : D} {v : V}, Dat H d v → decide (v = .non) = nonB d
  | .non, _, h => by rw [show _ = V.non from h]; rfl
  | .bl b, _, h => by rw [show _ = V.bl b from h]; rfl
  | .int i, _, h => by rw [show _ = V.int i from h]; rfl
  | .str z, _, h => by rw [show _ = V.str z from h]; rfl
  | .lst ds, _, ⟨a, xs, e, _⟩ => by rw [e]; rfl
  | .tup ds, _, ⟨a, xs, e, _⟩ => by rw [e]; rfl
  | .exc C ns ds, _, ⟨a, od, xs, e, _⟩ => by rw [e]; rfl
theorem rv_isN {R : Wd} (W : Way R) {G : Hp} {P : D → Prop} {x : D} (p : P (.bl (nonB x))) : Rv R (fun x y H Q => y = .non ∧ Q (.bl (decide (x = .non))) H) x .non G P := fun G1 H1 _ b u v hu hv _ q => ⟨hv, by
  rw [Dat.nonB hu]
  exact q _ _ G1 H1 (.refl W b) datB p⟩
/-- the value of a thing that is no list, no tuple, no error -/
def D.val : D → Option V
  | .non => some .non
  | .bl b => some (.bl b)
  | .int i => some (.int i)
  | .str z => some (.str z)
  | _ => none
theorem Dat.val {H : Hp} : ∀ {d : D} {u v : V}, d.val = some u → Dat H d v → v = u
  | .non, _, _, e, h => (show _ = V.non from h).trans (Option.some.inj e)
  | .bl _, _, _, e, h => (show _ = V.bl _ from h).trans (Option.some.inj e)
  | .int _, _, _, e, h => (show _ = V.int _ from h).trans (Option.some.inj e)
  | .str _, _, _, e, h => (show _ = V.str _ from h).trans (Option.some.inj e)
theorem rv_eqV {R : Wd} (W : Way R) {G : Hp} {P : D → Prop} {x y : D} {u v : V} (hx : x.val = some u) (hy : y.val = some v) (h : scal u v = true) (p : P (.bl (decide (u = v)))) : Rv R rEq x y G P := rv_eq W (fun _ _ => Dat.val hx) (fun _ _ => Dat.val hy) h p
theorem rv_neV {R : Wd} (W : Way R) {G : Hp} {P : D → Prop} {x y : D} {u v : V} (hx : x.val = some u) (hy : y.val = some v) (h : scal u v = true) (p : P (.bl (!decide (u = v)))) : Rv R rNe x y G P := rv_ne W (fun _ _ => Dat.val hx) (fun _ _ => Dat.val hy) h p
/-- one argument, two -/
theorem evs1 {R : Wd} (W : Way R) {te : TE} {σ : L2.St} {G : Hp} {A : D → Prop} {P : List D → Prop} (h : Ev R te σ G A) (p : ∀ d, A d → P [d]) : Evs R (tCons te tNil) σ G P :=
  evs_cons W (B := fun xs => xs = []) h (evs_nil W rfl) fun d ds a b => by rw [b]; exact p d a
theorem evs2 {R : Wd} (W : Way R) {te tf : TE} {σ : L2.St} {G : Hp} {A B : D → Prop} {P : List D → Prop} (h : Ev R te σ G A) (h2 : Ev R tf σ G B) (p : ∀ d e, A d → B e → P [d, e]) : Evs R (tCons te (tCons tf tNil)) σ G P :=
  evs_cons W (B := fun xs => ∃ e, B e ∧ xs = [e]) h (evs1 W h2 fun e b => ⟨e, b, rfl⟩) fun d ds a ⟨e, b, q⟩ => by rw [q]; exact p d e a b
theorem evs3 {R : Wd} (W : Way R) {te tf tg : TE} {σ : L2.St} {G : Hp} {A B C : D → Prop} {P : List D → Prop} (h : Ev R te σ G A) (h2 : Ev R tf σ G B) (h3 : Ev R tg σ G C) (p : ∀ d e f, A d → B e → C f → P [d, e, f]) : Evs R (tCons te (tCons tf (tCons tg tNil))) σ G P :=
  evs_cons W (B := fun xs => ∃ e f, B e ∧ C f ∧ xs = [e, f]) h (evs2 W h2 h3 fun e f b c => ⟨e, f, b, c, rfl⟩) fun d ds a ⟨e, f, b, c, q⟩ => by rw [q]; exact p d e f a b c
end L2.Um
namespace K06
open PySem PySem.Spec PyProof.Rows L2 L2.Um
open Evl (Ex)
abbrev sSame : Stmt := top 16
def spSame (n : Nat) : Sp := fun vs H Q _ => ∃ (G : Hp) (d : D) (v u : V), vs = [v, u] ∧ Ex G H ∧ Dat G d v ∧ Dat G d u ∧ d.plain = true ∧ d.deep ≤ n ∧ ∀ G2 H2, Step W0 G H G2 H2 → Q (.bl true) H2
abbrev nSame : List Str := ["_law_got", "_law_due", "_law_mine", "_law_its", "_law_lot_so"]
theorem scSame : FnScope nSame ["_law_got", "_law_due"] (defScope sSame) := ⟨rfl, rfl, rfl, by decide +kernel, rfl, by decide +kernel, by decide +kernel⟩
structure TxS (mg : Str → Option Value) (f : Addr) : Prop where
  isi : mg "isinstance" = none
  list : mg "list" = none
  tuple : mg "tuple" = none
  dict : mg "dict" = none
  bool : mg "bool" = none
  str : mg "str" = none
  int : mg "int" = none
  len : mg "len" = none
  all : mg "all" = none
  zip : mg "zip" = none
  me : mg "_law_same" = some (.ref f)
def boolB (d : D) : Bool := match d with | .bl _ => true | _ => false
def strB (d : D) : Bool := match d with | .str _ => true | _ => false
def intB (d : D) : Bool := match d with | .bl _ => true | .int _ => true | _ => false
theorem kit_dict : ∀ {d : D}, d.pl = true → kitB d.ty "dict" = some false
  | .non, _ => by decide +kernel
  | .bl _, _ => by show kitB "bool" "dict" = some false; decide +kernel
  | .int _, _ => by show kitB "int" "dict" = some false; decide +kernel
  | .str _, _ => by show kitB "str" "dict" = some false; decide +kernel
  | .lst _, _ => by show kitB "list" "dict" = some false; decide +kernel
  | .tup _, _ => by show kitB "tuple" "dict" = some false; decide +kernel
theorem kit_bool : ∀ {d : D}, d.pl = true → kitB d.ty "bool" = some (boolB d)
  | .non, _ => by decide +kernel
  | .bl _, _ => by show kitB "bool" "bool" = some true; decide +kernel
  | .int _, _ => by show kitB "int" "bool" = some false; decide +kernel
  | .str _, _ => by show kitB "str" "bool" = some false; decide +kernel
  | .lst _, _ => by show kitB "list" "bool" = some false; decide +kernel
  | .tup _, _ => by show kitB "tuple" "bool" = some false; decide +kernel
theorem kit_str : ∀ {d : D}, d.pl = true → kitB d.ty "str" = some (strB d)
  | .non, _ => by decide +kernel
  | .bl _, _ => by show kitB "bool" "str" = some false; decide +kernel
  | .int _, _ => by show kitB "int" "str" = some false; decide +kernel
  | .str _, _ => by show kitB "str" "str" = some true; decide +kernel
  | .lst _, _ => by show kitB "list" "str" = some false; decide +kernel
  | .tup _, _ => by show kitB "tuple" "str" = some false; decide +kernel
theorem kit_int : ∀ {d : D}, d.pl = true → kitB d.ty "int" = some (intB d)
  | .non, _ => by decide +kernel
  | .bl _, _ => by show kitB "bool" "int" = some true; decide +kernel
  | .int _, _ => by show kitB "int" "int" = some true; decide +kernel
  | .str _, _ => by show kitB "str" "int" = some false; decide +kernel
  | .lst _, _ => by show kitB "list" "int" = some false; decide +kernel
  | .tup _, _ => by show kitB "tuple" "int" = some false; decide +kernel
theorem atom_val : ∀ {d : D}, seqB d = false → d.pl = true → ∃ c, d.val = some c ∧ scal c c = true
  | .non, _, _ => ⟨_, rfl, rfl⟩
  | .bl _, _, _ => ⟨_, rfl, rfl⟩
  | .int _, _, _ => ⟨_, rfl, rfl⟩
  | .str _, _, _ => ⟨_, rfl, rfl⟩
  | .lst _, h, _ => nomatch h
  | .tup _, h, _ => nomatch h
  | .exc _ _ _, _, h => nomatch h
theorem atom_int : ∀ {d : D}, seqB d = false → d.pl = true → false = (nonB d || (boolB d || strB d)) → intB d = true ∧ boolB d = false
  | .non, _, _, z => nomatch z
  | .bl _, _, _, z => nomatch z
  | .int _, _, _, _ => ⟨rfl, rfl⟩
  | .str _, _, _, z => nomatch z
  | .lst _, h, _, _ => nomatch h
  | .tup _, h, _, _ => nomatch h
  | .exc _ _ _, _, h, _ => nomatch h
section
variable {P : Program} {w : World} {K : PySem.W.Frag} {mg : Str → Option Value} {base : Heap} {f : Addr} {fd : FuncData}
/-- isinstance(slot i, T) -/
theorem isi1 {n : String} {d : D} {b : Bool} {i : Nat} {σ : L2.St} {G : Hp} {v : V} (hv : σ[i]? = some (some v)) (hd : Dat G d v) (hp : d.pl = true) (hk : kitB d.ty n = some b) :
    Ev W0 (tCB (rIsi K) (tCons (tVar i) (tCons (tC (.ty n)) tNil))) σ G (fun x => x = .bl b) :=
  ev_isi (A := fun x => x = d) (f := fun _ => b) (ev_var way0 hv hd rfl) (one ⟨hp, hk⟩) (one rfl)
theorem isi2 {m n : String} {d : D} {a b : Bool} {i : Nat} {σ : L2.St} {G : Hp} {v : V} (hv : σ[i]? = some (some v)) (hd : Dat G d v) (hp : d.pl = true) (hk : kitB d.ty m = some a) (hk2 : kitB d.ty n = some b) :
    Ev W0 (tCB (rIsiT K) (tCons (tVar i) (tCons (tTup (tCons (tC (.ty m)) (tCons (tC (.ty n)) tNil))) tNil))) σ G (fun x => x = .bl (a || b)) :=
  ev_isi2 way0 (A := fun x => x = d) (f := fun _ => a) (g := fun _ => b) (ev_var way0 hv hd rfl) (one ⟨hp, hk, hk2⟩) (one rfl)
theorem et_is {te : TE} {σ : L2.St} {G : Hp} {b : Bool} (h : Ev W0 te σ G fun x => x = .bl b) : L2.Um.EvT W0 (tTest te) σ G (fun c => c = b) := et_val (h.imp (one ⟨b, rfl, rfl⟩))
theorem ok_same (F : Fun K "_law_same" "_law_same" sSame f fd) (T : TxS mg f) (bS : Binds K fd ["_law_got", "_law_due"] []) : ∀ n : Nat, FnOk P w K mg base CX0 (n + 1) f fd ["_law_got", "_law_due"] (spSame n) := by
  have atoms : ∀ (n : Nat) (cdv : Value) (A : Around) (outer : List Env) (s : Shared) (H : Hp) (vs : List V) (Q : VK) (E : XK), (∃ (G : Hp) (d : D) (v u : V), vs = [v, u] ∧ Ex G H ∧ Dat G d v ∧ Dat G d u ∧ d.plain = true ∧ seqB d = false ∧ ∀ G2 H2, Step W0 G H G2 H2 → Q (.bl true) H2) →
      ∃ t, PSs (cxOf CX0 P w K mg base nSame "_law_same" (defScope sSame) f cdv A outer s H E).nox (defBody sSame) t ∧ t { nx := fun _ H' => Q .non H', rt := Q } (start nSame vs) H := by
    rintro n cdv A outer s H vs Q E ⟨G, d, v, u, rfl, ex, hv, hu, hp, hs, k⟩
    have pl := plain_pl hp
    have hab : (lstB d || tupB d) = false := (or_seq d).trans hs
    refine ⟨_, pss_cons (ps_if (pt_val (pe_callB call_isiT (by rfl) T.isi boot_isinstance (pa_cons (pv 1) (pa_cons (pe_tup (pa_cons (pe_ty (by rfl) T.list boot_list) (pa_cons (pe_ty (by rfl) T.tuple boot_tuple) pa_nil))) pa_nil)))) pss_never pss_nil)
      (pss_cons (ps_if (pt_val (pe_callB call_isi (by rfl) T.isi boot_isinstance (pa_cons (pv 1) (pa_cons (pe_ty (n := "dict") (by rfl) T.dict (by decide +kernel)) pa_nil)))) pss_never pss_nil)
      (pss_cons (ps_if (PW.pt (pw_or (pt_cmpR op_isN (pv 1) pe_non (nomark _)) (pw_or1 (pt_val (pe_callB call_isiT (by rfl) T.isi boot_isinstance (pa_cons (pv 1) (pa_cons (pe_tup (pa_cons (pe_ty (n := "bool") (by rfl) T.bool (by decide +kernel)) (pa_cons (pe_ty (n := "str") (by rfl) T.str (by decide +kernel)) pa_nil))) pa_nil)))))))
        (pss_one (ps_ret (pe_and (pe_cmpR op_eq (pv 0) (pv 1) (nomark _)) (pe_and (pe_cmpR op_eq (pe_callB call_isi (by rfl) T.isi boot_isinstance (pa_cons (pv 0) (pa_cons (pe_ty (n := "bool") (by rfl) T.bool (by decide +kernel)) pa_nil))) (pe_callB call_isi (by rfl) T.isi boot_isinstance (pa_cons (pv 1) (pa_cons (pe_ty (n := "bool") (by rfl) T.bool (by decide +kernel)) pa_nil))) (nomark _))
          (pe_one (pe_cmpR op_eq (pe_cmpR op_isN (pv 0) pe_non (nomark _)) (pe_cmpR op_isN (pv 1) pe_non (nomark _)) (nomark _))))))) pss_nil)
      (pss_one (ps_ret (pe_and (pe_callB call_isi (by rfl) T.isi boot_isinstance (pa_cons (pv 0) (pa_cons (pe_ty (n := "int") (by rfl) T.int (by decide +kernel)) pa_nil))) (pe_and (pe_not (pe_callB call_isi (by rfl) T.isi boot_isinstance (pa_cons (pv 0) (pa_cons (pe_ty (n := "bool") (by rfl) T.bool (by decide +kernel)) pa_nil))))
        (pe_one (pe_cmpR op_eq (pv 0) (pv 1) (nomark _)))))))) ), ?_⟩
    refine q_when (et_is (isi2 rfl hu pl (kit_lst pl) (kit_tup pl))) ⟨ex, trivial⟩ (fun z => by rw [hab] at z; cases z) fun _ G1 H1 s1 => ?_
    refine q_when (et_is (isi1 rfl (Dat.ex s1.up d u hu) pl (kit_dict pl))) s1.ok (fun z => by cases z) fun _ G2 H2 s2 => ?_
    have s12 := s1.trans way0 s2
    have hv2 := Dat.ex s12.up d v hv
    have hu2 := Dat.ex s12.up d u hu
    obtain ⟨c, hc, hcc⟩ := atom_val hs pl
    have eqE : ∀ {G' : Hp} (e : Ex G2 G'), Ev W0 (tOp rEq (tVar 0) (tVar 1)) [some v, some u, none, none, none] G' (fun x => ∃ b, x = .bl b ∧ b = true) := fun e =>
      ev_op way0 (A := fun x => x = d) (B := fun x => x = d) (ev_var way0 rfl (Dat.ex e d v hv2) rfl) (ev_var way0 rfl (Dat.ex e d u hu2) rfl) (two (rv_eqV way0 hc hc hcc ⟨_, rfl, decide_eq_true rfl⟩))
    refine q_when (B := fun b => b = (nonB d || (boolB d || strB d))) (et_or way0 (B := fun b => b = nonB d) (C := fun b => b = (boolB d || strB d))
      (et_val (ev_op way0 (A := fun x => x = d) (B := fun x => x = .non) (ev_var way0 rfl hu2 rfl) (ev_non way0 rfl) (two (rv_isN way0 ⟨_, rfl, rfl⟩)))) (fun _ => et_is (isi2 rfl hu2 pl (kit_bool pl) (kit_str pl)))
      (fun e => by rw [← e]; rfl) (fun b e e2 => by rw [← e]; exact e2)) s2.ok (fun z G3 H3 s3 => ?_) (fun z G3 H3 s3 => ?_)
    · have s13 := s12.trans way0 s3
      refine s_ret (P := fun x => x = .bl true) (ev_andV way0 (B := fun b => b = true) (C := fun b => b = true) (eqE s3.up) (fun _ => ev_andV way0 (B := fun b => b = true) (C := fun b => b = true)
        (ev_op way0 (A := fun x => x = .bl (boolB d)) (B := fun x => x = .bl (boolB d)) (isi1 rfl (Dat.ex s3.up d v hv2) pl (kit_bool pl)) (isi1 rfl (Dat.ex s3.up d u hu2) pl (kit_bool pl)) (two (rv_eqV way0 rfl rfl rfl ⟨_, rfl, decide_eq_true rfl⟩)))
        (fun _ => ev_op way0 (A := fun x => x = .bl (nonB d)) (B := fun x => x = .bl (nonB d))
          (ev_op way0 (A := fun x => x = d) (B := fun x => x = .non) (ev_var way0 rfl (Dat.ex s3.up d v hv2) rfl) (ev_non way0 rfl) (two (rv_isN way0 rfl))) (ev_op way0 (A := fun x => x = d) (B := fun x => x = .non) (ev_var way0 rfl (Dat.ex s3.up d u hu2) rfl) (ev_non way0 rfl) (two (rv_isN way0 rfl)))
          (two (rv_eqV way0 rfl rfl rfl ⟨_, rfl, decide_eq_true rfl⟩)))
        (fun e => by cases e) (fun b _ e => ⟨b, rfl, e⟩)) (fun e => by cases e) (fun b _ e => by rw [e])) s3.ok fun v' d' G4 H4 s4 hd' e => ?_
      subst e
      rw [show v' = V.bl true from hd']
      exact k G4 H4 (s13.trans way0 s4)
    · have s13 := s12.trans way0 s3
      have hi := atom_int hs pl z
      refine s_ret (P := fun x => x = .bl true) (ev_andV way0 (B := fun b => b = true) (C := fun b => b = true) ((isi1 rfl (Dat.ex s3.up d v hv2) pl (kit_int pl)).imp (one ⟨_, rfl, hi.1⟩)) (fun _ => ev_andV way0 (B := fun b => b = true) (C := fun b => b = true)
        (ev_notV (B := fun b => b = false) ((isi1 rfl (Dat.ex s3.up d v hv2) pl (kit_bool pl)).imp (one ⟨_, rfl, hi.2⟩)) (fun b e => ⟨_, rfl, by rw [e]; rfl⟩))
        (fun _ => eqE s3.up) (fun e => by cases e) (fun b _ e => ⟨b, rfl, e⟩)) (fun e => by cases e) (fun b _ e => by rw [e])) s3.ok fun v' d' G4 H4 s4 hd' e => ?_
      subst e
      rw [show v' = V.bl true from hd']
      exact k G4 H4 (s13.trans way0 s4)
  intro n
  induction n with
  | zero =>
    refine F.ok scSame (fun vs H Q E h => ?_) (fun cdv A outer s H vs Q E hr h => ?_)
    · obtain ⟨G, d, v, u, rfl, _⟩ := h
      rfl
    · obtain ⟨G, d, v, u, e, ex, hv, hu, hp, hn, k⟩ := h
      have hs : seqB d = false := by cases d <;> first | rfl | exact absurd hn (Nat.not_succ_le_zero _)
      exact atoms 0 cdv A outer s H vs Q E ⟨G, d, v, u, e, ex, hv, hu, hp, hs, k⟩
  | succ n ih =>
    refine F.ok scSame (fun vs H Q E h => ?_) (fun cdv A outer s H vs Q E hr h => ?_)
    · obtain ⟨G, d, v, u, rfl, _⟩ := h
      rfl
    · obtain ⟨G, d, v, u, e, ex, hv, hu, hp, hn, k⟩ := h
      by_cases hs : seqB d = true
      · subst e
        have pl := plain_pl hp
        have tl : ∃ ds, (d = .lst ds ∨ d = .tup ds) ∧ ds.length ≤ 80000 ∧ plains ds = true ∧ deeps ds ≤ n := by
          cases d with
          | lst ds => exact ⟨ds, .inl rfl, (plain_lst hp).1, (plain_lst hp).2, deep_lst hn⟩
          | tup ds => exact ⟨ds, .inr rfl, (plain_tup hp).1, (plain_tup hp).2, deep_tup hn⟩
          | _ => cases hs
        obtain ⟨ds, de, hw, hpl, hdp⟩ := tl
        have hab : (lstB d || tupB d) = true := (or_seq d).trans hs
        have hm : d.many = some ds.length := by rcases de with rfl | rfl <;> rfl
        have call : ∀ (e : D) (G' : Hp), e.plain = true → e.deep ≤ n → Sv W0 (spSame n) [e, e] G' (fun r => r = .bl true) := fun e G' h1 h2 G1 H1 _ b us ⟨x, _, ex, hx, y, _, ey, hy, er⟩ Q E q => by
          subst er
          subst ey
          exact ⟨G1, e, x, y, ex, b.sub, hx, hy, h1, h2, fun G2 H2 s => q _ _ G2 H2 s datB rfl⟩
        refine ⟨_, pss_cons (ps_if (pt_val (pe_callB call_isiT (by rfl) T.isi boot_isinstance (pa_cons (pv 1) (pa_cons (pe_tup (pa_cons (pe_ty (by rfl) T.list boot_list) (pa_cons (pe_ty (by rfl) T.tuple boot_tuple) pa_nil))) pa_nil))))
          (pss_cons (ps_if (PW.pt (pw_or (pt_cmpR op_ne (pe_callB call_isi (by rfl) T.isi boot_isinstance (pa_cons (pv 0) (pa_cons (pe_ty (by rfl) T.list boot_list) pa_nil))) (pe_callB call_isi (by rfl) T.isi boot_isinstance (pa_cons (pv 1) (pa_cons (pe_ty (by rfl) T.list boot_list) pa_nil))) (nomark _))
            (pw_or1 (pt_cmpR op_ne (pe_callB call_isi (by rfl) T.isi boot_isinstance (pa_cons (pv 0) (pa_cons (pe_ty (by rfl) T.tuple boot_tuple) pa_nil))) (pe_callB call_isi (by rfl) T.isi boot_isinstance (pa_cons (pv 1) (pa_cons (pe_ty (by rfl) T.tuple boot_tuple) pa_nil))) (nomark _))))) pss_never pss_nil)
          (pss_one (ps_ret (pe_and (pe_cmpR op_eq (pe_callB call_len_seq (by rfl) T.len PySem.boot_len (pa_cons (pv 0) pa_nil)) (pe_callB call_len_seq (by rfl) T.len PySem.boot_len (pa_cons (pv 1) pa_nil)) (nomark _))
            (pe_one (pe_callB (cr_all rfl) (by rfl) T.all boot_all (pa_cons
              (pe_lc (own := [("_law_mine", 2), ("_law_its", 3)]) (g := gTup K 2 (gCons (gName 2) (gCons (gName 3) gNil))) (tt := tYes) rfl scSame.nd (RZ.pi_zipA (by rfl) T.zip (pa_cons (pv 0) (pa_cons (pv 1) pa_nil)))
                (blkOk_by (own := [("_law_mine", 2), ("_law_its", 3)]) (N := nSame) (sc := defScope sSame) (by decide +kernel))
                (fun _ _ _ _ _ => pg_tup (by rfl) (pgs_cons (pg_name (i := 2) scSame.nd rfl (Or.inl rfl)) (pgs_cons (pg_name (i := 3) scSame.nd rfl (Or.inl rfl)) pgs_nil))) (fun _ _ _ _ _ => pts_nil)
                (fun _ _ _ _ _ => pe_call ih hr rfl T.me F.kp bS .nil pass0 (pa_cons (pv 2) (pa_cons (pv 3) pa_nil)))) pa_nil))))))) pss_nil) pss_never, ?_⟩
        refine q_when (et_is (isi2 rfl hu pl (kit_lst pl) (kit_tup pl))) ⟨ex, trivial⟩ (fun _ G1 H1 s1 => ?_) (fun z => by rw [hab] at z; cases z)
        have hv1 := Dat.ex s1.up d v hv
        have hu1 := Dat.ex s1.up d u hu
        refine q_when (B := fun b => b = false) (et_or way0 (B := fun b => b = false) (C := fun b => b = false)
          (et_val (ev_op way0 (A := fun x => x = .bl (lstB d)) (B := fun x => x = .bl (lstB d)) (isi1 rfl hv1 pl (kit_lst pl)) (isi1 rfl hu1 pl (kit_lst pl)) (two (rv_neV way0 rfl rfl rfl ⟨_, rfl, by simp⟩))))
          (fun _ => et_val (ev_op way0 (A := fun x => x = .bl (tupB d)) (B := fun x => x = .bl (tupB d)) (isi1 rfl hv1 pl (kit_tup pl)) (isi1 rfl hu1 pl (kit_tup pl)) (two (rv_neV way0 rfl rfl rfl ⟨_, rfl, by simp⟩))))
          (fun e => e) (fun b _ e => e)) s1.ok (fun z => by cases z) (fun _ G2 H2 s2 => ?_)
        have s12 := s1.trans way0 s2
        have hv2 := Dat.ex s12.up d v hv
        have hu2 := Dat.ex s12.up d u hu
        refine s_ret (P := fun x => x = .bl true) (ev_andV way0 (B := fun b => b = true) (C := fun b => b = true)
          (ev_op way0 (A := fun x => x = .int (ds.length : Int)) (B := fun x => x = .int (ds.length : Int)) (ev_len (A := fun x => x = d) (ev_var way0 rfl hv2 rfl) (one ⟨_, hm, rfl⟩)) (ev_len (A := fun x => x = d) (ev_var way0 rfl hu2 rfl) (one ⟨_, hm, rfl⟩)) (two (rv_eqV way0 rfl rfl rfl ⟨_, rfl, decide_eq_true rfl⟩)))
          (fun _ => ev_all (A := fun x => ∃ k : Nat, x = .lst (List.replicate k (.bl true))) (ev_lc way0 (B := fun items => items = pairs ds ds)
            (ei_zip way0 (evs2 way0 (A := fun x => x = d) (B := fun x => x = d) (ev_var way0 rfl hv2 rfl) (ev_var way0 rfl hu2 rfl) (two ⟨ds, ds, (by rcases de with rfl | rfl; exact .inl rfl; exact .inr rfl), rfl⟩)))
            (fun _ r => r = .bl true) (fun _ => true)
            (one ⟨by rw [L2.Um.pairs_len]; omega, fun i x z G3 H3 hx e3 o3 hz Q' q' => ?_⟩) (fun items rs e pr => ?_)) (fun x ⟨k', e⟩ => ⟨List.replicate k' true, by rw [List.map_replicate]; exact e, _, rfl, by simp⟩))
          (fun e => by cases e) (fun b _ e => by rw [e])) s2.ok fun v' d' G4 H4 s4 hd' e => ?_
        · obtain ⟨x1, y1, qx, qy, rfl⟩ := pairs_at hx
          rw [qx] at qy
          cases qy
          obtain ⟨a, as, ev, ha, ⟨p1, r1, e1, h1, p2, r2, e2, h2, e4⟩, _⟩ := hz
          subst e4
          subst e2
          subst e1
          have mem : x1 ∈ ds := List.mem_of_getElem? qx
          refine ⟨a, [p1, p2], ev, SqT.of (o3.sub _ _ ha), rfl, p1, [p2], rfl, p2, [], rfl, rfl, q' _ rfl (et_yes way0 rfl) fun _ => ?_⟩
          exact ev_call way0 (B := fun xs => xs = [x1, x1]) (evs2 way0 (A := fun y => y = x1) (B := fun y => y = x1) (ev_var way0 rfl h1 rfl) (ev_var way0 rfl h2 rfl) (two rfl)) (one (call x1 _ (plains_mem hpl mem) (Nat.le_trans (deeps_mem mem) hdp)))
        · refine ⟨rs.length, ?_⟩
          have all : ∀ {xs rs : List D}, PySem.Paired (fun _ r => r = D.bl true) xs rs → rs = List.replicate rs.length (.bl true) := by
            intro xs rs h
            induction h with
            | nil => rfl
            | cons a r ih => rw [a, List.length_cons, List.replicate_succ, ← ih]
          rw [← all pr]
        · subst e
          rw [show v' = V.bl true from hd']
          exact k G4 H4 (s12.trans way0 s4)
      · exact atoms n cdv A outer s H vs Q E ⟨G, d, v, u, e, ex, hv, hu, hp, Bool.eq_false_iff.mpr hs, k⟩
end
end K06

set_option Elab.async false
set_option linter.all false
set_option maxRecDepth 100000
set_option maxHeartbeats 4000000
namespace K06
open PySem PySem.Spec PyProof.Rows L2 L2.Um
open Evl (Ex)
abbrev iName : Stmt := inClass (top 3) 0
abbrev iKey : Stmt := inClass (top 4) 0
abbrev iNumber : Stmt := inClass (top 5) 0
abbrev iQuiet : Stmt := inClass (top 7) 0
abbrev iTwice : Stmt := inClass (top 8) 0
abbrev iLine : Stmt := inClass (top 10) 0
theorem scName : FnScope ["self", "name"] ["self", "name"] (defScope iName) := ⟨rfl, rfl, rfl, by decide +kernel, rfl, by decide +kernel, by decide +kernel⟩
theorem scKey : FnScope ["self", "key"] ["self", "key"] (defScope iKey) := ⟨rfl, rfl, rfl, by decide +kernel, rfl, by decide +kernel, by decide +kernel⟩
theorem scNumber : FnScope ["self", "number"] ["self", "number"] (defScope iNumber) := ⟨rfl, rfl, rfl, by decide +kernel, rfl, by decide +kernel, by decide +kernel⟩
theorem scQuiet : FnScope ["self", "one", "other"] ["self", "one", "other"] (defScope iQuiet) := ⟨rfl, rfl, rfl, by decide +kernel, rfl, by decide +kernel, by decide +kernel⟩
theorem scTwice : FnScope ["self", "key"] ["self", "key"] (defScope iTwice) := ⟨rfl, rfl, rfl, by decide +kernel, rfl, by decide +kernel, by decide +kernel⟩
theorem scLine : FnScope ["self", "number"] ["self", "number"] (defScope iLine) := ⟨rfl, rfl, rfl, by decide +kernel, rfl, by decide +kernel, by decide +kernel⟩
def okOne (xs : List D) : Prop := ∃ d, xs = [d]
def okPlain (xs : List D) : Prop := ∃ d, xs = [d] ∧ d.plain = true ∧ d.deep ≤ 3
def okTwo (xs : List D) : Prop := ∃ d e, xs = [d, e] ∧ d.plain = true ∧ d.deep ≤ 3 ∧ e.plain = true ∧ e.deep ≤ 3
theorem dats1 {H : Hp} {d : D} {us : List V} (h : Dats H [d] us) : ∃ v, us = [v] ∧ Dat H d v := by
  obtain ⟨v, _, rfl, hv, rfl⟩ := h
  exact ⟨v, rfl, hv⟩
theorem dats2 {H : Hp} {d e : D} {us : List V} (h : Dats H [d, e] us) : ∃ v u, us = [v, u] ∧ Dat H d v ∧ Dat H e u := by
  obtain ⟨v, _, rfl, hv, u, _, rfl, hu, rfl⟩ := h
  exact ⟨v, u, rfl, hv, hu⟩
section
variable {P : Program} {w : World} {K : PySem.W.Frag} {mg : Str → Option Value} {base : Heap} {f fA C : Addr} {fd fdA : FuncData} {B : String}
/-- the reading of «self.n = x» alone -/
theorem read_one {n : Str} {Q : VK} {G H1 : Hp} {a : Addr} {d : D} {v : V} (T : OwnE K C B) (hno : PySem.W.findIn K (.ref C) n = some none) (ha : H1 a = none) (ex : Ex G H1) (hv : Dat G d v)
    (k : ∀ G2 H2, Step W0 G H1 G2 H2 → Dat G2 (.exc C [n] [d]) (.ref a) → Q .non H2) : tPut K n (tVar 0) (tVar 1) { nx := fun _ H' => Q .non H', rt := Q } [some (.ref a), some v] (upd H1 a (exo a C none)) := by
  refine ⟨_, rfl, _, rfl, a, C, B, rfl, T, hno, .inl ⟨upd_same, fun dx hd ne => ?_⟩⟩
  obtain ⟨G2, s, h⟩ := mid_end (ns := [n]) (xs := [v]) (ds := [d]) (mid_put1 (mid_start ex ha) hd ne) ⟨v, [], rfl, hv, rfl⟩
  exact k G2 _ s h
/-- the reading of «self.n = as_tuples(x)» alone -/
theorem read_tup {n : Str} {Q : VK} {E : XK} {G H1 : Hp} {a : Addr} {d : D} {v : V} (T : OwnE K C B) (hno : PySem.W.findIn K (.ref C) n = some none) (ha : H1 a = none) (ex : Ex G H1) (hv : Dat G d v) (hp : d.plain = true) (hd3 : d.deep ≤ 3)
    (k : ∀ G2 H2, Step W0 G H1 G2 H2 → Dat G2 (.exc C [n] [d.tupled]) (.ref a) → Q .non H2) : tPut K n (tVar 0) (tCall (spTup 3) [] E (tCons (tVar 1) tNil)) { nx := fun _ H' => Q .non H', rt := Q } [some (.ref a), some v] (upd H1 a (exo a C none)) := by
  have m := mid_start (C := C) ex ha
  refine ⟨_, rfl, G, d, v, rfl, m.sub, hv, hp, hd3, fun x G1 H2 s hx => ?_⟩
  have m1 := mid_step m s
  refine ⟨_, rfl, a, C, B, rfl, T, hno, .inl ⟨m1.at', fun dx hd ne => ?_⟩⟩
  obtain ⟨G2, s2, h⟩ := mid_end (ns := [n]) (xs := [x]) (ds := [d.tupled]) (mid_put1 m1 hd ne) ⟨x, [], rfl, hx, rfl⟩
  exact k G2 _ s2 h
theorem len1 {C : Addr} {ns : List Str} {g : List D → List D} : ∀ vs H Q E, spErr C ns okOne g vs H Q E → vs.length = 2 := by
  rintro vs H Q E ⟨G, H1, a, us, xs, rfl, _, _, _, hA, ⟨d, rfl⟩, _⟩
  rw [List.length_cons, ← Dats.length hA]
  rfl
theorem len2 {C : Addr} {ns : List Str} {g : List D → List D} : ∀ vs H Q E, spErr C ns okPlain g vs H Q E → vs.length = 2 := by
  rintro vs H Q E ⟨G, H1, a, us, xs, rfl, _, _, _, hA, ⟨d, rfl, _⟩, _⟩
  rw [List.length_cons, ← Dats.length hA]
  rfl
theorem ok_name (F : Fun K "__init__" "NoName.__init__" iName f fd) (T : OwnE K C B) (hno : PySem.W.findIn K (.ref C) "name" = some none) : FnOk P w K mg base CX0 1 f fd ["self", "name"] (spErr C ["name"] okOne id) :=
  F.ok scName len1 (fun cdv A outer s H vs Q E hr h => by
    obtain ⟨G, H1, a, us, xs, rfl, rfl, ha, ex, hA, ⟨d, rfl⟩, k⟩ := h
    obtain ⟨v, rfl, hv⟩ := dats1 hA
    exact ⟨_, pss_one (ps_put (pv 0) (pv 1)), read_one T hno ha ex hv k⟩)
theorem ok_number (F : Fun K "__init__" "NoNumber.__init__" iNumber f fd) (T : OwnE K C B) (hno : PySem.W.findIn K (.ref C) "number" = some none) : FnOk P w K mg base CX0 1 f fd ["self", "number"] (spErr C ["number"] okOne id) :=
  F.ok scNumber len1 (fun cdv A outer s H vs Q E hr h => by
    obtain ⟨G, H1, a, us, xs, rfl, rfl, ha, ex, hA, ⟨d, rfl⟩, k⟩ := h
    obtain ⟨v, rfl, hv⟩ := dats1 hA
    exact ⟨_, pss_one (ps_put (pv 0) (pv 1)), read_one T hno ha ex hv k⟩)
theorem ok_line (F : Fun K "__init__" "BadLine.__init__" iLine f fd) (T : OwnE K C B) (hno : PySem.W.findIn K (.ref C) "number" = some none) : FnOk P w K mg base CX0 1 f fd ["self", "number"] (spErr C ["number"] okOne id) :=
  F.ok scLine len1 (fun cdv A outer s H vs Q E hr h => by
    obtain ⟨G, H1, a, us, xs, rfl, rfl, ha, ex, hA, ⟨d, rfl⟩, k⟩ := h
    obtain ⟨v, rfl, hv⟩ := dats1 hA
    exact ⟨_, pss_one (ps_put (pv 0) (pv 1)), read_one T hno ha ex hv k⟩)
theorem ok_key (F : Fun K "__init__" "NoKey.__init__" iKey f fd) (T : OwnE K C B) (hno : PySem.W.findIn K (.ref C) "key" = some none) (gA : mg "as_tuples" = some (.ref fA)) (kA : PySem.W.keepIn K (.ref fA) = true) (bA : Binds K fdA ["thing"] []) (GA : FnOk P w K mg base CX0 4 fA fdA ["thing"] (spTup 3)) :
    FnOk P w K mg base CX0 5 f fd ["self", "key"] (spErr C ["key"] okPlain (List.map D.tupled)) :=
  F.ok scKey len2 (fun cdv A outer s H vs Q E hr h => by
    obtain ⟨G, H1, a, us, xs, rfl, rfl, ha, ex, hA, ⟨d, rfl, hp, h3⟩, k⟩ := h
    obtain ⟨v, rfl, hv⟩ := dats1 hA
    exact ⟨_, pss_one (ps_put (pv 0) (pe_call GA hr (by rfl) gA kA bA .nil pass0 (pa_cons (pv 1) pa_nil))), read_tup T hno ha ex hv hp h3 k⟩)
theorem ok_twice (F : Fun K "__init__" "Twice.__init__" iTwice f fd) (T : OwnE K C B) (hno : PySem.W.findIn K (.ref C) "key" = some none) (gA : mg "as_tuples" = some (.ref fA)) (kA : PySem.W.keepIn K (.ref fA) = true) (bA : Binds K fdA ["thing"] []) (GA : FnOk P w K mg base CX0 4 fA fdA ["thing"] (spTup 3)) :
    FnOk P w K mg base CX0 5 f fd ["self", "key"] (spErr C ["key"] okPlain (List.map D.tupled)) :=
  F.ok scTwice len2 (fun cdv A outer s H vs Q E hr h => by
    obtain ⟨G, H1, a, us, xs, rfl, rfl, ha, ex, hA, ⟨d, rfl, hp, h3⟩, k⟩ := h
    obtain ⟨v, rfl, hv⟩ := dats1 hA
    exact ⟨_, pss_one (ps_put (pv 0) (pe_call GA hr (by rfl) gA kA bA .nil pass0 (pa_cons (pv 1) pa_nil))), read_tup T hno ha ex hv hp h3 k⟩)
def backTup (xs : List D) : List D := (xs.map D.tupled).reverse
theorem ok_quiet (F : Fun K "__init__" "NotQuiet.__init__" iQuiet f fd) (T : OwnE K C B) (h1 : PySem.W.findIn K (.ref C) "one" = some none) (h2 : PySem.W.findIn K (.ref C) "other" = some none) (gA : mg "as_tuples" = some (.ref fA)) (kA : PySem.W.keepIn K (.ref fA) = true) (bA : Binds K fdA ["thing"] [])
    (GA : FnOk P w K mg base CX0 4 fA fdA ["thing"] (spTup 3)) : FnOk P w K mg base CX0 5 f fd ["self", "one", "other"] (spErr C ["other", "one"] okTwo backTup) := by
  refine F.ok scQuiet ?_ (fun cdv A outer s H vs Q E hr h => ?_)
  · rintro vs H Q E ⟨G, H1, a, us, xs, rfl, _, _, _, hA, ⟨d, e, rfl, _⟩, _⟩
    rw [List.length_cons, ← Dats.length hA]
    rfl
  · obtain ⟨G, H1, a, us, xs, rfl, rfl, ha, ex, hA, ⟨d, e, rfl, hp, h3, hp', h3'⟩, k⟩ := h
    obtain ⟨v, u, rfl, hv, hu⟩ := dats2 hA
    refine ⟨_, pss_cons (ps_put (pv 0) (pe_call GA hr (by rfl) gA kA bA .nil pass0 (pa_cons (pv 1) pa_nil))) (pss_one (ps_put (pv 0) (pe_call GA hr (by rfl) gA kA bA .nil pass0 (pa_cons (pv 2) pa_nil)))), ?_⟩
    have m := mid_start (C := C) ex ha
    refine ⟨_, rfl, G, d, v, rfl, m.sub, hv, hp, h3, fun x G1 H2 s1 hx => ?_⟩
    have m1 := mid_step m s1
    refine ⟨_, rfl, a, C, B, rfl, T, h1, .inl ⟨m1.at', fun dx hd ne => ?_⟩⟩
    have m2 := mid_put1 (f := "one") (y := x) m1 hd ne
    refine ⟨_, rfl, G1, e, u, rfl, m2.sub, Dat.ex s1.up e u hu, hp', h3', fun y G3 H3 s3 hy => ?_⟩
    have m3 := mid_step m2 s3
    refine ⟨_, rfl, a, C, B, rfl, T, h2, .inr ⟨dx, _, m3.at', (m3.dx _ rfl).1, (by show 1 ≤ 900; decide), ?_⟩⟩
    obtain ⟨G4, s4, h⟩ := mid_end (ns := ["other", "one"]) (xs := [y, x]) (ds := [e.tupled, d.tupled]) (mid_put2 (f := "other") (y := y) m3) ⟨y, [x], rfl, hy, x, [], rfl, Dat.ex s3.up _ _ hx, rfl⟩
    exact k G4 _ s4 h
end
end K06

set_option Elab.async false
set_option linter.all false
set_option maxRecDepth 100000
set_option maxHeartbeats 4000000
namespace K06
open PySem PySem.Spec PyProof.Rows L2 L2.Um
open Evl (Ex)
abbrev sBox : Stmt := top 12
abbrev sTake : Stmt := top 13
abbrev sCells : Stmt := top 14
abbrev sOf : Stmt := top 15
abbrev nTake : List Str := ["_law_box_here", "_law_top_so", "_law_digit_so", "_law_once", "_law_far", "_law_twice"]
theorem scTake : FnScope nTake ["_law_box_here", "_law_top_so"] (defScope sTake) := ⟨rfl, rfl, rfl, by decide +kernel, rfl, by decide +kernel, by decide +kernel⟩
section
variable {P : Program} {w : World} {K : PySem.W.Frag} {mg : Str → Option Value} {base : Heap} {f fT : Addr} {fd fdT : FuncData}
def U3 (H2 : Hp) (b : Addr) (x y z : Int) : Hp := upd H2 b (.lst [V.int x, V.int y, V.int (z + 1)])
/-- the box at slot 0, at place k -/
theorem box_ix {G : Hp} {σ : L2.St} {b : Addr} {x y z n : Int} {k : Nat} (hb : σ[0]? = some (some (.ref b))) (h : G b = some (.lst [.int x, .int y, .int z])) (hk : ([D.int x, D.int y, D.int z])[k]? = some (.int n)) :
    Iv W0 (tOp (rIxL K) (tVar 0) (tC (.int (k : Int)))) σ G n :=
  iv_ix way0 (xs := [D.int x, D.int y, D.int z]) (ev_var way0 hb (d := .lst [.int x, .int y, .int z]) ⟨b, _, rfl, h, ⟨_, _, rfl, rfl, _, _, rfl, rfl, _, _, rfl, rfl, rfl⟩, by show 3 ≤ sizeLine; decide⟩ rfl) (iv_c way0) hk
theorem ok_take (F : Fun K "_law_take" "_law_take" sTake f fd) (hint : mg "int" = none) : FnOk P w K mg base CX0 1 f fd ["_law_box_here", "_law_top_so"] spTake := by
  refine F.ok scTake (fun vs H Q E h => ?_) (fun cdv A outer s H vs Q E hr h => ?_)
  · obtain ⟨b, top, n, rfl, _⟩ := h
    rfl
  · obtain ⟨b, top, n, rfl, ⟨x, y, z, hH, hx, hy, hy2, hz, hz2⟩, hn, t0, t1, k⟩ := h
    refine ⟨_, pss_cons (ps_if (pt_cmpR op_gt (pe_ix ix_list (pv 0) pe_int (fun _ _ => rfl)) pe_int (nomark _))
        (pss_cons (ps_set (i := 2) scTake.nd rfl (Or.inl rfl) (pe_op op_mod (pe_callTy call_int1 (by rfl) hint boot_int (pa_cons (pe_ix ix_list (pv 0) pe_int (fun _ _ => rfl)) pa_nil)) (pv 1)))
        (pss_cons (ps_asg (pe_op op_fdiv (pe_ix ix_list (pv 0) pe_int (fun _ _ => rfl)) (pv 1)) (pg_sub (pv 0) pe_int set_list))
        (pss_one (ps_ret (pv 2))))) pss_nil)
      (pss_cons (ps_asg (pe_op op_add (pe_ix ix_list (pv 0) pe_int (fun _ _ => rfl)) pe_int) (pg_sub (pv 0) pe_int set_list))
      (pss_cons (ps_set (i := 3) scTake.nd rfl (Or.inl rfl) (pe_op op_mod (pe_callTy call_int1 (by rfl) hint boot_int (pa_cons (pe_op op_mul (pe_op op_add (pe_ix ix_list (pv 0) pe_int (fun _ _ => rfl)) (pe_op op_mul pe_int (pe_ix ix_list (pv 0) pe_int (fun _ _ => rfl)))) (pe_op op_add pe_int (pe_ix ix_list (pv 0) pe_int (fun _ _ => rfl)))) pa_nil)) pe_int))
      (pss_cons (ps_set (i := 4) scTake.nd rfl (Or.inl rfl) (pe_op op_add (pe_op op_mod (pe_callTy call_int1 (by rfl) hint boot_int (pa_cons (pv 3) pa_nil)) pe_int) pe_int))
      (pss_cons (ps_set (i := 5) scTake.nd rfl (Or.inl rfl) (pe_op op_mod (pe_callTy call_int1 (by rfl) hint boot_int (pa_cons (pe_op op_mul (pe_op op_add (pe_op op_add (pv 3) (pe_ix ix_list (pv 0) pe_int (fun _ _ => rfl))) (pe_op op_fdiv (pe_ix ix_list (pv 0) pe_int (fun _ _ => rfl)) pe_int)) (pv 4)) pa_nil)) pe_int))
      (pss_one (ps_ret (pe_op op_mod (pe_callTy call_int1 (by rfl) hint boot_int (pa_cons (pe_op op_fdiv (pe_op op_mod (pe_callTy call_int1 (by rfl) hint boot_int (pa_cons (pe_op op_add (pe_op op_mul (pv 5) pe_int) (pv 3)) pa_nil)) pe_int) pe_int) pa_nil)) (pv 1)))))))), ?_⟩
    refine q_if (B := fun c => c = decide (0 < x)) (ev_isI (cmp_gt way0 (box_ix rfl hH (k := 0) rfl) (iv_c way0))) ⟨Ex.refl H, trivial⟩ (fun hc G1 H1 s1 => ?_) (fun hc G1 H1 s1 => ?_)
    · -- a digit of the first number
      have e1 : Ex H H1 := fun a o => s1.keep a o id
      refine q_set (R := W0) (G := H1) (iv_mod way0 (iv_int way0 (box_ix rfl (e1 _ _ hH) (k := 0) rfl)) (iv_var way0 rfl) t0) ⟨Ex.refl H1, trivial⟩ fun v d G2 H2 s2 hv ed => ?_
      obtain rfl := isI hv ed
      have e2 : Ex H H2 := e1.trans fun a o => s2.keep a o id
      refine iv_div (R := W0) way0 (box_ix rfl (e2 _ _ hH) (k := 0) rfl) (iv_var way0 rfl) ⟨t0, t1⟩ H2 H2 (Ex.refl H2) ⟨Ex.refl H2, trivial⟩ _ fun v d G3 H3 s3 hv ed => ?_
      obtain rfl := isI hv ed
      have e3 : Ex H H3 := e2.trans fun a o => s3.keep a o id
      refine ⟨_, rfl, b, _, 0, 0, rfl, rfl, e3 _ _ hH, rfl, ?_⟩
      refine ⟨_, rfl, k _ _ (Int.emod_nonneg _ (by omega)) (Int.emod_lt_of_pos _ t0) (fun a o ne q => ?_) ⟨x / top, y, z, upd_same, Int.ediv_nonneg hx (by omega), hy, hy2, hz, by omega⟩⟩
      rw [upd_ne ne]
      exact e3 _ _ q
    · -- a number of its own making
      have e1 : Ex H H1 := fun a o => s1.keep a o id
      refine iv_add (R := W0) way0 (box_ix rfl (e1 _ _ hH) (k := 2) rfl) (iv_c way0) H1 H1 (Ex.refl H1) ⟨Ex.refl H1, trivial⟩ _ fun v d G2 H2 s2 hv ed => ?_
      obtain rfl := isI hv ed
      have e2 : Ex H H2 := e1.trans fun a o => s2.keep a o id
      refine ⟨_, rfl, b, _, 2, 2, rfl, rfl, e2 _ _ hH, rfl, ?_⟩
      have h3 : (U3 H2 b x y z) b = some (.lst [V.int x, V.int y, V.int (z + 1)]) := upd_same
      have k3 : Keep b H (U3 H2 b x y z) := fun a o ne q => by
        show (upd H2 b (.lst [V.int x, V.int y, V.int (z + 1)])) a = some o
        rw [upd_ne ne]
        exact e2 _ _ q
      refine q_set (R := W0) (G := (U3 H2 b x y z)) (iv_mod way0 (iv_int way0 (iv_mul way0 (iv_add way0 (box_ix rfl h3 (k := 1) rfl) (iv_mul way0 (iv_c way0) (box_ix rfl h3 (k := 2) rfl) (.inl ⟨by decide, by decide⟩))) (iv_add way0 (iv_c way0) (box_ix rfl h3 (k := 2) rfl)) (.inr ⟨by omega, by omega⟩))) (iv_c way0) (by decide)) ⟨Ex.refl _, trivial⟩ fun v d G4 H4 s4 hv ed => ?_
      obtain ⟨o, eo, o1⟩ : ∃ o : Int, d = .int o ∧ 0 ≤ o := ⟨_, ed, Int.emod_nonneg _ (by decide)⟩
      clear ed
      obtain rfl := isI hv eo
      have e4 : Ex (U3 H2 b x y z) H4 := fun a o => s4.keep a o id
      refine q_set (R := W0) (G := H4) (iv_add way0 (iv_mod way0 (iv_int way0 (iv_var way0 rfl)) (iv_c way0) (by decide)) (iv_c way0)) ⟨Ex.refl H4, trivial⟩ fun v d G5 H5 s5 hv ed => ?_
      obtain ⟨p, ep, p1, p2⟩ : ∃ p : Int, d = .int p ∧ 0 ≤ p ∧ p < 50000 := ⟨_, ed, by have := Int.emod_nonneg o (b := 40009) (by decide); omega, by have := Int.emod_lt_of_pos o (b := 40009) (by decide); omega⟩
      clear ed
      obtain rfl := isI hv ep
      have e5 : Ex (U3 H2 b x y z) H5 := e4.trans fun a o => s5.keep a o id
      refine q_set (R := W0) (G := H5) (iv_mod way0 (iv_int way0 (iv_mul way0 (iv_add way0 (iv_add way0 (iv_var way0 rfl) (box_ix rfl (e5 _ _ h3) (k := 2) rfl)) (iv_div way0 (box_ix rfl (e5 _ _ h3) (k := 1) rfl) (iv_c way0) ⟨by decide, by decide⟩)) (iv_var way0 rfl) (.inr ⟨by omega, by omega⟩))) (iv_c way0) (by decide)) ⟨Ex.refl H5, trivial⟩ fun v d G6 H6 s6 hv ed => ?_
      obtain ⟨t, et⟩ : ∃ t : Int, d = .int t := ⟨_, ed⟩
      clear ed
      obtain rfl := isI hv et
      have e6 : Ex (U3 H2 b x y z) H6 := e5.trans fun a o => s6.keep a o id
      refine s_ret (R := W0) (G := H6) (iv_mod way0 (iv_int way0 (iv_div way0 (iv_mod way0 (iv_int way0 (iv_add way0 (iv_mul way0 (iv_var way0 rfl) (iv_c way0) (.inr ⟨by decide, by decide⟩)) (iv_var way0 rfl))) (iv_c way0) (by decide)) (iv_c way0) ⟨by decide, by decide⟩)) (iv_var way0 rfl) t0) ⟨Ex.refl H6, trivial⟩ fun v d G7 H7 s7 hv ed => ?_
      obtain ⟨q, eq, q1, q2⟩ : ∃ q : Int, d = .int q ∧ 0 ≤ q ∧ q < top := ⟨_, ed, Int.emod_nonneg _ (by omega), Int.emod_lt_of_pos _ t0⟩
      clear ed
      obtain rfl := isI hv eq
      have e7 : Ex (U3 H2 b x y z) H7 := e6.trans fun a o => s7.keep a o id
      exact k q H7 q1 q2 (k3.trans (Keep.ex e7)) ⟨x, y, z + 1, e7 _ _ h3, hx, hy, hy2, by omega, by omega⟩
end
end K06

set_option Elab.async false
set_option linter.all false
set_option maxRecDepth 100000
set_option maxHeartbeats 4000000
namespace L2.Um
open PySem PySem.Spec PyProof.Rows
open Evl (Ex)
theorem ev_ifE {R : Wd} {σ : L2.St} {G : Hp} {t : TT} {ta tb : TE} {P : D → Prop} {B : Bool → Prop} (W : Way R) (h : EvT R t σ G B) (h1 : B true → Ev R ta σ G P) (h2 : B false → Ev R tb σ G P) : Ev R (tIf t ta tb) σ G P := fun G1 H1 a b Q q => h G1 H1 a b _ fun k G2 H2 s pb => by
  cases k with
  | true =>
    show ta σ H2 Q
    exact h1 pb G2 H2 (a.trans s.up) s.ok Q fun v d G3 H3 s3 => q v d G3 H3 (s.trans W s3)
  | false =>
    show tb σ H2 Q
    exact h2 pb G2 H2 (a.trans s.up) s.ok Q fun v d G3 H3 s3 => q v d G3 H3 (s.trans W s3)
theorem s_asgI {R : Wd} {σ : L2.St} {G H : Hp} {te : TE} {g : TG} {n : Int} {D' : Ends} (h : Iv R te σ G n) (hx : Ok R G H) (k : ∀ G1 H1, Step R G H G1 H1 → g (.int n) σ H1 D'.nx) : tAsg te g D' σ H := h G H (Ex.refl G) hx _ fun v d G1 H1 s hv ed => by
  rw [isI hv ed]
  exact k G1 H1 s
/-- return [..], the new list not told as known -/
theorem s_retL {R : Wd} {σ : L2.St} {G H : Hp} {ta : TA} {B : List D → Prop} {D' : Ends} (h : Evs R ta σ G B) (hx : Ok R G H) (hl : ∀ ds, B ds → ds.length ≤ 100000)
    (k : ∀ p vs ds G1 H1, Step R G H G1 H1 → Dats G1 ds vs → B ds → H1 p = none → D'.rt (.ref p) (upd H1 p (.lst vs))) : tRet (tLst ta) D' σ H := h G H (Ex.refl G) hx _ fun vs ds G1 H1 s hs pb =>
  ⟨Evl.sz_of (Dats.length hs ▸ hl ds pb), fun p hp => k p vs ds G1 H1 s hs pb hp⟩
/-- a list of whole numbers -/
theorem dat_ints {H : Hp} {a : Addr} {ns : List Int} (h : H a = some (.lst (ns.map V.int))) (hl : ns.length ≤ 100000) : Dat H (.lst (ns.map D.int)) (.ref a) := by
  refine ⟨a, _, rfl, h, ?_, Evl.sz_of (by rw [List.length_map]; exact hl)⟩
  clear h hl
  induction ns with
  | nil => rfl
  | cons n r ih => exact ⟨_, _, rfl, rfl, ih⟩
theorem ints_dat {H : Hp} : ∀ {ns : List Int} {xs : List V}, Dats H (ns.map D.int) xs → xs = ns.map V.int
  | [], _, h => h
  | n :: r, _, ⟨v, t, e, hv, ht⟩ => by rw [e, ints_dat ht, show v = V.int n from hv]; rfl
end L2.Um
namespace K06
open PySem PySem.Spec PyProof.Rows L2 L2.Um
open Evl (Ex)
/-- a new box for the k-th of the numbers -/
def spBox : Sp := fun vs H Q _ => ∃ (a : Addr) (k : Nat) (ns : List Int), vs = [.ref a, .int (k : Int)] ∧ H a = some (.lst (ns.map V.int)) ∧ k < ns.length ∧ ns.length ≤ 1000 ∧ ∀ p H', Ex H H' → H p = none → BoxIs p 0 H' → Q (.ref p) H'
/-- one of the things -/
def spOf : Sp := fun vs H Q _ => ∃ (b l : Addr) (n : Int) (xs : List V), vs = [.ref b, .ref l] ∧ BoxIs b n H ∧ n < 1152921504606846976 ∧ H l = some (.lst xs) ∧ l ≠ b ∧ xs ≠ [] ∧ xs.length ≤ 100000 ∧ ∀ (i : Nat) x H', xs[i]? = some x → Keep b H H' → BoxIs b (n + 1) H' → Q x H'
def spCells (K : PySem.W.Frag) : Sp := fun vs H Q _ => ∃ (a : Addr) (ns : List Int), vs = [.ref a, .int 3] ∧ SqL K H a (ns.map V.int) ∧ ns.length ≤ 63 ∧ ∀ (c : Addr) (ms : List Int) H', Ex H H' → H c = none → H' c = some (.lst (ms.map V.int)) → 1 ≤ ms.length → ms.length ≤ 3 → Q (.ref c) H'
abbrev nBox : List Str := ["_law_script", "_law_k", "_law_great_so"]
abbrev nCells : List Str := ["_law_script", "_law_most", "_law_cells_here", "_law_k", "_law_great_so", "_law_at_so"]
theorem scBox : FnScope nBox ["_law_script", "_law_k"] (defScope sBox) := ⟨rfl, rfl, rfl, by decide +kernel, rfl, by decide +kernel, by decide +kernel⟩
theorem scOf : FnScope ["_law_box_here", "_law_some"] ["_law_box_here", "_law_some"] (defScope sOf) := ⟨rfl, rfl, rfl, by decide +kernel, rfl, by decide +kernel, by decide +kernel⟩
theorem scCells : FnScope nCells ["_law_script", "_law_most"] (defScope sCells) := ⟨rfl, rfl, rfl, by decide +kernel, rfl, by decide +kernel, by decide +kernel⟩
theorem b01 (k : Bool) : -(2 ^ 64) < (if k then (1 : Int) else 0) ∧ (if k then (1 : Int) else 0) < 2 ^ 64 := by cases k <;> decide
theorem n01 (k : Bool) : 0 ≤ (if k then (1 : Int) else 0) := by cases k <;> decide
theorem abs_nn (g : Int) : 0 ≤ (if g < 0 then -g else g) := by split <;> omega
structure TxB (mg : Str → Option Value) : Prop where
  len : mg "len" = none
  abs : mg "abs" = none
  int : mg "int" = none
  list : mg "list" = none
  enum : mg "enumerate" = none
section
variable {P : Program} {w : World} {K : PySem.W.Frag} {mg : Str → Option Value} {base : Heap} {f fT : Addr} {fd fdT : FuncData}
theorem ok_box (F : Fun K "_law_box" "_law_box" sBox f fd) (T : TxB mg) : FnOk P w K mg base CX0 1 f fd ["_law_script", "_law_k"] spBox := by
  refine F.ok scBox (fun vs H Q E h => ?_) (fun cdv A outer s H vs Q E hr h => ?_)
  · obtain ⟨a, k, ns, rfl, _⟩ := h
    rfl
  · obtain ⟨a, k, ns, rfl, hH, hk, hl, q⟩ := h
    refine ⟨_, pss_cons (ps_set (i := 2) scBox.nd rfl (Or.inl rfl) (pe_ifExp (pt_cmpR op_lt (pv 1) (pe_callB call_len_seq (by rfl) T.len PySem.boot_len (pa_cons (pv 0) pa_nil)) (nomark _)) (pe_ix ix_list (pv 0) (pv 1) (fun _ _ => rfl)) pe_int))
      (pss_one (ps_ret (pe_lst (pa_cons (pe_op op_mul (pe_callB call_abs (by rfl) T.abs boot_abs (pa_cons (pv 2) pa_nil)) (pe_callTy call_int1 (by rfl) T.int boot_int (pa_cons (pe_cmpR op_ge (pe_callB call_abs (by rfl) T.abs boot_abs (pa_cons (pv 2) pa_nil)) (pe_op op_pow pe_int pe_int) (nomark _)) pa_nil)))
        (pa_cons (pe_op op_add (pe_op op_add (pe_op op_mod (pe_callTy call_int1 (by rfl) T.int boot_int (pa_cons (pv 2) pa_nil)) pe_int) (pe_op op_mul pe_int (pv 1))) pe_int) (pa_cons pe_int pa_nil)))))), ?_⟩
    have hd := dat_ints hH (by omega)
    have hx : (ns.map D.int)[k]? = some (.int ns[k]) := by rw [List.getElem?_map]; simp [hk]
    refine q_set (R := W0) (G := H) (P := fun d => ∃ g : Int, d = .int g) (ev_ifE way0 (B := fun _ => True) ((ev_isI (cmp_lt way0 (iv_var way0 rfl) (ev_len (A := fun d => d = .lst (ns.map D.int)) (ev_var way0 rfl hd rfl) (one ⟨_, rfl, rfl⟩)))).imp fun _ _ => trivial)
      (fun _ => (iv_ix way0 (xs := ns.map D.int) (k := k) (ev_var way0 rfl hd rfl) (iv_var way0 rfl) hx).imp (one ⟨_, rfl⟩)) (fun _ => (iv_c way0).imp (one ⟨_, rfl⟩))) ⟨Ex.refl H, trivial⟩ fun v d G1 H1 s1 hv ed => ?_
    obtain ⟨g, eg⟩ := ed
    obtain rfl := isI hv eg
    clear hv eg
    have e1 : Ex H H1 := fun a o => s1.keep a o id
    refine s_retL (R := W0) (G := H1) (evs3 way0 (A := fun d => ∃ x : Int, d = .int x ∧ 0 ≤ x) (B := fun d => ∃ y : Int, d = .int y ∧ 0 ≤ y ∧ y < 4611686018427387904) (C := fun d => d = .int 0) (P := fun ds => ∃ x y : Int, ds = [.int x, .int y, .int 0] ∧ 0 ≤ x ∧ 0 ≤ y ∧ y < 4611686018427387904)
      ((iv_mul way0 (iv_abs way0 (iv_var way0 rfl)) (iv_bool way0 (cmp_ge way0 (iv_abs way0 (iv_var way0 rfl)) (iv_pow way0 (iv_c way0) (iv_c way0) ⟨by decide, by decide, by decide⟩))) (.inr (b01 _))).imp (one ⟨_, rfl, Int.mul_nonneg (abs_nn g) (n01 _)⟩))
      ((iv_add way0 (iv_add way0 (iv_mod way0 (iv_int way0 (iv_var way0 rfl)) (iv_c way0) (by decide)) (iv_mul way0 (iv_c way0) (iv_var way0 rfl) (.inl ⟨by decide, by decide⟩))) (iv_c way0)).imp (one ⟨_, rfl, by have := Int.emod_nonneg g (b := 2305843009213693951) (by decide); omega, by have := Int.emod_lt_of_pos g (b := 2305843009213693951) (by decide); omega⟩))
      (iv_c way0) (by rintro _ _ _ ⟨x, rfl, hx⟩ ⟨y, rfl, hy⟩ rfl; exact ⟨x, y, rfl, hx, hy⟩)) ⟨Ex.refl H1, trivial⟩ (by rintro _ ⟨x, y, rfl, _⟩; exact (by decide : 3 ≤ 100000)) fun p vs ds G2 H2 s2 hs ed hp => ?_
    obtain ⟨x, y, rfl, hx, hy, hy2⟩ := ed
    obtain ⟨_, _, rfl, rfl, _, _, rfl, rfl, _, _, rfl, rfl, rfl⟩ := hs
    have e2 : Ex H H2 := e1.trans fun a o => s2.keep a o id
    exact q p _ (e2.trans (Ex.new hp)) (Evl.fresh_back e2 hp) ⟨x, y, 0, upd_same, hx, hy, hy2, Int.le_refl _, Int.le_refl _⟩
theorem ok_of (F : Fun K "_law_of" "_law_of" sOf f fd) (hlen : mg "len" = none) (gT : mg "_law_take" = some (.ref fT)) (kT : PySem.W.keepIn K (.ref fT) = true) (bT : Binds K fdT ["_law_box_here", "_law_top_so"] []) (GT : FnOk P w K mg base CX0 1 fT fdT ["_law_box_here", "_law_top_so"] spTake) :
    FnOk P w K mg base CX0 2 f fd ["_law_box_here", "_law_some"] spOf := by
  refine F.ok scOf (fun vs H Q E h => ?_) (fun cdv A outer s H vs Q E hr h => ?_)
  · obtain ⟨b, l, n, xs, rfl, _⟩ := h
    rfl
  · obtain ⟨b, l, n, xs, rfl, hb, hn, hl, ne, nx, hz, q⟩ := h
    refine ⟨_, pss_one (ps_ret (pe_ix ix_list (pv 1) (pe_call GT hr (by rfl) gT kT bT .nil pass0 (pa_cons (pv 0) (pa_cons (pe_callB call_len_seq (by rfl) hlen PySem.boot_len (pa_cons (pv 1) pa_nil)) pa_nil))) (fun _ _ => rfl))), ?_⟩
    have hp : 0 < xs.length := List.length_pos_iff.mpr nx
    refine ⟨_, rfl, _, rfl, _, rfl, l, xs, rfl, .inl (SqL.of hl), b, _, n, rfl, hb, hn, by omega, by omega, fun r H' r0 r1 kp bx => ?_⟩
    have hr : r.toNat < xs.length := by omega
    have er : ((r.toNat : Nat) : Int) = r := Int.toNat_of_nonneg r0
    obtain ⟨x, hx⟩ : ∃ x, xs[r.toNat]? = some x := ⟨xs[r.toNat], by simp [hr]⟩
    refine ⟨l, xs, r, x, rfl, rfl, SqL.of (kp l _ ne hl), ?_, q _ _ H' hx kp bx⟩
    rw [← er]
    exact atI_nat hx
/-- list(script[:3]) or [0]; then the later ones added -/
theorem ok_cells (F : Fun K "_law_cells" "_law_cells" sCells f fd) (T : TxB mg) : FnOk P w K mg base CX0 1 f fd ["_law_script", "_law_most"] (spCells K) := by
  refine F.ok scCells (fun vs H Q E h => ?_) (fun cdv A outer s H vs Q E hr h => ?_)
  · obtain ⟨a, ns, rfl, _⟩ := h
    rfl
  · obtain ⟨a, ns, rfl, hS, hl, q⟩ := h
    refine ⟨_, pss_cons (ps_set (i := 2) scCells.nd rfl (Or.inl rfl) (pe_orT (pe_callTy call_list_of (by rfl) T.list boot_list (pa_cons (pe_slice sl_list (pv 0) po_none (po_some (pv 1))) pa_nil)) (pe_one (pe_lst (pa_cons pe_int pa_nil)))))
      (pss_cons (ps_for PassesOwn.never rfl (pi_enum (by rfl) T.enum (pa_cons (pe_slice sl_list (pv 0) (po_some (pv 1)) (po_some pe_int)) pa_nil)) (pg_tup (by rfl) (pgs_cons (pg_name (i := 3) scCells.nd rfl (Or.inl rfl)) (pgs_cons (pg_name (i := 4) scCells.nd rfl (Or.inl rfl)) pgs_nil)))
        (pss_cons (ps_set (i := 5) scCells.nd rfl (Or.inl rfl) (pe_op op_mod (pe_callTy call_int1 (by rfl) T.int boot_int (pa_cons (pv 3) pa_nil)) (pv 1)))
        (pss_one (ps_asg (pe_op op_add (pe_ix ix_list (pv 2) (pv 5) (fun _ _ => rfl)) (pe_op op_mul (pv 4) (pe_op op_add (pv 3) pe_int))) (pg_sub (pv 2) (pv 5) set_list)))))
      (pss_one (ps_ret (pv 2)))), ?_⟩
    have c1 : cutV (ns.map V.int) none (some 3) = (ns.take 3).map V.int := by
      unfold cutV
      rw [HT.sIx_none, show HT.sIx (ns.map V.int).length (ns.map V.int).length (some 3) = min 3 (ns.map V.int).length from HT.sIx_nat _ _ 3, List.drop_zero, Nat.sub_zero, List.map_take, List.take_eq_take_iff]
      omega
    obtain ⟨k, ks, hk⟩ : ∃ (lo hi : Nat), cutV (ns.map V.int) (some 3) (some 63) = ((ns.drop lo).take hi).map V.int ∧ (hi ≤ 63 ∧ (3 ≤ ns.length ∨ (ns.drop lo).take hi = [])) := by
      refine ⟨HT.sIx (ns.map V.int).length 0 (some 3), HT.sIx (ns.map V.int).length (ns.map V.int).length (some 63) - HT.sIx (ns.map V.int).length 0 (some 3), ?_, ?_, ?_⟩
      · unfold cutV
        rw [List.map_take, List.map_drop]
      · rw [show HT.sIx (ns.map V.int).length (ns.map V.int).length (some 63) = min 63 (ns.map V.int).length from HT.sIx_nat _ _ 63]
        omega
      · by_cases h3 : 3 ≤ ns.length
        · exact .inl h3
        · refine .inr ?_
          rw [show HT.sIx (ns.map V.int).length 0 (some 3) = min 3 (ns.map V.int).length from HT.sIx_nat _ _ 3, List.length_map, Nat.min_eq_right (by omega), List.drop_length]
          exact List.take_nil
    -- the first of them
    have first : ∀ (c : Addr) (ms : List Int) (H1 : Hp), Ex H H1 → H c = none → H1 c = some (.lst (ms.map V.int)) → 1 ≤ ms.length → ms.length ≤ 3 → (3 ≤ ns.length → ms.length = 3) →
        tSeq (tFor (iEnum K (tCons (tSl (rSlL K) (tVar 0) (tPart (tVar 1)) (tPart (tC (.int 63)))) tNil)) (gTup K 2 (gCons (gName 3) (gCons (gName 4) gNil)))
          (tSeq (tAsg (tOp (rI (fun _ j => 0 < j) fun i j => .int (i % j)) (tCB (fun xs H Q => (∃ i, xs = [V.int i] ∧ Q (.int i) H) ∨ ∃ k, xs = [V.bl k] ∧ Q (.int (if k then 1 else 0)) H) (tCons (tVar 3) tNil)) (tVar 1)) (gName 5))
            (tAsg (tOp (rI0 fun i j => .int (i + j)) (tOp (rIxL K) (tVar 2) (tVar 5)) (tOp (rI CMul fun i j => .int (i * j)) (tVar 4) (tOp (rI0 fun i j => .int (i + j)) (tVar 3) (tC (.int 2))))) (gSub (tVar 2) (tVar 5) rSetL)))) (tRet (tVar 2))
          { nx := fun _ H' => Q .non H', rt := Q } [some (.ref a), some (.int 3), some (.ref c), none, none, none] H1 := by
      intro c ms H1 e1 hc hH1 l1 l3 h3
      have hS1 : SqL K H1 a (ns.map V.int) := Evl.ex_l e1 hS
      refine ⟨_, rfl, _, rfl, 3, rfl, 63, rfl, a, _, rfl, hS1, fun p hp => ?_⟩
      refine ⟨p, _, rfl, SqL.of upd_same, ?_⟩
      have e2 : Ex H (upd H1 p (.lst (cutV (ns.map V.int) (some 3) (some 63)))) := e1.trans (Ex.new hp)
      have ncp : c ≠ p := ne_of_none hH1 hp
      refine for_it walk_enum (fun i σ H' => ∃ (mt : List Int) (v3 v4 v5 : Option V), σ = [some (.ref a), some (.int 3), some (.ref c), v3, v4, v5] ∧ Ex H H' ∧ H' c = some (.lst (mt.map V.int)) ∧ mt.length = ms.length ∧ H' p = some (.lst (cutV (ns.map V.int) (some 3) (some 63))))
        ⟨ms, none, none, none, rfl, e2, by rw [upd_ne ncp]; exact hH1, rfl, upd_same⟩ (fun i σ H' _ ⟨_, _, _, _, _, _, _, _, hp'⟩ => SqL.of hp') ?_ ?_
      · rintro i x σ Ha Hb hi ⟨mt, v3, v4, v5, rfl, ea, hc', lt, hp'⟩ ⟨T, x1, y1, rfl, hT, rfl, hx, hy⟩
        cases hx
        obtain ⟨u, rfl⟩ : ∃ u : Int, y1 = V.int u := by
          have hy' : (((ns.drop k).take ks).map V.int)[i]? = some y1 := by
            rw [← hk.1]
            exact hy
          rw [List.getElem?_map] at hy'
          obtain ⟨u, _, e⟩ := Option.map_eq_some_iff.mp hy'
          exact ⟨u, e.symm⟩
        have l33 : mt.length = 3 := by
          rw [lt]
          rcases hk.2.2 with h | h
          · exact h3 h
          · rw [hk.1, h] at hi
            exact absurd hi (Nat.not_lt_zero _)
        have i63 : i < 63 := by
          rw [hk.1, List.length_map, List.length_take] at hi
          have := hk.2.1
          omega
        refine ⟨T, _, rfl, SqT.of upd_same, rfl, _, _, rfl, _, _, rfl, rfl, ?_⟩
        have ncT : c ≠ T := ne_of_none hc' hT
        have npT : p ≠ T := ne_of_none hp' hT
        have hc2 : (upd Ha T (.tup [V.int (i : Nat), V.int u])) c = some (.lst (mt.map V.int)) := by rw [upd_ne ncT]; exact hc'
        have hp2 : (upd Ha T (.tup [V.int (i : Nat), V.int u])) p = some (.lst (cutV (ns.map V.int) (some 3) (some 63))) := by rw [upd_ne npT]; exact hp'
        have eb : Ex H (upd Ha T (.tup [V.int (i : Nat), V.int u])) := ea.trans (Ex.new hT)
        refine q_set (R := W0) (G := upd Ha T (.tup [V.int (i : Nat), V.int u])) (iv_mod way0 (iv_int way0 (iv_var way0 (n := (i : Int)) rfl)) (iv_var way0 rfl) (by decide)) ⟨Ex.refl _, trivial⟩ fun v d G3 H3 s3 hv ed => ?_
        obtain rfl := isI hv ed
        have e3 : Ex (upd Ha T (.tup [V.int (i : Nat), V.int u])) H3 := fun a o => s3.keep a o id
        have ei : ((i : Int) % 3) = ((i % 3 : Nat) : Int) := by omega
        have hlt : i % 3 < mt.length := by omega
        have hx3 : (mt.map D.int)[i % 3]? = some (.int mt[i % 3]) := by rw [List.getElem?_map]; simp [hlt]
        have hv5 : ([some (V.ref a), some (V.int 3), some (V.ref c), some (V.int (i : Nat)), some (V.int u), some (V.int ((i : Int) % 3))] : L2.St)[5]? = some (some (V.int ((i % 3 : Nat) : Int))) := by rw [← ei]; rfl
        refine s_asgI (R := W0) (G := H3) (n := mt[i % 3] + u * ((i : Int) + 2)) (iv_add way0 (iv_ix way0 (xs := mt.map D.int) (k := i % 3) (ev_var way0 rfl (dat_ints (e3 _ _ hc2) (by omega)) rfl) (iv_var way0 hv5) hx3) (iv_mul way0 (iv_var way0 rfl) (iv_add way0 (iv_var way0 (n := (i : Int)) rfl) (iv_c way0)) (.inr ⟨by omega, by omega⟩))) ⟨Ex.refl _, trivial⟩ fun G4 H4 s4 => ?_
        have e4 : Ex H3 H4 := fun a o => s4.keep a o id
        refine ⟨_, rfl, _, hv5, c, mt.map V.int, _, i % 3, rfl, rfl, e4 _ _ (e3 _ _ hc2), ?_, ?_⟩
        · rw [List.length_map]
          unfold ixN
          rw [if_pos (by omega), if_pos (by omega)]
          congr 1
        · refine ⟨mt.set (i % 3) (mt[i % 3] + u * ((i : Int) + 2)), _, _, _, rfl, (eb.trans (e3.trans e4)).mut hc, ?_, by rw [List.length_set]; exact lt, ?_⟩
          · rw [upd_same, List.map_set]
          · rw [upd_ne ncp.symm]
            exact e4 _ _ (e3 _ _ hp2)
      · rintro σ H' ⟨mt, v3, v4, v5, rfl, ea, hc', lt, hp'⟩
        exact ⟨_, rfl, q c mt H' ea hc hc' (by omega) (by omega)⟩
    refine ⟨_, rfl, _, rfl, 3, rfl, a, _, rfl, hS, fun p hp => ?_⟩
    have h1 : (upd H p (.lst (cutV (ns.map V.int) none (some 3)))) p = some (.lst ((ns.take 3).map V.int)) := by rw [upd_same, c1]
    refine ⟨p, _, rfl, .inl (SqL.of h1), fun c hc => ?_⟩
    have cn : H c = none := Evl.fresh_back (Ex.new hp) hc
    refine ⟨!((ns.take 3).map V.int).isEmpty, .inl ⟨_, SqL.of upd_same, rfl⟩, ?_⟩
    by_cases hz : ns = []
    · subst hz
      refine ⟨by show 1 ≤ sizeLine; decide, fun c2 hc2 => ?_⟩
      have n2 : H c2 = none := Evl.fresh_back ((Ex.new hp).trans (Ex.new hc)) hc2
      exact first c2 [0] _ (((Ex.new hp).trans (Ex.new hc)).trans (Ex.new hc2)) n2 upd_same (by decide) (by decide) (fun z => absurd z (by decide))
    · have hpos : 0 < ns.length := List.length_pos_iff.mpr hz
      have hemp : (!((ns.take 3).map V.int).isEmpty) = true := by
        cases ns with
        | nil => exact absurd rfl hz
        | cons n r => rfl
      rw [if_pos hemp]
      exact first c (ns.take 3) _ ((Ex.new hp).trans (Ex.new hc)) cn upd_same (by rw [List.length_take]; omega) (by rw [List.length_take]; omega) (fun z => by rw [List.length_take]; omega)
end
end K06

set_option Elab.async false
set_option linter.all false
set_option maxRecDepth 100000
set_option maxHeartbeats 4000000
namespace L2.Um
open PySem PySem.Spec PyProof.Rows
open Evl (Ex)
/-- x = [..], the new list not told as known -/
theorem q_setL {R : Wd} {σ : L2.St} {G H : Hp} {ta : TA} {B : List D → Prop} {D' : Ends} {i : Nat} {tz : TS} (h : Evs R ta σ G B) (hx : Ok R G H) (hl : ∀ ds, B ds → ds.length ≤ 100000)
    (k : ∀ p vs ds G1 H1, Step R G H G1 H1 → Dats G1 ds vs → B ds → H1 p = none → tz D' (σ.set i (some (.ref p))) (upd H1 p (.lst vs))) : tSeq (tAsg (tLst ta) (gName i)) tz D' σ H := h G H (Ex.refl G) hx _ fun vs ds G1 H1 s hs pb =>
  ⟨Evl.sz_of (Dats.length hs ▸ hl ds pb), fun p hp => k p vs ds G1 H1 s hs pb hp⟩
/-- x = a + [..], the new list not told as known -/
theorem q_setCat {σ : L2.St} {G H : Hp} {ta : TE} {tb : TA} {xs ys : List D} {D' : Ends} {i : Nat} {tz : TS} (ha : Ev W0 ta σ G fun d => d = .lst xs) (hb : Evs W0 tb σ G fun ds => ds = ys) (hx : Ok W0 G H) (hl : xs.length + ys.length ≤ 100000)
    (k : ∀ m vs G1 H1, Step W0 G H G1 H1 → Dats G1 (xs ++ ys) vs → H1 m = none → tz D' (σ.set i (some (.ref m))) (upd H1 m (.lst vs))) : tSeq (tAsg (tOp rCat ta (tLst tb)) (gName i)) tz D' σ H := ha G H (Ex.refl G) hx _ fun v d G1 H1 s1 hv ed => by
  subst ed
  refine hb G1 H1 s1.up s1.ok _ fun us ds G2 H2 s2 hs ed => ?_
  subst ed
  obtain ⟨a, as, rfl, ha, hA, _⟩ := Dat.ex s2.up _ v hv
  have z : as.length + us.length ≤ 100000 := by rw [← Dats.length hA, ← Dats.length hs]; exact hl
  refine ⟨Evl.sz_of (by omega), fun l hl' => ⟨a, l, as, us, rfl, rfl, Ex.new hl' _ _ (s2.ok.sub _ _ ha), upd_same, Evl.sz_of z, fun m hm => ?_⟩⟩
  exact k m (as ++ us) G2 _ ((s1.trans way0 s2).trans way0 (.drop way0 s2.ok hl')) (Dats.append hA hs) hm
/-- p.append(e), p not told as known -/
theorem q_app {K : PySem.W.Frag} {σ : L2.St} {G H : Hp} {te : TE} {P : D → Prop} {D' : Ends} {i : Nat} {p : Addr} {vs : List V} {tz : TS} (hv : σ[i]? = some (some (.ref p))) (hp : H p = some (.lst vs)) (gp : G p = none) (h : Ev W0 te σ G P) (hx : Ok W0 G H) (hz : vs.length < 100000)
    (k : ∀ v d G1 H1, Step W0 G H G1 H1 → Dat G1 d v → P d → G1 p = none → H1 p = some (.lst vs) → tz D' σ (upd H1 p (.lst (vs ++ [v])))) : tSeq (tDrop (tBM K "list" rAppend (tVar i) (tCons te tNil))) tz D' σ H := by
  refine ⟨_, hv, .inl ⟨rfl, _, SqL.of hp⟩, h G H (Ex.refl G) hx _ fun v d G1 H1 s hd pd => ?_⟩
  have hp1 : H1 p = some (.lst vs) := s.keep _ _ id hp
  exact ⟨p, vs, v, rfl, rfl, hp1, Evl.sz_lt hz, k v d G1 H1 s hd pd (unk s hp gp) hp1⟩
theorem know {G H : Hp} {p : Addr} {o : HO} (hx : Ok W0 G H) (hp : H p = some o) : Ok W0 (upd G p o) H := ⟨fun a u e => by
  by_cases z : a = p
  · subst z
    rw [upd_same] at e
    rw [← e]
    exact hp
  · rw [upd_ne z] at e
    exact hx.sub a u e, trivial⟩
theorem ok_mut {G H : Hp} {p : Addr} {o : HO} (hx : Ok W0 G H) (gp : G p = none) : Ok W0 G (upd H p o) := ⟨fun a u e => by
  rw [upd_ne (fun z => by rw [z, gp] at e; cases e)]
  exact hx.sub a u e, trivial⟩
theorem ok_new {G H : Hp} {p : Addr} {o : HO} (hx : Ok W0 G H) (hp : H p = none) : Ok W0 G (upd H p o) := ⟨hx.sub.trans (Ex.new hp), trivial⟩
theorem step_ex {G H H2 : Hp} (hx : Ok W0 G H) (e : Ex H H2) : Step W0 G H G H2 := ⟨Ex.refl G, ⟨hx.sub.trans e, trivial⟩, fun a o _ => e a o, fun a o e => .inl e⟩
theorem dats_bl {H : Hp} : ∀ {bs : List Bool} {vs : List V}, Dats H (bs.map D.bl) vs → vs = bs.map V.bl
  | [], _, h => h
  | b :: r, _, ⟨v, t, e, hv, ht⟩ => by rw [e, dats_bl ht, show v = V.bl b from hv]; rfl
theorem dats_of_bl {H : Hp} : ∀ bs : List Bool, Dats H (bs.map D.bl) (bs.map V.bl)
  | [] => rfl
  | _ :: r => ⟨_, _, rfl, rfl, dats_of_bl r⟩
def trueB (d : D) : Bool := match d with | .bl b => b | _ => false
end L2.Um
namespace K06
open PySem PySem.Spec PyProof.Rows L2 L2.Um
open Evl (Ex)
abbrev sSorts : Stmt := top 17
theorem scSorts : FnScope ["_law_error", "_law_first", "_law_own"] ["_law_error"] (defScope sSorts) := ⟨rfl, rfl, rfl, by decide +kernel, rfl, by decide +kernel, by decide +kernel⟩
/-- where the eight classes stand -/
structure Cs where
  name : Addr
  key : Addr
  number : Addr
  nothing : Addr
  quiet : Addr
  twice : Addr
  text : Addr
  line : Addr
structure TxC (mg : Str → Option Value) (c : Cs) : Prop where
  name : mg "NoName" = some (.ref c.name)
  key : mg "NoKey" = some (.ref c.key)
  number : mg "NoNumber" = some (.ref c.number)
  nothing : mg "NothingDone" = some (.ref c.nothing)
  quiet : mg "NotQuiet" = some (.ref c.quiet)
  twice : mg "Twice" = some (.ref c.twice)
  text : mg "BadText" = some (.ref c.text)
  line : mg "BadLine" = some (.ref c.line)
/-- which of the eight classes it is under -/
structure Sort8 (K : PySem.W.Frag) (c : Cs) (C : Addr) : Prop where
  own : ∃ B, OwnE K C B
  kit : ∃ b1 b2 b3 b4 b5 b6 b7 b8 : Bool, PySem.W.kitOne K (.ref C) (.ref c.name) = some b1 ∧ PySem.W.kitOne K (.ref C) (.ref c.key) = some b2 ∧ PySem.W.kitOne K (.ref C) (.ref c.number) = some b3 ∧ PySem.W.kitOne K (.ref C) (.ref c.nothing) = some b4 ∧
    PySem.W.kitOne K (.ref C) (.ref c.quiet) = some b5 ∧ PySem.W.kitOne K (.ref C) (.ref c.twice) = some b6 ∧ PySem.W.kitOne K (.ref C) (.ref c.text) = some b7 ∧ PySem.W.kitOne K (.ref C) (.ref c.line) = some b8 ∧
    ([b1, b2, b3, b4, b5, b6, b7, b8].filter id).length = 1
def spSorts (K : PySem.W.Frag) (c : Cs) : Sp := fun vs H Q _ => ∃ (G : Hp) (C : Addr) (ns : List Str) (ds : List D) (v : V), vs = [v] ∧ Ex G H ∧ Dat G (.exc C ns ds) v ∧ Sort8 K c C ∧ ∀ H2, Ex H H2 → Q (.int 1) H2
section
variable {P : Program} {w : World} {K : PySem.W.Frag} {mg : Str → Option Value} {base : Heap} {f fT : Addr} {fd fdT : FuncData} {c : Cs}
theorem is_cls {C C2 : Addr} {ns : List Str} {ds : List D} {G : Hp} {σ : L2.St} {v : V} {i : Nat} {b : Bool} {B : String} (hv : σ[i]? = some (some v)) (hd : Dat G (.exc C ns ds) v) (T : OwnE K C B) (hk : PySem.W.kitOne K (.ref C) (.ref C2) = some b) :
    Ev W0 (tCB (rIsO K) (tCons (tVar i) (tCons (tC (.ref C2)) tNil))) σ G fun d => d = .bl b :=
  ev_isO (A := fun d => d = .exc C ns ds) (.own C2) (fun _ _ _ q => q) (ev_var way0 hv hd rfl) (one ⟨C, B, ns, ds, b, rfl, T, hk, rfl⟩)
theorem ok_sorts (F : Fun K "_law_sorts" "_law_sorts" sSorts f fd) (hisi : mg "isinstance" = none) (hlen : mg "len" = none) (T : TxC mg c) : FnOk P w K mg base CX0 1 f fd ["_law_error"] (spSorts K c) := by
  refine F.ok scSorts (fun vs H Q E h => ?_) (fun cdv A outer s H vs Q E hr h => ?_)
  · obtain ⟨G, C, ns, ds, v, rfl, _⟩ := h
    rfl
  · obtain ⟨G, C, ns, ds, v, rfl, ex, hd, ⟨⟨B, O⟩, b1, b2, b3, b4, b5, b6, b7, b8, k1, k2, k3, k4, k5, k6, k7, k8, cnt⟩, q⟩ := h
    refine ⟨_, pss_cons (ps_set (i := 1) scSorts.nd rfl (Or.inl rfl) (pe_lst (pa_cons (pe_callB call_isO (by rfl) hisi boot_isinstance (pa_cons (pv 0) (pa_cons (pe_glob (v := .ref c.name) (by rfl) T.name rfl) pa_nil)))
        (pa_cons (pe_callB call_isO (by rfl) hisi boot_isinstance (pa_cons (pv 0) (pa_cons (pe_glob (v := .ref c.key) (by rfl) T.key rfl) pa_nil)))
        (pa_cons (pe_callB call_isO (by rfl) hisi boot_isinstance (pa_cons (pv 0) (pa_cons (pe_glob (v := .ref c.number) (by rfl) T.number rfl) pa_nil))) pa_nil)))))
      (pss_cons (ps_expr (pe_bm PySem.F.plainAttrs_list PySem.F.slot_list_append PySem.F.type_list_append mt_append (pv 1) (pa_cons (pe_callB call_isO (by rfl) hisi boot_isinstance (pa_cons (pv 0) (pa_cons (pe_glob (v := .ref c.nothing) (by rfl) T.nothing rfl) pa_nil))) pa_nil)))
      (pss_cons (ps_set (i := 1) scSorts.nd rfl (Or.inl rfl) (pe_op op_cat (pv 1) (pe_lst (pa_cons (pe_callB call_isO (by rfl) hisi boot_isinstance (pa_cons (pv 0) (pa_cons (pe_glob (v := .ref c.quiet) (by rfl) T.quiet rfl) pa_nil)))
        (pa_cons (pe_callB call_isO (by rfl) hisi boot_isinstance (pa_cons (pv 0) (pa_cons (pe_glob (v := .ref c.twice) (by rfl) T.twice rfl) pa_nil)))
        (pa_cons (pe_callB call_isO (by rfl) hisi boot_isinstance (pa_cons (pv 0) (pa_cons (pe_glob (v := .ref c.text) (by rfl) T.text rfl) pa_nil))) pa_nil))))))
      (pss_cons (ps_expr (pe_bm PySem.F.plainAttrs_list PySem.F.slot_list_append PySem.F.type_list_append mt_append (pv 1) (pa_cons (pe_callB call_isO (by rfl) hisi boot_isinstance (pa_cons (pv 0) (pa_cons (pe_glob (v := .ref c.line) (by rfl) T.line rfl) pa_nil))) pa_nil)))
      (pss_one (ps_ret (pe_callB call_len_seq (by rfl) hlen PySem.boot_len (pa_cons
        (pe_lc (own := [("_law_own", 2)]) (g := gName 2) rfl scSorts.nd (pi_list (pv 1)) (blkOk_by (own := [("_law_own", 2)]) (N := ["_law_error", "_law_first", "_law_own"]) (sc := defScope sSorts) (by decide +kernel))
          (fun _ _ _ _ _ => pg_name (i := 2) scSorts.nd rfl (Or.inl rfl)) (fun _ _ _ _ _ => pts_one (pt_val (pv 2))) (fun _ _ _ _ _ => pv 2)) pa_nil))))))), ?_⟩
    refine q_setL (R := W0) (G := G) (B := fun ds => ds = [b1, b2, b3].map D.bl) (evs3 way0 (is_cls rfl hd O k1) (is_cls rfl hd O k2) (is_cls rfl hd O k3) (by rintro _ _ _ rfl rfl rfl; rfl)) ⟨ex, trivial⟩ (by rintro _ rfl; exact (by decide : 3 ≤ 100000)) fun p vs xs G1 H1 s1 hs ed hp => ?_
    subst ed
    have ev := dats_bl hs
    subst ev
    have a1 : Ex H H1 := fun a o => s1.keep a o id
    have n1 : H p = none := Evl.fresh_back a1 hp
    have a2 : Ex H (upd H1 p (.lst ([b1, b2, b3].map V.bl))) := a1.trans (Ex.new hp)
    -- the fourth
    refine q_app (G := G1) (P := fun d => d = .bl b4) rfl upd_same (Evl.fresh_back s1.ok.sub hp) (is_cls rfl (Dat.ex s1.up _ v hd) O k4) (ok_new s1.ok hp) (by show 3 < 100000; decide) fun u d G2 H2 s2 hu ed gp hp2 => ?_
    obtain rfl := isB hu ed
    have a3 : Ex H H2 := a2.trans fun a o => s2.keep a o id
    have ok3 : Ok W0 G2 (upd H2 p (.lst ([b1, b2, b3].map V.bl ++ [V.bl b4]))) := ok_mut s2.ok gp
    have ok3' := know ok3 upd_same
    have dl : Dat (upd G2 p (.lst ([b1, b2, b3].map V.bl ++ [V.bl b4]))) (.lst ([b1, b2, b3, b4].map D.bl)) (.ref p) := ⟨p, _, rfl, upd_same, dats_of_bl [b1, b2, b3, b4], by show 4 ≤ sizeLine; decide⟩
    have hd3 := Dat.ex (Ex.new (o := .lst ([b1, b2, b3].map V.bl ++ [V.bl b4])) gp) _ v (Dat.ex s2.up _ v (Dat.ex s1.up _ v hd))
    have a4 : Ex H (upd H2 p (.lst ([b1, b2, b3].map V.bl ++ [V.bl b4]))) := a3.mut n1
    -- three more
    refine q_setCat (G := upd G2 p (.lst ([b1, b2, b3].map V.bl ++ [V.bl b4]))) (xs := [b1, b2, b3, b4].map D.bl) (ys := [b5, b6, b7].map D.bl) (ev_var way0 rfl dl rfl) (evs3 way0 (is_cls rfl hd3 O k5) (is_cls rfl hd3 O k6) (is_cls rfl hd3 O k7) (by rintro _ _ _ rfl rfl rfl; rfl)) ok3' (by show 7 ≤ 100000; decide) fun m vs G4 H4 s4 hs hm => ?_
    have ev : vs = [b1, b2, b3, b4, b5, b6, b7].map V.bl := dats_bl hs
    subst ev
    have a5 : Ex H H4 := a4.trans fun a o => s4.keep a o id
    have n5 : H m = none := Evl.fresh_back a5 hm
    -- the last one
    refine q_app (G := G4) (P := fun d => d = .bl b8) rfl upd_same (Evl.fresh_back s4.ok.sub hm) (is_cls rfl (Dat.ex s4.up _ v hd3) O k8) (ok_new s4.ok hm) (by show 7 < 100000; decide) fun u d G5 H5 s5 hu ed gm hm5 => ?_
    obtain rfl := isB hu ed
    have a6 : Ex H H5 := (a5.trans (Ex.new hm)).trans fun a o => s5.keep a o id
    have ok6 := know (ok_mut (o := .lst ([b1, b2, b3, b4, b5, b6, b7].map V.bl ++ [V.bl b8])) s5.ok gm) upd_same
    have dm : Dat (upd G5 m (.lst ([b1, b2, b3, b4, b5, b6, b7].map V.bl ++ [V.bl b8]))) (.lst ([b1, b2, b3, b4, b5, b6, b7, b8].map D.bl)) (.ref m) := ⟨m, _, rfl, upd_same, dats_of_bl [b1, b2, b3, b4, b5, b6, b7, b8], by show 8 ≤ sizeLine; decide⟩
    have a7 : Ex H (upd H5 m (.lst ([b1, b2, b3, b4, b5, b6, b7].map V.bl ++ [V.bl b8]))) := a6.mut n5
    refine s_ret (R := W0) (G := upd G5 m (.lst ([b1, b2, b3, b4, b5, b6, b7].map V.bl ++ [V.bl b8]))) (P := fun d => d = .int 1) (ev_len (A := fun d => d = .lst (([b1, b2, b3, b4, b5, b6, b7, b8].map D.bl).filter trueB))
      (ev_lc way0 (B := fun xs => xs = [b1, b2, b3, b4, b5, b6, b7, b8].map D.bl) (ei_list way0 (ev_var way0 rfl dm ⟨_, rfl, rfl⟩)) (fun d r => r = d) trueB
        (one ⟨(by decide : 8 ≤ 80000), fun i x u G7 H7 hx e7 o7 hu Q' q' => ?_⟩) (fun items rs e pr => ?_)) (one ⟨1, ?_, rfl⟩)) ok6 fun v' d' G8 H8 s8 hd' e => ?_
    · obtain ⟨b, _, rfl⟩ := List.mem_map.mp (List.mem_of_getElem? hx)
      exact q' _ rfl (ev_isI (ev_var way0 rfl hu rfl)) fun _ => ev_var way0 rfl hu rfl
    · subst e
      have same : ∀ {xs rs : List D}, PySem.Paired (fun d r => r = d) xs rs → rs = xs := by
        intro xs rs h
        induction h with
        | nil => rfl
        | cons a r ih => rw [a, ih]
      rw [same pr]
    · show some _ = some _
      congr 1
      have key : ∀ bs : List Bool, ((bs.map D.bl).filter trueB).length = (bs.filter id).length := by
        intro bs
        induction bs with
        | nil => rfl
        | cons b r ih =>
          cases b with
          | true =>
            show (D.bl true :: (r.map D.bl).filter trueB).length = (true :: r.filter id).length
            rw [List.length_cons, List.length_cons, ih]
          | false => exact ih
      exact (key [b1, b2, b3, b4, b5, b6, b7, b8]).trans cnt
    · rw [isI hd' e]
      exact q H8 (a7.trans fun a o => s8.keep a o id)
end
end K06

set_option Elab.async false
set_option linter.all false
set_option maxRecDepth 100000
set_option maxHeartbeats 8000000
namespace L2.Um
open PySem PySem.Spec PyProof.Rows
open Evl (Ex)
theorem iv_neg {R : Wd} (W : Way R) {σ : L2.St} {G : Hp} {ta : TE} {n : Int} (ha : Iv R ta σ G n) : Iv R (tUn (rU fun i => .int (-i)) ta) σ G (-n) := fun G1 H1 a b Q q =>
  ha G1 H1 a b _ fun v d G2 H2 s hv e => ⟨n, isI hv e, q _ _ G2 H2 s datI rfl⟩
theorem evs4 {R : Wd} (W : Way R) {te tf tg th : TE} {σ : L2.St} {G : Hp} {a b c d : D} (h1 : Ev R te σ G fun x => x = a) (h2 : Ev R tf σ G fun x => x = b) (h3 : Ev R tg σ G fun x => x = c) (h4 : Ev R th σ G fun x => x = d) : Evs R (tCons te (tCons tf (tCons tg (tCons th tNil)))) σ G fun xs => xs = [a, b, c, d] :=
  evs_cons W (B := fun xs => xs = [b, c, d]) h1 (evs3 W h2 h3 h4 (by rintro _ _ _ rfl rfl rfl; rfl)) (by rintro _ _ rfl rfl; rfl)
theorem evs_more {R : Wd} (W : Way R) {te : TE} {tr : TA} {σ : L2.St} {G : Hp} {a : D} {as : List D} (h1 : Ev R te σ G fun x => x = a) (h2 : Evs R tr σ G fun xs => xs = as) : Evs R (tCons te tr) σ G fun xs => xs = a :: as :=
  evs_cons W h1 h2 (by rintro _ _ rfl rfl; rfl)
theorem evs_end {R : Wd} (W : Way R) {σ : L2.St} {G : Hp} : Evs R tNil σ G fun xs => xs = [] := evs_nil W rfl
theorem ev_lstD {R : Wd} (W : Way R) {ta : TA} {σ : L2.St} {G : Hp} {as : List D} (h : Evs R ta σ G fun xs => xs = as) (hl : as.length ≤ 100000) : Ev R (tLst ta) σ G fun d => d = .lst as := ev_lst W h (one hl) (one rfl)
theorem ev_tupD {R : Wd} (W : Way R) {ta : TA} {σ : L2.St} {G : Hp} {as : List D} (h : Evs R ta σ G fun xs => xs = as) (hl : as.length ≤ 100000) : Ev R (tTup ta) σ G fun d => d = .tup as := ev_tup W h (one hl) (one rfl)
theorem ev_catD {R : Wd} (W : Way R) {ta tb : TE} {σ : L2.St} {G : Hp} {xs ys : List D} (h1 : Ev R ta σ G fun d => d = .lst xs) (h2 : Ev R tb σ G fun d => d = .lst ys) (hl : xs.length + ys.length ≤ 100000) : Ev R (tOp rCat ta tb) σ G fun d => d = .lst (xs ++ ys) := ev_op W h1 h2 (two (rv_cat W hl rfl))
theorem ev_repD {R : Wd} (W : Way R) {ta tb : TE} {σ : L2.St} {G : Hp} {xs ys : List D} {k : Int} (h1 : Ev R ta σ G fun d => d = .lst xs) (h2 : Iv R tb σ G k) (a : -(2 ^ 63) ≤ k) (b : k < 2 ^ 63) (hl : xs.length * k.toNat ≤ 100000) (e : (List.replicate k.toNat xs).flatten = ys) : Ev R (tOp rRep ta tb) σ G fun d => d = .lst ys := ev_op W h1 h2 (two (rv_rep W a b hl (by rw [e])))
theorem ev_ixD {R : Wd} (W : Way R) {K : PySem.W.Frag} {ta tb : TE} {σ : L2.St} {G : Hp} {xs : List D} {k : Nat} {d : D} (h1 : Ev R ta σ G fun d => d = .lst xs) (h2 : Iv R tb σ G (k : Int)) (hx : xs[k]? = some d) : Ev R (tOp (rIxL K) ta tb) σ G fun x => x = d := ev_op W h1 h2 (two (rv_ixL W hx rfl))
theorem ev_mkD {R : Wd} (W : Way R) {σ : L2.St} {G : Hp} {C : Addr} {ns : List Str} {ok : List D → Prop} {f : List D → List D} {ta : TA} {xs ys : List D} (h : Evs R ta σ G fun ds => ds = xs) (hl : xs.length ≤ 1000) (ho : ok xs) (e : f xs = ys) : Ev R (tMk C (spErr C ns ok f) [] ta) σ G fun d => d = .exc C ns ys :=
  ev_mk W h (one ⟨hl, ho, by rw [e]⟩)
theorem ev_getD {R : Wd} {K : PySem.W.Frag} {σ : L2.St} {G : Hp} {te : TE} {n : Str} {C : Addr} {B : String} {ns : List Str} {ds : List D} {y : D} (h : Ev R te σ G fun d => d = .exc C ns ds) (T : OwnE K C B) (hno : PySem.W.findIn K (.ref C) n = some none) (hl : (ns.zip ds).lookup n = some y) : Ev R (tGet K n te) σ G fun d => d = y :=
  ev_get h (one ⟨C, B, ns, ds, y, rfl, T, hno, hl, rfl⟩)
end L2.Um
namespace K06
open PySem PySem.Spec PyProof.Rows L2 L2.Um
open Evl (Ex)
abbrev sHand : Stmt := top 18
abbrev nHand : List Str := ["_law_lost", "_law_bad", "_law_got", "_law_due", "_law_own"]
theorem scHand : FnScope nHand [] (defScope sHand) := ⟨rfl, rfl, rfl, by decide +kernel, rfl, by decide +kernel, by decide +kernel⟩
/-- an own class: its base, which of the eight it is -/
structure Cls1 (K : PySem.W.Frag) (c : Cs) (C : Addr) (B : String) (lo va : Bool) : Prop where
  own : OwnE K C B
  sort : Sort8 K c C
  look : PySem.W.kitOne K (.ref C) (.type "LookupError") = some lo
  val : PySem.W.kitOne K (.ref C) (.type "ValueError") = some va
  two : PySem.W.kitAny K (.ref C) [.type "KeyError", .type "IndexError"] = some false
structure EF (K : PySem.W.Frag) (c : Cs) : Prop where
  name : Cls1 K c c.name "LookupError" true false
  key : Cls1 K c c.key "LookupError" true false
  number : Cls1 K c c.number "LookupError" true false
  nothing : Cls1 K c c.nothing "LookupError" true false
  quiet : Cls1 K c c.quiet "ValueError" false true
  twice : Cls1 K c c.twice "ValueError" false true
  text : Cls1 K c c.text "ValueError" false true
  line : Cls1 K c c.line "ValueError" false true
  fName : PySem.W.findIn K (.ref c.name) "name" = some none
  fKey : PySem.W.findIn K (.ref c.key) "key" = some none
  fNumber : PySem.W.findIn K (.ref c.number) "number" = some none
  fOne : PySem.W.findIn K (.ref c.quiet) "one" = some none
  fOther : PySem.W.findIn K (.ref c.quiet) "other" = some none
  fTwice : PySem.W.findIn K (.ref c.twice) "key" = some none
  fLine : PySem.W.findIn K (.ref c.line) "number" = some none
/-- how an error is made: its __init__ -/
structure Mk1 (P : Program) (w : World) (K : PySem.W.Frag) (mg : Str → Option Value) (base : Heap) (C : Addr) (k : Nat) (ps : List Str) (sp : Sp) : Prop where
  ex : ∃ (fI : Addr) (fd : FuncData), PySem.W.findIn K (.ref C) "__init__" = some (some (.ref fI)) ∧ PySem.W.typeIn K (.ref fI) = some (.type "function") ∧ FnOk P w K mg base CX0 k fI fd ps sp ∧ Binds K fd ps []
structure Mks (P : Program) (w : World) (K : PySem.W.Frag) (mg : Str → Option Value) (base : Heap) (c : Cs) : Prop where
  name : Mk1 P w K mg base c.name 1 ["self", "name"] (spErr c.name ["name"] okOne id)
  key : Mk1 P w K mg base c.key 5 ["self", "key"] (spErr c.key ["key"] okPlain (List.map D.tupled))
  number : Mk1 P w K mg base c.number 1 ["self", "number"] (spErr c.number ["number"] okOne id)
  quiet : Mk1 P w K mg base c.quiet 5 ["self", "one", "other"] (spErr c.quiet ["other", "one"] okTwo backTup)
  twice : Mk1 P w K mg base c.twice 5 ["self", "key"] (spErr c.twice ["key"] okPlain (List.map D.tupled))
  line : Mk1 P w K mg base c.line 1 ["self", "number"] (spErr c.line ["number"] okOne id)
  nothing : PySem.W.excIn K c.nothing [.type "LookupError", .type "Exception", .type "BaseException", .type "object"] "LookupError.__new__" = true
  text : PySem.W.excIn K c.text [.type "ValueError", .type "Exception", .type "BaseException", .type "object"] "ValueError.__new__" = true
def lostD (c : Cs) : List D := [.exc c.name ["name"] [.str "q"], .exc c.key ["key"] [.tup [.int 1, .int 2]], .exc c.number ["number"] [.int (-1)], .exc c.nothing [] []]
def badD (c : Cs) : List D := [.exc c.quiet ["other", "one"] [.tup [.int 2, .int 1], .tup [.int 0, .int 1]], .exc c.twice ["key"] [.tup [.int 3]], .exc c.text [] [], .exc c.line ["number"] [.int 4]]
def fieldsD : List D := [.str "q", .tup [.int 1, .int 2], .int (-1), .tup [.int 0, .int 1], .tup [.int 2, .int 1], .tup [.int 3], .int 4]
def kindsD : List D := [.bl true, .bl true, .bl true, .bl true, .bl false, .bl false, .bl false, .bl false, .bl false, .bl false, .bl false, .bl false, .bl true, .bl true, .bl true, .bl true, .int 1, .int 1, .int 1, .int 1, .int 1, .int 1, .int 1, .int 1]
structure Good (K : PySem.W.Frag) (c : Cs) (x : D) (lo va : Bool) : Prop where
  ex : ∃ (C : Addr) (B : String) (ns : List Str) (ds : List D), x = .exc C ns ds ∧ Cls1 K c C B lo va
def spTrue : Sp := fun vs H Q _ => vs = [] ∧ ∀ H2, Ex H H2 → Q (.bl true) H2
structure TxH (mg : Str → Option Value) (fS fSo : Addr) : Prop where
  isi : mg "isinstance" = none
  look : mg "LookupError" = none
  val : mg "ValueError" = none
  keyE : mg "KeyError" = none
  ixE : mg "IndexError" = none
  same : mg "_law_same" = some (.ref fS)
  sorts : mg "_law_sorts" = some (.ref fSo)
theorem boot_look : bootBuiltins "LookupError" = some (.type "LookupError") := by decide +kernel
theorem boot_val : bootBuiltins "ValueError" = some (.type "ValueError") := by decide +kernel
theorem boot_keyE : bootBuiltins "KeyError" = some (.type "KeyError") := by decide +kernel
theorem boot_ixE : bootBuiltins "IndexError" = some (.type "IndexError") := by decide +kernel
theorem hr_mono {k j : Nat} {A : Around} (r : Room j A) (h : k ≤ j := by decide) : Room k A := r.mono h
section
variable {P : Program} {w : World} {K : PySem.W.Frag} {mg : Str → Option Value} {base : Heap} {f fS fSo : Addr} {fd fdS fdSo : FuncData} {c : Cs}
theorem goods (E : EF K c) : ∀ (i : Nat) (x : D), (lostD c ++ badD c)[i]? = some x → ∃ lo va, Good K c x lo va ∧ (lo = decide (i < 4)) ∧ (va = decide (4 ≤ i)) := by
  intro i x h
  match i, h with
  | 0, h => cases h; exact ⟨_, _, ⟨⟨_, _, _, _, rfl, E.name⟩⟩, rfl, rfl⟩
  | 1, h => cases h; exact ⟨_, _, ⟨⟨_, _, _, _, rfl, E.key⟩⟩, rfl, rfl⟩
  | 2, h => cases h; exact ⟨_, _, ⟨⟨_, _, _, _, rfl, E.number⟩⟩, rfl, rfl⟩
  | 3, h => cases h; exact ⟨_, _, ⟨⟨_, _, _, _, rfl, E.nothing⟩⟩, rfl, rfl⟩
  | 4, h => cases h; exact ⟨_, _, ⟨⟨_, _, _, _, rfl, E.quiet⟩⟩, rfl, rfl⟩
  | 5, h => cases h; exact ⟨_, _, ⟨⟨_, _, _, _, rfl, E.twice⟩⟩, rfl, rfl⟩
  | 6, h => cases h; exact ⟨_, _, ⟨⟨_, _, _, _, rfl, E.text⟩⟩, rfl, rfl⟩
  | 7, h => cases h; exact ⟨_, _, ⟨⟨_, _, _, _, rfl, E.line⟩⟩, rfl, rfl⟩
  | i + 8, h => simp [lostD, badD] at h
/-- a walk over the eight: what comes of each hangs on its place alone -/
theorem paired_ix {E : D → D → Prop} {g : Nat → D} : ∀ {xs rs : List D} (k : Nat), (∀ (i : Nat) (x r : D), xs[i]? = some x → E x r → r = g (k + i)) → PySem.Paired E xs rs → rs = (List.range' k xs.length).map g
  | _, _, _, _, .nil => rfl
  | x :: xs, r :: rs, k, h, .cons a t => by
    have h0 : r = g k := h 0 x r rfl a
    have ht := paired_ix (k + 1) (fun i y s hy e => by
      have q := h (i + 1) y s hy e
      rw [q]
      congr 1
      omega) t
    rw [List.length_cons, List.range'_succ, List.map_cons, ← ht, h0]
end
end K06

set_option Elab.async false
set_option linter.all false
set_option maxRecDepth 100000
set_option maxHeartbeats 8000000
namespace K06
open PySem PySem.Spec PyProof.Rows L2 L2.Um
open Evl (Ex)
section
variable {P : Program} {w : World} {K : PySem.W.Frag} {mg : Str → Option Value} {base : Heap} {f fS fSo : Addr} {fd fdS fdSo : FuncData} {c : Cs}
theorem good_inj {x : D} {lo va lo' va' : Bool} (h : Good K c x lo va) (h' : Good K c x lo' va') : lo = lo' ∧ va = va' := by
  obtain ⟨C, B, ns, ds, rfl, k⟩ := h.ex
  obtain ⟨C', B', ns', ds', e, k'⟩ := h'.ex
  cases e
  exact ⟨Option.some.inj (k.look.symm.trans k'.look), Option.some.inj (k.val.symm.trans k'.val)⟩
theorem set_at {σ : L2.St} {i : Nat} {x : Option V} {v : V} (h : σ[i]? = some x) : (σ.set i (some v))[i]? = some (some v) := by
  have hl := (List.getElem?_eq_some_iff.mp h).1
  rw [List.getElem?_set_self hl]
theorem call_same {n : Nat} {d : D} {G : Hp} (hp : d.plain = true) (hn : d.deep ≤ n) : Sv W0 (spSame n) [d, d] G (fun r => r = .bl true) := fun G1 H1 _ b us h Q E q => by
  obtain ⟨v, u, rfl, hv, hu⟩ := dats2 h
  exact ⟨G1, d, v, u, rfl, b.sub, hv, hu, hp, hn, fun G2 H2 s => q _ _ G2 H2 s datB rfl⟩
theorem call_sorts {C : Addr} {ns : List Str} {ds : List D} {G : Hp} (h : Sort8 K c C) : Sv W0 (spSorts K c) [.exc C ns ds] G (fun r => r = .int 1) := fun G1 H1 _ b us h' Q E q => by
  obtain ⟨v, rfl, hv⟩ := dats1 h'
  exact ⟨G1, C, ns, ds, v, rfl, b.sub, hv, h, fun H2 e => q _ _ G1 H2 (step_ex b e) datI rfl⟩
theorem all8 {E : D → D → Prop} {xs rs : List D} (g : Nat → D) (h8 : xs.length = 8) (h : ∀ (i : Nat) (x r : D), xs[i]? = some x → E x r → r = g i) (p : PySem.Paired E (xs.filter fun _ => true) rs) : rs = (List.range' 0 8).map g := by
  rw [show xs.filter (fun _ => true) = xs from List.filter_eq_self.mpr fun _ _ => rfl] at p
  rw [← h8]
  exact paired_ix 0 (fun i x r hx e => by rw [Nat.zero_add]; exact h i x r hx e) p
theorem ok_hand (F : Fun K "_law_hand_right" "_law_hand_right" sHand f fd) (T : TxH mg fS fSo) (TC : TxC mg c) (EK : EF K c) (M : Mks P w K mg base c)
    (kS : PySem.W.keepIn K (.ref fS) = true) (bS : Binds K fdS ["_law_got", "_law_due"] []) (GS : FnOk P w K mg base CX0 3 fS fdS ["_law_got", "_law_due"] (spSame 2))
    (kSo : PySem.W.keepIn K (.ref fSo) = true) (bSo : Binds K fdSo ["_law_error"] []) (GSo : FnOk P w K mg base CX0 1 fSo fdSo ["_law_error"] (spSorts K c)) :
    FnOk P w K mg base CX0 7 f fd [] spTrue := by
  obtain ⟨f1, d1, i1, t1, F1, b1⟩ := M.name.ex
  obtain ⟨f2, d2, i2, t2, F2, b2⟩ := M.key.ex
  obtain ⟨f3, d3, i3, t3, F3, b3⟩ := M.number.ex
  obtain ⟨f5, d5, i5, t5, F5, b5⟩ := M.quiet.ex
  obtain ⟨f6, d6, i6, t6, F6, b6⟩ := M.twice.ex
  obtain ⟨f8, d8, i8, t8, F8, b8⟩ := M.line.ex
  refine F.ok scHand (fun vs H Q E h => ?_) (fun cdv A outer s H vs Q E hr h => ?_)
  · obtain ⟨rfl, _⟩ := h
    rfl
  · obtain ⟨rfl, q⟩ := h
    refine ⟨_, pss_cons (ps_set (i := 0) scHand.nd rfl (Or.inl rfl) (pe_lst
        (pa_cons (pe_mk EK.name.own i1 t1 F1 (hr.mono (by decide)) b1 .nil pass0 (by rfl) TC.name (pa_cons pe_str pa_nil))
        (pa_cons (pe_mk EK.key.own i2 t2 F2 (hr.mono (by decide)) b2 .nil pass0 (by rfl) TC.key (pa_cons (pe_tup (pa_cons pe_int (pa_cons pe_int pa_nil))) pa_nil))
        (pa_cons (pe_mk EK.number.own i3 t3 F3 (hr.mono (by decide)) b3 .nil pass0 (by rfl) TC.number (pa_cons (pe_un un_neg pe_int) pa_nil))
        (pa_cons (pe_mk0 PySem.F.excBase_LookupError M.nothing EK.nothing.own.kC (by rfl) TC.nothing) pa_nil))))))
      (pss_cons (ps_set (i := 1) scHand.nd rfl (Or.inl rfl) (pe_lst
        (pa_cons (pe_mk EK.quiet.own i5 t5 F5 (hr.mono (by decide)) b5 .nil pass0 (by rfl) TC.quiet (pa_cons (pe_tup (pa_cons pe_int (pa_cons pe_int pa_nil))) (pa_cons (pe_tup (pa_cons pe_int (pa_cons pe_int pa_nil))) pa_nil)))
        (pa_cons (pe_mk EK.twice.own i6 t6 F6 (hr.mono (by decide)) b6 .nil pass0 (by rfl) TC.twice (pa_cons (pe_tup (pa_cons pe_int pa_nil)) pa_nil))
        (pa_cons (pe_mk0 PySem.F.excBase_ValueError M.text EK.text.own.kC (by rfl) TC.text)
        (pa_cons (pe_mk EK.line.own i8 t8 F8 (hr.mono (by decide)) b8 .nil pass0 (by rfl) TC.line (pa_cons pe_int pa_nil)) pa_nil))))))
      (pss_cons (ps_set (i := 2) scHand.nd rfl (Or.inl rfl) (pe_lst
        (pa_cons (pe_get (pe_ix ix_list (pv 0) pe_int (fun _ _ => rfl))) (pa_cons (pe_get (pe_ix ix_list (pv 0) pe_int (fun _ _ => rfl))) (pa_cons (pe_get (pe_ix ix_list (pv 0) pe_int (fun _ _ => rfl)))
        (pa_cons (pe_get (pe_ix ix_list (pv 1) pe_int (fun _ _ => rfl))) (pa_cons (pe_get (pe_ix ix_list (pv 1) pe_int (fun _ _ => rfl))) (pa_cons (pe_get (pe_ix ix_list (pv 1) pe_int (fun _ _ => rfl))) (pa_cons (pe_get (pe_ix ix_list (pv 1) pe_int (fun _ _ => rfl))) pa_nil)))))))))
      (pss_cons (ps_set (i := 3) scHand.nd rfl (Or.inl rfl) (pe_lst
        (pa_cons pe_str (pa_cons (pe_tup (pa_cons pe_int (pa_cons pe_int pa_nil))) (pa_cons (pe_un un_neg pe_int) (pa_cons (pe_tup (pa_cons pe_int (pa_cons pe_int pa_nil))) (pa_cons (pe_tup (pa_cons pe_int (pa_cons pe_int pa_nil))) (pa_cons (pe_tup (pa_cons pe_int pa_nil)) (pa_cons pe_int pa_nil)))))))))
      (pss_cons (ps_set (i := 2) scHand.nd rfl (Or.inl rfl) (pe_op op_cat (pv 2)
        (pe_lc (own := [("_law_own", 4)]) (g := gName 4) (tt := tYes) rfl scHand.nd (pi_list (pe_op op_cat (pv 0) (pv 1))) (blkOk_by (own := [("_law_own", 4)]) (N := nHand) (sc := defScope sHand) (by decide +kernel))
          (fun _ _ _ _ _ => pg_name (i := 4) scHand.nd rfl (Or.inl rfl)) (fun _ _ _ _ _ => pts_nil)
          (fun _ _ _ _ _ => pe_and (pe_callB (r := rIsO K) call_isO (by rfl) T.isi boot_isinstance (pa_cons (pv 4) (pa_cons (pe_ty (by rfl) T.look boot_look) pa_nil)))
            (pe_one (pe_not (pe_callB (r := rIsOT K) call_isOT (by rfl) T.isi boot_isinstance (pa_cons (pv 4) (pa_cons (pe_tup (pa_cons (pe_ty (by rfl) T.keyE boot_keyE) (pa_cons (pe_ty (by rfl) T.ixE boot_ixE) pa_nil))) pa_nil)))))))))
      (pss_cons (ps_set (i := 2) scHand.nd rfl (Or.inl rfl) (pe_op op_cat (pe_op op_cat (pv 2)
        (pe_lc (own := [("_law_own", 4)]) (g := gName 4) (tt := tYes) rfl scHand.nd (pi_list (pe_op op_cat (pv 0) (pv 1))) (blkOk_by (own := [("_law_own", 4)]) (N := nHand) (sc := defScope sHand) (by decide +kernel))
          (fun _ _ _ _ _ => pg_name (i := 4) scHand.nd rfl (Or.inl rfl)) (fun _ _ _ _ _ => pts_nil)
          (fun _ _ _ _ _ => pe_callB (r := rIsO K) call_isO (by rfl) T.isi boot_isinstance (pa_cons (pv 4) (pa_cons (pe_ty (by rfl) T.val boot_val) pa_nil)))))
        (pe_lc (own := [("_law_own", 4)]) (g := gName 4) (tt := tYes) rfl scHand.nd (pi_list (pe_op op_cat (pv 0) (pv 1))) (blkOk_by (own := [("_law_own", 4)]) (N := nHand) (sc := defScope sHand) (by decide +kernel))
          (fun _ _ _ _ _ => pg_name (i := 4) scHand.nd rfl (Or.inl rfl)) (fun _ _ _ _ _ => pts_nil)
          (fun _ _ _ _ _ => pe_call GSo (hr_mono hr) (by rfl) T.sorts kSo bSo .nil pass0 (pa_cons (pv 4) pa_nil)))))
      (pss_one (ps_ret (pe_call GS (hr.mono (by decide)) (by rfl) T.same kS bS .nil pass0 (pa_cons (pv 2) (pa_cons
        (pe_op op_cat (pe_op op_cat (pe_op op_cat (pe_op op_cat (pv 3) (pe_op op_rep (pe_lst (pa_cons pe_bl pa_nil)) pe_int)) (pe_op op_rep (pe_lst (pa_cons pe_bl pa_nil)) pe_int)) (pe_op op_rep (pe_lst (pa_cons pe_bl pa_nil)) pe_int)) (pe_op op_rep (pe_lst (pa_cons pe_int pa_nil)) pe_int)) pa_nil)))))))))), ?_⟩
    have i1' : ∀ {G : Hp} {σ : L2.St} {n : Int}, L2.Um.Ev W0 (tC (.int n)) σ G fun d => d = .int n := iv_c way0
    -- lost
    refine q_set (R := W0) (G := H) (P := fun d => d = .lst (lostD c)) (ev_lstD way0 (evs4 way0 (ev_mkD way0 (evs_more way0 (ev_str way0 rfl) (evs_end way0)) (by decide) ⟨_, rfl⟩ rfl)
      (ev_mkD way0 (evs_more way0 (ev_tupD way0 (evs_more way0 i1' (evs_more way0 i1' (evs_end way0))) (by decide)) (evs_end way0)) (by decide) ⟨_, rfl, rfl, by decide⟩ rfl)
      (ev_mkD way0 (evs_more way0 (iv_neg way0 i1') (evs_end way0)) (by decide) ⟨_, rfl⟩ rfl) (ev_mk0 way0 rfl)) (by show 4 ≤ 100000; decide)) ⟨Ex.refl H, trivial⟩ fun v1 e1 G1 H1 s1 hv1 ed => ?_
    subst ed
    -- bad
    refine q_set (R := W0) (G := G1) (P := fun d => d = .lst (badD c)) (ev_lstD way0 (evs4 way0
      (ev_mkD way0 (evs_more way0 (ev_tupD way0 (evs_more way0 i1' (evs_more way0 i1' (evs_end way0))) (by decide)) (evs_more way0 (ev_tupD way0 (evs_more way0 i1' (evs_more way0 i1' (evs_end way0))) (by decide)) (evs_end way0))) (by decide) ⟨_, _, rfl, rfl, by decide, rfl, by decide⟩ rfl)
      (ev_mkD way0 (evs_more way0 (ev_tupD way0 (evs_more way0 i1' (evs_end way0)) (by decide)) (evs_end way0)) (by decide) ⟨_, rfl, rfl, by decide⟩ rfl) (ev_mk0 way0 rfl)
      (ev_mkD way0 (evs_more way0 i1' (evs_end way0)) (by decide) ⟨_, rfl⟩ rfl)) (by show 4 ≤ 100000; decide)) s1.ok fun v2 e2 G2 H2 s2 hv2 ed => ?_
    subst ed
    have hv12 := Dat.ex s2.up _ v1 hv1
    have a1 : Ex H H1 := fun a o => s1.keep a o id
    have a2 : Ex H H2 := a1.trans fun a o => s2.keep a o id
    -- their fields
    refine q_set (R := W0) (G := G2) (P := fun d => d = .lst fieldsD) (ev_lstD way0
      (evs_more way0 (ev_getD (ev_ixD way0 (k := 0) (ev_var way0 rfl hv12 rfl) i1' rfl) EK.name.own EK.fName rfl)
      (evs_more way0 (ev_getD (ev_ixD way0 (k := 1) (ev_var way0 rfl hv12 rfl) i1' rfl) EK.key.own EK.fKey rfl)
      (evs_more way0 (ev_getD (ev_ixD way0 (k := 2) (ev_var way0 rfl hv12 rfl) i1' rfl) EK.number.own EK.fNumber rfl)
      (evs_more way0 (ev_getD (ev_ixD way0 (k := 0) (ev_var way0 rfl hv2 rfl) i1' rfl) EK.quiet.own EK.fOne rfl)
      (evs_more way0 (ev_getD (ev_ixD way0 (k := 0) (ev_var way0 rfl hv2 rfl) i1' rfl) EK.quiet.own EK.fOther rfl)
      (evs_more way0 (ev_getD (ev_ixD way0 (k := 1) (ev_var way0 rfl hv2 rfl) i1' rfl) EK.twice.own EK.fTwice rfl)
      (evs_more way0 (ev_getD (ev_ixD way0 (k := 3) (ev_var way0 rfl hv2 rfl) i1' rfl) EK.line.own EK.fLine rfl) (evs_end way0)))))))) (by show 7 ≤ 100000; decide)) s2.ok fun v3 e3 G3 H3 s3 hv3 ed => ?_
    subst ed
    -- what is due
    refine q_set (R := W0) (G := G3) (P := fun d => d = .lst fieldsD) (ev_lstD way0
      (evs_more way0 (ev_str way0 rfl) (evs_more way0 (ev_tupD way0 (evs_more way0 i1' (evs_more way0 i1' (evs_end way0))) (by decide)) (evs_more way0 (iv_neg way0 i1')
      (evs_more way0 (ev_tupD way0 (evs_more way0 i1' (evs_more way0 i1' (evs_end way0))) (by decide)) (evs_more way0 (ev_tupD way0 (evs_more way0 i1' (evs_more way0 i1' (evs_end way0))) (by decide))
      (evs_more way0 (ev_tupD way0 (evs_more way0 i1' (evs_end way0)) (by decide)) (evs_more way0 i1' (evs_end way0)))))))) (by show 7 ≤ 100000; decide)) s3.ok fun v4 e4 G4 H4 s4 hv4 ed => ?_
    subst ed
    have up24 := s3.up.trans s4.up
    have eight : (lostD c ++ badD c).length = 8 := rfl
    have both : ∀ {G : Hp} {σ : L2.St} (_ : σ[0]? = some (some v1)) (_ : σ[1]? = some (some v2)) (_ : Dat G (.lst (lostD c)) v1) (_ : Dat G (.lst (badD c)) v2), EvI W0 (iList K (tOp rCat (tVar 0) (tVar 1))) σ G fun xs => xs = lostD c ++ badD c := fun h0 h1 g0 g1 =>
      ei_list way0 ((ev_catD way0 (ev_var way0 h0 g0 rfl) (ev_var way0 h1 g1 rfl) (by show 8 ≤ 100000; decide)).imp (one ⟨_, rfl, rfl⟩))
    -- under LookupError, under neither of its two
    have looks : ∀ {G : Hp} {σ : L2.St} (_ : σ[0]? = some (some v1)) (_ : σ[1]? = some (some v2)) (_ : Dat G (.lst (lostD c)) v1) (_ : Dat G (.lst (badD c)) v2) (_ : (wipe σ [4])[4]? = some none),
        L2.Um.Ev W0 (tLc (iList K (tOp rCat (tVar 0) (tVar 1))) (gName 4) tYes (tAndV (tCB (rIsO K) (tCons (tVar 4) (tCons (tC (.ty "LookupError")) tNil))) (tNotV (tCB (rIsOT K) (tCons (tVar 4) (tCons (tTup (tCons (tC (.ty "KeyError")) (tCons (tC (.ty "IndexError")) tNil))) tNil))))) [4]) σ G fun d => d = .lst ((List.range' 0 8).map fun i => .bl (decide (i < 4))) := fun {G σ} h0 h1 g0 g1 h4 => by
      refine ev_lc way0 (both h0 h1 g0 g1) (fun x r => ∃ lo va, Good K c x lo va ∧ r = .bl lo) (fun _ => true) (one ⟨by rw [eight]; decide, fun i x u G5 H5 hx e5 o5 hu Q' q' => ?_⟩) (fun items rs e pr => ?_)
      · obtain ⟨lo, va, gd, hlo, hva⟩ := goods EK i x hx
        obtain ⟨C, B, ns, ds, rfl, cl⟩ := gd.ex
        have hs : ((wipe σ [4]).set 4 (some u))[4]? = some (some u) := set_at h4
        refine q' _ (by show (((wipe σ []).set 4 none).set 4 (some u)).set 4 none = _; rw [List.set_set, List.set_set]; rfl) (et_yes way0 rfl) fun _ => ?_
        refine ev_andV way0 (B := fun b => b = lo) (C := fun b => b = true) (ev_isO (A := fun d => d = .exc C ns ds) (.ty "LookupError") (fun _ _ _ q => q) (ev_var way0 hs hu rfl) (one ⟨C, B, ns, ds, lo, rfl, cl.own, cl.look, _, rfl, rfl⟩))
          (fun _ => ev_notV (B := fun b => b = false) (ev_isO2 way0 (A := fun d => d = .exc C ns ds) (ev_var way0 hs hu rfl) (one ⟨C, B, ns, ds, false, rfl, cl.own, cl.two, _, rfl, rfl⟩)) (fun b e => ⟨_, rfl, by rw [e]; rfl⟩)) (fun e => ⟨lo, va, gd, by rw [e]⟩) (fun b e e' => ⟨lo, va, gd, by rw [← e, e']⟩)
      · subst e
        rw [all8 (fun i => .bl (decide (i < 4))) eight (fun i x r hx ⟨lo, va, gd, er⟩ => by
          obtain ⟨lo', va', gd', hlo, _⟩ := goods EK i x hx
          rw [er, (good_inj gd gd').1, hlo]) pr]
    have vals : ∀ {G : Hp} {σ : L2.St} (_ : σ[0]? = some (some v1)) (_ : σ[1]? = some (some v2)) (_ : Dat G (.lst (lostD c)) v1) (_ : Dat G (.lst (badD c)) v2) (_ : (wipe σ [4])[4]? = some none),
        L2.Um.Ev W0 (tLc (iList K (tOp rCat (tVar 0) (tVar 1))) (gName 4) tYes (tCB (rIsO K) (tCons (tVar 4) (tCons (tC (.ty "ValueError")) tNil))) [4]) σ G fun d => d = .lst ((List.range' 0 8).map fun i => .bl (decide (4 ≤ i))) := fun {G σ} h0 h1 g0 g1 h4 => by
      refine ev_lc way0 (both h0 h1 g0 g1) (fun x r => ∃ lo va, Good K c x lo va ∧ r = .bl va) (fun _ => true) (one ⟨by rw [eight]; decide, fun i x u G5 H5 hx e5 o5 hu Q' q' => ?_⟩) (fun items rs e pr => ?_)
      · obtain ⟨lo, va, gd, hlo, hva⟩ := goods EK i x hx
        obtain ⟨C, B, ns, ds, rfl, cl⟩ := gd.ex
        have hs : ((wipe σ [4]).set 4 (some u))[4]? = some (some u) := set_at h4
        refine q' _ (by show (((wipe σ []).set 4 none).set 4 (some u)).set 4 none = _; rw [List.set_set, List.set_set]; rfl) (et_yes way0 rfl) fun _ => ?_
        exact ev_isO (A := fun d => d = .exc C ns ds) (.ty "ValueError") (fun _ _ _ q => q) (ev_var way0 hs hu rfl) (one ⟨C, B, ns, ds, va, rfl, cl.own, cl.val, lo, va, gd, rfl⟩)
      · subst e
        rw [all8 (fun i => .bl (decide (4 ≤ i))) eight (fun i x r hx ⟨lo, va, gd, er⟩ => by
          obtain ⟨lo', va', gd', _, hva⟩ := goods EK i x hx
          rw [er, (good_inj gd gd').2, hva]) pr]
    have ones : ∀ {G : Hp} {σ : L2.St} {E : XK} (_ : σ[0]? = some (some v1)) (_ : σ[1]? = some (some v2)) (_ : Dat G (.lst (lostD c)) v1) (_ : Dat G (.lst (badD c)) v2) (_ : (wipe σ [4])[4]? = some none),
        L2.Um.Ev W0 (tLc (iList K (tOp rCat (tVar 0) (tVar 1))) (gName 4) tYes (tCall (spSorts K c) [] E (tCons (tVar 4) tNil)) [4]) σ G fun d => d = .lst ((List.range' 0 8).map fun _ => .int 1) := fun {G σ E} h0 h1 g0 g1 h4 => by
      refine ev_lc way0 (both h0 h1 g0 g1) (fun x r => r = .int 1) (fun _ => true) (one ⟨by rw [eight]; decide, fun i x u G5 H5 hx e5 o5 hu Q' q' => ?_⟩) (fun items rs e pr => ?_)
      · obtain ⟨lo, va, gd, hlo, hva⟩ := goods EK i x hx
        obtain ⟨C, B, ns, ds, rfl, cl⟩ := gd.ex
        have hs : ((wipe σ [4]).set 4 (some u))[4]? = some (some u) := set_at h4
        refine q' _ (by show (((wipe σ []).set 4 none).set 4 (some u)).set 4 none = _; rw [List.set_set, List.set_set]; rfl) (et_yes way0 rfl) fun _ => ?_
        exact ev_call way0 (B := fun xs => xs = [.exc C ns ds]) (evs1 way0 (A := fun y => y = .exc C ns ds) (ev_var way0 hs hu rfl) (one rfl)) (one (call_sorts cl.sort))
      · subst e
        rw [all8 (fun _ => .int 1) eight (fun i x r hx er => er) pr]
    have w1 : ∀ {G'} (e : Ex G4 G'), Dat G' (.lst (lostD c)) v1 := fun e => Dat.ex (up24.trans e) _ v1 hv12
    have w2 : ∀ {G'} (e : Ex G4 G'), Dat G' (.lst (badD c)) v2 := fun e => Dat.ex (up24.trans e) _ v2 hv2
    refine q_set (R := W0) (G := G4) (P := fun d => d = .lst (fieldsD ++ (List.range' 0 8).map fun i => .bl (decide (i < 4)))) (ev_catD way0 (ev_var way0 rfl (Dat.ex s4.up _ v3 hv3) rfl) (looks rfl rfl (w1 (Ex.refl _)) (w2 (Ex.refl _)) rfl) (by show 15 ≤ 100000; decide)) s4.ok fun v5 e5 G5 H5 s5 hv5 ed => ?_
    subst ed
    refine q_set (R := W0) (G := G5) (P := fun d => d = .lst (fieldsD ++ kindsD)) ((ev_catD way0 (ev_catD way0 (ev_var way0 rfl hv5 rfl) (vals rfl rfl (w1 s5.up) (w2 s5.up) rfl) (by show 23 ≤ 100000; decide)) (ones rfl rfl (w1 s5.up) (w2 s5.up) rfl) (by show 31 ≤ 100000; decide)).imp (one rfl)) s5.ok fun v6 e6 G6 H6 s6 hv6 ed => ?_
    subst ed
    refine s_ret (R := W0) (G := G6) (P := fun d => d = .bl true) (ev_call way0 (B := fun xs => xs = [.lst (fieldsD ++ kindsD), .lst (fieldsD ++ kindsD)]) (evs2 way0 (A := fun d => d = .lst (fieldsD ++ kindsD)) (B := fun d => d = .lst (fieldsD ++ kindsD)) (ev_var way0 rfl hv6 rfl)
      ((ev_catD way0 (ev_catD way0 (ev_catD way0 (ev_catD way0 (ev_var way0 rfl (Dat.ex (s5.up.trans s6.up) _ v4 hv4) rfl)
        (ev_repD way0 (ev_lstD way0 (evs_more way0 (ev_bl way0 rfl) (evs_end way0)) (by decide)) i1' (by decide) (by decide) (by decide) rfl) (by show 11 ≤ 100000; decide))
        (ev_repD way0 (ev_lstD way0 (evs_more way0 (ev_bl way0 rfl) (evs_end way0)) (by decide)) i1' (by decide) (by decide) (by decide) rfl) (by show 19 ≤ 100000; decide))
        (ev_repD way0 (ev_lstD way0 (evs_more way0 (ev_bl way0 rfl) (evs_end way0)) (by decide)) i1' (by decide) (by decide) (by decide) rfl) (by show 23 ≤ 100000; decide))
        (ev_repD way0 (ev_lstD way0 (evs_more way0 i1' (evs_end way0)) (by decide)) i1' (by decide) (by decide) (by decide) rfl) (by show 31 ≤ 100000; decide)).imp (one rfl)) (two rfl)) (one (call_same (by decide) (by decide)))) s6.ok fun v7 e7 G7 H7 s7 hv7 ed => ?_
    rw [isB hv7 ed]
    exact q H7 (((((a2.trans fun a o => s3.keep a o id).trans fun a o => s4.keep a o id).trans fun a o => s5.keep a o id).trans fun a o => s6.keep a o id).trans fun a o => s7.keep a o id)
end
end K06

set_option Elab.async false
set_option linter.all false
set_option maxRecDepth 100000
set_option maxHeartbeats 4000000
/-! An own error made by keywords alone. -/
namespace PySem
namespace UmKw
open Builtin Builtin.ObjectAttr
section
variable {M : Model} {A : Around} {E : Value → Shared → Prop} {h : Heap} {g : Array GenState} {d : Drawn} {t : Nat} {os : OsState}
variable {nm q : Str} {C N : Addr} {bs bm bmB : List Value} {hdct : Bool} {sn : List Str} {sub : List Value} {ab : Bool} {col : Option Bool} {dd : Option Addr} {k0 k1 k2 k3 k5 : Option Value} {B newId initId : String}
theorem chk_kw (F : ExcBaseFacts B newId initId bmB) (hT : ∀ X : String, bm.contains (.type X) = bmB.contains (.type X)) {kw : List (Str × Value)} {Q : Unit → Shared → Prop}
    (hC : h.get? C = some (excClassObj nm q C N bs bm hdct sn sub ab col dd k0 k1 k2 k3 k5 newId)) (hq : Q () ⟨h, g, d, t, os⟩) : wpAny M A (checkBuiltinCall newId ⟨[.ref C], kw⟩) Q E ⟨h, g, d, t, os⟩ := by
  have e1 : (Value.ref C :: bm).contains (.type B) = true := by rw [List.contains_cons, hT, F.hasB, Bool.or_true]
  have e2 := F.noStar
  simp only [checkBuiltinCall, F.newKind, F.newSplit, F.newRow]
  repeat (first | refine wpAny_loadPart_at hC ?_ | (refine wpAny_isSubtype_exc hC ?_; rw [e1]) | refine wpAny_staticBase_exc hC ?_ | refine wpAny_madeBy_exc hC ?_ | simp only [bne_self_eq_false, Bool.false_eq_true, if_false] | wp_step)
  exact hq
end
section
variable {prog : Program} {w : World} {A : Around} {E : Value → Shared → Prop} {R : Result → Shared → Prop} {h : Heap} {g : Array GenState} {d : Drawn} {t : Nat} {os : OsState}
variable {nm q : Str} {C N : Addr} {bs bm bmB : List Value} {hdct : Bool} {sn : List Str} {sub : List Value} {ab : Bool} {col : Option Bool} {dd : Option Addr} {k0 k1 k2 k3 k5 : Option Value} {B newId initId : String}
theorem new_kw (F : ExcBaseFacts B newId initId bmB) (hT : ∀ X : String, bm.contains (.type X) = bmB.contains (.type X)) {kw : List (Str × Value)}
    (hC : h.get? C = some (excClassObj nm q C N bs bm hdct sn sub ab col dd k0 k1 k2 k3 k5 newId))
    (hq : R (.ok (.ret (.ref (h.objs.size + 1)))) ⟨(h.push { cls := .type "tuple", data := .seq #[] }).push { cls := .ref C, data := .fields #[.ref h.objs.size, .none, .none, .none, .bool false, .none] }, g, d, t, os⟩) :
    codeAny (model prog w) A (.builtin newId ⟨[.ref C], kw⟩) R ⟨h, g, d, t, os⟩ := by
  have e0 := F.ends
  have e1 : (Value.ref C :: bm).contains (.type B) = true := by rw [List.contains_cons, hT, F.hasB, Bool.or_true]
  have e2 : (Value.ref C :: bm).contains (.type "AttributeError") = false := by rw [List.contains_cons, hT, F.noAttr]; rfl
  have e3 : (Value.ref C :: bm).contains (.type "NameError") = false := by rw [List.contains_cons, hT, F.noName]; rfl
  refine codeAny_builtinAt F.entry ?_
  unfold Builtin.«BaseException.__new__»
  refine wpAt_bind ?_
  show wpAt _ _ _ (stack >>= _) _ _ _
  refine wpAt_bind (wpAt_stack fun p below => wpAt_of_wpAny ?_)
  wp_walk
  refine wpAt_of_wpAny ?_
  rw [F.owner]
  repeat (first | with_reducible refine wpAny_madeHere_exc F.canon hC ?_ | with_reducible refine wpAny_loadPart_at hC ?_ | (with_reducible refine wpAny_isSubtype_exc hC ?_; first | rw [e1] | rw [e2] | rw [e3]) | wp_step)
  show R _ _
  rw [Heap.size_push]
  exact hq
theorem type_kw (F : ExcBaseFacts B newId initId bmB) (hT : ∀ X : String, bm.contains (.type X) = bmB.contains (.type X)) {kw : List (Str × Value)} {fI : Addr} {Q : Fin → Shared → Prop}
    (hC : h.get? C = some (excClassObj nm q C N bs bm hdct sn sub ab col dd k0 k1 k2 k3 k5 newId))
    (hi : W.Looks (model prog w) h (typeLookup (.ref C) "__init__") (some (.ref fI))) (hb : ∀ self, W.Looks (model prog w) h (bindSpecial (.ref fI) self) (.ref fI, [self]))
    (hq : codeAny (model prog w) A (.call (.ref fI) ⟨[.ref (h.objs.size + 1)], kw⟩)
      (fun r s' => match r with | .ok (.ret v) => v = .none ∧ Q (.done (.ret (.ref (h.objs.size + 1)))) s' | .ok _ => False | .error e => E e s')
      ⟨(h.push (W.kdv_tup [])).push (HandSPX.excO C h.objs.size), g, d, t, os⟩) :
    wpAny (model prog w) A (Builtin.«type.__call__» ⟨[.ref C], kw⟩) Q E ⟨h, g, d, t, os⟩ := by
  repeat (first | with_reducible refine wpAny_loadPart_at hC ?_ | with_reducible refine wpAny_madeBy_exc hC ?_ | wp_step)
  refine codeAny_call_builtin_code (Code.quiet_builtin _ F.quiet) (chk_kw F hT hC ?_)
  refine new_kw F hT hC ?_
  show wpAny _ _ _ _ _ _
  have k : ∀ b o, h.get? b = some o → ((h.push (W.kdv_tup [])).push (HandSPX.excO C h.objs.size)).get? b = some o := fun b o e => Heap.get?_push_of_some _ (Heap.get?_push_of_some _ e)
  have hC2 := k _ _ hC
  have hget : ((h.push (W.kdv_tup [])).push (HandSPX.excO C h.objs.size)).get? (h.objs.size + 1) = some (HandSPX.excO C h.objs.size) := by heap_get
  have hcC : (Value.ref C :: bm).contains (.ref C) = true := by simp
  have i1 := hi.keeps k
  have b1 := (hb (.ref (h.objs.size + 1))).keeps k
  unfold isInstance
  repeat (first | with_reducible refine wpAny_loadPart_at hget ?_ | (with_reducible refine wpAny_isSubtype_exc hC2 ?_; rw [hcC]) | wp_step)
  show wpAny _ _ (typeLookup (.ref C) _) _ _ _
  refine i1.at ?_
  refine wpAny_holding (wpAny_bind (b1.at ?_))
  refine wpAny_bind (wpAny_call (codeAny_mono hq fun r s' z => ?_))
  rcases r with e | (v | _ | _ | _) <;> first | exact z | exact z.elim | skip
  obtain ⟨rfl, z⟩ := z
  first
    | exact wpAny_pure (wpAny_pure z)
    | (wp_walk; exact z)
theorem call_kw (F : ExcBaseFacts B newId initId bmB) (hT : ∀ X : String, bm.contains (.type X) = bmB.contains (.type X)) {kw : List (Str × Value)} {fI : Addr}
    (hC : h.get? C = some (excClassObj nm q C N bs bm hdct sn sub ab col dd k0 k1 k2 k3 k5 newId))
    (hi : W.Looks (model prog w) h (typeLookup (.ref C) "__init__") (some (.ref fI))) (hb : ∀ self, W.Looks (model prog w) h (bindSpecial (.ref fI) self) (.ref fI, [self]))
    (hq : codeAny (model prog w) (A.under (.builtin "type.__call__" ⟨[.ref C], kw⟩)) (.call (.ref fI) ⟨[.ref (h.objs.size + 1)], kw⟩) (W.InitBack (h.objs.size + 1) R)
      ⟨(h.push (W.kdv_tup [])).push (HandSPX.excO C h.objs.size), g, d, t, os⟩) :
    codeAny (model prog w) A (.call (.ref C) ⟨[], kw⟩) R ⟨h, g, d, t, os⟩ := by
  have f1 := tc_lookup
  have f2 := tc_bind (.ref C)
  have hTy : (⟨h, g, d, t, os⟩ : Shared).TypeIs (.ref C) "type" := ⟨_, hC, rfl⟩
  refine codeAny_of_tree ?_
  show wpAny _ _ (callAny (.ref C) _) _ _ _
  repeat (any_goals (first | assumption | with_reducible refine wpAny_loadPart_at hC ?_ | wp_step))
  refine ⟨rfl, ?_⟩
  refine codeAny_call_builtin_at (Code.quiet_builtin _ (by decide +kernel)) entry_typeCall (wpAny_check_type_call_sub hC (type_kw F hT hC hi hb ?_))
  refine codeAny_mono hq fun r s' z => ?_
  rcases r with e | (v | _ | _ | _) <;> exact z
end
end UmKw
end PySem
namespace L2.Um
open PySem PySem.Spec PyProof.Rows
open Evl (Ex)
/-- C(k = v, ..) -/
def tMkK (C : Addr) (m : Nat) (sp : Sp) (gV : List V → List V → List V) (tk : TA) : TE := fun σ H Q => tk σ H fun zs H2 => zs.length = m ∧ ∀ a, H2 a = none → sp (gV [.ref a] zs) (upd H2 a (exo a C none)) (fun v H3 => v = .non ∧ Q (.ref a) H3) (fun _ _ _ => False)
section
variable {X : Cx} {CX : CXT} {k : Nat} {C fI : Addr} {B : String} {fd : FuncData} {ps ks : List Str} {sp : Sp} {x : Str} {p pos : Pos} {kws : List Keyword} {tk : TA} {g : List Value → List Value → List Value} {gV : List V → List V → List V}
theorem pe_mkK (T : OwnE X.K C B) (iC : PySem.W.findIn X.K (.ref C) "__init__" = some (some (.ref fI))) (tI : PySem.W.typeIn X.K (.ref fI) = some (.type "function")) (F1 : FnOk X.prog X.w X.K X.mg X.base CX k fI fd ps sp) (hr : Room (k + 1) X.A)
    (hb : KBn X.K fd ps 1 ks g gV) (hx : Passes CX X (fun _ _ _ => False)) (hg : Gl X x) (hm : X.mg x = some (.ref C)) (hkw : PK X kws tk)
    (hall : (backToKw pos (keywordEach kws X.env)).all (·.1.isSome) = true := by rfl) (hks : (backToKw pos (keywordEach kws X.env)).filterMap (·.1) = ks := by rfl) (hdb : (x == ("__debug__" : Str)) = false := by decide)
    (hpl : ((backTo pos (starEach [] X.env)).any (·.1) || (backToKw pos (keywordEach kws X.env)).any (·.1.isNone)) = false := by rfl) :
    PE X (.Call (.Name x p) [] kws pos) (tMkK C ks.length sp gV tk) := by
  refine ⟨fun pins s σ H Q I h => ?_⟩
  refine wpAny_Call_Name_kw (ld_glob I hg hm ?_ hdb)
  refine PySem.W.callWith_KW0 (h₀ := X.base) I.ok.mod.kin T.kC hall ?_ hpl
  refine thn (hkw.run pos pins s σ H _ I h) fun ws s2 ⟨zs, H1, I1, rz, l2, q1⟩ => ⟨I1.kIn, ?_⟩
  rw [hks]
  show wpAny _ _ (call (.ref C) [] (ks.zip ws)) _ _ _
  obtain ⟨nid, iid, tl, F, SF, w1, w2⟩ := T.base
  obtain ⟨nm, N, qn, bs, bm, hdct, sn, sub, ab, col, dd, k0, k1, k2, k3, k5, hC, hT⟩ := PySem.W.excInit_of I1.kIn w1
  obtain ⟨hp, gg, dr, tk, os⟩ := s2
  have hsz : hp.objs.size ≤ hp.objs.size + 1 := Nat.le_succ _
  have hn : H1 (hp.objs.size + 1) = none := I1.hok.fresh hsz
  have hq := q1 (hp.objs.size + 1) hn
  have kk : ∀ b o, hp.get? b = some o → ((hp.push (PySem.W.kdv_tup [])).push (PySem.HandSPX.excO C hp.objs.size)).get? b = some o := fun b o e => Heap.get?_push_of_some _ (Heap.get?_push_of_some _ e)
  have hget : ((hp.push (PySem.W.kdv_tup [])).push (PySem.HandSPX.excO C hp.objs.size)).get? (hp.objs.size + 1) = some (PySem.HandSPX.excO C hp.objs.size) := by heap_get
  have I2 : Inv X pins σ (upd H1 (hp.objs.size + 1) (exo (hp.objs.size + 1) C none)) ⟨(hp.push (PySem.W.kdv_tup [])).push (PySem.HandSPX.excO C hp.objs.size), gg, dr, tk, os⟩ :=
    I1.laid (t' := tk) (a := hp.objs.size + 1) (o := exo (hp.objs.size + 1) C none) (h' := (hp.push (PySem.W.kdv_tup [])).push (PySem.HandSPX.excO C hp.objs.size)) kk hsz (exo_ok hget)
  have r1 : Vals [V.ref (hp.objs.size + 1)] [Value.ref (hp.objs.size + 1)] := .cons rfl .nil
  have r2 := hb.rel r1 rz
  refine wpAny_call (PySem.UmKw.call_kw F hT hC (PySem.W.looks_findIn I1.kIn iC) (fun self => PySem.W.bind_fn I1.kIn self tI)
    (codeAny_mono (F1.run _ X.stack _ _ ⟨[Value.ref (hp.objs.size + 1)], ks.zip ws⟩ (g [Value.ref (hp.objs.size + 1)] ws) _ _ (fun _ _ _ => False) (hr.make C [] (ks.zip ws)) (I2.env0.make C [] (ks.zip ws)) (hb.to _ [Value.ref (hp.objs.size + 1)] ws I2.kIn rfl (rz.length.symm.trans l2)) r2 hq) fun r s' hq' => ?_))
  cases r with
  | error er => exact hx pins σ _ _ er s' I2 hq'
  | ok fl =>
    cases fl with
    | ret u =>
      obtain ⟨v, H', I3, rv, ev, q3⟩ := I2.after hq'
      subst ev
      exact ⟨rv, ⟨V.ref (hp.objs.size + 1), H', I3, rfl, q3⟩⟩
    | next => exact False.elim hq'
    | brk => exact False.elim hq'
    | cont => exact False.elim hq'
end
/-- the keywords' values, put into the parameters' order by gV -/
theorem ev_mkKD {R : Wd} (W : Way R) {σ : L2.St} {G : Hp} {C : Addr} {ns : List Str} {ok : List D → Prop} {f : List D → List D} {tk : TA} {m : Nat} {gV : List V → List V → List V} {zs xs ys : List D} (h : Evs R tk σ G fun ds => ds = zs) (hm : zs.length = m)
    (hg : ∀ (G : Hp) (a : Addr) (us : List V), Dats G zs us → ∃ vs, gV [.ref a] us = .ref a :: vs ∧ Dats G xs vs) (ho : ok xs) (e : f xs = ys) : Ev R (tMkK C m (spErr C ns ok f) gV tk) σ G fun d => d = .exc C ns ys := fun G1 H1 a b Q q =>
  h G1 H1 a b _ fun us ds G2 H2 s hs ed => by
    subst ed
    refine ⟨by rw [← Dats.length hs]; exact hm, fun l hl => ?_⟩
    obtain ⟨vs, e1, e2⟩ := hg G2 l us hs
    rw [e1]
    exact ⟨G2, H2, l, vs, xs, rfl, rfl, hl, s.ok.sub, e2, ho, fun G3 H3 s3 hd => ⟨rfl, q _ _ G3 H3 (s.trans W (s3.of0 W s.ok.inv)) (by rw [e] at hd; exact hd) rfl⟩⟩
end L2.Um

set_option Elab.async false
set_option linter.all false
set_option maxRecDepth 100000
set_option maxHeartbeats 8000000
namespace K06
open PySem PySem.Spec PyProof.Rows L2 L2.Um
open Evl (Ex)
abbrev sRight : Stmt := top 19
abbrev sLaw : Stmt := top 20
abbrev nRight : List Str := ["_law_box_here", "_law_turn", "_law_much", "_law_tag", "_law_tooth", "_law_got"]
abbrev nLaw : List Str := ["_law_script", "_law_cells_here", "_law_k"]
theorem scRight : FnScope nRight ["_law_box_here"] (defScope sRight) := ⟨rfl, rfl, rfl, by decide +kernel, rfl, by decide +kernel, by decide +kernel⟩
theorem scLaw : FnScope nLaw ["_law_script"] (defScope sLaw) := ⟨rfl, rfl, rfl, by decide +kernel, rfl, by decide +kernel, by decide +kernel⟩
def gQ {α : Type} : List α → List α → List α
  | vs, [o, n] => vs ++ [n, o]
  | vs, _ => vs
def spRight : Sp := fun vs H Q _ => ∃ b : Addr, vs = [.ref b] ∧ BoxIs b 0 H ∧ ∀ H', Keep b H H' → Q (.bl true) H'
structure MkQ (P : Program) (w : World) (K : PySem.W.Frag) (mg : Str → Option Value) (base : Heap) (c : Cs) : Prop where
  ex : ∃ (fI : Addr) (fd : FuncData), PySem.W.findIn K (.ref c.quiet) "__init__" = some (some (.ref fI)) ∧ PySem.W.typeIn K (.ref fI) = some (.type "function") ∧ FnOk P w K mg base CX0 5 fI fd ["self", "one", "other"] (spErr c.quiet ["other", "one"] okTwo backTup) ∧
    KBn K fd ["self", "one", "other"] 1 ["other", "one"] gQ gQ
structure TxR (mg : Str → Option Value) (fT fO fS : Addr) : Prop where
  range : mg "range" = none
  take : mg "_law_take" = some (.ref fT)
  of : mg "_law_of" = some (.ref fO)
  same : mg "_law_same" = some (.ref fS)
section
variable {P : Program} {w : World} {K : PySem.W.Frag} {mg : Str → Option Value} {base : Heap} {f fT fO fS : Addr} {fd fdT fdO fdS : FuncData} {c : Cs}
theorem ok_right (F : Fun K "_law_right" "_law_right" sRight f fd) (T : TxR mg fT fO fS) (TC : TxC mg c) (EK : EF K c) (M : Mks P w K mg base c) (MQ : MkQ P w K mg base c)
    (kT : PySem.W.keepIn K (.ref fT) = true) (bT : Binds K fdT ["_law_box_here", "_law_top_so"] []) (GT : FnOk P w K mg base CX0 1 fT fdT ["_law_box_here", "_law_top_so"] spTake)
    (kO : PySem.W.keepIn K (.ref fO) = true) (bO : Binds K fdO ["_law_box_here", "_law_some"] []) (GO : FnOk P w K mg base CX0 2 fO fdO ["_law_box_here", "_law_some"] spOf)
    (kS : PySem.W.keepIn K (.ref fS) = true) (bS : Binds K fdS ["_law_got", "_law_due"] []) (GS : FnOk P w K mg base CX0 3 fS fdS ["_law_got", "_law_due"] (spSame 2)) :
    FnOk P w K mg base CX0 7 f fd ["_law_box_here"] spRight := by
  obtain ⟨f1, d1, i1, t1, F1, b1⟩ := M.name.ex
  obtain ⟨f2, d2, i2, t2, F2, b2⟩ := M.key.ex
  obtain ⟨f3, d3, i3, t3, F3, b3⟩ := M.number.ex
  obtain ⟨f5, d5, i5, t5, F5, b5⟩ := M.quiet.ex
  obtain ⟨f7, d7, i7, t7, F7, b7⟩ := MQ.ex
  obtain ⟨f6, d6, i6, t6, F6, b6⟩ := M.twice.ex
  obtain ⟨f8, d8, i8, t8, F8, b8⟩ := M.line.ex
  refine F.ok scRight (fun vs H Q E h => ?_) (fun cdv A outer s H vs Q E hr h => ?_)
  · obtain ⟨b, rfl, _⟩ := h
    rfl
  · obtain ⟨b, rfl, hb, q⟩ := h
    refine ⟨_, pss_cons (ps_for PassesOwn.never rfl (pi_range1 (by rfl) T.range (pa_cons pe_int pa_nil)) (pg_name (i := 1) scRight.nd rfl (Or.inl rfl))
        (pss_cons (ps_par (i := 2) (j := 3) (by rfl) scRight.nd rfl rfl (by decide) rfl rfl
          (pa_cons (pe_op op_sub (pe_call GT (hr_mono hr) (by rfl) T.take kT bT .nil pass0 (pa_cons (pv 0) (pa_cons (pe_op op_pow pe_int pe_int) pa_nil))) pe_int)
          (pa_cons (pe_call GO (hr.mono (by decide)) (by rfl) T.of kO bO .nil pass0 (pa_cons (pv 0) (pa_cons (pe_lst (pa_cons pe_str (pa_cons pe_str pa_nil))) pa_nil))) pa_nil)) (by rfl))
        (pss_cons (ps_set (i := 4) scRight.nd rfl (Or.inl rfl) (pe_tup (pa_cons (pe_call GT (hr_mono hr) (by rfl) T.take kT bT .nil pass0 (pa_cons (pv 0) (pa_cons pe_int pa_nil))) (pa_cons (pe_call GT (hr_mono hr) (by rfl) T.take kT bT .nil pass0 (pa_cons (pv 0) (pa_cons pe_int pa_nil))) pa_nil))))
        (pss_cons (ps_set (i := 5) scRight.nd rfl (Or.inl rfl) (pe_lst
          (pa_cons (pe_get (pe_mk EK.name.own i1 t1 F1 (hr.mono (by decide)) b1 .nil pass0 (by rfl) TC.name (pa_cons (pv 3) pa_nil)))
          (pa_cons (pe_get (pe_mk EK.key.own i2 t2 F2 (hr.mono (by decide)) b2 .nil pass0 (by rfl) TC.key (pa_cons (pv 4) pa_nil)))
          (pa_cons (pe_get (pe_mk EK.number.own i3 t3 F3 (hr.mono (by decide)) b3 .nil pass0 (by rfl) TC.number (pa_cons (pv 2) pa_nil)))
          (pa_cons (pe_get (pe_mk EK.line.own i8 t8 F8 (hr.mono (by decide)) b8 .nil pass0 (by rfl) TC.line (pa_cons (pv 2) pa_nil)))
          (pa_cons (pe_get (pe_mk EK.twice.own i6 t6 F6 (hr.mono (by decide)) b6 .nil pass0 (by rfl) TC.twice (pa_cons (pv 4) pa_nil))) pa_nil)))))))
        (pss_cons (ps_set (i := 5) scRight.nd rfl (Or.inl rfl) (pe_op op_cat (pv 5) (pe_lst
          (pa_cons (pe_get (pe_mk EK.quiet.own i5 t5 F5 (hr.mono (by decide)) b5 .nil pass0 (by rfl) TC.quiet (pa_cons (pv 4) (pa_cons (pe_tup (pa_cons (pv 2) pa_nil)) pa_nil))))
          (pa_cons (pe_get (pe_mk EK.quiet.own i5 t5 F5 (hr.mono (by decide)) b5 .nil pass0 (by rfl) TC.quiet (pa_cons (pe_tup (pa_cons (pv 2) pa_nil)) (pa_cons (pv 4) pa_nil)))) pa_nil)))))
        (pss_cons (ps_expr (pe_bm PySem.F.plainAttrs_list PySem.F.slot_list_append PySem.F.type_list_append mt_append (pv 5) (pa_cons
          (pe_get (pe_mkK EK.quiet.own i7 t7 F7 (hr.mono (by decide)) b7 pass0 (by rfl) TC.quiet (pk_cons (pv 4) (pk_cons (pe_tup pa_nil) pk_nil)))) pa_nil)))
        (pss_one (ps_if (pt_not (pt_val (pe_call GS (hr.mono (by decide)) (by rfl) T.same kS bS .nil pass0 (pa_cons (pv 5) (pa_cons (pe_lst
          (pa_cons (pv 3) (pa_cons (pv 4) (pa_cons (pv 2) (pa_cons (pv 2) (pa_cons (pv 4) (pa_cons (pv 4) (pa_cons (pv 4) (pa_cons (pv 4) pa_nil))))))))) pa_nil))))) pss_never pss_nil))))))))
      (pss_one (ps_ret pe_bl)), ?_⟩
    refine ⟨12, rfl, by decide, by decide, for_range (lo := 0) (n := 12) (fun i σ H' => ∃ v1 v2 v3 v4 v5, σ = [some (.ref b), v1, v2, v3, v4, v5] ∧ BoxIs b (4 * i) H' ∧ Keep b H H') ⟨none, none, none, none, none, rfl, hb.up (by omega), Keep.refl b H⟩ ?_ (fun σ H' ⟨_, _, _, _, _, _, _, kp⟩ => q H' kp)⟩
    rintro i σ Ha hi ⟨v1, v2, v3, v4, v5, rfl, hbx, hkp⟩
    have i1' : ∀ {G : Hp} {σ : L2.St} {n : Int}, L2.Um.Ev W0 (tC (.int n)) σ G fun d => d = .int n := iv_c way0
    -- four draws
    refine ⟨_, rfl, _, _, rfl, rfl, ⟨by decide, by decide, by decide⟩, b, _, _, rfl, hbx, by omega, by decide, by decide, fun r1 H1 r10 r11 k1 b1' => ?_⟩
    refine ⟨_, _, rfl, rfl, _, rfl, by show 2 ≤ sizeLine; decide, fun p hp => ?_⟩
    have nbp : p ≠ b := fun z => by
      obtain ⟨_, _, _, e, _⟩ := b1'
      rw [z, e] at hp
      cases hp
    refine ⟨b, p, _, _, rfl, b1'.ex (Ex.new hp), by omega, upd_same, nbp, (by simp), by show 2 ≤ 100000; decide, fun j x H2 hx k2 b2' => ?_⟩
    obtain ⟨tag, rfl⟩ : ∃ z : Str, x = V.str z := by
      match j, hx with
      | 0, h => cases h; exact ⟨_, rfl⟩
      | 1, h => cases h; exact ⟨_, rfl⟩
      | j + 2, h => simp at h
    refine ⟨_, _, rfl, ?_⟩
    have kA : Keep b H H2 := ((hkp.trans k1).trans (Keep.ex (Ex.new hp))).trans k2
    refine ⟨_, rfl, b, 20, _, rfl, b2', by omega, by decide, by decide, fun r3 H3 r30 r31 k3 b3' => ?_⟩
    refine ⟨_, rfl, b, 20, _, rfl, b3', by omega, by decide, by decide, fun r4 H4 r40 r41 k4 b4' => ?_⟩
    refine ⟨by show 2 ≤ sizeLine; decide, fun t ht => ?_⟩
    have kB : Keep b H (upd H4 t (.tup [V.int r3, V.int r4])) := ((kA.trans k3).trans k4).trans (Keep.ex (Ex.new ht))
    have bB : BoxIs b (4 * (i : Int) + 4) (upd H4 t (.tup [V.int r3, V.int r4])) := (b4'.ex (Ex.new ht)).up (by omega)
    -- what is known from now on
    have exB : Ex (upd (fun _ => none) t (.tup [V.int r3, V.int r4])) (upd H4 t (.tup [V.int r3, V.int r4])) := by
      intro a o e
      by_cases z : a = t
      · subst z
        rw [upd_same] at e ⊢
        exact e
      · rw [upd_ne z] at e
        cases e
    have okB : Ok W0 (upd (fun _ => none) t (.tup [V.int r3, V.int r4])) (upd H4 t (.tup [V.int r3, V.int r4])) := ⟨exB, trivial⟩
    have dT : Dat (upd (fun _ => none) t (.tup [V.int r3, V.int r4])) (.tup [.int r3, .int r4]) (.ref t) := ⟨t, _, rfl, upd_same, ⟨_, _, rfl, rfl, _, _, rfl, rfl, rfl⟩, by show 2 ≤ sizeLine; decide⟩
    have plT : (D.tup [.int r3, .int r4]).plain = true := rfl
    have dpT : (D.tup [.int r3, .int r4]).deep ≤ 3 := by show 1 ≤ 3; decide
    have plM : (D.tup [.int (r1 - 5)]).plain = true := rfl
    have dpM : (D.tup [.int (r1 - 5)]).deep ≤ 3 := by show 1 ≤ 3; decide
    -- their fields
    refine q_set (R := W0) (G := upd (fun _ => none) t (.tup [V.int r3, V.int r4])) (P := fun d => d = .lst [.str tag, .tup [.int r3, .int r4], .int (r1 - 5), .int (r1 - 5), .tup [.int r3, .int r4]]) (ev_lstD way0
      (evs_more way0 (ev_getD (ev_mkD way0 (evs_more way0 (ev_var way0 (d := .str tag) rfl rfl rfl) (evs_end way0)) (Nat.le_of_ble_eq_true rfl) ⟨_, rfl⟩ rfl) EK.name.own EK.fName rfl)
      (evs_more way0 (ev_getD (ev_mkD way0 (evs_more way0 (ev_var way0 rfl dT rfl) (evs_end way0)) (Nat.le_of_ble_eq_true rfl) ⟨_, rfl, plT, dpT⟩ rfl) EK.key.own EK.fKey rfl)
      (evs_more way0 (ev_getD (ev_mkD way0 (evs_more way0 (iv_var way0 (n := r1 - 5) rfl) (evs_end way0)) (Nat.le_of_ble_eq_true rfl) ⟨_, rfl⟩ rfl) EK.number.own EK.fNumber rfl)
      (evs_more way0 (ev_getD (ev_mkD way0 (evs_more way0 (iv_var way0 (n := r1 - 5) rfl) (evs_end way0)) (Nat.le_of_ble_eq_true rfl) ⟨_, rfl⟩ rfl) EK.line.own EK.fLine rfl)
      (evs_more way0 (ev_getD (ev_mkD way0 (evs_more way0 (ev_var way0 rfl dT rfl) (evs_end way0)) (Nat.le_of_ble_eq_true rfl) ⟨_, rfl, plT, dpT⟩ rfl) EK.twice.own EK.fTwice rfl) (evs_end way0)))))) (by show 5 ≤ 100000; decide)) okB fun v5 d5 G5 H5 s5 hv5 ed => ?_
    subst ed
    have e5 : Ex (upd H4 t (.tup [V.int r3, V.int r4])) H5 := fun a o => s5.keep a o id
    have dT5 := Dat.ex s5.up _ _ dT
    refine q_setCat (G := G5) (xs := [.str tag, .tup [.int r3, .int r4], .int (r1 - 5), .int (r1 - 5), .tup [.int r3, .int r4]]) (ys := [.tup [.int r3, .int r4], .tup [.int r3, .int r4]]) (ev_var way0 rfl hv5 rfl)
      (evs_more way0 (ev_getD (ev_mkD way0 (evs_more way0 (ev_var way0 rfl dT5 rfl) (evs_more way0 (ev_tupD way0 (evs_more way0 (iv_var way0 (n := r1 - 5) rfl) (evs_end way0)) (Nat.le_of_ble_eq_true rfl)) (evs_end way0))) (Nat.le_of_ble_eq_true rfl) ⟨_, _, rfl, plT, dpT, plM, dpM⟩ rfl) EK.quiet.own EK.fOne rfl)
      (evs_more way0 (ev_getD (ev_mkD way0 (evs_more way0 (ev_tupD way0 (evs_more way0 (iv_var way0 (n := r1 - 5) rfl) (evs_end way0)) (Nat.le_of_ble_eq_true rfl)) (evs_more way0 (ev_var way0 rfl dT5 rfl) (evs_end way0))) (Nat.le_of_ble_eq_true rfl) ⟨_, _, rfl, plM, dpM, plT, dpT⟩ rfl) EK.quiet.own EK.fOther rfl) (evs_end way0))) s5.ok (by show 7 ≤ 100000; decide) fun m vs G6 H6 s6 hs6 hm => ?_
    have e6 : Ex (upd H4 t (.tup [V.int r3, V.int r4])) H6 := e5.trans fun a o => s6.keep a o id
    have dT6 := Dat.ex s6.up _ _ dT5
    have lv : vs.length = 7 := (Dats.length hs6).symm
    refine q_app (G := G6) (P := fun d => d = .tup [.int r3, .int r4]) rfl upd_same (Evl.fresh_back s6.ok.sub hm)
      (ev_getD (ev_mkKD way0 (zs := [.tup [.int r3, .int r4], .tup []]) (xs := [.tup [], .tup [.int r3, .int r4]]) (evs_more way0 (ev_var way0 rfl dT6 rfl) (evs_more way0 (ev_tupD way0 (evs_end way0) (Nat.le_of_ble_eq_true rfl)) (evs_end way0))) rfl
        (fun G a us h => by obtain ⟨v, u, rfl, hv, hu⟩ := dats2 h; exact ⟨[u, v], rfl, u, [v], rfl, hu, v, [], rfl, hv, rfl⟩) ⟨_, _, rfl, rfl, (by show 1 ≤ 3; decide), plT, dpT⟩ rfl) EK.quiet.own EK.fOther rfl) (ok_new s6.ok hm) (by omega) fun u d G7 H7 s7 hu ed gm hm7 => ?_
    subst ed
    have e7 : Ex (upd H4 t (.tup [V.int r3, V.int r4])) H7 := (e6.trans (Ex.new hm)).trans fun a o => s7.keep a o id
    have nm : (upd H4 t (.tup [V.int r3, V.int r4])) m = none := Evl.fresh_back e6 hm
    have e8 : Ex (upd H4 t (.tup [V.int r3, V.int r4])) (upd H7 m (.lst (vs ++ [u]))) := e7.mut nm
    have ok8 : Ok W0 (upd G7 m (.lst (vs ++ [u]))) (upd H7 m (.lst (vs ++ [u]))) := know (ok_mut s7.ok gm) upd_same
    have up8 : Ex G7 (upd G7 m (.lst (vs ++ [u]))) := Ex.new gm
    have dL : Dat (upd G7 m (.lst (vs ++ [u]))) (.lst [.str tag, .tup [.int r3, .int r4], .int (r1 - 5), .int (r1 - 5), .tup [.int r3, .int r4], .tup [.int r3, .int r4], .tup [.int r3, .int r4], .tup [.int r3, .int r4]]) (.ref m) :=
      ⟨m, _, rfl, upd_same, Dats.snoc (Dats.ex (s7.up.trans up8) _ _ hs6) (Dat.ex up8 _ _ hu), by rw [List.length_append, lv]; show 8 ≤ sizeLine; decide⟩
    have dT8 := Dat.ex (s7.up.trans up8) _ _ dT6
    refine s_if (R := W0) (B := fun b => b = false) (et_not (B := fun b => b = true) (ev_isI (ev_call way0 (B := fun xs => xs = [.lst [.str tag, .tup [.int r3, .int r4], .int (r1 - 5), .int (r1 - 5), .tup [.int r3, .int r4], .tup [.int r3, .int r4], .tup [.int r3, .int r4], .tup [.int r3, .int r4]], .lst [.str tag, .tup [.int r3, .int r4], .int (r1 - 5), .int (r1 - 5), .tup [.int r3, .int r4], .tup [.int r3, .int r4], .tup [.int r3, .int r4], .tup [.int r3, .int r4]]])
      (evs_more way0 (ev_var way0 rfl dL rfl) (evs_more way0 (ev_lstD way0 (evs_more way0 (ev_var way0 (d := .str tag) rfl rfl rfl) (evs_more way0 (ev_var way0 rfl dT8 rfl) (evs_more way0 (iv_var way0 (n := r1 - 5) rfl) (evs_more way0 (iv_var way0 (n := r1 - 5) rfl)
        (evs_more way0 (ev_var way0 rfl dT8 rfl) (evs_more way0 (ev_var way0 rfl dT8 rfl) (evs_more way0 (ev_var way0 rfl dT8 rfl) (evs_more way0 (ev_var way0 rfl dT8 rfl) (evs_end way0))))))))) (by show 8 ≤ 100000; decide)) (evs_end way0))) (one (call_same rfl (by show 2 ≤ 2; decide))))) (fun b e => by rw [e]; rfl)) ok8 (fun z => by cases z) fun _ G9 H9 s9 => ?_
    have e9 : Ex (upd H4 t (.tup [V.int r3, V.int r4])) H9 := e8.trans fun a o => s9.keep a o id
    exact ⟨_, _, _, _, _, rfl, (bB.ex e9).up (by omega), kB.trans (Keep.ex e9)⟩
end
end K06

set_option Elab.async false
set_option linter.all false
set_option maxRecDepth 100000
set_option maxHeartbeats 8000000
namespace K06
open PySem PySem.Spec PyProof.Rows L2 L2.Um
open Evl (Ex)
def spLaw (K : PySem.W.Frag) : Sp := fun vs H Q _ => ∃ (a : Addr) (ns : List Int), vs = [.ref a] ∧ SqL K H a (ns.map V.int) ∧ ns.length ≤ 63 ∧ ∀ H', Q (.bl true) H'
theorem ite_f {A B : Prop} (h : B) : if (!true) = true then A else B := h
theorem if_true_goal {A B : Prop} (h : A) : (if true = true then A else B) := h
structure TxL (mg : Str → Option Value) (fH fC fR fB : Addr) : Prop where
  hand : mg "_law_hand_right" = some (.ref fH)
  cells : mg "_law_cells" = some (.ref fC)
  right : mg "_law_right" = some (.ref fR)
  box : mg "_law_box" = some (.ref fB)
  all : mg "all" = none
  len : mg "len" = none
  range : mg "range" = none
section
variable {P : Program} {w : World} {K : PySem.W.Frag} {mg : Str → Option Value} {base : Heap} {f fH fC fR fB : Addr} {fd fdH fdC fdR fdB : FuncData}
theorem ok_law (F : Fun K "law" "law" sLaw f fd) (T : TxL mg fH fC fR fB)
    (kH : PySem.W.keepIn K (.ref fH) = true) (bH : Binds K fdH [] []) (GH : FnOk P w K mg base CX0 7 fH fdH [] spTrue)
    (kC : PySem.W.keepIn K (.ref fC) = true) (bC : Binds K fdC ["_law_script", "_law_most"] []) (GC : FnOk P w K mg base CX0 1 fC fdC ["_law_script", "_law_most"] (spCells K))
    (kR : PySem.W.keepIn K (.ref fR) = true) (bR : Binds K fdR ["_law_box_here"] []) (GR : FnOk P w K mg base CX0 7 fR fdR ["_law_box_here"] spRight)
    (kB : PySem.W.keepIn K (.ref fB) = true) (bB : Binds K fdB ["_law_script", "_law_k"] []) (GB : FnOk P w K mg base CX0 1 fB fdB ["_law_script", "_law_k"] spBox) :
    FnOk P w K mg base CX0 8 f fd ["_law_script"] (spLaw K) := by
  refine F.ok scLaw (fun vs H Q E h => ?_) (fun cdv A outer s H vs Q E hr h => ?_)
  · obtain ⟨a, ns, rfl, _⟩ := h
    rfl
  · obtain ⟨a, ns, rfl, hS, hl, q⟩ := h
    refine ⟨_, pss_cons (ps_if (pt_not (pt_val (pe_call0 GH hr (by rfl) T.hand kH bH .nil pass0))) pss_never pss_nil)
      (pss_cons (ps_set (i := 1) scLaw.nd rfl (Or.inr rfl) (pe_call GC (hr_mono hr) (by rfl) T.cells kC bC .nil pass0 (pa_cons (pv 0) (pa_cons pe_int pa_nil))))
      (pss_one (ps_ret (pe_callB (cr_all rfl) (by rfl) T.all boot_all (pa_cons
        (pe_lc (own := [("_law_k", 2)]) (g := gName 2) (tt := tYes) rfl scLaw.nd (pi_range1 (by rfl) T.range (pa_cons (pe_callB call_len_seq (by rfl) T.len PySem.boot_len (pa_cons (pv 1) pa_nil)) pa_nil))
          (blkOk_by (own := [("_law_k", 2)]) (N := nLaw) (sc := defScope sLaw) (by decide +kernel)) (fun _ _ _ _ _ => pg_name (i := 2) scLaw.nd rfl (Or.inl rfl)) (fun _ _ _ _ _ => pts_nil)
          (fun _ _ _ _ _ => pe_call GR hr (by rfl) T.right kR bR .nil pass0 (pa_cons (pe_call GB (hr_mono hr) (by rfl) T.box kB bB .nil pass0 (pa_cons (pv 1) (pa_cons (pv 2) pa_nil))) pa_nil))) pa_nil))))), ?_⟩
    refine ⟨rfl, fun H1 e1 => ⟨true, rfl, ite_f ?_⟩⟩
    refine ⟨_, rfl, a, ns, rfl, Evl.ex_l e1 hS, hl, fun c ms H2 e2 hc hH2 l1 l3 => ?_⟩
    have hlen : (ms.map V.int).length = ms.length := List.length_map _
    refine ⟨_, rfl, c, _, rfl, .inl (SqL.of hH2), _, rfl, by omega, by omega, fun D hD => ?_⟩
    have ncD : c ≠ D := ne_of_none hH2 hD
    refine lc_range (fun i H' => H' D = some (.lst (List.replicate i (.bl true))) ∧ H' c = some (.lst (ms.map V.int))) ⟨upd_same, by rw [upd_ne ncD]; exact hH2⟩ (fun i Hi hi ⟨hDi, hci⟩ => ?_) (fun He ⟨hDe, hce⟩ => ?_)
    · refine ⟨rfl, ?_⟩
      unfold tYes
      dsimp only
      rw [if_pos rfl]
      have hi' : i < ms.length := by
        rw [hlen] at hi
        omega
      refine ⟨_, rfl, _, rfl, c, i, ms, by rw [Int.zero_add]; rfl, hci, hi', by omega, fun p H3 e3 hp bx => ?_⟩
      refine ⟨p, rfl, bx, fun H4 k4 => ?_⟩
      have nDp : D ≠ p := ne_of_none hDi hp
      have ncp : c ≠ p := ne_of_none hci hp
      have hD4 : H4 D = some (.lst (List.replicate i (.bl true))) := k4 D _ nDp (e3 _ _ hDi)
      refine ⟨_, hD4, Evl.sz_lt (by rw [List.length_replicate]; omega), ?_, ?_⟩
      · rw [upd_same, List.replicate_succ']
      · rw [upd_ne ncD]
        exact k4 c _ ncp (e3 _ _ hci)
    · refine ⟨D, List.replicate _ true, rfl, SqL.of (by rw [List.map_replicate]; exact hDe), ?_⟩
      have e : (List.replicate ((ms.map V.int).length : Int).toNat true).all id = true := by simp
      rw [e]
      exact q He
end
end K06

set_option Elab.async false
set_option linter.all false
set_option maxRecDepth 100000
set_option maxHeartbeats 8000000
namespace K06
open PySem PySem.Spec PyProof.Rows L2 L2.Um
open Evl (Ex)
def ownB (K : PySem.W.Frag) (C : Addr) (tl : List Value) (nid : String) : Bool :=
  PySem.W.excInitIn K C tl nid && (PySem.W.excOver K C tl && (PySem.W.hasDictIn K C && (decide (PySem.W.findIn K (.ref C) "__setattr__" = some (some (.builtin "object.__setattr__"))) && (decide (PySem.W.findIn K (.ref C) "__getattribute__" = some (some (.builtin "BaseException.__getattribute__"))) &&
  (decide (PySem.W.findIn K (.ref C) "__getattr__" = some none) && (decide (PySem.W.subIn K (.ref C) (.type "BaseException") = some true) && (PySem.W.keepIn K (.ref C) && (decide (PySem.W.findIn K (.ref C) "__class__" = some (some (.builtin "object.__class__"))) &&
  (decide (PySem.W.specialIn K (.builtin "object.__class__") "__get__" = some (some (.builtin "getset_descriptor.__get__"))) && (decide (PySem.W.takesIn K (.builtin "object.__class__") = some true) && decide (PySem.W.mroIn K C (.type "object") = some true)))))))))))
theorem ownB_ok {K : PySem.W.Frag} {C : Addr} {B nid iid : String} {tl : List Value} (F : ExcBaseFacts B nid iid tl) (S : StoreFacts B tl "object.__setattr__" "object") (h : ownB K C tl nid = true) : OwnE K C B := by
  obtain ⟨h1, h⟩ := Bool.and_eq_true_iff.mp h
  obtain ⟨h2, h⟩ := Bool.and_eq_true_iff.mp h
  obtain ⟨h3, h⟩ := Bool.and_eq_true_iff.mp h
  obtain ⟨h4, h⟩ := Bool.and_eq_true_iff.mp h
  obtain ⟨h5, h⟩ := Bool.and_eq_true_iff.mp h
  obtain ⟨h6, h⟩ := Bool.and_eq_true_iff.mp h
  obtain ⟨h7, h⟩ := Bool.and_eq_true_iff.mp h
  obtain ⟨h8, h⟩ := Bool.and_eq_true_iff.mp h
  obtain ⟨h9, h⟩ := Bool.and_eq_true_iff.mp h
  obtain ⟨h10, h⟩ := Bool.and_eq_true_iff.mp h
  obtain ⟨h11, h12⟩ := Bool.and_eq_true_iff.mp h
  exact ⟨⟨_, _, _, F, S, h1, h2⟩, h3, of_decide_eq_true h4, of_decide_eq_true h5, of_decide_eq_true h6, of_decide_eq_true h7, h8, of_decide_eq_true h9, of_decide_eq_true h10, of_decide_eq_true h11, of_decide_eq_true h12⟩
def kitsB (K : PySem.W.Frag) (C : Addr) (cs : List Value) (bs : List Bool) : Bool := decide ((cs.map fun c => PySem.W.kitOne K (.ref C) c) = bs.map some) && decide (PySem.W.kitAny K (.ref C) [.type "KeyError", .type "IndexError"] = some false)
theorem kitsB_ok {K : PySem.W.Frag} {C c1 c2 c3 c4 c5 c6 c7 c8 : Addr} {B : String} {lo va b1 b2 b3 b4 b5 b6 b7 b8 : Bool} (O : OwnE K C B)
    (h : kitsB K C [.type "LookupError", .type "ValueError", .ref c1, .ref c2, .ref c3, .ref c4, .ref c5, .ref c6, .ref c7, .ref c8] [lo, va, b1, b2, b3, b4, b5, b6, b7, b8] = true) (hc : ([b1, b2, b3, b4, b5, b6, b7, b8].filter id).length = 1) : Cls1 K ⟨c1, c2, c3, c4, c5, c6, c7, c8⟩ C B lo va := by
  obtain ⟨h1, h2⟩ := Bool.and_eq_true_iff.mp h
  have e := of_decide_eq_true h1
  have e2 := of_decide_eq_true h2
  simp only [List.map_cons, List.map_nil, List.cons.injEq, and_true] at e
  obtain ⟨k1, k2, k3, k4, k5, k6, k7, k8, k9, k10⟩ := e
  exact ⟨O, ⟨⟨B, O⟩, b1, b2, b3, b4, b5, b6, b7, b8, k3, k4, k5, k6, k7, k8, k9, k10, hc⟩, k1, k2, e2⟩
def leTail : List Value := [.type "LookupError", .type "Exception", .type "BaseException", .type "object"]
def veTl : List Value := [.type "ValueError", .type "Exception", .type "BaseException", .type "object"]
theorem gq_rel {vs : List V} {us : List Value} {zs : List V} {ws : List Value} (r : Vals vs us) (q : Vals zs ws) : Vals (gQ vs zs) (gQ us ws) := by
  cases q with
  | nil => exact r
  | cons a t =>
    cases t with
    | nil => exact r
    | cons b t2 =>
      cases t2 with
      | nil => exact r.append (.cons b (.cons a .nil))
      | cons _ _ => exact r
theorem all_mk {P : Program} {w : World} {K : PySem.W.Frag} {h : Heap} {mg : Str → Option Value} {fa : Addr} (X : K.In h) (G : h.Ns mainGlobals mg) (hfa : mg "law" = some (.ref fa))
    {c_name c_key c_number c_nothing c_quiet c_twice c_text c_line f_iname f_ikey f_inumber f_iquiet f_itwice f_iline f_as_tuples f_law_box f_law_take f_law_cells f_law_of f_law_same f_law_sorts f_law_hand_right f_law_right f_law : Addr} {oc_iname kV_iname dc_iname pm_iname cd_iname ct_iname oc_ikey kV_ikey dc_ikey pm_ikey cd_ikey ct_ikey oc_inumber kV_inumber dc_inumber pm_inumber cd_inumber ct_inumber oc_iquiet kV_iquiet dc_iquiet pm_iquiet cd_iquiet ct_iquiet oc_itwice kV_itwice dc_itwice pm_itwice cd_itwice ct_itwice oc_iline kV_iline dc_iline pm_iline cd_iline ct_iline oc_as_tuples kV_as_tuples dc_as_tuples pm_as_tuples cd_as_tuples ct_as_tuples oc_law_box kV_law_box dc_law_box pm_law_box cd_law_box ct_law_box oc_law_take kV_law_take dc_law_take pm_law_take cd_law_take ct_law_take oc_law_cells kV_law_cells dc_law_cells pm_law_cells cd_law_cells ct_law_cells oc_law_of kV_law_of dc_law_of pm_law_of cd_law_of ct_law_of oc_law_same kV_law_same dc_law_same pm_law_same cd_law_same ct_law_same oc_law_sorts kV_law_sorts dc_law_sorts pm_law_sorts cd_law_sorts ct_law_sorts oc_law_hand_right kV_law_hand_right dc_law_hand_right pm_law_hand_right cd_law_hand_right ct_law_hand_right oc_law_right kV_law_right dc_law_right pm_law_right cd_law_right ct_law_right oc_law kV_law dc_law pm_law cd_law ct_law : Value} {od_iname an_iname od_ikey an_ikey od_inumber an_inumber od_iquiet an_iquiet od_itwice an_itwice od_iline an_iline od_as_tuples an_as_tuples od_law_box an_law_box od_law_take an_law_take od_law_cells an_law_cells od_law_of an_law_of od_law_same an_law_same od_law_sorts an_law_sorts od_law_hand_right an_law_hand_right od_law_right an_law_right od_law an_law : Option Addr} {sl_iname sl_ikey sl_inumber sl_iquiet sl_itwice sl_iline sl_as_tuples sl_law_box sl_law_take sl_law_cells sl_law_of sl_law_same sl_law_sorts sl_law_hand_right sl_law_right sl_law : Array (Option Value)}
    (a_name : PySem.W.nsIn K mainGlobals "NoName" = some (some (.ref c_name)))
    (a_key : PySem.W.nsIn K mainGlobals "NoKey" = some (some (.ref c_key)))
    (a_number : PySem.W.nsIn K mainGlobals "NoNumber" = some (some (.ref c_number)))
    (a_nothing : PySem.W.nsIn K mainGlobals "NothingDone" = some (some (.ref c_nothing)))
    (a_quiet : PySem.W.nsIn K mainGlobals "NotQuiet" = some (some (.ref c_quiet)))
    (a_twice : PySem.W.nsIn K mainGlobals "Twice" = some (some (.ref c_twice)))
    (a_text : PySem.W.nsIn K mainGlobals "BadText" = some (some (.ref c_text)))
    (a_line : PySem.W.nsIn K mainGlobals "BadLine" = some (some (.ref c_line)))
    (o_name : ownB K c_name leTail "LookupError.__new__" = true)
    (q_name : kitsB K c_name [.type "LookupError", .type "ValueError", .ref c_name, .ref c_key, .ref c_number, .ref c_nothing, .ref c_quiet, .ref c_twice, .ref c_text, .ref c_line] [true, false, true, false, false, false, false, false, false, false] = true)
    (o_key : ownB K c_key leTail "LookupError.__new__" = true)
    (q_key : kitsB K c_key [.type "LookupError", .type "ValueError", .ref c_name, .ref c_key, .ref c_number, .ref c_nothing, .ref c_quiet, .ref c_twice, .ref c_text, .ref c_line] [true, false, false, true, false, false, false, false, false, false] = true)
    (o_number : ownB K c_number leTail "LookupError.__new__" = true)
    (q_number : kitsB K c_number [.type "LookupError", .type "ValueError", .ref c_name, .ref c_key, .ref c_number, .ref c_nothing, .ref c_quiet, .ref c_twice, .ref c_text, .ref c_line] [true, false, false, false, true, false, false, false, false, false] = true)
    (o_nothing : ownB K c_nothing leTail "LookupError.__new__" = true)
    (q_nothing : kitsB K c_nothing [.type "LookupError", .type "ValueError", .ref c_name, .ref c_key, .ref c_number, .ref c_nothing, .ref c_quiet, .ref c_twice, .ref c_text, .ref c_line] [true, false, false, false, false, true, false, false, false, false] = true)
    (o_quiet : ownB K c_quiet veTl "ValueError.__new__" = true)
    (q_quiet : kitsB K c_quiet [.type "LookupError", .type "ValueError", .ref c_name, .ref c_key, .ref c_number, .ref c_nothing, .ref c_quiet, .ref c_twice, .ref c_text, .ref c_line] [false, true, false, false, false, false, true, false, false, false] = true)
    (o_twice : ownB K c_twice veTl "ValueError.__new__" = true)
    (q_twice : kitsB K c_twice [.type "LookupError", .type "ValueError", .ref c_name, .ref c_key, .ref c_number, .ref c_nothing, .ref c_quiet, .ref c_twice, .ref c_text, .ref c_line] [false, true, false, false, false, false, false, true, false, false] = true)
    (o_text : ownB K c_text veTl "ValueError.__new__" = true)
    (q_text : kitsB K c_text [.type "LookupError", .type "ValueError", .ref c_name, .ref c_key, .ref c_number, .ref c_nothing, .ref c_quiet, .ref c_twice, .ref c_text, .ref c_line] [false, true, false, false, false, false, false, false, true, false] = true)
    (o_line : ownB K c_line veTl "ValueError.__new__" = true)
    (q_line : kitsB K c_line [.type "LookupError", .type "ValueError", .ref c_name, .ref c_key, .ref c_number, .ref c_nothing, .ref c_quiet, .ref c_twice, .ref c_text, .ref c_line] [false, true, false, false, false, false, false, false, false, true] = true)
    (n_name_name : PySem.W.findIn K (.ref c_name) "name" = some none)
    (n_key_key : PySem.W.findIn K (.ref c_key) "key" = some none)
    (n_number_number : PySem.W.findIn K (.ref c_number) "number" = some none)
    (n_twice_key : PySem.W.findIn K (.ref c_twice) "key" = some none)
    (n_line_number : PySem.W.findIn K (.ref c_line) "number" = some none)
    (n_quiet_one : PySem.W.findIn K (.ref c_quiet) "one" = some none)
    (n_quiet_other : PySem.W.findIn K (.ref c_quiet) "other" = some none)
    (x_nothing : PySem.W.excIn K c_nothing leTail "LookupError.__new__" = true)
    (x_text : PySem.W.excIn K c_text veTl "ValueError.__new__" = true)
    (g_iname : PySem.W.findIn K (.ref c_name) "__init__" = some (some (.ref f_iname)))
    (t_iname : PySem.W.typeIn K (.ref f_iname) = some (.type "function"))
    (l_iname : K.lookup f_iname = some ⟨oc_iname, od_iname, .func (PySem.W.fnOf "__init__" "NoName.__init__" (defArgs iName) (defBody iName) (defScope iName) .none kV_iname dc_iname pm_iname an_iname cd_iname ct_iname), sl_iname⟩)
    (d_iname : PySem.W.codeIn K cd_iname "NoName.__init__" = true)
    (k_iname : PySem.W.keepIn K (.ref f_iname) = true)
    (g_ikey : PySem.W.findIn K (.ref c_key) "__init__" = some (some (.ref f_ikey)))
    (t_ikey : PySem.W.typeIn K (.ref f_ikey) = some (.type "function"))
    (l_ikey : K.lookup f_ikey = some ⟨oc_ikey, od_ikey, .func (PySem.W.fnOf "__init__" "NoKey.__init__" (defArgs iKey) (defBody iKey) (defScope iKey) .none kV_ikey dc_ikey pm_ikey an_ikey cd_ikey ct_ikey), sl_ikey⟩)
    (d_ikey : PySem.W.codeIn K cd_ikey "NoKey.__init__" = true)
    (k_ikey : PySem.W.keepIn K (.ref f_ikey) = true)
    (g_inumber : PySem.W.findIn K (.ref c_number) "__init__" = some (some (.ref f_inumber)))
    (t_inumber : PySem.W.typeIn K (.ref f_inumber) = some (.type "function"))
    (l_inumber : K.lookup f_inumber = some ⟨oc_inumber, od_inumber, .func (PySem.W.fnOf "__init__" "NoNumber.__init__" (defArgs iNumber) (defBody iNumber) (defScope iNumber) .none kV_inumber dc_inumber pm_inumber an_inumber cd_inumber ct_inumber), sl_inumber⟩)
    (d_inumber : PySem.W.codeIn K cd_inumber "NoNumber.__init__" = true)
    (k_inumber : PySem.W.keepIn K (.ref f_inumber) = true)
    (g_iquiet : PySem.W.findIn K (.ref c_quiet) "__init__" = some (some (.ref f_iquiet)))
    (t_iquiet : PySem.W.typeIn K (.ref f_iquiet) = some (.type "function"))
    (l_iquiet : K.lookup f_iquiet = some ⟨oc_iquiet, od_iquiet, .func (PySem.W.fnOf "__init__" "NotQuiet.__init__" (defArgs iQuiet) (defBody iQuiet) (defScope iQuiet) .none kV_iquiet dc_iquiet pm_iquiet an_iquiet cd_iquiet ct_iquiet), sl_iquiet⟩)
    (d_iquiet : PySem.W.codeIn K cd_iquiet "NotQuiet.__init__" = true)
    (k_iquiet : PySem.W.keepIn K (.ref f_iquiet) = true)
    (g_itwice : PySem.W.findIn K (.ref c_twice) "__init__" = some (some (.ref f_itwice)))
    (t_itwice : PySem.W.typeIn K (.ref f_itwice) = some (.type "function"))
    (l_itwice : K.lookup f_itwice = some ⟨oc_itwice, od_itwice, .func (PySem.W.fnOf "__init__" "Twice.__init__" (defArgs iTwice) (defBody iTwice) (defScope iTwice) .none kV_itwice dc_itwice pm_itwice an_itwice cd_itwice ct_itwice), sl_itwice⟩)
    (d_itwice : PySem.W.codeIn K cd_itwice "Twice.__init__" = true)
    (k_itwice : PySem.W.keepIn K (.ref f_itwice) = true)
    (g_iline : PySem.W.findIn K (.ref c_line) "__init__" = some (some (.ref f_iline)))
    (t_iline : PySem.W.typeIn K (.ref f_iline) = some (.type "function"))
    (l_iline : K.lookup f_iline = some ⟨oc_iline, od_iline, .func (PySem.W.fnOf "__init__" "BadLine.__init__" (defArgs iLine) (defBody iLine) (defScope iLine) .none kV_iline dc_iline pm_iline an_iline cd_iline ct_iline), sl_iline⟩)
    (d_iline : PySem.W.codeIn K cd_iline "BadLine.__init__" = true)
    (k_iline : PySem.W.keepIn K (.ref f_iline) = true)
    (g_as_tuples : PySem.W.nsIn K mainGlobals "as_tuples" = some (some (.ref f_as_tuples)))
    (l_as_tuples : K.lookup f_as_tuples = some ⟨oc_as_tuples, od_as_tuples, .func (PySem.W.fnOf "as_tuples" "as_tuples" (defArgs sAs) (defBody sAs) (defScope sAs) .none kV_as_tuples dc_as_tuples pm_as_tuples an_as_tuples cd_as_tuples ct_as_tuples), sl_as_tuples⟩)
    (d_as_tuples : PySem.W.codeIn K cd_as_tuples "as_tuples" = true)
    (k_as_tuples : PySem.W.keepIn K (.ref f_as_tuples) = true)
    (g_law_box : PySem.W.nsIn K mainGlobals "_law_box" = some (some (.ref f_law_box)))
    (l_law_box : K.lookup f_law_box = some ⟨oc_law_box, od_law_box, .func (PySem.W.fnOf "_law_box" "_law_box" (defArgs sBox) (defBody sBox) (defScope sBox) .none kV_law_box dc_law_box pm_law_box an_law_box cd_law_box ct_law_box), sl_law_box⟩)
    (d_law_box : PySem.W.codeIn K cd_law_box "_law_box" = true)
    (k_law_box : PySem.W.keepIn K (.ref f_law_box) = true)
    (g_law_take : PySem.W.nsIn K mainGlobals "_law_take" = some (some (.ref f_law_take)))
    (l_law_take : K.lookup f_law_take = some ⟨oc_law_take, od_law_take, .func (PySem.W.fnOf "_law_take" "_law_take" (defArgs sTake) (defBody sTake) (defScope sTake) .none kV_law_take dc_law_take pm_law_take an_law_take cd_law_take ct_law_take), sl_law_take⟩)
    (d_law_take : PySem.W.codeIn K cd_law_take "_law_take" = true)
    (k_law_take : PySem.W.keepIn K (.ref f_law_take) = true)
    (g_law_cells : PySem.W.nsIn K mainGlobals "_law_cells" = some (some (.ref f_law_cells)))
    (l_law_cells : K.lookup f_law_cells = some ⟨oc_law_cells, od_law_cells, .func (PySem.W.fnOf "_law_cells" "_law_cells" (defArgs sCells) (defBody sCells) (defScope sCells) .none kV_law_cells dc_law_cells pm_law_cells an_law_cells cd_law_cells ct_law_cells), sl_law_cells⟩)
    (d_law_cells : PySem.W.codeIn K cd_law_cells "_law_cells" = true)
    (k_law_cells : PySem.W.keepIn K (.ref f_law_cells) = true)
    (g_law_of : PySem.W.nsIn K mainGlobals "_law_of" = some (some (.ref f_law_of)))
    (l_law_of : K.lookup f_law_of = some ⟨oc_law_of, od_law_of, .func (PySem.W.fnOf "_law_of" "_law_of" (defArgs sOf) (defBody sOf) (defScope sOf) .none kV_law_of dc_law_of pm_law_of an_law_of cd_law_of ct_law_of), sl_law_of⟩)
    (d_law_of : PySem.W.codeIn K cd_law_of "_law_of" = true)
    (k_law_of : PySem.W.keepIn K (.ref f_law_of) = true)
    (g_law_same : PySem.W.nsIn K mainGlobals "_law_same" = some (some (.ref f_law_same)))
    (l_law_same : K.lookup f_law_same = some ⟨oc_law_same, od_law_same, .func (PySem.W.fnOf "_law_same" "_law_same" (defArgs sSame) (defBody sSame) (defScope sSame) .none kV_law_same dc_law_same pm_law_same an_law_same cd_law_same ct_law_same), sl_law_same⟩)
    (d_law_same : PySem.W.codeIn K cd_law_same "_law_same" = true)
    (k_law_same : PySem.W.keepIn K (.ref f_law_same) = true)
    (g_law_sorts : PySem.W.nsIn K mainGlobals "_law_sorts" = some (some (.ref f_law_sorts)))
    (l_law_sorts : K.lookup f_law_sorts = some ⟨oc_law_sorts, od_law_sorts, .func (PySem.W.fnOf "_law_sorts" "_law_sorts" (defArgs sSorts) (defBody sSorts) (defScope sSorts) .none kV_law_sorts dc_law_sorts pm_law_sorts an_law_sorts cd_law_sorts ct_law_sorts), sl_law_sorts⟩)
    (d_law_sorts : PySem.W.codeIn K cd_law_sorts "_law_sorts" = true)
    (k_law_sorts : PySem.W.keepIn K (.ref f_law_sorts) = true)
    (g_law_hand_right : PySem.W.nsIn K mainGlobals "_law_hand_right" = some (some (.ref f_law_hand_right)))
    (l_law_hand_right : K.lookup f_law_hand_right = some ⟨oc_law_hand_right, od_law_hand_right, .func (PySem.W.fnOf "_law_hand_right" "_law_hand_right" (defArgs sHand) (defBody sHand) (defScope sHand) .none kV_law_hand_right dc_law_hand_right pm_law_hand_right an_law_hand_right cd_law_hand_right ct_law_hand_right), sl_law_hand_right⟩)
    (d_law_hand_right : PySem.W.codeIn K cd_law_hand_right "_law_hand_right" = true)
    (k_law_hand_right : PySem.W.keepIn K (.ref f_law_hand_right) = true)
    (g_law_right : PySem.W.nsIn K mainGlobals "_law_right" = some (some (.ref f_law_right)))
    (l_law_right : K.lookup f_law_right = some ⟨oc_law_right, od_law_right, .func (PySem.W.fnOf "_law_right" "_law_right" (defArgs sRight) (defBody sRight) (defScope sRight) .none kV_law_right dc_law_right pm_law_right an_law_right cd_law_right ct_law_right), sl_law_right⟩)
    (d_law_right : PySem.W.codeIn K cd_law_right "_law_right" = true)
    (k_law_right : PySem.W.keepIn K (.ref f_law_right) = true)
    (g_law : PySem.W.nsIn K mainGlobals "law" = some (some (.ref f_law)))
    (l_law : K.lookup f_law = some ⟨oc_law, od_law, .func (PySem.W.fnOf "law" "law" (defArgs sLaw) (defBody sLaw) (defScope sLaw) .none kV_law dc_law pm_law an_law cd_law ct_law), sl_law⟩)
    (d_law : PySem.W.codeIn K cd_law "law" = true)
    (k_law : PySem.W.keepIn K (.ref f_law) = true)
    (z_isinstance : PySem.W.nsIn K mainGlobals "isinstance" = some none)
    (z_list : PySem.W.nsIn K mainGlobals "list" = some none)
    (z_tuple : PySem.W.nsIn K mainGlobals "tuple" = some none)
    (z_dict : PySem.W.nsIn K mainGlobals "dict" = some none)
    (z_bool : PySem.W.nsIn K mainGlobals "bool" = some none)
    (z_str : PySem.W.nsIn K mainGlobals "str" = some none)
    (z_int : PySem.W.nsIn K mainGlobals "int" = some none)
    (z_len : PySem.W.nsIn K mainGlobals "len" = some none)
    (z_all : PySem.W.nsIn K mainGlobals "all" = some none)
    (z_zip : PySem.W.nsIn K mainGlobals "zip" = some none)
    (z_abs : PySem.W.nsIn K mainGlobals "abs" = some none)
    (z_enumerate : PySem.W.nsIn K mainGlobals "enumerate" = some none)
    (z_range : PySem.W.nsIn K mainGlobals "range" = some none)
    (z_LookupError : PySem.W.nsIn K mainGlobals "LookupError" = some none)
    (z_ValueError : PySem.W.nsIn K mainGlobals "ValueError" = some none)
    (z_KeyError : PySem.W.nsIn K mainGlobals "KeyError" = some none)
    (z_IndexError : PySem.W.nsIn K mainGlobals "IndexError" = some none)
    : ∃ fd : FuncData, (∀ (s : Shared) (u : Value), BindsTo s fd ⟨[u], []⟩ [("_law_script", u)]) ∧ ∀ base : Heap, K.In base → base.Ns mainGlobals mg → FnOk P w K mg base CX0 8 fa fd ["_law_script"] (spLaw K) := by
  have e := hfa.symm.trans (PySem.W.mg_of X G g_law)
  cases e
  have O_name : OwnE K c_name "LookupError" := ownB_ok PySem.F.excBase_LookupError PySem.F.store_LookupError o_name
  have O_key : OwnE K c_key "LookupError" := ownB_ok PySem.F.excBase_LookupError PySem.F.store_LookupError o_key
  have O_number : OwnE K c_number "LookupError" := ownB_ok PySem.F.excBase_LookupError PySem.F.store_LookupError o_number
  have O_nothing : OwnE K c_nothing "LookupError" := ownB_ok PySem.F.excBase_LookupError PySem.F.store_LookupError o_nothing
  have O_quiet : OwnE K c_quiet "ValueError" := ownB_ok PySem.F.excBase_ValueError PySem.F.store_ValueError o_quiet
  have O_twice : OwnE K c_twice "ValueError" := ownB_ok PySem.F.excBase_ValueError PySem.F.store_ValueError o_twice
  have O_text : OwnE K c_text "ValueError" := ownB_ok PySem.F.excBase_ValueError PySem.F.store_ValueError o_text
  have O_line : OwnE K c_line "ValueError" := ownB_ok PySem.F.excBase_ValueError PySem.F.store_ValueError o_line
  have EK : EF K ⟨c_name, c_key, c_number, c_nothing, c_quiet, c_twice, c_text, c_line⟩ := ⟨kitsB_ok O_name q_name rfl, kitsB_ok O_key q_key rfl, kitsB_ok O_number q_number rfl, kitsB_ok O_nothing q_nothing rfl, kitsB_ok O_quiet q_quiet rfl, kitsB_ok O_twice q_twice rfl, kitsB_ok O_text q_text rfl, kitsB_ok O_line q_line rfl, n_name_name, n_key_key, n_number_number, n_quiet_one, n_quiet_other, n_twice_key, n_line_number⟩
  have TC : TxC mg ⟨c_name, c_key, c_number, c_nothing, c_quiet, c_twice, c_text, c_line⟩ := ⟨PySem.W.mg_of X G a_name, PySem.W.mg_of X G a_key, PySem.W.mg_of X G a_number, PySem.W.mg_of X G a_nothing, PySem.W.mg_of X G a_quiet, PySem.W.mg_of X G a_twice, PySem.W.mg_of X G a_text, PySem.W.mg_of X G a_line⟩
  have F_as_tuples := fun_mk (st := sAs) l_as_tuples d_as_tuples k_as_tuples
  have b_as_tuples := F_as_tuples.binds (ps := ["thing"]) fun _ _ _ _ _ _ us hl => match us, hl with | [_], _ => rfl
  have m_as_tuples := PySem.W.mg_of X G g_as_tuples
  have F_law_box := fun_mk (st := sBox) l_law_box d_law_box k_law_box
  have b_law_box := F_law_box.binds (ps := ["_law_script", "_law_k"]) fun _ _ _ _ _ _ us hl => match us, hl with | [_, _], _ => rfl
  have m_law_box := PySem.W.mg_of X G g_law_box
  have F_law_take := fun_mk (st := sTake) l_law_take d_law_take k_law_take
  have b_law_take := F_law_take.binds (ps := ["_law_box_here", "_law_top_so"]) fun _ _ _ _ _ _ us hl => match us, hl with | [_, _], _ => rfl
  have m_law_take := PySem.W.mg_of X G g_law_take
  have F_law_cells := fun_mk (st := sCells) l_law_cells d_law_cells k_law_cells
  have b_law_cells := F_law_cells.binds (ps := ["_law_script", "_law_most"]) fun _ _ _ _ _ _ us hl => match us, hl with | [_, _], _ => rfl
  have m_law_cells := PySem.W.mg_of X G g_law_cells
  have F_law_of := fun_mk (st := sOf) l_law_of d_law_of k_law_of
  have b_law_of := F_law_of.binds (ps := ["_law_box_here", "_law_some"]) fun _ _ _ _ _ _ us hl => match us, hl with | [_, _], _ => rfl
  have m_law_of := PySem.W.mg_of X G g_law_of
  have F_law_same := fun_mk (st := sSame) l_law_same d_law_same k_law_same
  have b_law_same := F_law_same.binds (ps := ["_law_got", "_law_due"]) fun _ _ _ _ _ _ us hl => match us, hl with | [_, _], _ => rfl
  have m_law_same := PySem.W.mg_of X G g_law_same
  have F_law_sorts := fun_mk (st := sSorts) l_law_sorts d_law_sorts k_law_sorts
  have b_law_sorts := F_law_sorts.binds (ps := ["_law_error"]) fun _ _ _ _ _ _ us hl => match us, hl with | [_], _ => rfl
  have m_law_sorts := PySem.W.mg_of X G g_law_sorts
  have F_law_hand_right := fun_mk (st := sHand) l_law_hand_right d_law_hand_right k_law_hand_right
  have b_law_hand_right := F_law_hand_right.binds (ps := []) fun _ _ _ _ _ _ us hl => match us, hl with | [], _ => rfl
  have m_law_hand_right := PySem.W.mg_of X G g_law_hand_right
  have F_law_right := fun_mk (st := sRight) l_law_right d_law_right k_law_right
  have b_law_right := F_law_right.binds (ps := ["_law_box_here"]) fun _ _ _ _ _ _ us hl => match us, hl with | [_], _ => rfl
  have m_law_right := PySem.W.mg_of X G g_law_right
  have F_law := fun_mk (st := sLaw) l_law d_law k_law
  have b_law := F_law.binds (ps := ["_law_script"]) fun _ _ _ _ _ _ us hl => match us, hl with | [_], _ => rfl
  have m_law := PySem.W.mg_of X G g_law
  have F_iname := fun_mk (st := iName) l_iname d_iname k_iname
  have b_iname := F_iname.binds (ps := ["self", "name"]) fun _ _ _ _ _ _ us hl => match us, hl with | [_, _], _ => rfl
  have F_ikey := fun_mk (st := iKey) l_ikey d_ikey k_ikey
  have b_ikey := F_ikey.binds (ps := ["self", "key"]) fun _ _ _ _ _ _ us hl => match us, hl with | [_, _], _ => rfl
  have F_inumber := fun_mk (st := iNumber) l_inumber d_inumber k_inumber
  have b_inumber := F_inumber.binds (ps := ["self", "number"]) fun _ _ _ _ _ _ us hl => match us, hl with | [_, _], _ => rfl
  have F_iquiet := fun_mk (st := iQuiet) l_iquiet d_iquiet k_iquiet
  have b_iquiet := F_iquiet.binds (ps := ["self", "one", "other"]) fun _ _ _ _ _ _ us hl => match us, hl with | [_, _, _], _ => rfl
  have F_itwice := fun_mk (st := iTwice) l_itwice d_itwice k_itwice
  have b_itwice := F_itwice.binds (ps := ["self", "key"]) fun _ _ _ _ _ _ us hl => match us, hl with | [_, _], _ => rfl
  have F_iline := fun_mk (st := iLine) l_iline d_iline k_iline
  have b_iline := F_iline.binds (ps := ["self", "number"]) fun _ _ _ _ _ _ us hl => match us, hl with | [_, _], _ => rfl
  have y_isinstance := PySem.W.mg_none_of X G z_isinstance
  have y_list := PySem.W.mg_none_of X G z_list
  have y_tuple := PySem.W.mg_none_of X G z_tuple
  have y_dict := PySem.W.mg_none_of X G z_dict
  have y_bool := PySem.W.mg_none_of X G z_bool
  have y_str := PySem.W.mg_none_of X G z_str
  have y_int := PySem.W.mg_none_of X G z_int
  have y_len := PySem.W.mg_none_of X G z_len
  have y_all := PySem.W.mg_none_of X G z_all
  have y_zip := PySem.W.mg_none_of X G z_zip
  have y_abs := PySem.W.mg_none_of X G z_abs
  have y_enumerate := PySem.W.mg_none_of X G z_enumerate
  have y_range := PySem.W.mg_none_of X G z_range
  have y_LookupError := PySem.W.mg_none_of X G z_LookupError
  have y_ValueError := PySem.W.mg_none_of X G z_ValueError
  have y_KeyError := PySem.W.mg_none_of X G z_KeyError
  have y_IndexError := PySem.W.mg_none_of X G z_IndexError
  have kbQ : KBn K (PySem.W.fnOf "__init__" "NotQuiet.__init__" (defArgs iQuiet) (defBody iQuiet) (defScope iQuiet) .none kV_iquiet dc_iquiet pm_iquiet an_iquiet cd_iquiet ct_iquiet) ["self", "one", "other"] 1 ["other", "one"] gQ gQ :=
    ⟨fun s us ws _ l1 l2 => match us, ws, l1, l2 with | [_], [_, _], _, _ => .of_eq rfl, gq_rel⟩
  refine ⟨PySem.W.fnOf "law" "law" (defArgs sLaw) (defBody sLaw) (defScope sLaw) .none kV_law dc_law pm_law an_law cd_law ct_law, fun s v => .of_eq rfl, fun base _ _ => ?_⟩
  have GA : FnOk P w K mg base CX0 4 f_as_tuples _ ["thing"] (spTup 3) := ok_as F_as_tuples ⟨y_isinstance, y_list, y_tuple, m_as_tuples⟩ b_as_tuples 3
  have GS : FnOk P w K mg base CX0 3 f_law_same _ ["_law_got", "_law_due"] (spSame 2) := ok_same F_law_same ⟨y_isinstance, y_list, y_tuple, y_dict, y_bool, y_str, y_int, y_len, y_all, y_zip, m_law_same⟩ b_law_same 2
  have GT : FnOk P w K mg base CX0 1 f_law_take _ ["_law_box_here", "_law_top_so"] spTake := ok_take F_law_take y_int
  have TB : TxB mg := ⟨y_len, y_abs, y_int, y_list, y_enumerate⟩
  have GO : FnOk P w K mg base CX0 2 f_law_of _ ["_law_box_here", "_law_some"] spOf := ok_of F_law_of y_len m_law_take k_law_take b_law_take GT
  have GSo : FnOk P w K mg base CX0 1 f_law_sorts _ ["_law_error"] (spSorts K ⟨c_name, c_key, c_number, c_nothing, c_quiet, c_twice, c_text, c_line⟩) := ok_sorts F_law_sorts y_isinstance y_len TC
  have M : Mks P w K mg base ⟨c_name, c_key, c_number, c_nothing, c_quiet, c_twice, c_text, c_line⟩ := ⟨⟨_, _, g_iname, t_iname, ok_name F_iname O_name n_name_name, b_iname⟩, ⟨_, _, g_ikey, t_ikey, ok_key F_ikey O_key n_key_key m_as_tuples k_as_tuples b_as_tuples GA, b_ikey⟩, ⟨_, _, g_inumber, t_inumber, ok_number F_inumber O_number n_number_number, b_inumber⟩,
    ⟨_, _, g_iquiet, t_iquiet, ok_quiet F_iquiet O_quiet n_quiet_one n_quiet_other m_as_tuples k_as_tuples b_as_tuples GA, b_iquiet⟩, ⟨_, _, g_itwice, t_itwice, ok_twice F_itwice O_twice n_twice_key m_as_tuples k_as_tuples b_as_tuples GA, b_itwice⟩, ⟨_, _, g_iline, t_iline, ok_line F_iline O_line n_line_number, b_iline⟩, x_nothing, x_text⟩
  have MQ : MkQ P w K mg base ⟨c_name, c_key, c_number, c_nothing, c_quiet, c_twice, c_text, c_line⟩ := ⟨_, _, g_iquiet, t_iquiet, ok_quiet F_iquiet O_quiet n_quiet_one n_quiet_other m_as_tuples k_as_tuples b_as_tuples GA, kbQ⟩
  have GH : FnOk P w K mg base CX0 7 f_law_hand_right _ [] spTrue := ok_hand F_law_hand_right ⟨y_isinstance, y_LookupError, y_ValueError, y_KeyError, y_IndexError, m_law_same, m_law_sorts⟩ TC EK M k_law_same b_law_same GS k_law_sorts b_law_sorts GSo
  have GR : FnOk P w K mg base CX0 7 f_law_right _ ["_law_box_here"] spRight := ok_right F_law_right ⟨y_range, m_law_take, m_law_of, m_law_same⟩ TC EK M MQ k_law_take b_law_take GT k_law_of b_law_of GO k_law_same b_law_same GS
  exact ok_law F_law ⟨m_law_hand_right, m_law_cells, m_law_right, m_law_box, y_all, y_len, y_range⟩ k_law_hand_right b_law_hand_right GH k_law_cells b_law_cells (ok_cells F_law_cells TB) k_law_right b_law_right GR k_law_box b_law_box (ok_box F_law_box TB)
theorem walk {l : PySem.W.OpenLaw} {q : Program} {loose : List Str} {XP : (Str → Option Value) → Heap → Prop} {YP : World → Heap → Prop} {d : DefRec} {K : Params → PySem.W.Frag} (hn : l.most = some 63) (hdf : d.params.defaults = [])
    (hY : ∀ (w : World) (h : Heap), YP w h → (K w.params).In h)
    (F : ∀ (w : World) (mg : Str → Option Value) (fa : Addr) (h : Heap), (K w.params).In h → h.Ns mainGlobals mg → mg d.name = some (.ref fa) →
      ∃ fd : FuncData, (∀ (s : Shared) (u : Value), BindsTo s fd ⟨[u], []⟩ [("_law_script", u)]) ∧ ∀ base : Heap, (K w.params).In base → base.Ns mainGlobals mg → FnOk l.prog w (K w.params) mg base CX0 8 fa fd ["_law_script"] (spLaw (K w.params))) :
    PySem.W.WalkO q loose XP YP l.row.toRowW d [] (fun f vs => PySem.call f vs) :=
  L2.walk_of (n := 63) (k := 8) (x := "_law_script") (CX := fun _ => CX0) (sp := fun w => spLaw (K w.params)) hn (by decide) hdf ⟨rfl, by decide, by decide⟩ hY F (fun _ _ a ns hl _ hS => ⟨a, ns, rfl, hS, hl, fun _ => rfl⟩) fun _ _ _ _ _ z => z
end K06


open PySem PySem.W PyProof.Rows in
set_option maxRecDepth 100000 in
set_option maxHeartbeats 0 in
theorem PySem.Challenge.cw_undermasters_k06_errors_by_themselves_holds : PySem.Challenge.rw_undermasters_k06_errors_by_themselves.Holds := by
  w_on; o_law; k_head; (case hw => w_witness2)
  k_fill
  refine K06.walk (l := PySem.Challenge.rw_undermasters_k06_errors_by_themselves) rfl rfl (fun w h Y => PySem.W.kIn_of Y) ?F
  case F =>
    intro w mg fa h KX G hmg
    refine' K06.all_mk KX G hmg ?a_name ?a_key ?a_number ?a_nothing ?a_quiet ?a_twice ?a_text ?a_line ?o_name ?q_name ?o_key ?q_key ?o_number ?q_number ?o_nothing ?q_nothing ?o_quiet ?q_quiet ?o_twice ?q_twice ?o_text ?q_text ?o_line ?q_line ?n_name_name ?n_key_key ?n_number_number ?n_twice_key ?n_line_number ?n_quiet_one ?n_quiet_other ?x_nothing ?x_text ?g_iname ?t_iname ?l_iname ?d_iname ?k_iname ?g_ikey ?t_ikey ?l_ikey ?d_ikey ?k_ikey ?g_inumber ?t_inumber ?l_inumber ?d_inumber ?k_inumber ?g_iquiet ?t_iquiet ?l_iquiet ?d_iquiet ?k_iquiet ?g_itwice ?t_itwice ?l_itwice ?d_itwice ?k_itwice ?g_iline ?t_iline ?l_iline ?d_iline ?k_iline ?g_as_tuples ?l_as_tuples ?d_as_tuples ?k_as_tuples ?g_law_box ?l_law_box ?d_law_box ?k_law_box ?g_law_take ?l_law_take ?d_law_take ?k_law_take ?g_law_cells ?l_law_cells ?d_law_cells ?k_law_cells ?g_law_of ?l_law_of ?d_law_of ?k_law_of ?g_law_same ?l_law_same ?d_law_same ?k_law_same ?g_law_sorts ?l_law_sorts ?d_law_sorts ?k_law_sorts ?g_law_hand_right ?l_law_hand_right ?d_law_hand_right ?k_law_hand_right ?g_law_right ?l_law_right ?d_law_right ?k_law_right ?g_law ?l_law ?d_law ?k_law ?z_isinstance ?z_list ?z_tuple ?z_dict ?z_bool ?z_str ?z_int ?z_len ?z_all ?z_zip ?z_abs ?z_enumerate ?z_range ?z_LookupError ?z_ValueError ?z_KeyError ?z_IndexError
    (case a_name => k_is)
    (case a_key => k_is)
    (case a_number => k_is)
    (case a_nothing => k_is)
    (case a_quiet => k_is)
    (case a_twice => k_is)
    (case a_text => k_is)
    (case a_line => k_is)
    (case o_name => kernel_rfl)
    (case q_name => kernel_rfl)
    (case o_key => kernel_rfl)
    (case q_key => kernel_rfl)
    (case o_number => kernel_rfl)
    (case q_number => kernel_rfl)
    (case o_nothing => kernel_rfl)
    (case q_nothing => kernel_rfl)
    (case o_quiet => kernel_rfl)
    (case q_quiet => kernel_rfl)
    (case o_twice => kernel_rfl)
    (case q_twice => kernel_rfl)
    (case o_text => kernel_rfl)
    (case q_text => kernel_rfl)
    (case o_line => kernel_rfl)
    (case q_line => kernel_rfl)
    (case n_name_name => k_is)
    (case n_key_key => k_is)
    (case n_number_number => k_is)
    (case n_twice_key => k_is)
    (case n_line_number => k_is)
    (case n_quiet_one => k_is)
    (case n_quiet_other => k_is)
    (case x_nothing => kernel_rfl)
    (case x_text => kernel_rfl)
    (case g_iname => k_is)
    (case t_iname => k_is)
    (case l_iname => k_is)
    (case d_iname => k_is)
    (case k_iname => k_is)
    (case g_ikey => k_is)
    (case t_ikey => k_is)
    (case l_ikey => k_is)
    (case d_ikey => k_is)
    (case k_ikey => k_is)
    (case g_inumber => k_is)
    (case t_inumber => k_is)
    (case l_inumber => k_is)
    (case d_inumber => k_is)
    (case k_inumber => k_is)
    (case g_iquiet => k_is)
    (case t_iquiet => k_is)
    (case l_iquiet => k_is)
    (case d_iquiet => k_is)
    (case k_iquiet => k_is)
    (case g_itwice => k_is)
    (case t_itwice => k_is)
    (case l_itwice => k_is)
    (case d_itwice => k_is)
    (case k_itwice => k_is)
    (case g_iline => k_is)
    (case t_iline => k_is)
    (case l_iline => k_is)
    (case d_iline => k_is)
    (case k_iline => k_is)
    (case g_as_tuples => k_is)
    (case l_as_tuples => k_is)
    (case d_as_tuples => k_is)
    (case k_as_tuples => k_is)
    (case g_law_box => k_is)
    (case l_law_box => k_is)
    (case d_law_box => k_is)
    (case k_law_box => k_is)
    (case g_law_take => k_is)
    (case l_law_take => k_is)
    (case d_law_take => k_is)
    (case k_law_take => k_is)
    (case g_law_cells => k_is)
    (case l_law_cells => k_is)
    (case d_law_cells => k_is)
    (case k_law_cells => k_is)
    (case g_law_of => k_is)
    (case l_law_of => k_is)
    (case d_law_of => k_is)
    (case k_law_of => k_is)
    (case g_law_same => k_is)
    (case l_law_same => k_is)
    (case d_law_same => k_is)
    (case k_law_same => k_is)
    (case g_law_sorts => k_is)
    (case l_law_sorts => k_is)
    (case d_law_sorts => k_is)
    (case k_law_sorts => k_is)
    (case g_law_hand_right => k_is)
    (case l_law_hand_right => k_is)
    (case d_law_hand_right => k_is)
    (case k_law_hand_right => k_is)
    (case g_law_right => k_is)
    (case l_law_right => k_is)
    (case d_law_right => k_is)
    (case k_law_right => k_is)
    (case g_law => k_is)
    (case l_law => k_is)
    (case d_law => k_is)
    (case k_law => k_is)
    (case z_isinstance => k_is)
    (case z_list => k_is)
    (case z_tuple => k_is)
    (case z_dict => k_is)
    (case z_bool => k_is)
    (case z_str => k_is)
    (case z_int => k_is)
    (case z_len => k_is)
    (case z_all => k_is)
    (case z_zip => k_is)
    (case z_abs => k_is)
    (case z_enumerate => k_is)
    (case z_range => k_is)
    (case z_LookupError => k_is)
    (case z_ValueError => k_is)
    (case z_KeyError => k_is)
    (case z_IndexError => k_is)

