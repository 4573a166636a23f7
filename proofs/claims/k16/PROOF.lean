import PyProof.Rows.All
import Wide.All
import OpenK.AllK
import Wide.FinOn
import HandS.ForMost
import HandS.ForExc
import HandS.Wide
import HandS.WideMore
import HandS.WideBits
import HandS.EndBits
import HandS.IsInst
import HandS.ExcIs
import HandS.HotCalls
import HandS.StrMore
import HandS.Style
import HandS.TupAny
import HandS.SortInts
import HandS.SortKw
import HandS.Walk
import HandS.SortRule
import PySem.Challenge.RW_corebank_k16_tiers
set_option Elab.async false
set_option linter.all false
set_option maxRecDepth 100000
set_option maxHeartbeats 4000000
/-! What all the proofs share: the library's errors, lists joined, the def that tells an error's kinds. -/
namespace Kv
open PySem PySem.Spec PyProof.Rows L2
abbrev Frag := PySem.W.Frag
inductive Er where
  | badValue | badDay | missing | refused | full | notAllowed | damaged
  deriving DecidableEq
def Er.nm : Er → Str
  | .badValue => "BadValue" | .badDay => "BadDay" | .missing => "Missing" | .refused => "Refused" | .full => "Full" | .notAllowed => "NotAllowed" | .damaged => "Damaged"
def Er.every : List Er := [.badValue, .badDay, .missing, .refused, .full, .notAllowed, .damaged]
theorem Er.mem (e : Er) : e ∈ Er.every := by cases e <;> decide
abbrev veChain : List Value := [.type "ValueError", .type "Exception", .type "BaseException", .type "object"]
/-- what the written part must say of one error class -/
def errOne (K : Frag) (a : Er → Addr) (b : Addr) (e : Er) : Bool :=
  PySem.W.excIn K (a e) veChain "ValueError.__new__" && PySem.W.keepIn K (.ref (a e)) && (PySem.W.subIn K (.ref (a e)) (.type "BaseException") == some true) && (PySem.W.typeIn K (.ref (a e)) == some (.type "type")) &&
  (PySem.W.findIn K (.ref (a e)) "__getattribute__" == some (some (.builtin "BaseException.__getattribute__"))) && (PySem.W.findIn K (.ref (a e)) "__getattr__" == some none) && PySem.W.hasDictIn K (a e) &&
  (PySem.W.findIn K (.ref (a e)) "__class__" == some (some (.builtin "object.__class__"))) && (PySem.W.mroIn K (a e) (.type "object") == some true) && (PySem.W.exmOne K (.ref (a e)) (.ref b) == some true) &&
  Er.every.all fun d => PySem.W.kitOne K (.ref (a e)) (.ref (a d)) == some (decide (e = d))
def errAll (K : Frag) (a : Er → Addr) (b : Addr) : Bool :=
  (PySem.W.specialIn K (.builtin "object.__class__") "__get__" == some (some (.builtin "getset_descriptor.__get__"))) && (PySem.W.takesIn K (.builtin "object.__class__") == some true) && Er.every.all (errOne K a b)
structure Errs (K : Frag) (mg : Str → Option Value) where
  exa : Er → Addr
  exg : ∀ e, mg e.nm = some (.ref (exa e))
  a_BankError : Addr
  g_BankError : mg "BankError" = some (.ref a_BankError)
  exAll : errAll K exa a_BankError = true
namespace Errs
variable {K : Frag} {mg : Str → Option Value} (T : Errs K mg)
theorem one (e : Er) : errOne K T.exa T.a_BankError e = true := by
  have h := T.exAll
  unfold errAll at h
  simp only [Bool.and_eq_true, List.all_eq_true] at h
  exact h.2 e e.mem
theorem split (e : Er) : PySem.W.excIn K (T.exa e) veChain "ValueError.__new__" = true ∧ PySem.W.keepIn K (.ref (T.exa e)) = true ∧ PySem.W.subIn K (.ref (T.exa e)) (.type "BaseException") = some true ∧ PySem.W.typeIn K (.ref (T.exa e)) = some (.type "type") ∧
    ExcC K (T.exa e) ∧ PySem.W.exmOne K (.ref (T.exa e)) (.ref T.a_BankError) = some true ∧ ∀ d, PySem.W.kitOne K (.ref (T.exa e)) (.ref (T.exa d)) = some (decide (e = d)) := by
  have h := T.one e
  have g := T.exAll
  unfold errOne at h
  unfold errAll at g
  simp only [Bool.and_eq_true, List.all_eq_true, beq_iff_eq] at h g
  obtain ⟨⟨⟨⟨⟨⟨⟨⟨⟨⟨h1, h2⟩, h3⟩, h4⟩, h5⟩, h6⟩, h7⟩, h8⟩, h9⟩, h10⟩, h11⟩ := h
  exact ⟨h1, h2, h3, h4, ⟨h5, h6, h3, h7, h8, g.1.1, g.1.2, h9⟩, h10, fun d => h11 d d.mem⟩
theorem exx (e : Er) : PySem.W.excIn K (T.exa e) veChain "ValueError.__new__" = true := (T.split e).1
theorem exk (e : Er) : PySem.W.keepIn K (.ref (T.exa e)) = true := (T.split e).2.1
theorem exb (e : Er) : PySem.W.subIn K (.ref (T.exa e)) (.type "BaseException") = some true := (T.split e).2.2.1
theorem ext (e : Er) : PySem.W.typeIn K (.ref (T.exa e)) = some (.type "type") := (T.split e).2.2.2.1
theorem exc (e : Er) : ExcC K (T.exa e) := (T.split e).2.2.2.2.1
theorem exm (e : Er) : PySem.W.exmOne K (.ref (T.exa e)) (.ref T.a_BankError) = some true := (T.split e).2.2.2.2.2.1
theorem exi (e d : Er) : PySem.W.kitOne K (.ref (T.exa e)) (.ref (T.exa d)) = some (decide (e = d)) := (T.split e).2.2.2.2.2.2 d
end Errs

/-- .. where the text has some of the classes alone -/
def errAllP (K : Frag) (a : Er → Addr) (b : Addr) (es : List Er) : Bool :=
  (PySem.W.specialIn K (.builtin "object.__class__") "__get__" == some (some (.builtin "getset_descriptor.__get__"))) && (PySem.W.takesIn K (.builtin "object.__class__") == some true) && es.all fun e =>
  PySem.W.excIn K (a e) veChain "ValueError.__new__" && PySem.W.keepIn K (.ref (a e)) && (PySem.W.subIn K (.ref (a e)) (.type "BaseException") == some true) && (PySem.W.typeIn K (.ref (a e)) == some (.type "type")) &&
  (PySem.W.exmOne K (.ref (a e)) (.ref b) == some true)
structure ErrsP (K : Frag) (mg : Str → Option Value) (es : List Er) where
  exa : Er → Addr
  exgP : ∀ e, e ∈ es → mg e.nm = some (.ref (exa e))
  a_BankError : Addr
  g_BankError : mg "BankError" = some (.ref a_BankError)
  exAll : errAllP K exa a_BankError es = true
namespace ErrsP
variable {K : Frag} {mg : Str → Option Value} {es : List Er} (T : ErrsP K mg es)
theorem split (e : Er) (he : e ∈ es) : PySem.W.excIn K (T.exa e) veChain "ValueError.__new__" = true ∧ PySem.W.keepIn K (.ref (T.exa e)) = true ∧ PySem.W.subIn K (.ref (T.exa e)) (.type "BaseException") = some true ∧ PySem.W.typeIn K (.ref (T.exa e)) = some (.type "type") ∧
    PySem.W.exmOne K (.ref (T.exa e)) (.ref T.a_BankError) = some true := by
  have g := T.exAll
  unfold errAllP at g
  simp only [Bool.and_eq_true, List.all_eq_true, beq_iff_eq] at g
  obtain ⟨⟨⟨⟨h1, h2⟩, h3⟩, h4⟩, h5⟩ := g.2 e he
  exact ⟨h1, h2, h3, h4, h5⟩
theorem exg (e : Er) (he : e ∈ es := by decide) : mg e.nm = some (.ref (T.exa e)) := T.exgP e he
theorem exx (e : Er) (he : e ∈ es := by decide) : PySem.W.excIn K (T.exa e) veChain "ValueError.__new__" = true := (T.split e he).1
theorem exk (e : Er) (he : e ∈ es := by decide) : PySem.W.keepIn K (.ref (T.exa e)) = true := (T.split e he).2.1
theorem exb (e : Er) (he : e ∈ es := by decide) : PySem.W.subIn K (.ref (T.exa e)) (.type "BaseException") = some true := (T.split e he).2.2.1
theorem ext (e : Er) (he : e ∈ es := by decide) : PySem.W.typeIn K (.ref (T.exa e)) = some (.type "type") := (T.split e he).2.2.2.1
theorem exm (e : Er) (he : e ∈ es := by decide) : PySem.W.exmOne K (.ref (T.exa e)) (.ref T.a_BankError) = some true := (T.split e he).2.2.2.2
end ErrsP

/-! ### two lists joined, whatever may be read of them -/
section
variable {X : Cx}
def rCatS (K : Frag) : R2 := fun x y H Q => ∃ l b xs zs, x = .ref l ∧ y = .ref b ∧ SqL K H l xs ∧ SqL K H b zs ∧ xs.length + zs.length ≤ sizeLine ∧ ∀ p, H p = none → Q (.ref p) (upd H p (.lst (xs ++ zs)))
theorem op_catS : OpR X (binaryOp .Add) (rCatS X.K) := by
  intro pins s σ H x y v u Q I rx ry h
  obtain ⟨l, b, xs, zs, e1, e2, hl, hb, hz, q⟩ := h
  subst e1 e2
  cases rx
  cases ry
  obtain ⟨i1, r1, p1, z1⟩ := I.list hl
  obtain ⟨i2, r2, p2, z2⟩ := I.list hb
  obtain ⟨⟨c1, d1, t1, w1⟩, n1, g1, k1, m1, j1⟩ := p1
  obtain ⟨⟨c2, d2, t2, w2⟩, n2, g2, k2, m2, j2⟩ := p2
  dsimp only at k1 m1 j1 k2 m2 j2
  subst k1 m1 j1 k2 m2 j2
  have l1 := r1.length
  have l2 := r2.length
  have fits : i1.toArray.size + i2.toArray.size ≤ sizeLine := by
    rw [List.size_toArray, List.size_toArray]
    omega
  have joined : i1.toArray ++ i2.toArray = (i1 ++ i2).toArray := by simp
  have meets := list_addW l b i1.toArray i2.toArray n1 n2 none none w1 w2 fits
  refine concat_meets (s := s) ⟨_, g1, rfl⟩ ⟨_, g2, rfl⟩ noFill_list_add seq_list_add
    PySem.F.slot_list_add PySem.F.entry_list_add (PySem.F.args_list_add_2 _ _) meets ⟨g1, g2, ?_⟩
  rw [joined]
  exact ⟨.ref _, _, I.lnew (t' := s.toks) (r1.append r2) (by rw [List.length_append]; exact hz), rfl, q _ I.fresh⟩
end

/-! ### a def that is handed the error which a suite holds, and tells its kind -/
section
variable {P : Program} {w : World} {K : Frag} {mg : Str → Option Value} {base : Heap}
structure KindsOk (P : Program) (w : World) (K : Frag) (mg : Str → Option Value) (base : Heap) (T : Errs K mg) (lv : Nat) (f : Addr) (fd : FuncData) : Prop where
  run : ∀ (A : Around) (outer : List Env) (s : Shared) (H : Hp) (args : Args) (us : List Value) (Q : VK) (p : Addr × Obj) (er : Er), L2H.RoomH lv A → L2H.PinOk outer H s p → Zc (.ref (T.exa er)) none p.2 → (∃ vs, p.2.data = .fields vs) →
    Env0 P w K mg base A outer s H → BindsTo s fd args ((["error"] : List Str).zip us) → Vals [.ref p.1] us → (∀ q, H q = none → Q (.ref q) (upd H q (.lst [.str er.nm]))) →
    codeAny (model P w) A (.call (.ref f) args) (CR CX0 outer P w H s Q E0) s
/-- isinstance of an error that every state bears -/
def rIsP (K : Frag) (D a : Addr) : List V → Hp → VK → Prop := fun xs H Q => ∃ (C : Addr) (b : Bool), xs = [.ref a, .ref C] ∧ PySem.W.kitOne K (.ref D) (.ref C) = some b ∧ Q (.bl b) H
theorem call_isP {X : Cx} {D : Addr} {p : Addr × Obj} (hp : p ∈ X.pn) (C : ExcC X.K D) (hz : Zc (.ref D) none p.2) (hf : ∃ vs, p.2.data = .fields vs) : CallR X (.builtin "isinstance") (rIsP X.K D p.1) := by
  intro pins s σ H xs us Q I r h
  obtain ⟨c, b, e1, e, q⟩ := h
  subst e1
  cases r with
  | cons rx rr =>
    cases rr with
    | cons rt rr2 =>
      cases rr2
      cases rx
      cases rt
      have hget := (I.pin p (List.mem_append.mpr (.inl hp))).1
      have J : PySem.W.InstAt s.heap p.1 p.2 D none := by
        obtain ⟨pa, oc, od, oda, osl⟩ := p
        obtain ⟨vs, hv⟩ := hf
        obtain ⟨h1, h2⟩ := hz
        dsimp only at h1 h2 hv hget ⊢
        subst h1 h2 hv
        exact ⟨hget, rfl, rfl, trivial⟩
      have kit := PySem.W.handS_kitx_exc C.hg C.hk C.hs C.hd C.ha C.hn C.ht C.hm (x := p.1) (ox := p.2)
      exact PySem.W.kia_one kit I.kIn J e (fun z => nomatch z) fun tk => ⟨.bl b, H, I.kept (t' := tk) fun _ _ z => z, rfl, q⟩
/-- such a def by its body -/
theorem kinds_of {T : Errs K mg} {lv : Nat} {f : Addr} {fd : FuncData} {st : Stmt} {N : List Str} (F : Fun K "_law_kinds" "_law_kinds" st f fd) (S : FnScope N ["error"] (defScope st))
    (hb : ∀ (cdv : Value) (A : Around) (outer : List Env) (s : Shared) (H : Hp) (Q : VK) (p : Addr × Obj) (er : Er), Zc (.ref (T.exa er)) none p.2 → (∃ vs, p.2.data = .fields vs) → (∀ q, H q = none → Q (.ref q) (upd H q (.lst [.str er.nm]))) →
      ∃ t, PSs (L2H.cxH CX0 P w K mg base N "_law_kinds" (defScope st) f cdv A outer s H E0 p) (defBody st) t ∧ t { nx := fun _ H' => Q .non H', rt := Q } (start N [.ref p.1]) H) :
    KindsOk P w K mg base T (lv + 1) f fd := by
  obtain ⟨oc, od, kV, doc, pm, an, cdv, ct, osl, rfl, lk, hcd⟩ := F.ex
  refine ⟨fun A outer s H args us Q p er hr hpin hz hf e0 hbi r hk => ?_⟩
  have KX : K.In s.heap := e0.mod.kin.keeps fun b o e => (e0.bs b o e).1
  have lim : s.heap.NoLimit := e0.mod.nolimit.keeps fun b o e => (e0.bs b o e).1
  have kinds : ∀ y ∈ (["error"] : List Str).zip us, (defScope st).names.lookup y.1 = some .local ∨ ((defScope st).names.lookup y.1 = some .cell ∧ ((cellsFrom (s.heap.objs.size + 1) (defScope st).names []).lookup y.1).isSome = true) := by
    intro ⟨n, v⟩ hy
    rcases S.par n (List.of_mem_zip hy).1 with z | z
    · exact .inl z
    · exact .inr ⟨z, PySem.W.cellsFrom_some _ _ _ (.inl z)⟩
  refine codeAny_call_function hr.depth (KX _ _ lk) rfl S.co S.gen rfl (PySem.W.codeRec_of KX hcd) (hbi _ _ _ _ ?_)
  refine wpAny_newFunctionEnv_cells S.kind kinds fun env he s1 x => ?_
  subst he
  refine ⟨lim.keeps x.toInCall.keep, codeAny_func ?_⟩
  obtain ⟨t, ht, hq⟩ := hb cdv A outer s H Q p er hz hf hk
  have I := L2H.inv_startH (CX := CX0) (E := E0) S hpin e0 (show ([.ref p.1] : List V).length = (["error"] : List Str).length from rfl) r x
  refine wpAny_mono (ht.run [] s1 _ H _ I hq) (fun fl s' hs => ?_) fun e s' hs => hs
  have fin : ∀ {σ' : L2.St} {H' : Hp} {v : V} {u : Value}, Inv _ [] σ' H' s' → RelV v u → Q v H' → CE outer P w H s Q u s' :=
    fun {σ' H' v u} (J : Inv (L2H.cxH CX0 P w K mg base N "_law_kinds" (defScope st) f cdv A outer s H E0 p) [] σ' H' s') rv qq => ⟨v, H', J.os, J.bare, J.base, J.hok, rv, qq⟩
  cases fl with
  | next =>
    obtain ⟨σ', H', J, qq⟩ := hs
    exact fin (v := V.non) (u := Value.none) J rfl qq
  | ret u =>
    obtain ⟨v, σ', H', J, rv, qq⟩ := hs
    exact fin J rv qq
  | brk =>
    obtain ⟨_, _, _, qq⟩ := hs
    exact qq.elim
  | cont =>
    obtain ⟨_, _, _, qq⟩ := hs
    exact qq.elim
end
section
variable {X : Cx} {CX : CXT} {f : Addr} {fd : FuncData} {lv : Nat} {x : Str} {q pos : Pos} {e : Expr} {te : TE}
/-- kinds(e), e the error that the suite holds -/
def tKinds {K : Frag} {mg : Str → Option Value} (T : Errs K mg) (cls : Value) (d : Option Addr) (a : Addr) (ta : TA) : TE := fun σ H Q => ta σ H fun vs H1 => vs = [.ref a] ∧ d = none ∧ ∃ er, cls = .ref (T.exa er) ∧ ∀ r, H1 r = none → Q (.ref r) (upd H1 r (.lst [.str er.nm]))
theorem pe_kinds {a : Addr} {oe : Obj} {cls : Value} {d : Option Addr} {P : Program} {w : World} {K : Frag} {mg : Str → Option Value} {base : Heap} {T : Errs K mg} {ta : TA} (F : KindsOk P w K mg base T lv f fd) (hz : Zc cls d oe) (hf : ∃ vs, oe.data = .fields vs) (hp : (a, oe) ∈ X.pn) (hr : L2H.RoomH lv X.A) (hg : Gl X x)
    (hm : X.mg x = some (.ref f)) (hk : PySem.W.keepIn K (.ref f) = true) (hb : Binds K fd ["error"] []) (ha : PA X [e] ta) (hP : X.prog = P := by rfl) (hw : X.w = w := by rfl) (hK : X.K = K := by rfl) (hM : X.mg = mg := by rfl) (hB : X.base = base := by rfl) (hdb : (x == ("__debug__" : Str)) = false := by decide)
    (he : starEach (e :: []) X.env = (false, eval e X.env) :: starEach [] X.env := by rfl) (hpl : (backTo pos (starEach [] X.env)).any (·.1) = false := by rfl) :
    PE X (.Call (.Name x q) [e] [] pos) (tKinds T cls d a ta) := by
  subst hP hw hK hM hB
  refine ⟨fun pins s σ H Q I h => ?_⟩
  refine wpAny_Call_Name_kw (ld_glob I hg hm ?_ hdb)
  refine PySem.W.callWith_K (h₀ := X.base) I.ok.mod.kin hk (thn (ha.run pos pins s σ H _ I h) fun us s1 ⟨vs, H1, I1, r, e1, e2, er, e3, k⟩ => ⟨I1.kIn, ?_⟩) he hpl
  subst e1 e2 e3
  have P1 := I1.pin (a, oe) (List.mem_append.mpr (.inl hp))
  have hl : us.length = 1 := r.length.symm
  have b := hb s1 us I1.kIn (by rw [List.append_nil]; exact hl)
  rw [List.append_nil] at b
  have hpin : L2H.PinOk X.stack H1 s1 (a, oe) := ⟨P1.1, P1.2.1, fun hm => (List.mem_cons.mp (I1.stkSub a hm)).elim P1.2.2.1 P1.2.2.2.1, P1.2.2.2.2⟩
  refine wpAny_call (codeAny_mono (F.run _ X.stack s1 H1 ⟨us, []⟩ us Q (a, oe) er hr hpin hz hf I1.env0 b r k) fun r' s' hq => ?_)
  cases r' with
  | error e => exact False.elim hq
  | ok fl =>
    cases fl with
    | ret u => exact I1.after hq
    | next => exact False.elim hq
    | brk => exact False.elim hq
    | cont => exact False.elim hq
end
/-! ### what may be compared -/
theorem sc_ii {a b : Int} : scal (.int a) (.int b) = true := rfl
theorem sc_ss {a b : Str} : scal (.str a) (.str b) = true := rfl
theorem sc_bb {a b : Bool} : scal (.bl a) (.bl b) = true := rfl
theorem sc_nn : scal .non .non = true := rfl
theorem sc_ni {a : Int} : scal .non (.int a) = true := rfl
theorem sc_in {a : Int} : scal (.int a) .non = true := rfl
theorem sc_sn {a : Str} : scal (.str a) .non = true := rfl
theorem sc_ns {a : Str} : scal .non (.str a) = true := rfl
theorem sc_bn {a : Bool} : scal (.bl a) .non = true := rfl
theorem sc_nb {a : Bool} : scal .non (.bl a) = true := rfl
theorem sc_is {a : Int} {b : Str} : scal (.int a) (.str b) = true := rfl
theorem sc_si {a : Int} {b : Str} : scal (.str b) (.int a) = true := rfl
theorem isi_int {K : Frag} {z : Int} {n : String} {b : Bool} {H : Hp} {Q : VK} (h : kitB "int" n = some b) (q : Q (.bl b) H) : rIsi K [.int z, .ty n] H Q := ⟨_, _, .type "int", .type n, b, rfl, .ty _, .base (.int _), kit_ty h, q⟩
theorem isi_bl {K : Frag} {z : Bool} {n : String} {b : Bool} {H : Hp} {Q : VK} (h : kitB "bool" n = some b) (q : Q (.bl b) H) : rIsi K [.bl z, .ty n] H Q := ⟨_, _, .type "bool", .type n, b, rfl, .ty _, .base (.bl _), kit_ty h, q⟩
theorem isi_str {K : Frag} {z : Str} {n : String} {b : Bool} {H : Hp} {Q : VK} (h : kitB "str" n = some b) (q : Q (.bl b) H) : rIsi K [.str z, .ty n] H Q := ⟨_, _, .type "str", .type n, b, rfl, .ty _, .base (.str _), kit_ty h, q⟩
theorem isi_tup {K : Frag} {a : Addr} {xs : List V} {n : String} {b : Bool} {H : Hp} {Q : VK} (e : H a = some (.tup xs)) (h : kitB "tuple" n = some b) (q : Q (.bl b) H) : rIsi K [.ref a, .ty n] H Q := ⟨_, _, .type "tuple", .type n, b, rfl, .ty _, .base (.tup e), kit_ty h, q⟩
theorem isi_lst {K : Frag} {a : Addr} {xs : List V} {n : String} {b : Bool} {H : Hp} {Q : VK} (e : H a = some (.lst xs)) (h : kitB "list" n = some b) (q : Q (.bl b) H) : rIsi K [.ref a, .ty n] H Q := ⟨_, _, .type "list", .type n, b, rfl, .ty _, .base (.lst e), kit_ty h, q⟩
theorem isi_non {K : Frag} {n : String} {b : Bool} {H : Hp} {Q : VK} (h : kitB "NoneType" n = some b) (q : Q (.bl b) H) : rIsi K [.non, .ty n] H Q := ⟨_, _, .type "NoneType", .type n, b, rfl, .ty _, .base .non, kit_ty h, q⟩
/-! ### in a comprehension's block, in an except suite: what is read is told by the outer K -/
theorem pe_bmK (K : Frag) {X : Cx} {T name id : String} {r : V → List V → Hp → VK → Prop} {o e : Expr} {es : List Expr} {to : TE} {t : TA} {apos cpos : Pos} (pa : PlainAttrs T) (slot : Slot T name id) (hty : typeOf (.builtin id) = pure (.type "method_descriptor")) (hm : MtR X id r) (ho : PE X o to) (ha : PA X (e :: es) t)
    (hbase : attributeBase o name X.env (eval o X.env) = eval o X.env := by rfl)
    (hfew : ((backTo cpos (starEach (e :: es) X.env)).all (fun x => !x.1) && (backToKw cpos (keywordEach [] X.env)).all (fun x => x.1.isSome)
      && decide ((e :: es).length + ([] : List Keyword).length + (if ([] : List Keyword).isEmpty then 0 else 1) < 30)) = true := by rfl)
    (hline : (apos.endLine == cpos.line) = true := by rfl) (hs : starEach (e :: es) X.env = (false, eval e X.env) :: starEach es X.env := by rfl) (hplain : (backTo cpos (starEach es X.env)).any (·.1) = false := by rfl) (h : X.K = K := by rfl) :
    PE X (.Call (.Attribute o name apos) (e :: es) [] cpos) (tBM K T r to t) := by subst h; exact pe_bm pa slot hty hm ho ha hbase hfew hline hs hplain
theorem ixl (K : Frag) {X : Cx} (h : X.K = K := by rfl) : IxR X (rIxL K) := by subst h; exact ix_list
theorem ixt (K : Frag) {X : Cx} (h : X.K = K := by rfl) : IxR X (rIxT K) := by subst h; exact ix_tup
theorem cdiv_1 {i : Int} : CDivW i 1 = True := eq_true ⟨by decide, by decide⟩
theorem cdiv_2 {i : Int} : CDivW i 2 = True := eq_true ⟨by decide, by decide⟩
theorem cdiv_3 {i : Int} : CDivW i 3 = True := eq_true ⟨by decide, by decide⟩
theorem cdiv_4 {i : Int} : CDivW i 4 = True := eq_true ⟨by decide, by decide⟩
theorem cdiv_5 {i : Int} : CDivW i 5 = True := eq_true ⟨by decide, by decide⟩
theorem cdiv_6 {i : Int} : CDivW i 6 = True := eq_true ⟨by decide, by decide⟩
theorem cdiv_7 {i : Int} : CDivW i 7 = True := eq_true ⟨by decide, by decide⟩
theorem cdiv_8 {i : Int} : CDivW i 8 = True := eq_true ⟨by decide, by decide⟩
theorem cdiv_9 {i : Int} : CDivW i 9 = True := eq_true ⟨by decide, by decide⟩
theorem cdiv_10 {i : Int} : CDivW i 10 = True := eq_true ⟨by decide, by decide⟩
theorem cdiv_11 {i : Int} : CDivW i 11 = True := eq_true ⟨by decide, by decide⟩
theorem cdiv_12 {i : Int} : CDivW i 12 = True := eq_true ⟨by decide, by decide⟩
theorem cdiv_13 {i : Int} : CDivW i 13 = True := eq_true ⟨by decide, by decide⟩
theorem cdiv_14 {i : Int} : CDivW i 14 = True := eq_true ⟨by decide, by decide⟩
theorem cdiv_16 {i : Int} : CDivW i 16 = True := eq_true ⟨by decide, by decide⟩
theorem cdiv_20 {i : Int} : CDivW i 20 = True := eq_true ⟨by decide, by decide⟩
theorem cdiv_30 {i : Int} : CDivW i 30 = True := eq_true ⟨by decide, by decide⟩
theorem cdiv_50 {i : Int} : CDivW i 50 = True := eq_true ⟨by decide, by decide⟩
theorem cdiv_60 {i : Int} : CDivW i 60 = True := eq_true ⟨by decide, by decide⟩
theorem cdiv_64 {i : Int} : CDivW i 64 = True := eq_true ⟨by decide, by decide⟩
theorem cdiv_100 {i : Int} : CDivW i 100 = True := eq_true ⟨by decide, by decide⟩
theorem cdiv_400 {i : Int} : CDivW i 400 = True := eq_true ⟨by decide, by decide⟩
theorem cdiv_1000 {i : Int} : CDivW i 1000 = True := eq_true ⟨by decide, by decide⟩
theorem cdiv_2000 {i : Int} : CDivW i 2000 = True := eq_true ⟨by decide, by decide⟩
theorem cdiv_10000 {i : Int} : CDivW i 10000 = True := eq_true ⟨by decide, by decide⟩
theorem cdiv_1000000 {i : Int} : CDivW i 1000000 = True := eq_true ⟨by decide, by decide⟩
theorem sz_0 : (0 ≤ sizeLine) = True := eq_true (by decide)
theorem szl_0 : (0 < sizeLine) = True := eq_true (by decide)
theorem sz_1 : (1 ≤ sizeLine) = True := eq_true (by decide)
theorem szl_1 : (1 < sizeLine) = True := eq_true (by decide)
theorem sz_2 : (2 ≤ sizeLine) = True := eq_true (by decide)
theorem szl_2 : (2 < sizeLine) = True := eq_true (by decide)
theorem sz_3 : (3 ≤ sizeLine) = True := eq_true (by decide)
theorem szl_3 : (3 < sizeLine) = True := eq_true (by decide)
theorem sz_4 : (4 ≤ sizeLine) = True := eq_true (by decide)
theorem szl_4 : (4 < sizeLine) = True := eq_true (by decide)
theorem sz_5 : (5 ≤ sizeLine) = True := eq_true (by decide)
theorem szl_5 : (5 < sizeLine) = True := eq_true (by decide)
theorem sz_6 : (6 ≤ sizeLine) = True := eq_true (by decide)
theorem szl_6 : (6 < sizeLine) = True := eq_true (by decide)
theorem sz_7 : (7 ≤ sizeLine) = True := eq_true (by decide)
theorem szl_7 : (7 < sizeLine) = True := eq_true (by decide)
theorem sz_8 : (8 ≤ sizeLine) = True := eq_true (by decide)
theorem szl_8 : (8 < sizeLine) = True := eq_true (by decide)
theorem sz_9 : (9 ≤ sizeLine) = True := eq_true (by decide)
theorem szl_9 : (9 < sizeLine) = True := eq_true (by decide)
theorem sz_10 : (10 ≤ sizeLine) = True := eq_true (by decide)
theorem szl_10 : (10 < sizeLine) = True := eq_true (by decide)
theorem sz_11 : (11 ≤ sizeLine) = True := eq_true (by decide)
theorem szl_11 : (11 < sizeLine) = True := eq_true (by decide)
theorem sz_12 : (12 ≤ sizeLine) = True := eq_true (by decide)
theorem szl_12 : (12 < sizeLine) = True := eq_true (by decide)
theorem sz_13 : (13 ≤ sizeLine) = True := eq_true (by decide)
theorem szl_13 : (13 < sizeLine) = True := eq_true (by decide)
theorem sz_14 : (14 ≤ sizeLine) = True := eq_true (by decide)
theorem szl_14 : (14 < sizeLine) = True := eq_true (by decide)
theorem sz_15 : (15 ≤ sizeLine) = True := eq_true (by decide)
theorem szl_15 : (15 < sizeLine) = True := eq_true (by decide)
theorem sz_16 : (16 ≤ sizeLine) = True := eq_true (by decide)
theorem szl_16 : (16 < sizeLine) = True := eq_true (by decide)
theorem sz_17 : (17 ≤ sizeLine) = True := eq_true (by decide)
theorem szl_17 : (17 < sizeLine) = True := eq_true (by decide)
theorem sz_18 : (18 ≤ sizeLine) = True := eq_true (by decide)
theorem szl_18 : (18 < sizeLine) = True := eq_true (by decide)
theorem sz_19 : (19 ≤ sizeLine) = True := eq_true (by decide)
theorem szl_19 : (19 < sizeLine) = True := eq_true (by decide)
theorem sz_20 : (20 ≤ sizeLine) = True := eq_true (by decide)
theorem szl_20 : (20 < sizeLine) = True := eq_true (by decide)
theorem sz_21 : (21 ≤ sizeLine) = True := eq_true (by decide)
theorem szl_21 : (21 < sizeLine) = True := eq_true (by decide)
theorem sz_22 : (22 ≤ sizeLine) = True := eq_true (by decide)
theorem szl_22 : (22 < sizeLine) = True := eq_true (by decide)
theorem sz_23 : (23 ≤ sizeLine) = True := eq_true (by decide)
theorem szl_23 : (23 < sizeLine) = True := eq_true (by decide)
theorem sz_24 : (24 ≤ sizeLine) = True := eq_true (by decide)
theorem szl_24 : (24 < sizeLine) = True := eq_true (by decide)
theorem sz_25 : (25 ≤ sizeLine) = True := eq_true (by decide)
theorem szl_25 : (25 < sizeLine) = True := eq_true (by decide)
theorem sz_26 : (26 ≤ sizeLine) = True := eq_true (by decide)
theorem szl_26 : (26 < sizeLine) = True := eq_true (by decide)
/-! ### small words -/
theorem ne_fresh {H : Hp} {p q : Addr} {o : HO} (h : upd H p o q = none) : q ≠ p := by
  intro e
  subst e
  rw [upd_same] at h
  cases h
theorem fresh_was {H : Hp} {p q : Addr} {o : HO} (h : upd H p o q = none) : H q = none := by
  have e := ne_fresh h
  rw [upd_ne e] at h
  exact h
theorem same_upd {H : Hp} {p : Addr} {o : HO} (h : H p = none) : Same H (upd H p o) := fun b u e => by
  rw [upd_ne (ne_of_none e h)]
  exact e
/-- behind a store to what was not there at first -/
theorem same_mut {H H' : Hp} {p : Addr} {o : HO} (h : H p = none) (k : Same H H') : Same H (upd H' p o) := fun b u e => by
  rw [upd_ne (ne_of_none e h)]
  exact k b u e
theorem same_fresh {H H' : Hp} {p : Addr} (k : Same H H') (h : H' p = none) : H p = none := k.free h
theorem same_tup {K : Frag} {H H' : Hp} {a : Addr} {xs : List V} (e : Same H H') (h : SqT K H a xs) : SqT K H' a xs := by
  rcases h with (h | ⟨o, h⟩) | h
  · exact .inl (.inl (e _ _ h))
  · exact .inl (.inr ⟨o, e _ _ h⟩)
  · exact .inr h
/-- a tuple stays where a list is written -/
theorem tup_keep {H : Hp} {r a : Addr} {xs ys zs : List V} (hr : H r = some (.tup ys)) (ha : H a = some (.lst xs)) : (upd H a (.lst zs)) r = some (.tup ys) := by
  rw [upd_ne (ne_of hr ha (by intro z; cases z))]
  exact hr
theorem bits64 {k : Int} (h1 : -(2 ^ 64) < k) (h2 : k < 2 ^ 64) : Builtin.Int.intBits k ≤ 64 := intBits_le_64 h1 h2
theorem bitsPow {k : Int} {n : Nat} (h0 : 0 < n) (h1 : -(2 ^ n) < k) (h2 : k < 2 ^ n) : Builtin.Int.intBits k ≤ n := by
  have z : k.natAbs < 2 ^ n := by
    have e : ((2 ^ n : Nat) : Int) = (2 : Int) ^ n := by simp
    omega
  unfold Builtin.Int.intBits
  split
  · omega
  · have := PySem.Flt.log2_lt_of h0 z
    omega
theorem bits_mono {i j : Int} (h : i.natAbs ≤ j.natAbs) : Builtin.Int.intBits i ≤ Builtin.Int.intBits j := by
  unfold Builtin.Int.intBits
  by_cases c : i = 0
  · rw [if_pos (beq_iff_eq.mpr c)]
    exact Nat.zero_le _
  · have hj : ¬ j = 0 := by omega
    rw [if_neg (fun z => hj (beq_iff_eq.mp z)), if_neg (fun z => c (beq_iff_eq.mp z))]
    have hi : i.natAbs ≠ 0 := by omega
    have hj' : j.natAbs ≠ 0 := by omega
    have z : i.natAbs.log2 ≤ j.natAbs.log2 := (Nat.le_log2 hj').mpr (Nat.le_trans (Nat.log2_self_le hi) h)
    omega
theorem mulX {i j : Int} {a b : Nat} (h1 : Builtin.Int.intBits i ≤ a) (h2 : Builtin.Int.intBits j ≤ b) (h : a + b ≤ 134217728 := by decide) : CMulX i j := by
  unfold CMulX
  omega
theorem ix_num {K : Frag} {a : Addr} {ns : List Int} {k : Int} {H : Hp} {Q : VK} (hS : SqL K H a (ns.map V.int)) (h : 0 ≤ k ∧ k < (ns.length : Int)) (q : Q (.int (ns.getD k.toNat 0)) H) : rIxL K (.ref a) (.int k) H Q := by
  refine ⟨a, _, k, _, rfl, rfl, hS, ?_, q⟩
  have e : (ns.map V.int)[k.toNat]? = some (V.int (ns.getD k.toNat 0)) := by
    rw [List.getElem?_map, List.getD_eq_getElem?_getD]
    have z : k.toNat < ns.length := by omega
    rw [List.getElem?_eq_getElem z]
    rfl
  exact at_of (j := k.toNat) (by omega) e
theorem ix_at {K : Frag} {a : Addr} {xs : List V} {k : Int} {v : V} {H : Hp} {Q : VK} (hS : SqL K H a xs) (h : 0 ≤ k) (e : xs[k.toNat]? = some v) (q : Q v H) : rIxL K (.ref a) (.int k) H Q :=
  ⟨a, xs, k, v, rfl, rfl, hS, at_of (j := k.toNat) (by omega) e, q⟩
/-- what is known of a number that a law draws -/
theorem num_in {ns : List Int} (hn : ∀ z ∈ ns, 0 ≤ z ∧ z < 10000000000000) (k : Nat) : 0 ≤ ns.getD k 0 ∧ ns.getD k 0 < 10000000000000 := by
  rw [List.getD_eq_getElem?_getD]
  cases e : ns[k]? with
  | none => exact ⟨by decide, by decide⟩
  | some z => exact hn z (List.mem_of_getElem? e)
theorem ix_sign {z : Str} {k : Int} {H : Hp} {Q : VK} (hz : z.length ≤ sizeLine) (h : 0 ≤ k ∧ k < (z.length : Int)) (q : ∀ c, z.cps.toList[k.toNat]? = some c → Q (.str ⟨#[c]⟩) H) : rIxS (.str z) (.int k) H Q := by
  have hl : k.toNat < z.cps.toList.length := by
    rw [Array.length_toList]
    show k.toNat < z.length
    omega
  have e : z.cps.toList[k.toNat]? = some z.cps.toList[k.toNat] := List.getElem?_eq_getElem hl
  refine ⟨z, k, _, rfl, rfl, hz, ?_, q _ e⟩
  unfold atI
  rw [show ixN z.cps.toList.length k = some k.toNat by unfold ixN; rw [if_pos h.1, if_pos (by omega)]]
  exact e
theorem ix_signc {z : Str} {k : Int} {c : Nat} {H : Hp} {Q : VK} (hz : z.length ≤ sizeLine) (h : 0 ≤ k) (e : z.cps.toList[k.toNat]? = some c) (q : Q (.str ⟨#[c]⟩) H) : rIxS (.str z) (.int k) H Q := by
  have hl : k.toNat < z.cps.toList.length := (List.getElem?_eq_some_iff.mp e).1
  refine ⟨z, k, c, rfl, rfl, hz, ?_, q⟩
  unfold atI
  rw [show ixN z.cps.toList.length k = some k.toNat by unfold ixN; rw [if_pos h, if_pos (by omega)]]
  exact e
theorem len_one (c : Nat) : (⟨#[c]⟩ : Str).length = 1 := rfl
theorem ref_num {ns : List Int} {i : Nat} {x : V} (h : (ns.map V.int)[i]? = some x) : ∃ z, ns[i]? = some z ∧ x = .int z := by
  rw [List.getElem?_map] at h
  cases e : ns[i]? with
  | none => rw [e] at h; cases h
  | some z => rw [e] at h; exact ⟨z, rfl, (Option.some.inj h).symm⟩
/-! ### one statement at a time -/
theorem seq_step {t u : TS} {D : Ends} {σ : L2.St} {H : Hp} (h : ∀ U : Ends → L2.St → Hp → Prop, U = u → t { D with nx := U D } σ H) : tSeq t u D σ H := h u rfl
theorem gseq_step {t u : TS} {D : Ends} {i : Nat} {x : V} {σ : L2.St} {H : Hp} (h : ∀ U : Ends → L2.St → Hp → Prop, U = u → t { D with nx := U D } (σ.set i (some x)) H) : gName i x σ H fun σ2 H2 => tSeq t u D σ2 H2 := h u rfl
/-- .. what stands between the two told -/
theorem seq_cut {t u : TS} {D : Ends} {σ : L2.St} {H : Hp} (M : L2.St → Hp → Prop) (h1 : ∀ U : L2.St → Hp → Prop, (∀ σ' H', M σ' H' → U σ' H') → t { D with nx := U } σ H) (h2 : ∀ σ' H', M σ' H' → u D σ' H') : tSeq t u D σ H := h1 (u D) h2
/-! ### a tuple taken apart -/
theorem gtup2 {K : Frag} {p : Addr} {x y : V} {g1 g2 : TG} {σ : L2.St} {H : Hp} {k : L2.St → Hp → Prop} (h : SqT K H p [x, y]) (q : g1 x σ H fun σ1 H1 => g2 y σ1 H1 k) (mono : ∀ v σ H, (∀ Q Q' : L2.St → Hp → Prop, (∀ a b, Q a b → Q' a b) → g1 v σ H Q → g1 v σ H Q') ∧ (∀ Q Q' : L2.St → Hp → Prop, (∀ a b, Q a b → Q' a b) → g2 v σ H Q → g2 v σ H Q')) : gTup K 2 (gCons g1 (gCons g2 gNil)) (.ref p) σ H k :=
  ⟨p, _, rfl, h, rfl, x, [y], rfl, (mono _ _ _).1 _ _ (fun σ1 H1 q1 => ⟨y, [], rfl, (mono _ _ _).2 _ _ (fun _ _ q2 => ⟨rfl, q2⟩) q1⟩) q⟩
theorem gtupN2 {K : Frag} {p : Addr} {x y : V} {i j : Nat} {σ : L2.St} {H : Hp} {k : L2.St → Hp → Prop} (h : SqT K H p [x, y]) (q : k ((σ.set i (some x)).set j (some y)) H) : gTup K 2 (gCons (gName i) (gCons (gName j) gNil)) (.ref p) σ H k :=
  ⟨p, _, rfl, h, rfl, x, [y], rfl, y, [], rfl, rfl, q⟩
theorem gtupN3 {K : Frag} {p : Addr} {x y z : V} {i j l : Nat} {σ : L2.St} {H : Hp} {k : L2.St → Hp → Prop} (h : SqT K H p [x, y, z]) (q : k (((σ.set i (some x)).set j (some y)).set l (some z)) H) : gTup K 3 (gCons (gName i) (gCons (gName j) (gCons (gName l) gNil))) (.ref p) σ H k :=
  ⟨p, _, rfl, h, rfl, x, [y, z], rfl, y, [z], rfl, z, [], rfl, rfl, q⟩
/-! ### lists of texts, lists of ints compared -/
theorem dp_strs {K : Frag} {H : Hp} : ∀ xs : List Str, DpAll K H (xs.map V.str) (xs.map PyData.str)
  | [] => .nil
  | x :: r => .cons (.str x) (dp_strs r)
theorem dp_ints {K : Frag} {H : Hp} : ∀ xs : List Int, DpAll K H (xs.map V.int) (xs.map PyData.int)
  | [] => .nil
  | x :: r => .cons (.int x) (dp_ints r)
theorem eqv_strs : ∀ xs ys : List Str, PyData.eqvAll (xs.map PyData.str) (ys.map PyData.str) = decide (xs = ys)
  | [], [] => by simp [PyData.eqvAll]
  | [], y :: ys => by simp [PyData.eqvAll]
  | x :: xs, [] => by simp [PyData.eqvAll]
  | x :: xs, y :: ys => by
    have ih := eqv_strs xs ys
    simp only [List.map_cons, PyData.eqvAll, PyData.eqv, ih, List.cons.injEq]
    by_cases e : x = y <;> simp [e]
theorem eqv_ints : ∀ xs ys : List Int, PyData.eqvAll (xs.map PyData.int) (ys.map PyData.int) = decide (xs = ys)
  | [], [] => by simp [PyData.eqvAll]
  | [], y :: ys => by simp [PyData.eqvAll]
  | x :: xs, [] => by simp [PyData.eqvAll]
  | x :: xs, y :: ys => by
    have ih := eqv_ints xs ys
    simp only [List.map_cons, PyData.eqvAll, PyData.eqv, ih, List.cons.injEq]
    by_cases e : x = y <;> simp [e]
theorem lay_strs : ∀ xs : List Str, xs.all PyData.strOk = true → PyData.canLayAll0 (xs.map PyData.str) = true
  | [], _ => rfl
  | x :: r, h => by
    rw [List.all_cons, Bool.and_eq_true] at h
    simp only [List.map_cons, PyData.canLayAll0, PyData.canLay0, h.1, lay_strs r h.2, Bool.and_self]
theorem lay_ints : ∀ xs : List Int, PyData.canLayAll0 (xs.map PyData.int) = true
  | [] => rfl
  | x :: r => by simp only [List.map_cons, PyData.canLayAll0, PyData.canLay0, lay_ints r, Bool.and_self]
theorem flat_strs : ∀ xs : List Str, PyData.depthAll (xs.map PyData.str) = 0
  | [] => rfl
  | x :: r => by simp only [List.map_cons, PyData.depthAll, PyData.depth, flat_strs r, Nat.max_self]
theorem flat_ints : ∀ xs : List Int, PyData.depthAll (xs.map PyData.int) = 0
  | [] => rfl
  | x :: r => by simp only [List.map_cons, PyData.depthAll, PyData.depth, flat_ints r, Nat.max_self]
theorem shaped_strs {xs : List Str} (h : xs.all PyData.strOk = true) : SeqAt.shaped (.list (xs.map PyData.str)) = true := by
  unfold SeqAt.shaped
  simp only [PyData.canLay0, lay_strs xs h, PyData.depth, flat_strs, Bool.true_and]
  decide
theorem shaped_ints {xs : List Int} : SeqAt.shaped (.list (xs.map PyData.int)) = true := by
  unfold SeqAt.shaped
  simp only [PyData.canLay0, lay_ints xs, PyData.depth, flat_ints, Bool.true_and]
  decide
theorem ne_strs {K : Frag} {H : Hp} {p q : Addr} {xs ys : List Str} {Q : VK} (hp : SqL K H p (xs.map V.str)) (hq : SqL K H q (ys.map V.str)) (ox : xs.all PyData.strOk = true) (oy : ys.all PyData.strOk = true) (k : Q (.bl (!decide (xs = ys))) H) : rNeD K (.ref p) (.ref q) H Q :=
  ⟨_, _, .lst hp (dp_strs xs), .lst hq (dp_strs ys), shaped_strs ox, shaped_strs oy, by simp only [PyData.eqv, eqv_strs]; exact k⟩
theorem eq_strs {K : Frag} {H : Hp} {p q : Addr} {xs ys : List Str} {Q : VK} (hp : SqL K H p (xs.map V.str)) (hq : SqL K H q (ys.map V.str)) (ox : xs.all PyData.strOk = true) (oy : ys.all PyData.strOk = true) (k : Q (.bl (decide (xs = ys))) H) : rEqD K (.ref p) (.ref q) H Q :=
  ⟨_, _, .lst hp (dp_strs xs), .lst hq (dp_strs ys), shaped_strs ox, shaped_strs oy, by simp only [PyData.eqv, eqv_strs]; exact k⟩
theorem ne_ints {K : Frag} {H : Hp} {p q : Addr} {xs ys : List Int} {Q : VK} (hp : SqL K H p (xs.map V.int)) (hq : SqL K H q (ys.map V.int)) (k : Q (.bl (!decide (xs = ys))) H) : rNeD K (.ref p) (.ref q) H Q :=
  ⟨_, _, .lst hp (dp_ints xs), .lst hq (dp_ints ys), shaped_ints, shaped_ints, by simp only [PyData.eqv, eqv_ints]; exact k⟩
theorem eq_ints {K : Frag} {H : Hp} {p q : Addr} {xs ys : List Int} {Q : VK} (hp : SqL K H p (xs.map V.int)) (hq : SqL K H q (ys.map V.int)) (k : Q (.bl (decide (xs = ys))) H) : rEqD K (.ref p) (.ref q) H Q :=
  ⟨_, _, .lst hp (dp_ints xs), .lst hq (dp_ints ys), shaped_ints, shaped_ints, by simp only [PyData.eqv, eqv_ints]; exact k⟩
/-- kinds as a law compares them -/
theorem ne_kind {K : Frag} {H : Hp} {p q : Addr} {x : Str} {Q : VK} (hp : H p = some (.lst [.str x])) (hq : H q = some (.lst [.str x])) (ox : PyData.strOk x = true) (k : Q (.bl false) H) : rNeD K (.ref p) (.ref q) H Q :=
  ne_strs (xs := [x]) (ys := [x]) (SqL.of hp) (SqL.of hq) (by simp [ox]) (by simp [ox]) (by simpa using k)
theorem shaped_of {d : PyData} (h1 : PyData.canLay0 d = true) (h2 : d.depth ≤ 64) : SeqAt.shaped d = true := by
  unfold SeqAt.shaped
  rw [h1, Bool.true_and]
  exact decide_eq_true h2
/-- two that say the same -/
theorem ne_same {K : Frag} {H : Hp} {x y : V} {d : PyData} {Q : VK} (hx : Dp K H x d) (hy : Dp K H y d) (hs : SeqAt.shaped d = true) (he : PyData.eqv d d = true) (k : Q (.bl false) H) : rNeD K x y H Q :=
  ⟨d, d, hx, hy, hs, hs, by rw [he]; exact k⟩
theorem eq_same {K : Frag} {H : Hp} {x y : V} {d : PyData} {Q : VK} (hx : Dp K H x d) (hy : Dp K H y d) (hs : SeqAt.shaped d = true) (he : PyData.eqv d d = true) (k : Q (.bl true) H) : rEqD K x y H Q :=
  ⟨d, d, hx, hy, hs, hs, by rw [he]; exact k⟩
theorem dp_3 {K : Frag} {H : Hp} {t : Addr} {a b c : Int} (ht : SqT K H t [.int a, .int b, .int c]) : Dp K H (.ref t) (.tuple [.int a, .int b, .int c]) :=
  .tup ht (.cons (.int _) (.cons (.int _) (.cons (.int _) .nil)))
theorem dp_pair {K : Frag} {H : Hp} {t l : Addr} {x y : V} {d e : PyData} (ht : SqT K H t [x, .ref l]) (hx : Dp K H x d) (hl : SqL K H l [y]) (hy : Dp K H y e) : Dp K H (.ref t) (.tuple [d, .list [e]]) :=
  .tup ht (.cons hx (.cons (.lst hl (.cons hy .nil)) .nil))
/-! ### loops -/
theorem tfor_range1 {ta : TA} {g : TG} {tb : TS} {D : Ends} {σ : L2.St} {H : Hp} {n : Int} (ha : ∀ Q : List V → Hp → Prop, Q [.int n] H → ta σ H Q) (hn : -1000000 ≤ n ∧ n ≤ 1000000) (Pv : Nat → L2.St → Hp → Prop) (h0 : Pv 0 σ H)
    (hs : ∀ (i : Nat) σ' H', (i : Int) < n → Pv i σ' H' → g (.int (i : Int)) σ' H' fun σ2 H2 => tb { D with nx := Pv (i + 1), ct := Pv (i + 1), bk := D.nx } σ2 H2) (hd : ∀ σ' H', Pv n.toNat σ' H' → D.nx σ' H') : tFor (iRng1 ta) g tb D σ H :=
  ha _ ⟨n, rfl, by omega, by omega, for_range (lo := 0) (n := n.toNat) Pv h0 (fun i σ' H' hi p => by
    rw [Int.zero_add]
    exact hs i σ' H' (by omega) p) hd⟩
theorem tfor_range2 {ta : TA} {g : TG} {tb : TS} {D : Ends} {σ : L2.St} {H : Hp} {lo hi : Int} (ha : ∀ Q : List V → Hp → Prop, Q [.int lo, .int hi] H → ta σ H Q) (hn : -1000000 ≤ lo ∧ lo ≤ 1000000 ∧ -1000000 ≤ hi ∧ hi ≤ 1000000) (Pv : Nat → L2.St → Hp → Prop) (h0 : Pv 0 σ H)
    (hs : ∀ (i : Nat) σ' H', lo + (i : Int) < hi → Pv i σ' H' → g (.int (lo + (i : Int))) σ' H' fun σ2 H2 => tb { D with nx := Pv (i + 1), ct := Pv (i + 1), bk := D.nx } σ2 H2) (hd : ∀ σ' H', Pv (hi - lo).toNat σ' H' → D.nx σ' H') : tFor (iRng2 ta) g tb D σ H :=
  ha _ ⟨lo, hi, rfl, ⟨by omega, by omega, by omega, by omega⟩, for_range (lo := lo) (n := (hi - lo).toNat) Pv h0 (fun i σ' H' hi p => hs i σ' H' (by omega) p) hd⟩
theorem tfor_lvar {K : Frag} {j : Nat} {a : Addr} {xs : List V} {g : TG} {tb : TS} {D : Ends} {σ : L2.St} {H : Hp} (hj : σ[j]? = some (some (.ref a))) (hS : SqL K H a xs) (Pv : Nat → L2.St → Hp → Prop) (h0 : Pv 0 σ H) (hl : ∀ i σ' H', i ≤ xs.length → Pv i σ' H' → SqL K H' a xs)
    (hs : ∀ i x σ' H', xs[i]? = some x → Pv i σ' H' → g x σ' H' fun σ2 H2 => tb { D with nx := Pv (i + 1), ct := Pv (i + 1), bk := D.nx } σ2 H2) (hd : ∀ σ' H', Pv xs.length σ' H' → D.nx σ' H') : tFor (iList K (tVar j)) g tb D σ H :=
  ⟨_, hj, a, rfl, ⟨xs, hS⟩, for_list (xs := xs) Pv h0 hl hs hd⟩
theorem tfor_five {K : Frag} {j : Nat} {n : Int} {a : Addr} {xs : List V} {g : TG} {tb : TS} {D : Ends} {σ : L2.St} {H : Hp} (hj : σ[j]? = some (some (.ref a))) (hS : SqL K H a xs) (hz : xs.length ≤ 100000)
    (h : ∀ b H1, Same H H1 → H1 b = some (.lst (.int n :: xs)) → H b = none → ∃ Pv : Nat → L2.St → Hp → Prop, Pv 0 σ H1 ∧ (∀ i σ' H', i ≤ (V.int n :: xs).length → Pv i σ' H' → SqL K H' b (.int n :: xs)) ∧
    (∀ i x σ' H', (V.int n :: xs)[i]? = some x → Pv i σ' H' → g x σ' H' fun σ2 H2 => tb { D with nx := Pv (i + 1), ct := Pv (i + 1), bk := D.nx } σ2 H2) ∧ (∀ σ' H', Pv (V.int n :: xs).length σ' H' → D.nx σ' H')) :
    tFor (iList K (tOp (rCatS K) (tLst (tCons (tC (.int n)) tNil)) (tVar j))) g tb D σ H := by
  refine ⟨by show 1 ≤ sizeLine; decide, fun p hp => ⟨_, hj, p, a, [.int n], xs, rfl, rfl, SqL.of upd_same, (same_upd hp).seq hS, ?_, fun b hb => ?_⟩⟩
  · show 1 + xs.length ≤ sizeLine
    exact Nat.le_trans (show 1 + xs.length ≤ 100001 by omega) (by decide)
  · have s2 : Same H (upd (upd H p (.lst [.int n])) b (.lst ([.int n] ++ xs))) := (same_upd hp).trans (same_upd hb)
    obtain ⟨Pv, h0, hl, hs, hd⟩ := h b _ s2 upd_same (fresh_was hb)
    exact ⟨b, rfl, ⟨_, SqL.of upd_same⟩, for_list (xs := V.int n :: xs) Pv h0 hl hs hd⟩
theorem tfor_list {K : Frag} {tl : TE} {g : TG} {tb : TS} {D : Ends} {σ : L2.St} {H : Hp}
    (h : tl σ H fun x H1 => ∃ a xs, x = .ref a ∧ SqL K H1 a xs ∧ ∃ Pv : Nat → L2.St → Hp → Prop, Pv 0 σ H1 ∧ (∀ i σ' H', i ≤ xs.length → Pv i σ' H' → SqL K H' a xs) ∧
      (∀ i x σ' H', xs[i]? = some x → Pv i σ' H' → g x σ' H' fun σ2 H2 => tb { D with nx := Pv (i + 1), ct := Pv (i + 1), bk := D.nx } σ2 H2) ∧ ∀ σ' H', Pv xs.length σ' H' → D.nx σ' H')
    (mono : ∀ Q Q' : VK, (∀ v H', Q v H' → Q' v H') → tl σ H Q → tl σ H Q') : tFor (iList K tl) g tb D σ H :=
  mono _ _ (fun v H' ⟨a, xs, e, hS, Pv, h0, hl, hs, hd⟩ => ⟨a, e, ⟨xs, hS⟩, for_list (xs := xs) Pv h0 hl hs hd⟩) h
theorem tfor_disp {K : Frag} {ta : TA} (vs : List V) {g : TG} {tb : TS} {D : Ends} {σ : L2.St} {H : Hp} (hz : vs.length ≤ 1000) (ha : ∀ Q : List V → Hp → Prop, (∀ H1, Same H H1 → Q vs H1) → ta σ H Q)
    (h : ∀ b H1, Same H H1 → H1 b = some (.lst vs) → H b = none → ∃ Pv : Nat → L2.St → Hp → Prop, Pv 0 σ H1 ∧ (∀ i σ' H', Pv i σ' H' → SqL K H' b vs) ∧
    (∀ i x σ' H', vs[i]? = some x → Pv i σ' H' → g x σ' H' fun σ2 H2 => tb { D with nx := Pv (i + 1), ct := Pv (i + 1), bk := D.nx } σ2 H2) ∧ (∀ σ' H', Pv vs.length σ' H' → D.nx σ' H')) :
    tFor (iList K (tLst ta)) g tb D σ H :=
  ha _ fun H1 s1 => ⟨Nat.le_trans hz (by decide), fun p hp => by
    obtain ⟨Pv, h0, hl, hs, hd⟩ := h p _ (s1.trans (same_upd hp)) upd_same (s1.free hp)
    exact ⟨p, rfl, ⟨_, SqL.of upd_same⟩, for_list (xs := vs) Pv h0 (fun i σ' H' _ => hl i σ' H') hs hd⟩⟩
/-! ### any walk -/
def ForGoal (J : It) (g : TG) (tb : TS) (D : Ends) (σ : L2.St) (H : Hp) : Prop :=
  ∃ W : Nat → Nat → L2.St → Hp → Prop, (∃ m, W 0 m σ H) ∧ ∀ i m σ H, W i m σ H →
      (J.stop i H ∧ D.nx σ H) ∨ (J.go i H ∧ ∃ N : L2.St → Hp → Prop, (∀ σ' H', N σ' H' → ∃ m', m' < m ∧ W (i + 1) m' σ' H') ∧ ∀ x H', J.yld i H x H' → g x σ H' fun σ2 H2 => tb { D with nx := N, ct := N, bk := D.nx } σ2 H2)
theorem tFor_eq {wi : TI} {g : TG} {tb : TS} {D : Ends} {σ : L2.St} {H : Hp} : tFor wi g tb D σ H = wi σ H fun J H1 => ForGoal J g tb D σ H1 := rfl
theorem for_go {J : It} {n : Nat} {G : Hp → Prop} {Y : Nat → Hp → V → Hp → Prop} (w : Walk J n G Y) {g : TG} {tb : TS} {D : Ends} {σ : L2.St} {H : Hp} (Pv : Nat → L2.St → Hp → Prop) (h0 : Pv 0 σ H) (hG : ∀ i σ H, i ≤ n → Pv i σ H → G H)
    (hs : ∀ i x σ H H', i < n → Pv i σ H → Y i H x H' → g x σ H' fun σ2 H2 => tb { D with nx := Pv (i + 1), ct := Pv (i + 1), bk := D.nx } σ2 H2) (hd : ∀ σ H, Pv n σ H → D.nx σ H) : ForGoal J g tb D σ H := for_it w Pv h0 hG hs hd
theorem for_rng {lo : Int} {n : Nat} {g : TG} {tb : TS} {D : Ends} {σ : L2.St} {H : Hp} (Pv : Nat → L2.St → Hp → Prop) (h0 : Pv 0 σ H)
    (hs : ∀ (i : Nat) σ H, i < n → Pv i σ H → g (.int (lo + (i : Int))) σ H fun σ2 H2 => tb { D with nx := Pv (i + 1), ct := Pv (i + 1), bk := D.nx } σ2 H2) (hd : ∀ σ H, Pv n σ H → D.nx σ H) : ForGoal (Itr lo n) g tb D σ H := for_range Pv h0 hs hd
theorem for_rng0 {n : Nat} {g : TG} {tb : TS} {D : Ends} {σ : L2.St} {H : Hp} (Pv : Nat → L2.St → Hp → Prop) (h0 : Pv 0 σ H)
    (hs : ∀ (i : Nat) σ H, i < n → Pv i σ H → g (.int (i : Int)) σ H fun σ2 H2 => tb { D with nx := Pv (i + 1), ct := Pv (i + 1), bk := D.nx } σ2 H2) (hd : ∀ σ H, Pv n σ H → D.nx σ H) : ForGoal (Itr 0 n) g tb D σ H :=
  for_range Pv h0 (fun i σ H hi p => by rw [Int.zero_add]; exact hs i σ H hi p) hd
theorem for_lst {K : Frag} {a : Addr} (xs : List V) {g : TG} {tb : TS} {D : Ends} {σ : L2.St} {H : Hp} (Pv : Nat → L2.St → Hp → Prop) (h0 : Pv 0 σ H) (hl : ∀ i σ H, Pv i σ H → SqL K H a xs)
    (hs : ∀ (i : Nat) x σ H, xs[i]? = some x → Pv i σ H → g x σ H fun σ2 H2 => tb { D with nx := Pv (i + 1), ct := Pv (i + 1), bk := D.nx } σ2 H2) (hd : ∀ σ H, Pv xs.length σ H → D.nx σ H) : ForGoal (Itl K a) g tb D σ H :=
  for_list Pv h0 (fun i σ H _ p => hl i σ H p) hs hd
theorem for_zp {K : Frag} {a b : Addr} (xs ys : List V) (n : Nat) (hn : n = min xs.length ys.length) {g : TG} {tb : TS} {D : Ends} {σ : L2.St} {H : Hp} (Pv : Nat → L2.St → Hp → Prop) (h0 : Pv 0 σ H) (hG : ∀ i σ H, Pv i σ H → SqL K H a xs ∧ SqL K H b ys)
    (hs : ∀ (i : Nat) x y (T : Addr) σ H, i < n → xs[i]? = some x → ys[i]? = some y → Pv i σ H → H T = none → g (.ref T) σ (upd H T (.tup [x, y])) fun σ2 H2 => tb { D with nx := Pv (i + 1), ct := Pv (i + 1), bk := D.nx } σ2 H2) (hd : ∀ σ H, Pv n σ H → D.nx σ H) : ForGoal (Itz K a b) g tb D σ H :=
  for_go (walk_zip hn) Pv h0 (fun i σ H _ p => hG i σ H p) (fun i v σ H H' hi p y => by obtain ⟨T, x, y, rfl, hT, rfl, hx, hy⟩ := y; exact hs i x y T σ H hi hx hy p hT) hd
theorem for_en {K : Frag} {a : Addr} (xs : List V) {g : TG} {tb : TS} {D : Ends} {σ : L2.St} {H : Hp} (Pv : Nat → L2.St → Hp → Prop) (h0 : Pv 0 σ H) (hG : ∀ i σ H, Pv i σ H → SqL K H a xs)
    (hs : ∀ (i : Nat) x (T : Addr) σ H, xs[i]? = some x → Pv i σ H → H T = none → g (.ref T) σ (upd H T (.tup [.int (i : Int), x])) fun σ2 H2 => tb { D with nx := Pv (i + 1), ct := Pv (i + 1), bk := D.nx } σ2 H2) (hd : ∀ σ H, Pv xs.length σ H → D.nx σ H) : ForGoal (Ite K a) g tb D σ H :=
  for_go walk_enum Pv h0 (fun i σ H _ p => hG i σ H p) (fun i v σ H H' hi p y => by obtain ⟨T, x, y, rfl, hT, rfl, hx, hy⟩ := y; cases hx; exact hs i y T σ H hy p hT) hd
/-- the law's own loop, over [n] + script -/
theorem for_cells {K : Frag} {H0 : Hp} {n : Int} {b : Addr} {ns : List Int} {g : TG} {tb : TS} {D : Ends} {σ : L2.St} (hb : H0 b = some (.lst (.int n :: ns.map V.int))) (hn : Builtin.Int.intBits n ≤ 64) (hz : ∀ z ∈ ns, Builtin.Int.intBits z ≤ 1048576) (J : L2.St → Hp → Prop) (h0 : J σ H0) (hl : ∀ σ H, J σ H → Same H0 H)
    (hs : ∀ z σ H, Builtin.Int.intBits z ≤ 1048576 → J σ H → g (.int z) σ H fun σ2 H2 => tb { D with nx := J, ct := J, bk := D.nx } σ2 H2) (hd : ∀ σ H, J σ H → D.nx σ H) : ForGoal (Itl K b) g tb D σ H0 := by
  refine for_lst (.int n :: ns.map V.int) (fun _ => J) h0 (fun _ σ H j => SqL.of (hl σ H j _ _ hb)) (fun i x σ H e j => ?_) hd
  cases i with
  | zero => cases e; exact hs n σ H (Nat.le_trans hn (by decide)) j
  | succ i =>
    obtain ⟨z, e1, rfl⟩ := ref_num (ns := ns) (i := i) e
    exact hs z σ H (hz z (List.mem_of_getElem? e1)) j
theorem tfor_cells {K : Frag} {j : Nat} {n : Int} {a : Addr} {ns : List Int} {g : TG} {tb : TS} {D : Ends} {σ : L2.St} {H0 : Hp} (hj : σ[j]? = some (some (.ref a))) (hS : SqL K H0 a (ns.map V.int)) (hz : ns.length ≤ 63)
    (h : ∀ b H1, Same H0 H1 → H1 b = some (.lst (.int n :: ns.map V.int)) → ForGoal (Itl K b) g tb D σ H1) :
    tFor (iList K (tOp (rCatS K) (tLst (tCons (tC (.int n)) tNil)) (tVar j))) g tb D σ H0 := by
  refine ⟨by show 1 ≤ sizeLine; decide, fun p hp => ⟨_, hj, p, a, [.int n], ns.map V.int, rfl, rfl, SqL.of upd_same, (same_upd hp).seq hS, ?_, fun b hb => ⟨b, rfl, ⟨_, SqL.of upd_same⟩, h b _ ((same_upd hp).trans (same_upd hb)) upd_same⟩⟩⟩
  rw [List.length_map]
  exact Nat.le_trans (show 1 + ns.length ≤ 100 by omega) (by decide)
theorem for_tp {K : Frag} {a : Addr} (xs : List V) {g : TG} {tb : TS} {D : Ends} {σ : L2.St} {H : Hp} (Pv : Nat → L2.St → Hp → Prop) (h0 : Pv 0 σ H) (hl : ∀ i σ H, Pv i σ H → SqT K H a xs)
    (hs : ∀ (i : Nat) x σ H, xs[i]? = some x → Pv i σ H → g x σ H fun σ2 H2 => tb { D with nx := Pv (i + 1), ct := Pv (i + 1), bk := D.nx } σ2 H2) (hd : ∀ σ H, Pv xs.length σ H → D.nx σ H) : ForGoal (Itt K a) g tb D σ H :=
  for_tup Pv h0 (fun i σ H _ p => hl i σ H p) hs hd
theorem while_cps {c : TT} {tb : TS} {D : Ends} {σ : L2.St} {H : Hp} (Pv : L2.St → Hp → Prop) (μ : L2.St → Hp → Nat) (h0 : Pv σ H)
    (hs : ∀ σ' H', Pv σ' H' → ∀ U : Bool → Hp → Prop, (∀ H1, tb { D with nx := fun σ2 H2 => Pv σ2 H2 ∧ μ σ2 H2 < μ σ' H', ct := fun σ2 H2 => Pv σ2 H2 ∧ μ σ2 H2 < μ σ' H', bk := D.nx } σ' H1 → U true H1) → (∀ H1, D.nx σ' H1 → U false H1) → c σ' H' U) : tWhile c tb D σ H := by
  refine ⟨fun m σ H => m = μ σ H ∧ Pv σ H, ⟨_, rfl, h0⟩, ?_⟩
  rintro m σ H ⟨rfl, p⟩
  refine hs σ H p _ (fun H1 h => ?_) (fun H1 h => ?_)
  · show if true = true then _ else _
    rw [if_pos rfl]
    exact ⟨_, fun σ' H' ⟨p', l⟩ => ⟨_, l, rfl, p'⟩, h⟩
  · show if false = true then _ else _
    rw [if_neg (by decide)]
    exact h
def LcGoal (J : It) (g : TG) (tt : TT) (te : TE) (vs : List Nat) (σ : L2.St) (H1 : Hp) (Q : VK) : Prop := ∀ D, H1 D = none → ∃ W : Nat → Nat → Hp → Prop, (∃ m, W 0 m (upd H1 D (.lst []))) ∧ ∀ i m H, W i m H →
  (J.stop i H ∧ Q (.ref D) H) ∨ (J.go i H ∧ ∃ Nx : Hp → Prop, (∀ H', Nx H' → ∃ m', m' < m ∧ W (i + 1) m' H') ∧ ∀ x H', J.yld i H x H' → g x (wipe σ vs) H' fun σ2 H2 => wipe σ2 vs = wipe σ vs ∧ tt σ2 H2 fun b H3 =>
    if b = true then te σ2 H3 fun y H4 => ∃ acc, H4 D = some (.lst acc) ∧ acc.length < sizeLine ∧ Nx (upd H4 D (.lst (acc ++ [y]))) else Nx H3)
theorem tLc_eq {wi : TI} {g : TG} {tt : TT} {te : TE} {vs : List Nat} {σ : L2.St} {H : Hp} {Q : VK} : tLc wi g tt te vs σ H Q = wi σ H fun J H1 => LcGoal J g tt te vs σ H1 Q := rfl
/-- a comprehension without a test; what is told of the i-th item is told in a heap that only grows -/
theorem lc_go {J : It} {n : Nat} {G : Hp → Prop} {Y : Nat → Hp → V → Hp → Prop} (w : Walk J n G Y) {g : TG} {te : TE} {vs : List Nat} {σ : L2.St} {H1 : Hp} {Q : VK} (R : Nat → V → Hp → Prop) (hn : n < sizeLine)
    (hR : ∀ i y H H' D, H1 D = none → (∃ xs, H D = some (.lst xs)) → Same H1 H → R i y H → (∀ b o, b ≠ D → H b = some o → H' b = some o) → R i y H') (hG : ∀ H, Same H1 H → G H)
    (hs : ∀ i x H H' D (U : VK), i < n → H1 D = none → (∃ xs, H D = some (.lst xs)) → Same H1 H → Y i H x H' → (∀ y H4, R i y H4 → Same H H4 → U y H4) → g x (wipe σ vs) H' fun σ2 H2 => wipe σ2 vs = wipe σ vs ∧ te σ2 H2 U)
    (hd : ∀ p ys H, H1 p = none → Same H1 H → ys.length = n → (∀ i y, ys[i]? = some y → R i y H) → H p = some (.lst ys) → Q (.ref p) H) : LcGoal J g tYes te vs σ H1 Q := by
  intro D hD
  refine lc_it w (Pv := fun i H => Same H1 H ∧ ∃ ys : List V, H D = some (.lst ys) ∧ ys.length = i ∧ ∀ (j : Nat) y, ys[j]? = some y → R j y H) ⟨same_upd hD, [], upd_same, rfl, fun j y e => by simp at e⟩ (fun i H hi p => hG H p.1) ?_ ?_
  · rintro i x H H' hi ⟨s1, ys, hy, hl, hr⟩ y
    refine hs i x H H' D _ hi hD ⟨_, hy⟩ s1 y fun y2 H4 r s2 => ?_
    have g0 : ∀ b o, b ≠ D → H b = some o → (upd H4 D (HO.lst (ys ++ [y2]))) b = some o := fun b o hb e => by rw [upd_ne hb]; exact s2 _ _ e
    refine ⟨ys, s2 _ _ hy, by omega, fun b o e => ?_, ys ++ [y2], upd_same, by simp [hl], fun j y3 e => ?_⟩
    · have hb : b ≠ D := ne_of_none e hD
      rw [upd_ne hb]
      exact s2 _ _ (s1 _ _ e)
    · rcases Nat.lt_or_ge j ys.length with hj | hj
      · rw [List.getElem?_append_left hj] at e
        exact hR _ _ H _ D hD ⟨_, hy⟩ s1 (hr _ _ e) g0
      · have hj2 : j = i := by
          have z := (List.getElem?_eq_some_iff.mp e).1
          simp at z
          omega
        subst hj2
        rw [List.getElem?_append_right hj, hl, Nat.sub_self] at e
        cases e
        exact hR _ _ H4 _ D hD ⟨_, s2 _ _ hy⟩ (s1.trans s2) r fun b o hb e => by rw [upd_ne hb]; exact e
  · rintro H ⟨s1, ys, hy, hl, hr⟩
    exact hd D ys H hD s1 hl hr hy
/-- .. where the items are known beforehand -/
theorem lc_pure {J : It} {n : Nat} {G : Hp → Prop} {Y : Nat → Hp → V → Hp → Prop} (w : Walk J n G Y) {g : TG} {te : TE} {vs : List Nat} {σ : L2.St} {H1 : Hp} {Q : VK} (ys : List V) (hl : ys.length = n) (hn : n < sizeLine) (hG : ∀ H, Same H1 H → G H)
    (hs : ∀ (i : Nat) x y H H' (U : VK), ys[i]? = some y → Same H1 H → Y i H x H' → (∀ H4, Same H H4 → U y H4) → g x (wipe σ vs) H' fun σ2 H2 => wipe σ2 vs = wipe σ vs ∧ te σ2 H2 U)
    (hd : ∀ p H, H1 p = none → Same H1 H → H p = some (.lst ys) → Q (.ref p) H) : LcGoal J g tYes te vs σ H1 Q := by
  refine lc_go w (fun i y _ => ys[i]? = some y) hn (fun _ _ _ _ _ _ _ _ r _ => r) hG (fun i x H H' D U hi _ _ s1 y hu => ?_) fun p zs H hp s1 hz hr e => ?_
  · have e : ys[i]? = some ys[i] := List.getElem?_eq_getElem (by omega)
    exact hs i x _ H H' U e s1 y fun H4 s2 => hu _ _ e s2
  · have z : zs = ys := by
      refine List.ext_getElem? fun i => ?_
      rcases Nat.lt_or_ge i zs.length with h | h
      · rw [hr i _ (List.getElem?_eq_getElem h), List.getElem?_eq_getElem h]
      · rw [List.getElem?_eq_none h, List.getElem?_eq_none (by omega)]
    subst z
    exact hd p H hp s1 e
/-- .. with a test, over a list whose items stand for those of ts -/
theorem lc_filter {K : Frag} {α : Type} {a : Addr} {xs : List V} (ts : List α) (hl : xs.length = ts.length) (f : α → Bool) (v : α → V) {g : TG} {tt : TT} {te : TE} {vs : List Nat} {σ : L2.St} {H1 : Hp} {Q : VK} (hn : xs.length < sizeLine) (hS : SqL K H1 a xs)
    (hs : ∀ (i : Nat) x t H (U : VK) (N : Hp → Prop), xs[i]? = some x → ts[i]? = some t → Same H1 H → (f t = true → ∀ H4, Same H H4 → U (v t) H4) → (f t = false → ∀ H4, Same H H4 → N H4) → g x (wipe σ vs) H fun σ2 H2 => wipe σ2 vs = wipe σ vs ∧ tt σ2 H2 fun b H3 => if b = true then te σ2 H3 U else N H3)
    (hd : ∀ p H, H1 p = none → Same H1 H → H p = some (.lst ((ts.filter f).map v)) → Q (.ref p) H) : LcGoal (Itl K a) g tt te vs σ H1 Q := by
  intro D hD
  refine lc_list (xs := xs) (fun i H => Same H1 H ∧ H D = some (.lst (((ts.take i).filter f).map v))) ⟨same_upd hD, by simp [upd_same]⟩ (fun i H _ p => p.1.seq hS) ?_ ?_
  · rintro i x H hx ⟨s1, e⟩
    have hi := (List.getElem?_eq_some_iff.mp hx).1
    obtain ⟨t, ht⟩ : ∃ t, ts[i]? = some t := ⟨_, List.getElem?_eq_getElem (by omega)⟩
    have tk : ts.take (i + 1) = ts.take i ++ [t] := by rw [List.take_add_one, ht]; rfl
    refine hs i x t H _ _ hx ht s1 (fun ft H4 s2 => ⟨_, s2 _ _ e, ?_, fun b o e2 => ?_, ?_⟩) fun ft H4 s2 => ⟨s1.trans s2, ?_⟩
    · refine Nat.lt_of_le_of_lt ?_ hn
      rw [List.length_map]
      exact Nat.le_trans (List.length_filter_le _ _) (by simp; omega)
    · rw [upd_ne (ne_of_none e2 hD)]
      exact s2 _ _ (s1 _ _ e2)
    · rw [upd_same, tk, List.filter_append, List.map_append]
      simp [ft]
    · rw [s2 _ _ e, tk, List.filter_append, List.map_append]
      simp [ft]
  · rintro H ⟨s1, e⟩
    rw [hl, List.take_length] at e
    exact hd D H hD s1 e
theorem ix_last {K : Frag} {a : Addr} {xs : List V} {v : V} {H : Hp} {Q : VK} (hS : SqL K H a xs) (e : xs.getLast? = some v) (q : Q v H) : rIxL K (.ref a) (.int (-1)) H Q := by
  have hn : xs ≠ [] := by intro z; rw [z] at e; cases e
  have hl : xs.length ≠ 0 := fun z => hn (List.length_eq_zero_iff.mp z)
  refine ⟨a, xs, -1, v, rfl, rfl, hS, ?_, q⟩
  unfold atI ixN
  rw [if_neg (by decide), if_pos (by omega), show ((-1 : Int) + (xs.length : Int)).toNat = xs.length - 1 by omega]
  rw [List.getLast?_eq_getElem?] at e
  exact e
/-! ### slices -/
theorem cut_from {xs : List V} {k : Int} (hk : 0 ≤ k) : cutV xs (some k) none = xs.drop k.toNat := by
  obtain ⟨j, rfl⟩ := Int.eq_ofNat_of_zero_le hk
  unfold cutV
  rw [HT.sIx_nat, HT.sIx_none, Int.toNat_natCast]
  rcases Nat.le_total j xs.length with h | h
  · rw [Nat.min_eq_left h, List.take_of_length_le (by simp)]
  · rw [Nat.min_eq_right h, List.drop_of_length_le h, List.drop_length, List.take_nil]
theorem cut_to {xs : List V} {k : Int} (hk : 0 ≤ k) : cutV xs none (some k) = xs.take k.toNat := by
  obtain ⟨j, rfl⟩ := Int.eq_ofNat_of_zero_le hk
  unfold cutV
  rw [HT.sIx_nat, HT.sIx_none, Int.toNat_natCast, List.drop_zero, Nat.sub_zero]
  rcases Nat.le_total j xs.length with h | h
  · rw [Nat.min_eq_left h]
  · rw [Nat.min_eq_right h, List.take_of_length_le h, List.take_length]
/-! ### lists whose items tell something -/
inductive All2 {α : Type} (R : V → α → Prop) : List V → List α → Prop
  | nil : All2 R [] []
  | cons {x t xs ts} : R x t → All2 R xs ts → All2 R (x :: xs) (t :: ts)
namespace All2
variable {α : Type} {R S : V → α → Prop}
theorem len {xs : List V} {ts : List α} (h : All2 R xs ts) : xs.length = ts.length := by
  induction h with
  | nil => rfl
  | cons _ _ ih => rw [List.length_cons, List.length_cons, ih]
theorem mono {xs : List V} {ts : List α} (h : All2 R xs ts) (k : ∀ x t, R x t → S x t) : All2 S xs ts := by
  induction h with
  | nil => exact .nil
  | cons r _ ih => exact .cons (k _ _ r) ih
theorem get {xs : List V} {ts : List α} (h : All2 R xs ts) : ∀ {i : Nat} {x : V}, xs[i]? = some x → ∃ t, ts[i]? = some t ∧ R x t := by
  induction h with
  | nil => intro i x e; simp at e
  | cons r _ ih =>
    intro i x e
    cases i with
    | zero => cases e; exact ⟨_, rfl, r⟩
    | succ j => exact ih e
theorem of {xs : List V} : ∀ {ts : List α}, xs.length = ts.length → (∀ (i : Nat) x t, xs[i]? = some x → ts[i]? = some t → R x t) → All2 R xs ts := by
  induction xs with
  | nil => intro ts hl _; cases ts with
    | nil => exact .nil
    | cons _ _ => cases hl
  | cons x xs ih => intro ts hl h; cases ts with
    | nil => cases hl
    | cons t ts => exact .cons (h 0 x t rfl rfl) (ih (by simpa using hl) fun i x t e1 e2 => h (i + 1) x t e1 e2)
theorem snoc {xs : List V} {ts : List α} {x : V} {t : α} (h : All2 R xs ts) (r : R x t) : All2 R (xs ++ [x]) (ts ++ [t]) := by
  induction h with
  | nil => exact .cons r .nil
  | cons r2 _ ih => exact .cons r2 ih
theorem append {xs ys : List V} {ts us : List α} (h : All2 R xs ts) (h2 : All2 R ys us) : All2 R (xs ++ ys) (ts ++ us) := by
  induction h with
  | nil => exact h2
  | cons r _ ih => exact .cons r ih
theorem drop {xs : List V} {ts : List α} (h : All2 R xs ts) : ∀ k, All2 R (xs.drop k) (ts.drop k) := by
  induction h with
  | nil => intro k; rw [List.drop_nil, List.drop_nil]; exact .nil
  | cons r h ih => intro k; cases k with
    | zero => exact .cons r h
    | succ k => exact ih k
theorem take {xs : List V} {ts : List α} (h : All2 R xs ts) : ∀ k, All2 R (xs.take k) (ts.take k) := by
  induction h with
  | nil => intro k; rw [List.take_nil, List.take_nil]; exact .nil
  | cons r h ih => intro k; cases k with
    | zero => exact .nil
    | succ k => exact .cons r (ih k)
end All2
/-- a pair of ints -/
def Pr (K : Frag) (H : Hp) : V → Int × Int → Prop := fun x t => ∃ r, x = .ref r ∧ SqT K H r [.int t.1, .int t.2]
theorem Pr.same {K : Frag} {H H' : Hp} {x : V} {t : Int × Int} (s : Same H H') (h : Pr K H x t) : Pr K H' x t := by
  obtain ⟨r, e, q⟩ := h
  exact ⟨r, e, same_tup s q⟩
/-- a list of pairs of ints -/
def Prs (K : Frag) (H : Hp) (a : Addr) (ts : List (Int × Int)) : Prop := ∃ xs, SqL K H a xs ∧ All2 (Pr K H) xs ts
theorem Prs.same {K : Frag} {H H' : Hp} {a : Addr} {ts : List (Int × Int)} (s : Same H H') (h : Prs K H a ts) : Prs K H' a ts := by
  obtain ⟨xs, q, h⟩ := h
  exact ⟨xs, s.seq q, h.mono fun _ _ => Pr.same s⟩
/-- .. compared -/
def pdP (t : Int × Int) : PyData := .tuple [.int t.1, .int t.2]
theorem dp_prs {K : Frag} {H : Hp} {xs : List V} {ts : List (Int × Int)} (h : All2 (Pr K H) xs ts) : DpAll K H xs (ts.map pdP) := by
  induction h with
  | nil => exact .nil
  | cons r _ ih =>
    obtain ⟨r, rfl, hr⟩ := r
    exact .cons (.tup hr (.cons (.int _) (.cons (.int _) .nil))) ih
theorem Prs.dp {K : Frag} {H : Hp} {a : Addr} {ts : List (Int × Int)} (h : Prs K H a ts) : Dp K H (.ref a) (.list (ts.map pdP)) := by
  obtain ⟨xs, hS, hA⟩ := h
  exact .lst hS (dp_prs hA)
theorem lay_prs : ∀ ts : List (Int × Int), PyData.canLayAll0 (ts.map pdP) = true
  | [] => rfl
  | t :: r => by simp only [List.map_cons, PyData.canLayAll0, lay_prs r, pdP, PyData.canLay0, Bool.and_true]
theorem depth_prs : ∀ ts : List (Int × Int), PyData.depthAll (ts.map pdP) ≤ 1
  | [] => by simp [PyData.depthAll]
  | t :: r => by
    have := depth_prs r
    simp only [List.map_cons, PyData.depthAll, pdP, PyData.depth]
    omega
theorem shaped_prs {ts : List (Int × Int)} : SeqAt.shaped (.list (ts.map pdP)) = true :=
  shaped_of (by simp only [PyData.canLay0]; exact lay_prs ts) (by have := depth_prs ts; simp only [PyData.depth]; omega)
theorem eqv_prs : ∀ ts us : List (Int × Int), PyData.eqvAll (ts.map pdP) (us.map pdP) = decide (ts = us)
  | [], [] => by simp [PyData.eqvAll]
  | [], y :: ys => by simp [PyData.eqvAll]
  | x :: xs, [] => by simp [PyData.eqvAll]
  | x :: xs, y :: ys => by
    have ih := eqv_prs xs ys
    simp only [List.map_cons, PyData.eqvAll, ih, List.cons.injEq, pdP, PyData.eqv, Bool.and_true]
    by_cases e : x = y
    · subst e; simp
    · have : ¬(x.1 = y.1 ∧ x.2 = y.2) := fun z => e (Prod.ext z.1 z.2)
      by_cases e1 : x.1 = y.1 <;> by_cases e2 : x.2 = y.2 <;> simp_all
theorem ne_prs {K : Frag} {H : Hp} {p q : Addr} {ts us : List (Int × Int)} {Q : VK} (hp : Prs K H p ts) (hq : Prs K H q us) (k : Q (.bl (!decide (ts = us))) H) : rNeD K (.ref p) (.ref q) H Q :=
  ⟨_, _, hp.dp, hq.dp, shaped_prs, shaped_prs, by simp only [PyData.eqv, eqv_prs]; exact k⟩
theorem eq_prs {K : Frag} {H : Hp} {p q : Addr} {ts us : List (Int × Int)} {Q : VK} (hp : Prs K H p ts) (hq : Prs K H q us) (k : Q (.bl (decide (ts = us))) H) : rEqD K (.ref p) (.ref q) H Q :=
  ⟨_, _, hp.dp, hq.dp, shaped_prs, shaped_prs, by simp only [PyData.eqv, eqv_prs]; exact k⟩
/-! ### the law's end -/
def spLaw (K : Frag) : Sp := fun vs H Q _ => ∃ (a : Addr) (ns : List Int), vs = [.ref a] ∧ SqL K H a (ns.map V.int) ∧ ns.length ≤ 63 ∧ (∀ z ∈ ns, Builtin.Int.intBits z ≤ 1048576) ∧ ∀ H', Q (.bl true) H'
theorem walk {l : PySem.W.OpenLaw} {k : Nat} {q : Program} {loose : List Str} {XP : (Str → Option Value) → Heap → Prop} {YP : World → Heap → Prop} {d : DefRec} {K : Params → Frag}
    (hn : l.most = some 63) (hdf : d.params.defaults = []) (hr : Room k callerA) (hY : ∀ (w : World) (h : Heap), YP w h → (K w.params).In h)
    (F : ∀ (w : World) (mg : Str → Option Value) (fa : Addr) (h : Heap), (K w.params).In h → h.Ns mainGlobals mg → mg d.name = some (.ref fa) →
      ∃ fd : FuncData, (∀ (s : Shared) (u : Value), BindsTo s fd ⟨[u], []⟩ [(("script" : Str), u)]) ∧ ∀ base : Heap, (K w.params).In base → base.Ns mainGlobals mg → FnOk l.prog w (K w.params) mg base CX0 k fa fd ["script"] (spLaw (K w.params))) :
    PySem.W.WalkO q loose XP YP l.row.toRowW d [] (fun f vs => PySem.call f vs) :=
  L2.walk_ofB (n := 63) (k := k) (x := "script") (CX := fun _ => CX0) (sp := fun w => spLaw (K w.params)) hn (by decide) hdf hr hY F
    (fun _ _ a ns hl hb _ hS => ⟨a, ns, rfl, hS, hl, hb, fun _ => rfl⟩) fun _ _ _ _ _ z => z
end Kv

set_option Elab.async false
set_option linter.all false
set_option maxRecDepth 100000
set_option maxHeartbeats 4000000
namespace K16
open PySem PySem.Spec PyProof.Rows L2
def top (i : Nat) : Stmt := PySem.Challenge.pw_corebank_k16_tiers.main.body.getD i (.Pass ⟨0, 0, 0, 0⟩)
abbrev s_check_starts : Stmt := top 11
abbrev s_check_tiers : Stmt := top 16
abbrev s_parts_of : Stmt := top 17
abbrev s_daily_parts : Stmt := top 18
abbrev s_L_numbers : Stmt := top 20
abbrev s_L_kinds : Stmt := top 21
abbrev s_L_tiers : Stmt := top 22
abbrev s_L_changed : Stmt := top 23
abbrev s_L_good : Stmt := top 24
abbrev s_L_told : Stmt := top 25
abbrev s_L_parts_right : Stmt := top 26
abbrev s_law : Stmt := top 27
theorem sc_check_starts : FnScope ["starts", "before", "start"] ["starts"] (defScope s_check_starts) := ⟨rfl, rfl, rfl, by decide +kernel, rfl, by decide +kernel, by decide +kernel⟩
theorem sc_check_tiers : FnScope ["tiers", "start", "_", "rate"] ["tiers"] (defScope s_check_tiers) := ⟨rfl, rfl, rfl, by decide +kernel, rfl, by decide +kernel, by decide +kernel⟩
theorem sc_parts_of : FnScope ["tiers", "size", "ends", "start", "_", "parts", "rate", "end"] ["tiers", "size"] (defScope s_parts_of) := ⟨rfl, rfl, rfl, by decide +kernel, rfl, by decide +kernel, by decide +kernel⟩
theorem sc_daily_parts : FnScope ["credit", "debit", "balance"] ["credit", "debit", "balance"] (defScope s_daily_parts) := ⟨rfl, rfl, rfl, by decide +kernel, rfl, by decide +kernel, by decide +kernel⟩
theorem sc_L_numbers : FnScope ["cell", "count", "rest", "numbers", "k", "mixed"] ["cell", "count"] (defScope s_L_numbers) := ⟨rfl, rfl, rfl, by decide +kernel, rfl, by decide +kernel, by decide +kernel⟩
theorem sc_L_kinds : FnScope ["error", "kinds"] ["error"] (defScope s_L_kinds) := ⟨rfl, rfl, rfl, by decide +kernel, rfl, by decide +kernel, by decide +kernel⟩
theorem sc_L_tiers : FnScope ["numbers", "at", "start", "tiers", "k", "gap"] ["numbers", "at"] (defScope s_L_tiers) := ⟨rfl, rfl, rfl, by decide +kernel, rfl, by decide +kernel, by decide +kernel⟩
theorem sc_L_changed : FnScope ["kind", "number", "tiers", "at", "start", "rate", "near", "last", "k"] ["kind", "number", "tiers"] (defScope s_L_changed) := ⟨rfl, rfl, rfl, by decide +kernel, rfl, by decide +kernel, by decide +kernel⟩
theorem sc_L_good : FnScope ["tiers", "k"] ["tiers"] (defScope s_L_good) := ⟨rfl, rfl, rfl, by decide +kernel, rfl, by decide +kernel, by decide +kernel⟩
theorem sc_L_told : FnScope ["tiers", "copy", "told", "e"] ["tiers"] (defScope s_L_told) := ⟨rfl, rfl, rfl, by decide +kernel, rfl, by decide +kernel, by decide +kernel⟩
theorem sc_L_parts_right : FnScope ["tiers", "size", "copy", "here", "more", "rate", "tier"] ["tiers", "size"] (defScope s_L_parts_right) := ⟨rfl, rfl, rfl, by decide +kernel, rfl, by decide +kernel, by decide +kernel⟩
theorem sc_law : FnScope ["script", "cell", "numbers", "credit", "debit", "size", "changed"] ["script"] (defScope s_law) := ⟨rfl, rfl, rfl, by decide +kernel, rfl, by decide +kernel, by decide +kernel⟩
structure Txt (K : PySem.W.Frag) (mg : Str → Option Value) extends Kv.Errs K mg where
  a_check_starts : Addr
  d_check_starts : FuncData
  g_check_starts : mg "check_starts" = some (.ref a_check_starts)
  F_check_starts : Fun K "check_starts" "check_starts" s_check_starts a_check_starts d_check_starts
  b_check_starts : Binds K d_check_starts ["starts"] []
  a_check_tiers : Addr
  d_check_tiers : FuncData
  g_check_tiers : mg "check_tiers" = some (.ref a_check_tiers)
  F_check_tiers : Fun K "check_tiers" "check_tiers" s_check_tiers a_check_tiers d_check_tiers
  b_check_tiers : Binds K d_check_tiers ["tiers"] []
  a_parts_of : Addr
  d_parts_of : FuncData
  g_parts_of : mg "parts_of" = some (.ref a_parts_of)
  F_parts_of : Fun K "parts_of" "parts_of" s_parts_of a_parts_of d_parts_of
  b_parts_of : Binds K d_parts_of ["tiers", "size"] []
  a_daily_parts : Addr
  d_daily_parts : FuncData
  g_daily_parts : mg "daily_parts" = some (.ref a_daily_parts)
  F_daily_parts : Fun K "daily_parts" "daily_parts" s_daily_parts a_daily_parts d_daily_parts
  b_daily_parts : Binds K d_daily_parts ["credit", "debit", "balance"] []
  a__law_numbers : Addr
  d__law_numbers : FuncData
  g__law_numbers : mg "_law_numbers" = some (.ref a__law_numbers)
  F__law_numbers : Fun K "_law_numbers" "_law_numbers" s_L_numbers a__law_numbers d__law_numbers
  b__law_numbers : Binds K d__law_numbers ["cell", "count"] []
  a__law_kinds : Addr
  d__law_kinds : FuncData
  g__law_kinds : mg "_law_kinds" = some (.ref a__law_kinds)
  F__law_kinds : Fun K "_law_kinds" "_law_kinds" s_L_kinds a__law_kinds d__law_kinds
  b__law_kinds : Binds K d__law_kinds ["error"] []
  a__law_tiers : Addr
  d__law_tiers : FuncData
  g__law_tiers : mg "_law_tiers" = some (.ref a__law_tiers)
  F__law_tiers : Fun K "_law_tiers" "_law_tiers" s_L_tiers a__law_tiers d__law_tiers
  b__law_tiers : Binds K d__law_tiers ["numbers", "at"] []
  a__law_changed : Addr
  d__law_changed : FuncData
  g__law_changed : mg "_law_changed" = some (.ref a__law_changed)
  F__law_changed : Fun K "_law_changed" "_law_changed" s_L_changed a__law_changed d__law_changed
  b__law_changed : Binds K d__law_changed ["kind", "number", "tiers"] []
  a__law_good : Addr
  d__law_good : FuncData
  g__law_good : mg "_law_good" = some (.ref a__law_good)
  F__law_good : Fun K "_law_good" "_law_good" s_L_good a__law_good d__law_good
  b__law_good : Binds K d__law_good ["tiers"] []
  a__law_told : Addr
  d__law_told : FuncData
  g__law_told : mg "_law_told" = some (.ref a__law_told)
  F__law_told : Fun K "_law_told" "_law_told" s_L_told a__law_told d__law_told
  b__law_told : Binds K d__law_told ["tiers"] []
  a__law_parts_right : Addr
  d__law_parts_right : FuncData
  g__law_parts_right : mg "_law_parts_right" = some (.ref a__law_parts_right)
  F__law_parts_right : Fun K "_law_parts_right" "_law_parts_right" s_L_parts_right a__law_parts_right d__law_parts_right
  b__law_parts_right : Binds K d__law_parts_right ["tiers", "size"] []
  a_law : Addr
  d_law : FuncData
  g_law : mg "law" = some (.ref a_law)
  F_law : Fun K "law" "law" s_law a_law d_law
  b_law : Binds K d_law ["script"] []
  u_LIMIT : Value
  g_LIMIT : mg "LIMIT" = some u_LIMIT
  r_LIMIT : RelV (.int 1000000000) u_LIMIT
  u_PARTS : Value
  g_PARTS : mg "PARTS" = some u_PARTS
  r_PARTS : RelV (.int 3600000) u_PARTS
  u_MOST_TIERS : Value
  g_MOST_TIERS : mg "MOST_TIERS" = some u_MOST_TIERS
  r_MOST_TIERS : RelV (.int 8) u_MOST_TIERS
  u_GREATEST_RATE : Value
  g_GREATEST_RATE : mg "GREATEST_RATE" = some u_GREATEST_RATE
  r_GREATEST_RATE : RelV (.int 10000) u_GREATEST_RATE
  n_bool : mg "bool" = none
  n_int : mg "int" = none
  n_isinstance : mg "isinstance" = none
  n_len : mg "len" = none
  n_list : mg "list" = none
  n_max : mg "max" = none
  n_min : mg "min" = none
  n_range : mg "range" = none
  n_zip : mg "zip" = none
local macro_rules | `(tactic| walk_at "rd") => `(tactic| try simp only [L2.start, tSeq, tIfS, tTest, tOp, tVar, tC, tRet, tRetN, tNext, tAsg, gName, tDrop, tCons, tNil, tCB, tB, rI0, rI, rEq, rNe, tAnd, tOr, tNot, tAndV, tOrV, tNotV, tIf, tUn, rU, Kv.sc_ii, Kv.sc_ss, Kv.sc_bb, Kv.sc_nn, Kv.sc_ni, Kv.sc_in, Kv.sc_sn, Kv.sc_ns, Kv.sc_bn, Kv.sc_nb, Kv.sc_is, Kv.sc_si, cxOf, and_assoc, rAppend, Kv.rIsP, L2H.cxH, tCall, tCallS, tTup, tLst, tBM, tBM0, tM0, tM1, tSl, tPart, tNoPart, tAug, ipI, gSub, tPar, tBreak, tCont, Kv.tKinds, tChain, rIsB, rNotB, tYes, tCKw, wipe, List.foldl_cons, List.foldl_nil, iList, iTup, iRng1, iRng2, iEnum, iZip, Kv.tFor_eq, Kv.tLc_eq, Kv.sz_0, Kv.szl_0, Kv.sz_1, Kv.szl_1, Kv.sz_2, Kv.szl_2, Kv.sz_3, Kv.szl_3, Kv.sz_4, Kv.szl_4, Kv.sz_5, Kv.szl_5, Kv.sz_6, Kv.szl_6, Kv.sz_7, Kv.szl_7, Kv.sz_8, Kv.szl_8, Kv.sz_9, Kv.szl_9, Kv.sz_10, Kv.szl_10, Kv.sz_11, Kv.szl_11, Kv.sz_12, Kv.szl_12, Kv.sz_13, Kv.szl_13, Kv.sz_14, Kv.szl_14, Kv.sz_15, Kv.szl_15, Kv.sz_16, Kv.szl_16, Kv.sz_17, Kv.szl_17, Kv.sz_18, Kv.szl_18, Kv.sz_19, Kv.szl_19, Kv.sz_20, Kv.szl_20, Kv.sz_21, Kv.szl_21, Kv.sz_22, Kv.szl_22, Kv.sz_23, Kv.szl_23, Kv.sz_24, Kv.szl_24, Kv.sz_25, Kv.szl_25, Kv.sz_26, Kv.szl_26, Kv.cdiv_1, Kv.cdiv_2, Kv.cdiv_3, Kv.cdiv_4, Kv.cdiv_5, Kv.cdiv_6, Kv.cdiv_7, Kv.cdiv_8, Kv.cdiv_9, Kv.cdiv_10, Kv.cdiv_11, Kv.cdiv_12, Kv.cdiv_13, Kv.cdiv_14, Kv.cdiv_16, Kv.cdiv_20, Kv.cdiv_30, Kv.cdiv_50, Kv.cdiv_60, Kv.cdiv_64, Kv.cdiv_100, Kv.cdiv_400, Kv.cdiv_1000, Kv.cdiv_2000, Kv.cdiv_10000, Kv.cdiv_1000000,
  CPow, List.map_cons, List.map_nil, List.cons_append, List.nil_append, List.append_nil, List.length_cons, List.length_nil, List.replicate,
  List.getElem?_cons_zero, List.getElem?_cons_succ, List.set_cons_zero, List.set_cons_succ, Option.some.injEq, exists_eq_left', exists_eq_left, exists_eq_right, exists_eq_right', V.int.injEq, V.str.injEq, V.bl.injEq, V.ref.injEq, List.cons.injEq, exists_and_left, exists_and_right, and_true, true_and, and_self, false_and, and_false, or_false, false_or, exists_false, exists_const, reduceCtorEq, Nat.reduceSub, Nat.reduceAdd, Nat.reduceLeDiff, Nat.reduceLT,
  Int.reduceLT, Int.reduceLE, Int.reduceAdd, Int.reduceMul, Int.reduceSub, Int.reducePow, Int.reduceToNat, Int.reduceNeg, Int.reduceAbs, Nat.reducePow, decide_eq_true_eq, Bool.not_true, Bool.not_false, Bool.false_eq_true, ite_true, ite_false, if_true, if_false, decide_true, decide_false, Bool.not_eq_true', decide_eq_false_iff_not, not_true, not_false_eq_true, ne_eq])
local macro_rules | `(tactic| walk_at "st") => `(tactic| ((first | with_reducible refine Kv.seq_step fun U hU => ?_ | with_reducible refine Kv.gseq_step fun U hU => ?_); walk_at "rd"))
local macro_rules | `(tactic| walk_at "shp") => `(tactic| (refine Kv.shaped_of ?_ ?_ <;> (simp only [PyData.canLay0, PyData.canLayAll0, PyData.depth, PyData.depthAll, Bool.and_true, Bool.true_and]) <;> first | done | decide +kernel | omega))
local macro_rules | `(tactic| walk_at "eqv") => `(tactic| simp [PyData.eqv, PyData.eqvAll])
local macro_rules | `(tactic| walk_at "nx") => `(tactic| (subst_vars; (try dsimp only); first | walk_at "st" | walk_at "rd"))
section
variable {P : Program} {w : World} {K : PySem.W.Frag} {mg : Str → Option Value} {base : Heap}
/-- the numbers that a law makes of one cell: so many, none below 0, none beyond 10 ^ 13 -/
def spNumbers : Sp := fun vs H Q _ => ∃ c n, vs = [.int c, .int n] ∧ Builtin.Int.intBits c ≤ 1048576 ∧ 0 ≤ n ∧ n ≤ 1000 ∧
  ∀ (ns : List Int) p H', (ns.length : Int) = n → (∀ z ∈ ns, 0 ≤ z ∧ z < 10000000000000) → Same H H' → H p = none → H' p = some (.lst (ns.map V.int)) → Q (.ref p) H'
def invNumbers (c n : Int) (p : Addr) (H : Hp) : Nat → L2.St → Hp → Prop := fun i σ' H' => ∃ (rest : Int) (ns : List Int) (x y : Option V), σ' = [some (.int c), some (.int n), some (.int rest), some (.ref p), x, y] ∧ 0 ≤ rest ∧ Builtin.Int.intBits rest ≤ 1048576 ∧
  ns.length = i ∧ (∀ z ∈ ns, 0 ≤ z ∧ z < 10000000000000) ∧ Same H H' ∧ H' p = some (.lst (ns.map V.int))
theorem ok_L_numbers (T : Txt K mg) : FnOk P w K mg base CX0 1 T.a__law_numbers T.d__law_numbers ["cell", "count"] spNumbers := by
  refine T.F__law_numbers.ok sc_L_numbers (fun vs H Q E h => by obtain ⟨_, _, rfl, _⟩ := h; rfl) (fun cdv A outer s H vs Q E hr h => ?_)
  refine ⟨_, 
      (pss_cons (ps_set (i := 2) sc_L_numbers.nd rfl (Or.inl rfl) pe_int)
      (pss_cons (ps_if (pt_cmpR op_ge (pv 0) (pe_op op_pow pe_int pe_int) (nomark _)) 
        (pss_one (ps_set (i := 2) sc_L_numbers.nd rfl (Or.inl rfl) (pe_op op_fdivW (pv 0) (pe_op op_pow pe_int pe_int)))) pss_nil)
      (pss_cons (ps_set (i := 3) sc_L_numbers.nd rfl (Or.inl rfl) (pe_lst pa_nil))
      (pss_cons (ps_for PassesOwn.never rfl (pi_range1 (by rfl) T.n_range (pa_cons (pv 1) pa_nil)) (pg_name (i := 4) sc_L_numbers.nd rfl (Or.inl rfl)) 
        (pss_one (ps_if (pt_cmpR op_gt (pv 2) pe_int (nomark _)) 
          (pss_cons (ps_expr (pe_bm PySem.F.plainAttrs_list PySem.F.slot_list_append PySem.F.type_list_append mt_append (pv 3) (pa_cons (pe_op op_mod (pe_callTy call_int1 (by rfl) T.n_int (by decide +kernel) (pa_cons (pv 2) pa_nil)) (pe_op op_pow pe_int pe_int)) pa_nil)))
          (pss_one (ps_set (i := 2) sc_L_numbers.nd rfl (Or.inl rfl) (pe_op op_fdivW (pv 2) (pe_op op_pow pe_int pe_int))))) 
          (pss_cons (ps_set (i := 5) sc_L_numbers.nd rfl (Or.inl rfl) (pe_op op_mod (pe_callTy call_int1 (by rfl) T.n_int (by decide +kernel) (pa_cons (pe_op op_add (pe_op op_add (pe_op op_mulX (pv 0) pe_int) (pe_op op_mulX (pv 4) pe_int)) pe_int) pa_nil)) pe_int))
          (pss_cons (ps_set (i := 5) sc_L_numbers.nd rfl (Or.inl rfl) (pe_op op_mod (pe_callTy call_int1 (by rfl) T.n_int (by decide +kernel) (pa_cons (pe_op op_add (pe_op op_add (pe_op op_mulX (pv 5) (pv 5)) (pe_op op_mulX pe_int (pv 4))) pe_int) pa_nil)) pe_int))
          (pss_one (ps_expr (pe_bm PySem.F.plainAttrs_list PySem.F.slot_list_append PySem.F.type_list_append mt_append (pv 3) (pa_cons (pe_op op_add (pe_op op_mulX (pe_op op_mod (pe_callTy call_int1 (by rfl) T.n_int (by decide +kernel) (pa_cons (pe_op op_add (pe_op op_mulX (pv 5) (pv 5)) (pv 5)) pa_nil)) pe_int) pe_int) (pv 4)) pa_nil)))))))))
      (pss_one (ps_ret (pv 3))))))), ?_⟩
  obtain ⟨c, n, rfl, bc, n0, n1, hq⟩ := h
  walk_at "rd"
  split
  all_goals
    first
      | refine ⟨⟨by decide, by decide⟩, fun p hp => ?_⟩
      | intro p hp
    refine ⟨by omega, by omega, Kv.for_rng0 (invNumbers c n p H) ?_ ?_ ?_⟩
  case isTrue.refine_1 =>
    refine ⟨_, [], _, _, rfl, by omega, ?_, rfl, fun z hz => by simp at hz, Kv.same_upd hp, upd_same⟩
    exact Nat.le_trans (Kv.bits_mono (by omega)) bc
  case isFalse.refine_1 => exact ⟨_, [], _, _, rfl, by omega, by decide, rfl, fun z hz => by simp at hz, Kv.same_upd hp, upd_same⟩
  case isTrue.refine_3 | isFalse.refine_3 =>
    rintro σ' H' ⟨rest, ns, x, y, rfl, r0, rb, hl, hz, hs, hp'⟩
    walk_at "rd"
    exact hq ns p H' (by omega) hz hs hp hp'
  case isTrue.refine_2 | isFalse.refine_2 =>
    rintro i σ' H' hi ⟨rest, ns, x, y, rfl, r0, rb, hl, hz, hs, hp'⟩
    have hsz : (ns.map V.int).length < sizeLine := by
      rw [List.length_map]
      exact Nat.lt_of_lt_of_le (show ns.length < 1001 by omega) (by decide)
    have more : ∀ v : Int, 0 ≤ v → v < 10000000000000 → (∀ z ∈ ns ++ [v], 0 ≤ z ∧ z < 10000000000000) := by
      intro v h0 h1 z hm
      rcases List.mem_append.mp hm with hm | hm
      · exact hz z hm
      · rw [List.mem_singleton.mp hm]
        exact ⟨h0, h1⟩
    have fin : ∀ v : Int, (upd H' p (HO.lst (ns.map V.int ++ [.int v]))) p = some (.lst ((ns ++ [v]).map V.int)) := by
      intro v
      rw [upd_same, List.map_append]
      rfl
    walk_at "rd"
    by_cases c1 : 0 < rest
    · rw [if_pos c1]
      refine ⟨.inl ⟨rfl, _, SqL.of hp'⟩, _, hp', hsz, ⟨by decide, by decide⟩, ?_⟩
      refine ⟨rest / 10000000000000, ns ++ [rest % 10000000000000], _, _, rfl, Int.ediv_nonneg r0 (by decide), Nat.le_trans (Kv.bits_mono (by omega)) rb, by simp [hl], more _ (Int.emod_nonneg _ (by decide)) (Int.emod_lt_of_pos _ (by decide)), Kv.same_mut hp hs, fin _⟩
    · rw [if_neg c1]
      have bi : Builtin.Int.intBits (i : Int) ≤ 64 := Kv.bits64 (by omega) (by omega)
      refine ⟨Kv.mulX bc (b := 64) (by decide), Kv.mulX bi (b := 64) (by decide), ?_⟩
      generalize hm1 : (c * 48271 + (i : Int) * 69621 + 1013) % 2147483647 = m1
      have m10 : 0 ≤ m1 := by rw [← hm1]; exact Int.emod_nonneg _ (by decide)
      have m11 : m1 < 2147483647 := by rw [← hm1]; exact Int.emod_lt_of_pos _ (by decide)
      have bm1 : Builtin.Int.intBits m1 ≤ 64 := Kv.bits64 (by omega) (by omega)
      refine ⟨Kv.mulX bm1 bm1, Kv.mulX (a := 64) (by decide) bi, ?_⟩
      generalize hm2 : (m1 * m1 + 8191 * (i : Int) + 77) % 2147483629 = m2
      have m20 : 0 ≤ m2 := by rw [← hm2]; exact Int.emod_nonneg _ (by decide)
      have m21 : m2 < 2147483629 := by rw [← hm2]; exact Int.emod_lt_of_pos _ (by decide)
      have bm2 : Builtin.Int.intBits m2 ≤ 64 := Kv.bits64 (by omega) (by omega)
      generalize hm3 : (m2 * m2 + m2) % 2147483587 = m3
      have m30 : 0 ≤ m3 := by rw [← hm3]; exact Int.emod_nonneg _ (by decide)
      have m31 : m3 < 2147483587 := by rw [← hm3]; exact Int.emod_lt_of_pos _ (by decide)
      have bm3 : Builtin.Int.intBits m3 ≤ 64 := Kv.bits64 (by omega) (by omega)
      refine ⟨.inl ⟨rfl, _, SqL.of hp'⟩, Kv.mulX bm2 bm2, Kv.mulX bm3 (b := 64) (by decide), _, hp', hsz, ?_⟩
      exact ⟨rest, ns ++ [m3 * 4001 + i], _, _, rfl, r0, rb, by simp [hl], more _ (by omega) (by omega), Kv.same_mut hp hs, fin _⟩

theorem ok_L_kinds (T : Txt K mg) : Kv.KindsOk P w K mg base T.toErrs 1 T.a__law_kinds T.d__law_kinds := by
  refine Kv.kinds_of T.F__law_kinds sc_L_kinds (fun cdv A outer s H Q p er hz hf h => ?_)
  refine ⟨_, 
      (pss_cons (ps_set (i := 1) sc_L_kinds.nd rfl (Or.inl rfl) (pe_lst pa_nil))
      (pss_cons (ps_if (pt_val (pe_callB (Kv.call_isP List.mem_cons_self (T.exc er) hz hf) (by rfl) T.n_isinstance (by decide +kernel) (pa_cons (pv 0) (pa_cons (pe_glob (v := .ref (T.exa .badValue)) (by rfl) (T.exg .badValue) rfl) pa_nil)))) 
        (pss_one (ps_expr (pe_bm PySem.F.plainAttrs_list PySem.F.slot_list_append PySem.F.type_list_append mt_append (pv 1) (pa_cons pe_str pa_nil)))) pss_nil)
      (pss_cons (ps_if (pt_val (pe_callB (Kv.call_isP List.mem_cons_self (T.exc er) hz hf) (by rfl) T.n_isinstance (by decide +kernel) (pa_cons (pv 0) (pa_cons (pe_glob (v := .ref (T.exa .badDay)) (by rfl) (T.exg .badDay) rfl) pa_nil)))) 
        (pss_one (ps_expr (pe_bm PySem.F.plainAttrs_list PySem.F.slot_list_append PySem.F.type_list_append mt_append (pv 1) (pa_cons pe_str pa_nil)))) pss_nil)
      (pss_cons (ps_if (pt_val (pe_callB (Kv.call_isP List.mem_cons_self (T.exc er) hz hf) (by rfl) T.n_isinstance (by decide +kernel) (pa_cons (pv 0) (pa_cons (pe_glob (v := .ref (T.exa .missing)) (by rfl) (T.exg .missing) rfl) pa_nil)))) 
        (pss_one (ps_expr (pe_bm PySem.F.plainAttrs_list PySem.F.slot_list_append PySem.F.type_list_append mt_append (pv 1) (pa_cons pe_str pa_nil)))) pss_nil)
      (pss_cons (ps_if (pt_val (pe_callB (Kv.call_isP List.mem_cons_self (T.exc er) hz hf) (by rfl) T.n_isinstance (by decide +kernel) (pa_cons (pv 0) (pa_cons (pe_glob (v := .ref (T.exa .refused)) (by rfl) (T.exg .refused) rfl) pa_nil)))) 
        (pss_one (ps_expr (pe_bm PySem.F.plainAttrs_list PySem.F.slot_list_append PySem.F.type_list_append mt_append (pv 1) (pa_cons pe_str pa_nil)))) pss_nil)
      (pss_cons (ps_if (pt_val (pe_callB (Kv.call_isP List.mem_cons_self (T.exc er) hz hf) (by rfl) T.n_isinstance (by decide +kernel) (pa_cons (pv 0) (pa_cons (pe_glob (v := .ref (T.exa .full)) (by rfl) (T.exg .full) rfl) pa_nil)))) 
        (pss_one (ps_expr (pe_bm PySem.F.plainAttrs_list PySem.F.slot_list_append PySem.F.type_list_append mt_append (pv 1) (pa_cons pe_str pa_nil)))) pss_nil)
      (pss_cons (ps_if (pt_val (pe_callB (Kv.call_isP List.mem_cons_self (T.exc er) hz hf) (by rfl) T.n_isinstance (by decide +kernel) (pa_cons (pv 0) (pa_cons (pe_glob (v := .ref (T.exa .notAllowed)) (by rfl) (T.exg .notAllowed) rfl) pa_nil)))) 
        (pss_one (ps_expr (pe_bm PySem.F.plainAttrs_list PySem.F.slot_list_append PySem.F.type_list_append mt_append (pv 1) (pa_cons pe_str pa_nil)))) pss_nil)
      (pss_cons (ps_if (pt_val (pe_callB (Kv.call_isP List.mem_cons_self (T.exc er) hz hf) (by rfl) T.n_isinstance (by decide +kernel) (pa_cons (pv 0) (pa_cons (pe_glob (v := .ref (T.exa .damaged)) (by rfl) (T.exg .damaged) rfl) pa_nil)))) 
        (pss_one (ps_expr (pe_bm PySem.F.plainAttrs_list PySem.F.slot_list_append PySem.F.type_list_append mt_append (pv 1) (pa_cons pe_str pa_nil)))) pss_nil)
      (pss_one (ps_ret (pv 1))))))))))), ?_⟩
  have hi := fun d => T.exi er d
  refine Kv.seq_step fun U hU => ?_
  walk_at "rd"
  intro l hl
  rw [hU]
  cases er
  all_goals
    iterate 7
      refine Kv.seq_step fun U hU => ?_
      walk_at "rd"
      refine ⟨_, hi _, ?_⟩
      first
        | rw [if_neg (by decide)]
        | (rw [if_pos (by decide)]
           refine ⟨.inl ⟨rfl, _, SqL.of upd_same⟩, _, upd_same, by decide, ?_⟩
           rw [upd_upd])
      rw [hU]
    walk_at "rd"
    exact h l hl

/-! ### the mathematics -/
def m0 (x : Int) : Int := if x > 0 then x else 0
def pt : List (Int × Int) → Int → Int
  | [], _ => 0
  | [t], s => t.2 * m0 (s - t.1)
  | t :: u :: r, s => t.2 * m0 ((if s < u.1 then s else u.1) - t.1) + pt (u :: r) s
def endAt (ts : List (Int × Int)) (s : Int) (i : Nat) : Int := match ts[i + 1]? with
  | some u => u.1
  | none => s
theorem pt_step {s : Int} : ∀ {ts : List (Int × Int)} {i : Nat} {t : Int × Int}, ts[i]? = some t → pt (ts.drop i) s = t.2 * m0 ((if s < endAt ts s i then s else endAt ts s i) - t.1) + pt (ts.drop (i + 1)) s
  | [], i, t, h => by simp at h
  | [u], 0, t, h => by
    cases h
    simp [pt, endAt]
  | [u], i + 1, t, h => by simp at h
  | u :: v :: r, 0, t, h => by
    cases h
    simp [pt, endAt]
  | u :: v :: r, i + 1, t, h => by
    have ih := pt_step (s := s) (ts := v :: r) (i := i) (t := t) h
    exact ih
def ee : (Int × Int) → List (Int × Int) → Int → Int
  | _, [], _ => 0
  | t, u :: r, s => (u.2 - t.2) * m0 (s - u.1) + ee u r s
theorem m0_split {t u s : Int} (h : t ≤ u) : m0 ((if s < u then s else u) - t) = m0 (s - t) - m0 (s - u) := by
  unfold m0
  (repeat' split) <;> omega
theorem pt_ee {s : Int} : ∀ {r : List (Int × Int)} {t : Int × Int}, (t :: r).Pairwise (fun a b => a.1 ≤ b.1) → pt (t :: r) s = t.2 * m0 (s - t.1) + ee t r s
  | [], t, _ => by simp [pt, ee]
  | u :: r, t, h => by
    have h1 := List.pairwise_cons.mp h
    rw [pt, pt_ee h1.2, ee, m0_split (h1.1 u (List.mem_cons_self))]
    rw [Int.mul_sub, Int.sub_mul]
    omega
theorem ee_super {x y : Int} (hx : 0 ≤ x) (hy : 0 ≤ y) : ∀ {r : List (Int × Int)} {t : Int × Int}, (t :: r).Pairwise (fun a b => a.2 ≤ b.2) → (∀ u ∈ r, 0 ≤ u.1) → ee t r x + ee t r y ≤ ee t r (x + y)
  | [], t, _, _ => by simp [ee]
  | u :: r, t, h, g => by
    have h1 := List.pairwise_cons.mp h
    have ih := ee_super hx hy h1.2 fun v hv => g v (List.mem_cons_of_mem _ hv)
    have hu := g u List.mem_cons_self
    have hr := h1.1 u List.mem_cons_self
    have z : m0 (x - u.1) + m0 (y - u.1) ≤ m0 (x + y - u.1) := by unfold m0; (repeat' split) <;> omega
    have k := Int.mul_le_mul_of_nonneg_left z (show 0 ≤ u.2 - t.2 by omega)
    rw [Int.mul_add] at k
    simp only [ee]
    omega
theorem ee_sub {x y : Int} (hx : 0 ≤ x) (hy : 0 ≤ y) : ∀ {r : List (Int × Int)} {t : Int × Int}, (t :: r).Pairwise (fun a b => a.2 ≥ b.2) → (∀ u ∈ r, 0 ≤ u.1) → ee t r (x + y) ≤ ee t r x + ee t r y
  | [], t, _, _ => by simp [ee]
  | u :: r, t, h, g => by
    have h1 := List.pairwise_cons.mp h
    have ih := ee_sub hx hy h1.2 fun v hv => g v (List.mem_cons_of_mem _ hv)
    have hu := g u List.mem_cons_self
    have hr := h1.1 u List.mem_cons_self
    have z : m0 (x - u.1) + m0 (y - u.1) ≤ m0 (x + y - u.1) := by unfold m0; (repeat' split) <;> omega
    have k := Int.mul_le_mul_of_nonneg_left z (show 0 ≤ t.2 - u.2 by omega)
    have e : ∀ w, (u.2 - t.2) * w = -((t.2 - u.2) * w) := fun w => by rw [← Int.neg_mul]; congr 1; omega
    rw [Int.mul_add] at k
    simp only [ee, e]
    omega
theorem pt_mono {x y : Int} (h : x ≤ y) : ∀ {L : List (Int × Int)}, (∀ t ∈ L, 0 ≤ t.2) → pt L x ≤ pt L y
  | [], _ => Int.le_refl _
  | [t], g => by
    have z : m0 (x - t.1) ≤ m0 (y - t.1) := by unfold m0; (repeat' split) <;> omega
    exact Int.mul_le_mul_of_nonneg_left z (g t List.mem_cons_self)
  | t :: u :: r, g => by
    have z : m0 ((if x < u.1 then x else u.1) - t.1) ≤ m0 ((if y < u.1 then y else u.1) - t.1) := by unfold m0; (repeat' split) <;> omega
    have k := Int.mul_le_mul_of_nonneg_left z (g t List.mem_cons_self)
    have ih := pt_mono h (L := u :: r) fun v hv => g v (List.mem_cons_of_mem _ hv)
    simp only [pt]
    omega
theorem pt_low {s m : Int} : ∀ {r : List (Int × Int)} {t : Int × Int}, (t :: r).Pairwise (fun a b => a.1 ≤ b.1) → (∀ u ∈ t :: r, m ≤ u.2) → m * m0 (s - t.1) ≤ pt (t :: r) s
  | [], t, _, g => Int.mul_le_mul_of_nonneg_right (g t List.mem_cons_self) (by unfold m0; (repeat' split) <;> omega)
  | u :: r, t, h, g => by
    have h1 := List.pairwise_cons.mp h
    have ih := pt_low (s := s) h1.2 fun v hv => g v (List.mem_cons_of_mem _ hv)
    rw [pt, m0_split (h1.1 u List.mem_cons_self)]
    have z : 0 ≤ m0 (s - t.1) - m0 (s - u.1) := by have := h1.1 u List.mem_cons_self; unfold m0; (repeat' split) <;> omega
    have k := Int.mul_le_mul_of_nonneg_right (g t List.mem_cons_self) z
    rw [Int.mul_sub] at k
    omega
theorem pt_high {s m : Int} : ∀ {r : List (Int × Int)} {t : Int × Int}, (t :: r).Pairwise (fun a b => a.1 ≤ b.1) → (∀ u ∈ t :: r, u.2 ≤ m) → pt (t :: r) s ≤ m * m0 (s - t.1)
  | [], t, _, g => Int.mul_le_mul_of_nonneg_right (g t List.mem_cons_self) (by unfold m0; (repeat' split) <;> omega)
  | u :: r, t, h, g => by
    have h1 := List.pairwise_cons.mp h
    have ih := pt_high (s := s) h1.2 fun v hv => g v (List.mem_cons_of_mem _ hv)
    rw [pt, m0_split (h1.1 u List.mem_cons_self)]
    have z : 0 ≤ m0 (s - t.1) - m0 (s - u.1) := by have := h1.1 u List.mem_cons_self; unfold m0; (repeat' split) <;> omega
    have k := Int.mul_le_mul_of_nonneg_right (g t List.mem_cons_self) z
    rw [Int.mul_sub m] at k
    omega
def spParts (K : PySem.W.Frag) : Sp := fun vs H Q _ => ∃ (a : Addr) (ts : List (Int × Int)) (s : Int), vs = [.ref a, .int s] ∧ Kv.Prs K H a ts ∧ ts ≠ [] ∧ ts.length ≤ 100 ∧ (∀ t ∈ ts, 0 ≤ t.1 ∧ t.1 ≤ 100000000000 ∧ 0 ≤ t.2 ∧ t.2 ≤ 10000) ∧ 0 ≤ s ∧ s ≤ 100000000000000 ∧
  ∀ H', Same H H' → Q (.int (pt ts s)) H'
def invParts (a : Addr) (s : Int) (e2 : Addr) (ts : List (Int × Int)) (H : Hp) : Nat → L2.St → Hp → Prop := fun i σ' H' => ∃ (v : Int) (v3 v4 v6 v7 : Option V), σ' = [some (.ref a), some (.int s), some (.ref e2), v3, v4, some (.int v), v6, v7] ∧ v + pt (ts.drop i) s = pt ts s ∧ Same H H'
theorem ok_parts_of (T : Txt K mg) : FnOk P w K mg base CX0 1 T.a_parts_of T.d_parts_of ["tiers", "size"] (spParts K) := by
  refine T.F_parts_of.ok sc_parts_of (fun vs H Q E h => by obtain ⟨_, _, _, rfl, _⟩ := h; rfl) (fun cdv A outer s H vs Q E hr h => ?_)
  refine ⟨_, 
      (pss_cons (ps_set (i := 2) sc_parts_of.nd rfl (Or.inl rfl) (pe_op Kv.op_catS (pe_lc (own := [("start", 3), ("_", 4)]) (g := gTup K 2 (gCons (gName 3) (gCons (gName 4) gNil))) (tt := tYes) rfl sc_parts_of.nd (pi_list (pe_slice sl_list (pv 0) (po_some pe_int) po_none)) (blkOk_by (N := ["tiers", "size", "ends", "start", "_", "parts", "rate", "end"]) (sc := defScope s_parts_of) (by decide +kernel)) (fun _ _ _ _ _ => (pg_tup (n := 2) (by rfl) (pgs_cons (pg_name (i := 3) sc_parts_of.nd rfl (Or.inl rfl)) (pgs_cons (pg_name (i := 4) sc_parts_of.nd rfl (Or.inl rfl)) pgs_nil)))) (fun _ _ _ _ _ => pts_nil) (fun _ _ _ _ _ => (pv 3))) (pe_lst (pa_cons (pv 1) pa_nil))))
      (pss_cons (ps_set (i := 5) sc_parts_of.nd rfl (Or.inl rfl) pe_int)
      (pss_cons (ps_for PassesOwn.never rfl (pi_zip (by rfl) T.n_zip (pa_cons (pv 0) (pa_cons (pv 2) pa_nil))) (pg_tup (n := 2) (by rfl) (pgs_cons (pg_tup (n := 2) (by rfl) (pgs_cons (pg_name (i := 3) sc_parts_of.nd rfl (Or.inl rfl)) (pgs_cons (pg_name (i := 6) sc_parts_of.nd rfl (Or.inl rfl)) pgs_nil))) (pgs_cons (pg_name (i := 7) sc_parts_of.nd rfl (Or.inl rfl)) pgs_nil))) 
        (pss_one (ps_aug (i := 5) sc_parts_of.nd rfl (Or.inl rfl) (pe_op op_mulX (pv 6) (pe_callB (call_max2 rfl) (by rfl) T.n_max (by decide +kernel) (pa_cons pe_int (pa_cons (pe_op op_sub (pe_callB (call_min2 rfl) (by rfl) T.n_min (by decide +kernel) (pa_cons (pv 7) (pa_cons (pv 1) pa_nil))) (pv 3)) pa_nil)))) ip_add)))
      (pss_one (ps_ret (pv 5)))))), ?_⟩
  obtain ⟨a, ts, s, rfl, ⟨xs, hS, hA⟩, hne, hl, hb, s0, s1, hq⟩ := h
  walk_at "st"
  have hlx := hA.len
  refine ⟨a, xs, rfl, hS, fun p hp => ⟨p, rfl, ⟨_, SqL.of upd_same⟩, ?_⟩⟩
  rw [Kv.cut_from (by decide)]
  refine Kv.lc_pure walk_list ((ts.drop 1).map fun t => V.int t.1) (by simp [hlx]) (Nat.lt_of_le_of_lt (show (xs.drop 1).length ≤ 100 by simp; omega) (by decide)) (fun H' s1 => SqL.of (s1 _ _ upd_same)) (fun i x y H1 H2 U hy s1 hY hU => ?_) fun e1 H1 he s1 hp1 => ?_
  · obtain ⟨rfl, hx⟩ := hY
    obtain ⟨t, ht, r, rfl, hr⟩ := (hA.drop 1).get hx
    rw [List.getElem?_map, ht] at hy
    cases hy
    refine Kv.gtupN2 (Kv.same_tup ((Kv.same_upd hp).trans s1) hr) ⟨rfl, ?_⟩
    walk_at "rd"
    exact hU _ (Same.refl _)
  refine fun q hq1 => ⟨e1, q, _, _, rfl, rfl, (Kv.same_upd hq1).seq (SqL.of hp1), SqL.of upd_same, Nat.le_trans (show ((ts.drop 1).map fun t => V.int t.1).length + 1 ≤ 200 by simp; omega) (by decide), fun e2 he2 => ?_⟩
  have sA := ((Kv.same_upd hp).trans s1).trans ((Kv.same_upd hq1).trans (Kv.same_upd (o := .lst (((ts.drop 1).map fun t => V.int t.1) ++ [V.int s])) he2))
  generalize hH2 : upd (upd H1 q (HO.lst [V.int s])) e2 (HO.lst (((ts.drop 1).map fun t => V.int t.1) ++ [V.int s])) = H2 at *
  have he3 : H2 e2 = some (.lst (((ts.drop 1).map fun t => V.int t.1) ++ [V.int s])) := by rw [← hH2]; exact upd_same
  clear hH2
  walk_at "nx"
  walk_at "nx"
  refine ⟨⟨xs, sA.seq hS⟩, ⟨_, SqL.of he3⟩, Kv.for_zp xs (((ts.drop 1).map fun t => V.int t.1) ++ [V.int s]) ts.length (by simp; have : ts.length ≠ 0 := fun z => hne (List.length_eq_zero_iff.mp z); omega) (invParts a s e2 ts H2) ⟨0, _, _, _, _, rfl, by simp, Same.refl _⟩ ?_ ?_ ?_⟩
  · rintro i σ' H' ⟨_, _, _, _, _, rfl, _, s2⟩
    exact ⟨s2.seq (sA.seq hS), SqL.of (s2 _ _ he3)⟩
  · rintro i x y2 T2 σ' H' hi hx hy ⟨v, _, _, _, _, rfl, hv, s2⟩ hT
    obtain ⟨t, ht, r, rfl, hr⟩ := hA.get hx
    have sB := sA.trans (s2.trans (Kv.same_upd (o := .tup [.ref r, y2]) hT))
    have hy2 : y2 = .int (endAt ts s i) := by
      unfold endAt
      rcases Nat.lt_or_ge (i + 1) ts.length with h | h
      · rw [List.getElem?_append_left (by simp; omega), List.getElem?_map, List.getElem?_drop] at hy
        rw [Nat.add_comm 1 i, List.getElem?_eq_getElem h] at hy
        rw [List.getElem?_eq_getElem h]
        cases hy
        rfl
      · rw [List.getElem?_append_right (by simp; omega)] at hy
        rw [List.getElem?_eq_none h]
        have e : i - ((ts.drop 1).map fun t => V.int t.1).length = 0 := by simp; omega
        rw [e] at hy
        cases hy
        rfl
    subst hy2
    have tb := hb t (List.mem_of_getElem? ht)
    have eb : 0 ≤ endAt ts s i ∧ endAt ts s i ≤ 100000000000000 := by
      unfold endAt
      split
      · rename_i u hu
        have := hb u (List.mem_of_getElem? hu)
        omega
      · omega
    refine ⟨T2, _, rfl, SqT.of upd_same, rfl, .ref r, [.int (endAt ts s i)], rfl, Kv.gtupN2 (Kv.same_tup sB hr) ⟨_, [], rfl, rfl, ?_⟩⟩
    walk_at "rd"
    refine ⟨Kv.mulX (Kv.bits64 (by omega) (by omega)) (Kv.bits64 (by (repeat' split) <;> omega) (by (repeat' split) <;> omega)), ?_⟩
    refine ⟨_, _, _, _, _, rfl, ?_, s2.trans (Kv.same_upd hT)⟩
    rw [← hv, pt_step ht]
    unfold m0
    omega
  · rintro σ' H' ⟨v, _, _, _, _, rfl, hv, s2⟩
    walk_at "nx"
    rw [List.drop_length] at hv
    have hv : v = pt ts s := by simpa [pt] using hv
    subst hv
    exact hq _ (sA.trans s2)

/-- the tiers that the law makes -/
def Good (ts : List (Int × Int)) : Prop := ts ≠ [] ∧ ts.length ≤ 8 ∧ ts.Pairwise (fun a b => a.1 ≤ b.1) ∧ (∀ t ∈ ts, 0 ≤ t.1 ∧ t.1 ≤ 8000000000 ∧ 0 ≤ t.2 ∧ t.2 ≤ 10000) ∧ (∀ t, ts[0]? = some t → t.1 = 0)
def spTiers (K : PySem.W.Frag) : Sp := fun vs H Q _ => ∃ (a : Addr) (ns : List Int) (at_ : Int), vs = [.ref a, .int at_] ∧ SqL K H a (ns.map V.int) ∧ 0 ≤ at_ ∧ at_ + 18 ≤ ns.length ∧ at_ ≤ 1000 ∧ (∀ z ∈ ns, 0 ≤ z ∧ z < 10000000000000) ∧
  ∀ p ts H', Good ts → Same H H' → Kv.Prs K H' p ts → Q (.ref p) H'
def invTiers (a : Addr) (at_ : Int) (tl : Addr) (H : Hp) : Nat → L2.St → Hp → Prop := fun i σ' H' => ∃ (st : Int) (v4 v5 : Option V) (xs : List V) (ts : List (Int × Int)), σ' = [some (.ref a), some (.int at_), some (.int st), some (.ref tl), v4, v5] ∧ Same H H' ∧
  H' tl = some (.lst xs) ∧ Kv.All2 (fun x t => ∃ r, x = .ref r ∧ H' r = some (.tup [.int t.1, .int t.2])) xs ts ∧ ts.length = i ∧ 0 ≤ st ∧ st ≤ 200000000 * i ∧ ts.Pairwise (fun a b => a.1 ≤ b.1) ∧ (∀ t ∈ ts, 0 ≤ t.1 ∧ t.1 ≤ st ∧ 0 ≤ t.2 ∧ t.2 ≤ 10000) ∧ (∀ t, ts[0]? = some t → t.1 = 0) ∧ (ts = [] → st = 0)
theorem ok_L_tiers (T : Txt K mg) : FnOk P w K mg base CX0 1 T.a__law_tiers T.d__law_tiers ["numbers", "at"] (spTiers K) := by
  refine T.F__law_tiers.ok sc_L_tiers (fun vs H Q E h => by obtain ⟨_, _, _, rfl, _⟩ := h; rfl) (fun cdv A outer s H vs Q E hr h => ?_)
  refine ⟨_, 
      (pss_cons (ps_set (i := 2) sc_L_tiers.nd rfl (Or.inl rfl) pe_int)
      (pss_cons (ps_set (i := 3) sc_L_tiers.nd rfl (Or.inl rfl) (pe_lst pa_nil))
      (pss_cons (ps_for PassesOwn.never rfl (pi_range1 (by rfl) T.n_range (pa_cons (pe_op op_add pe_int (pe_op op_mod (pe_ix ix_list (pv 0) (pv 1) (fun _ _ => rfl)) pe_int)) pa_nil)) (pg_name (i := 4) sc_L_tiers.nd rfl (Or.inl rfl)) 
        (pss_cons (ps_expr (pe_bm PySem.F.plainAttrs_list PySem.F.slot_list_append PySem.F.type_list_append mt_append (pv 3) (pa_cons (pe_tup (pa_cons (pv 2) (pa_cons (pe_op op_mod (pe_ix ix_list (pv 0) (pe_op op_add (pe_op op_add (pv 1) pe_int) (pe_op op_mulX pe_int (pv 4))) (fun _ _ => rfl)) pe_int) pa_nil))) pa_nil)))
        (pss_cons (ps_set (i := 5) sc_L_tiers.nd rfl (Or.inl rfl) (pe_op op_add pe_int (pe_op op_mod (pe_ix ix_list (pv 0) (pe_op op_add (pe_op op_add (pv 1) pe_int) (pe_op op_mulX pe_int (pv 4))) (fun _ _ => rfl)) pe_int)))
        (pss_cons (ps_if (pt_cmpR op_eq (pe_op op_mod (pe_ix ix_list (pv 0) (pe_op op_add (pv 1) pe_int) (fun _ _ => rfl)) pe_int) pe_int (nomark _)) 
          (pss_one (ps_set (i := 5) sc_L_tiers.nd rfl (Or.inl rfl) (pe_op op_add pe_int (pe_op op_mod (pe_ix ix_list (pv 0) (pe_op op_add (pe_op op_add (pv 1) pe_int) (pe_op op_mulX pe_int (pv 4))) (fun _ _ => rfl)) pe_int)))) pss_nil)
        (pss_one (ps_set (i := 2) sc_L_tiers.nd rfl (Or.inl rfl) (pe_op op_add (pv 2) (pv 5))))))))
      (pss_one (ps_ret (pv 3)))))), ?_⟩
  obtain ⟨a, ns, at_, rfl, hS, at0, hl, at1, hn, hq⟩ := h
  walk_at "st"
  walk_at "nx"
  intro tl htl
  walk_at "nx"
  refine Kv.ix_num ((Kv.same_upd htl).seq hS) (by omega) ?_
  walk_at "rd"
  refine ⟨by omega, by omega, Kv.for_rng0 (invTiers a at_ tl H) ⟨0, _, _, [], [], rfl, Kv.same_upd htl, upd_same, .nil, rfl, by omega, by omega, .nil, fun _ h => by simp at h, fun _ h => by simp at h, fun _ => rfl⟩ ?_ ?_⟩
  · rintro i σ' H' hi ⟨st, _, _, xs, ts, rfl, hs, htl', hA, hlt, st0, st1, hp, hb, h0, hz⟩
    have hi : i < 8 := by omega
    have hS' : SqL K H' a (ns.map V.int) := hs.seq hS
    have bi : Builtin.Int.intBits (i : Int) ≤ 64 := Kv.bits64 (by omega) (by omega)
    have m2 : CMulX 2 (i : Int) := Kv.mulX (a := 64) (by decide) bi
    walk_at "st"
    refine ⟨.inl ⟨rfl, _, SqL.of htl'⟩, m2, Kv.ix_num hS' (by omega) ?_⟩
    walk_at "rd"
    intro t ht
    have s2 := Kv.same_upd (o := .tup [.int st, .int (ns.getD (at_ + 2 + 2 * (i : Int)).toNat 0 % 10001)]) ht
    refine ⟨_, s2 _ _ htl', Nat.lt_of_le_of_lt (show xs.length ≤ 8 by rw [hA.len]; omega) (by decide), ?_⟩
    have s3 : Same H (upd (upd H' t (HO.tup [V.int st, V.int (ns.getD (at_ + 2 + 2 * (i : Int)).toNat 0 % 10001)])) tl (HO.lst (xs ++ [V.ref t]))) := Kv.same_mut htl (hs.trans s2)
    have e3 : (upd (upd H' t (HO.tup [V.int st, V.int (ns.getD (at_ + 2 + 2 * (i : Int)).toNat 0 % 10001)])) tl (HO.lst (xs ++ [V.ref t]))) tl = some (.lst (xs ++ [V.ref t])) := upd_same
    have hA3 : Kv.All2 (fun x (u : Int × Int) => ∃ r, x = V.ref r ∧ (upd (upd H' t (HO.tup [V.int st, V.int (ns.getD (at_ + 2 + 2 * (i : Int)).toNat 0 % 10001)])) tl (HO.lst (xs ++ [V.ref t]))) r = some (HO.tup [V.int u.fst, V.int u.snd])) (xs ++ [V.ref t]) (ts ++ [(st, ns.getD (at_ + 2 + 2 * (i : Int)).toNat 0 % 10001)]) := by
      refine (hA.mono ?_).snoc ⟨t, rfl, Kv.tup_keep upd_same (s2 _ _ htl')⟩
      rintro x u ⟨r, rfl, hr⟩
      exact ⟨r, rfl, Kv.tup_keep (s2 _ _ hr) (s2 _ _ htl')⟩
    have hlt2 : (ts ++ [(st, ns.getD (at_ + 2 + 2 * (i : Int)).toNat 0 % 10001)]).length = i + 1 := by simp [hlt]
    have hp2 : (ts ++ [(st, ns.getD (at_ + 2 + 2 * (i : Int)).toNat 0 % 10001)]).Pairwise (fun a b => a.1 ≤ b.1) := by
      refine List.pairwise_append.mpr ⟨hp, List.pairwise_singleton _ _, fun u hu v hv => ?_⟩
      rw [List.mem_singleton.mp hv]
      exact (hb u hu).2.1
    have h02 : ∀ t, (ts ++ [(st, ns.getD (at_ + 2 + 2 * (i : Int)).toNat 0 % 10001)])[0]? = some t → t.1 = 0 := by
      intro u hu
      cases ts with
      | nil => cases hu; exact hz rfl
      | cons v r => exact h0 u hu
    have fin : ∀ g : Int, 1 ≤ g → g ≤ 140000000 → ∀ v4 v5, invTiers a at_ tl H (i + 1) [some (.ref a), some (.int at_), some (.int (st + g)), some (.ref tl), v4, v5] (upd (upd H' t (HO.tup [V.int st, V.int (ns.getD (at_ + 2 + 2 * (i : Int)).toNat 0 % 10001)])) tl (HO.lst (xs ++ [V.ref t]))) := by
      intro g g1 g2 v4 v5
      refine ⟨st + g, _, _, _, _, rfl, s3, e3, hA3, hlt2, by omega, by omega, hp2, fun u hu => ?_, h02, fun z => by simp at z⟩
      rcases List.mem_append.mp hu with hu | hu
      · have := hb u hu
        omega
      · rw [List.mem_singleton.mp hu]
        refine ⟨st0, ?_, ?_, ?_⟩ <;> dsimp only <;> omega
    have hS3 := s3.seq hS
    generalize upd (upd H' t (HO.tup [V.int st, V.int (ns.getD (at_ + 2 + 2 * (i : Int)).toNat 0 % 10001)])) tl (HO.lst (xs ++ [V.ref t])) = H3 at *
    walk_at "nx"
    refine ⟨m2, Kv.ix_num hS3 (by omega) ?_⟩
    walk_at "nx"
    refine Kv.ix_num hS3 (by omega) ?_
    walk_at "rd"
    split
    · refine ⟨m2, Kv.ix_num hS3 (by omega) ?_⟩
      walk_at "nx"
      exact fin _ (by omega) (by omega) _ _
    · exact fin _ (by omega) (by omega) _ _
  · rintro σ' H' ⟨st, _, _, xs, ts, rfl, hs, htl', hA, hlt, st0, st1, hp, hb, h0, hz⟩
    walk_at "nx"
    have hlen : ts.length ≤ 8 := by omega
    refine hq tl ts H' ⟨fun z => ?_, hlen, hp, fun t ht => ?_, h0⟩ hs ⟨xs, SqL.of htl', hA.mono ?_⟩
    · subst z
      simp at hlt
      omega
    · have := hb t ht
      omega
    · rintro x t ⟨r, rfl, hr⟩
      exact ⟨r, rfl, SqT.of hr⟩

def goodS (ns : List Int) : Prop := ns[0]? = some 0 ∧ ∀ (i : Nat) x y, ns[i]? = some x → ns[i + 1]? = some y → x < y ∧ y ≤ 1000000000
def spStarts (K : PySem.W.Frag) (T : Txt K mg) : Sp := fun vs H Q E => ∃ (a : Addr) (ns : List Int), vs = [.ref a] ∧ SqL K H a (ns.map V.int) ∧ 0 < ns.length ∧ ns.length ≤ 1000 ∧ (goodS ns → ∀ H', Same H H' → Q .non H') ∧ (¬goodS ns → ∀ H', Same H H' → E (.ref (T.exa .badValue)) none H')
def invSt (a : Addr) (ns : List Int) (H : Hp) : Nat → L2.St → Hp → Prop := fun i σ' H' => ∃ v1 v2 : Option V, σ' = [some (.ref a), v1, v2] ∧ Same H H' ∧ ∀ (j : Nat) x y, j < i → ns[j]? = some x → ns[j + 1]? = some y → x < y ∧ y ≤ 1000000000
theorem ok_check_starts (T : Txt K mg) : FnOk P w K mg base (L2.CX P w) 1 T.a_check_starts T.d_check_starts ["starts"] (spStarts K T) := by
  refine T.F_check_starts.okX sc_check_starts (fun vs H Q E h => by obtain ⟨_, _, rfl, _⟩ := h; rfl) (fun cdv A outer s H vs Q E hr h => ?_)
  refine ⟨_, 
      (pss_cons (ps_if (pt_cmpR op_ne (pe_ix ix_list (pv 0) pe_int (fun _ _ => rfl)) pe_int (nomark _)) 
        (pss_one (ps_raise rfl (takes_of rfl rfl rfl rfl) (pmk_own PySem.F.excBase_ValueError (T.exx .badValue) (T.exg .badValue) (T.exk .badValue) (raises_own (T.exb .badValue) (T.ext .badValue)) (by rfl)))) pss_nil)
      (pss_one (ps_for (passes_of rfl) rfl (pi_zip (by rfl) T.n_zip (pa_cons (pv 0) (pa_cons (pe_slice sl_list (pv 0) (po_some pe_int) po_none) pa_nil))) (pg_tup (n := 2) (by rfl) (pgs_cons (pg_name (i := 1) sc_check_starts.nd rfl (Or.inl rfl)) (pgs_cons (pg_name (i := 2) sc_check_starts.nd rfl (Or.inl rfl)) pgs_nil))) 
        (pss_cons (ps_if (pt_cmpR op_le (pv 2) (pv 1) (nomark _)) 
          (pss_one (ps_raise rfl (takes_of rfl rfl rfl rfl) (pmk_own PySem.F.excBase_ValueError (T.exx .badValue) (T.exg .badValue) (T.exk .badValue) (raises_own (T.exb .badValue) (T.ext .badValue)) (by rfl)))) pss_nil)
        (pss_one (ps_if (pt_cmpR op_gt (pv 2) (pe_glob (by rfl) T.g_LIMIT T.r_LIMIT) (nomark _)) 
          (pss_one (ps_raise rfl (takes_of rfl rfl rfl rfl) (pmk_own PySem.F.excBase_ValueError (T.exx .badValue) (T.exg .badValue) (T.exk .badValue) (raises_own (T.exb .badValue) (T.ext .badValue)) (by rfl)))) pss_nil)))))), ?_⟩
  obtain ⟨a, ns, rfl, hS, l0, l1, hq, he⟩ := h
  walk_at "st"
  refine Kv.ix_num hS (by omega) ⟨rfl, ?_⟩
  have e0 : ns[0]? = some (ns.getD 0 0) := by rw [List.getD_eq_getElem?_getD, List.getElem?_eq_getElem l0]; rfl
  rw [show (0 : Int).toNat = 0 from rfl]
  split
  · rename_i c
    exact he (fun z => c (congrArg V.int (Option.some.inj (e0.symm.trans z.1)))) _ (Same.refl _)
  rename_i c
  have c0 : ns.getD 0 0 = 0 := by
    exact V.int.inj (Decidable.not_not.mp c)
  walk_at "nx"
  refine ⟨a, _, rfl, hS, fun p hp => ?_⟩
  rw [Kv.cut_from (by decide)]
  walk_at "rd"
  have s1 := Kv.same_upd (o := .lst ((ns.map V.int).drop 1)) hp
  refine ⟨⟨_, s1.seq hS⟩, ⟨_, SqL.of upd_same⟩, Kv.for_zp (ns.map V.int) ((ns.map V.int).drop 1) (ns.length - 1) (by simp) (invSt a ns (upd H p (.lst ((ns.map V.int).drop 1)))) ⟨_, _, rfl, Same.refl _, fun i x y hi => by omega⟩ ?_ ?_ ?_⟩
  · rintro i σ' H' ⟨_, _, rfl, s2, _⟩
    exact ⟨s2.seq (s1.seq hS), SqL.of (s2 _ _ upd_same)⟩
  · rintro i x y T2 σ' H' hi hx hy ⟨_, _, rfl, s2, hg⟩ hT
    obtain ⟨x, ex, rfl⟩ := Kv.ref_num hx
    rw [← List.map_drop] at hy
    obtain ⟨y, ey, rfl⟩ := Kv.ref_num hy
    rw [List.getElem?_drop, Nat.add_comm] at ey
    have s3 := s2.trans (Kv.same_upd (o := .tup [.int x, .int y]) hT)
    have bad : ¬(x < y ∧ y ≤ 1000000000) → E (.ref (T.exa .badValue)) none (upd H' T2 (.tup [.int x, .int y])) := fun z => he (fun g => z (g.2 i x y ex ey)) _ (s1.trans s3)
    refine Kv.gtupN2 (SqT.of upd_same) ?_
    walk_at "rd"
    split
    · exact bad (by omega)
    split
    · exact bad (by omega)
    · refine ⟨_, _, rfl, s3, fun j x2 y2 hj e1 e2 => ?_⟩
      rcases (by omega : j < i ∨ j = i) with z | z
      · exact hg j x2 y2 z e1 e2
      · subst z
        rw [ex] at e1
        rw [ey] at e2
        cases e1
        cases e2
        omega
  · rintro σ' H' ⟨_, _, rfl, s2, hg⟩
    refine hq ⟨by rw [e0, c0], fun i x y e1 e2 => hg i x y ?_ e1 e2⟩ _ (s1.trans s2)
    have := (List.getElem?_eq_some_iff.mp e2).1
    omega
def Ok (ts : List (Int × Int)) : Prop := 1 ≤ ts.length ∧ ts.length ≤ 8 ∧ goodS (ts.map (·.1)) ∧ ∀ t ∈ ts, 0 ≤ t.2 ∧ t.2 ≤ 10000
def spCheck (K : PySem.W.Frag) (T : Txt K mg) : Sp := fun vs H Q E => ∃ (a : Addr) (ts : List (Int × Int)), vs = [.ref a] ∧ Kv.Prs K H a ts ∧ ts.length ≤ 1000 ∧ (Ok ts → ∀ H', Same H H' → Q .non H') ∧ (¬Ok ts → ∀ H', Same H H' → E (.ref (T.exa .badValue)) none H')
def invCk (a : Addr) (ts : List (Int × Int)) (H : Hp) : Nat → L2.St → Hp → Prop := fun i σ' H' => ∃ v1 v2 v3 : Option V, σ' = [some (.ref a), v1, v2, v3] ∧ Same H H' ∧ ∀ (j : Nat) t, j < i → ts[j]? = some t → 0 ≤ t.2 ∧ t.2 ≤ 10000
theorem ok_check_tiers (T : Txt K mg) : FnOk P w K mg base (L2.CX P w) 2 T.a_check_tiers T.d_check_tiers ["tiers"] (spCheck K T) := by
  refine T.F_check_tiers.okX sc_check_tiers (fun vs H Q E h => by obtain ⟨_, _, rfl, _⟩ := h; rfl) (fun cdv A outer s H vs Q E hr h => ?_)
  refine ⟨_, 
      (pss_cons (ps_if (pt_not (pt_chain op_le op_le pe_int (pe_callB call_len_seq (by rfl) T.n_len PySem.boot_len (pa_cons (pv 0) pa_nil)) (pe_glob (by rfl) T.g_MOST_TIERS T.r_MOST_TIERS))) 
        (pss_one (ps_raise rfl (takes_of rfl rfl rfl rfl) (pmk_own PySem.F.excBase_ValueError (T.exx .badValue) (T.exg .badValue) (T.exk .badValue) (raises_own (T.exb .badValue) (T.ext .badValue)) (by rfl)))) pss_nil)
      (pss_cons (ps_expr (pe_call (ok_check_starts T) (hr.mono (by decide : 1 ≤ _)) (by rfl) T.g_check_starts T.F_check_starts.kp T.b_check_starts .nil (passes_call (takes_of rfl rfl rfl rfl) (fun _ _ _ _ h => h)) (pa_cons (pe_lc (own := [("start", 1), ("_", 2)]) (g := gTup K 2 (gCons (gName 1) (gCons (gName 2) gNil))) (tt := tYes) rfl sc_check_tiers.nd (pi_list (pv 0)) (blkOk_by (N := ["tiers", "start", "_", "rate"]) (sc := defScope s_check_tiers) (by decide +kernel)) (fun _ _ _ _ _ => (pg_tup (n := 2) (by rfl) (pgs_cons (pg_name (i := 1) sc_check_tiers.nd rfl (Or.inl rfl)) (pgs_cons (pg_name (i := 2) sc_check_tiers.nd rfl (Or.inl rfl)) pgs_nil)))) (fun _ _ _ _ _ => pts_nil) (fun _ _ _ _ _ => (pv 1))) pa_nil)))
      (pss_one (ps_for (passes_of rfl) rfl (pi_list (pv 0)) (pg_tup (n := 2) (by rfl) (pgs_cons (pg_name (i := 2) sc_check_tiers.nd rfl (Or.inl rfl)) (pgs_cons (pg_name (i := 3) sc_check_tiers.nd rfl (Or.inl rfl)) pgs_nil))) 
        (pss_one (ps_if (pt_not (pt_chain op_le op_le pe_int (pv 3) (pe_glob (by rfl) T.g_GREATEST_RATE T.r_GREATEST_RATE))) 
          (pss_one (ps_raise rfl (takes_of rfl rfl rfl rfl) (pmk_own PySem.F.excBase_ValueError (T.exx .badValue) (T.exg .badValue) (T.exk .badValue) (raises_own (T.exb .badValue) (T.ext .badValue)) (by rfl)))) pss_nil)))))), ?_⟩
  obtain ⟨a, ts, rfl, ⟨xs, hS, hA⟩, l1, hq, he⟩ := h
  have hlx := hA.len
  walk_at "st"
  refine ⟨_, .inl hS, ?_⟩
  split
  rotate_left
  · exact he (fun z => by have := z.1; omega) _ (Same.refl _)
  split
  · exact he (fun z => by have := z.2.1; omega) _ (Same.refl _)
  walk_at "nx"
  refine ⟨⟨_, hS⟩, Kv.lc_pure walk_list (ts.map fun t => V.int t.1) (by simp [hlx]) (Nat.lt_of_le_of_lt (show xs.length ≤ 8 by omega) (by decide)) (fun H' s1 => s1.seq hS) (fun i x y H1 H2 U hy s1 hY hU => ?_) fun e1 H1 he1 s1 hp1 => ?_⟩
  · obtain ⟨rfl, hx⟩ := hY
    obtain ⟨t, ht, r, rfl, hr⟩ := hA.get hx
    rw [List.getElem?_map, ht] at hy
    cases hy
    refine Kv.gtupN2 (Kv.same_tup s1 hr) ?_
    walk_at "rd"
    exact hU _ (Same.refl _)
  refine ⟨e1, ts.map (·.1), rfl, SqL.of (by rw [hp1, List.map_map]; rfl), by simp; omega, by simp; omega, fun hg H2 s2 => ?_, fun hg H2 s2 => he (fun z => hg z.2.2.1) _ (s1.trans s2)⟩
  walk_at "rd"
  have sA := s1.trans s2
  subst_vars
  walk_at "rd"
  refine ⟨⟨_, sA.seq hS⟩, Kv.for_lst xs (invCk a ts H) ⟨_, _, _, rfl, sA, fun j t hj => by omega⟩ ?_ ?_ ?_⟩
  · rintro i σ' H' ⟨_, _, _, rfl, s3, _⟩
    exact s3.seq hS
  · rintro i x σ' H' hx ⟨_, _, _, rfl, s3, hj⟩
    obtain ⟨t, ht, r, rfl, hr⟩ := hA.get hx
    have bad : ¬(0 ≤ t.2 ∧ t.2 ≤ 10000) → E (.ref (T.exa .badValue)) none H' := fun z => he (fun g => z (g.2.2.2 t (List.mem_of_getElem? ht))) _ s3
    refine Kv.gtupN2 (Kv.same_tup s3 hr) ?_
    walk_at "rd"
    split
    rotate_left
    · exact bad (by omega)
    split
    · exact bad (by omega)
    refine ⟨_, _, _, rfl, s3, fun j u hj2 hu => ?_⟩
    rcases (by omega : j < i ∨ j = i) with z | z
    · exact hj j u z hu
    · subst z
      rw [ht] at hu
      cases hu
      omega
  · rintro σ' H' ⟨_, _, _, rfl, s3, hj⟩
    refine hq ⟨by omega, by omega, hg, fun t ht => ?_⟩ _ s3
    obtain ⟨i, hi⟩ := List.getElem?_of_mem ht
    exact hj i t (by have := (List.getElem?_eq_some_iff.mp hi).1; omega) hi
def spGood (K : PySem.W.Frag) : Sp := fun vs H Q _ => ∃ (a : Addr) (ts : List (Int × Int)), vs = [.ref a] ∧ Kv.Prs K H a ts ∧ ts.length ≤ 1000 ∧ (Ok ts → Q (.bl true) H) ∧ (¬Ok ts → Q (.bl false) H)
def invGd (a : Addr) (ts : List (Int × Int)) (H : Hp) : Nat → L2.St → Hp → Prop := fun i σ' H' => ∃ v1 : Option V, σ' = [some (.ref a), v1] ∧ H' = H ∧ ∀ (j : Nat) t, j < i → ts[j]? = some t → t.1 ≤ 1000000000 ∧ 0 ≤ t.2 ∧ t.2 ≤ 10000 ∧ ∀ (k : Nat) u, k + 1 = j → ts[k]? = some u → u.1 < t.1
theorem ok_L_good (T : Txt K mg) : FnOk P w K mg base CX0 1 T.a__law_good T.d__law_good ["tiers"] (spGood K) := by
  refine T.F__law_good.ok sc_L_good (fun vs H Q E h => by obtain ⟨_, _, rfl, _⟩ := h; rfl) (fun cdv A outer s H vs Q E hr h => ?_)
  refine ⟨_, 
      (pss_cons (ps_if (PW.pt (pw_or (pt_cmpR op_lt (pe_callB call_len_seq (by rfl) T.n_len PySem.boot_len (pa_cons (pv 0) pa_nil)) pe_int (nomark _)) (pw_or (pt_cmpR op_gt (pe_callB call_len_seq (by rfl) T.n_len PySem.boot_len (pa_cons (pv 0) pa_nil)) pe_int (nomark _)) (pw_or1 (pt_cmpR op_ne (pe_ix ix_tup (pe_ix ix_list (pv 0) pe_int (fun _ _ => rfl)) pe_int (fun _ _ => rfl)) pe_int (nomark _)))))) 
        (pss_one (ps_ret pe_bl)) pss_nil)
      (pss_cons (ps_for PassesOwn.never rfl (pi_range1 (by rfl) T.n_range (pa_cons (pe_callB call_len_seq (by rfl) T.n_len PySem.boot_len (pa_cons (pv 0) pa_nil)) pa_nil)) (pg_name (i := 1) sc_L_good.nd rfl (Or.inl rfl)) 
        (pss_cons (ps_if (PW.pt (pw_or (pt_cmpR op_gt (pe_ix ix_tup (pe_ix ix_list (pv 0) (pv 1) (fun _ _ => rfl)) pe_int (fun _ _ => rfl)) (pe_op op_pow pe_int pe_int) (nomark _)) (pw_or (pt_cmpR op_lt (pe_ix ix_tup (pe_ix ix_list (pv 0) (pv 1) (fun _ _ => rfl)) pe_int (fun _ _ => rfl)) pe_int (nomark _)) (pw_or1 (pt_cmpR op_gt (pe_ix ix_tup (pe_ix ix_list (pv 0) (pv 1) (fun _ _ => rfl)) pe_int (fun _ _ => rfl)) pe_int (nomark _)))))) 
          (pss_one (ps_ret pe_bl)) pss_nil)
        (pss_one (ps_if (PW.pt (pw_and (pt_cmpR op_gt (pv 1) pe_int (nomark _)) (pw_and1 (pt_cmpR op_le (pe_ix ix_tup (pe_ix ix_list (pv 0) (pv 1) (fun _ _ => rfl)) pe_int (fun _ _ => rfl)) (pe_ix ix_tup (pe_ix ix_list (pv 0) (pe_op op_sub (pv 1) pe_int) (fun _ _ => rfl)) pe_int (fun _ _ => rfl)) (nomark _))))) 
          (pss_one (ps_ret pe_bl)) pss_nil))))
      (pss_one (ps_ret pe_bl)))), ?_⟩
  obtain ⟨a, ts, rfl, ⟨xs, hS, hA⟩, l1, hq, hf⟩ := h
  have hlx := hA.len
  have ix : ∀ (k : Int) (t : Int × Int) (j : Int) (v : Int) (Q2 : VK), 0 ≤ k → ts[k.toNat]? = some t → (j = 0 ∧ v = t.1 ∨ j = 1 ∧ v = t.2) → Q2 (.int v) H → rIxL K (.ref a) (.int k) H fun x H1 => rIxT K x (.int j) H1 Q2 := by
    intro k t j v Q2 k0 ht hj hq2
    obtain ⟨x, hx⟩ : ∃ x, xs[k.toNat]? = some x := ⟨_, List.getElem?_eq_getElem (by have := (List.getElem?_eq_some_iff.mp ht).1; omega)⟩
    obtain ⟨t2, ht2, r, rfl, hr⟩ := hA.get hx
    rw [ht] at ht2
    cases ht2
    refine Kv.ix_at hS k0 hx ?_
    rcases hj with ⟨rfl, rfl⟩ | ⟨rfl, rfl⟩
    · exact ⟨r, _, 0, _, rfl, rfl, hr, rfl, hq2⟩
    · exact ⟨r, _, 1, _, rfl, rfl, hr, rfl, hq2⟩
  walk_at "st"
  refine ⟨_, .inl hS, ?_⟩
  split
  · exact hf (fun z => by have := z.1; omega)
  refine ⟨_, .inl hS, ?_⟩
  split
  · exact hf (fun z => by have := z.2.1; omega)
  obtain ⟨t0, ht0⟩ : ∃ t, ts[0]? = some t := ⟨_, List.getElem?_eq_getElem (by omega)⟩
  refine ix 0 t0 0 _ _ (by decide) ht0 (.inl ⟨rfl, rfl⟩) ⟨rfl, ?_⟩
  split
  · rename_i c
    refine hf (fun z => c ?_)
    have z := z.2.2.1.1
    rw [List.getElem?_map, ht0] at z
    rw [show t0.1 = 0 from Option.some.inj z]
  rename_i c
  have c0 : t0.1 = 0 := V.int.inj (Decidable.not_not.mp c)
  walk_at "nx"
  refine ⟨_, .inl hS, by omega, by omega, Kv.for_rng0 (invGd a ts H) ⟨_, rfl, rfl, fun j t hj => by omega⟩ ?_ ?_⟩
  · rintro i σ' H' hi ⟨_, rfl, rfl, hj⟩
    obtain ⟨t, ht⟩ : ∃ t, ts[i]? = some t := ⟨_, List.getElem?_eq_getElem (by omega)⟩
    have bad : ¬(t.1 ≤ 1000000000 ∧ 0 ≤ t.2 ∧ t.2 ≤ 10000) → Q (.bl false) H' := by
      intro z
      refine hf fun g => z ?_
      have g2 := g.2.2.2 t (List.mem_of_getElem? ht)
      refine ⟨?_, g2⟩
      cases i with
      | zero => rw [ht0] at ht; cases ht; omega
      | succ i =>
        obtain ⟨u, hu⟩ : ∃ u, ts[i]? = some u := ⟨_, List.getElem?_eq_getElem (by omega)⟩
        exact (g.2.2.1.2 i u.1 t.1 (by rw [List.getElem?_map, hu]; rfl) (by rw [List.getElem?_map, ht]; rfl)).2
    walk_at "st"
    refine ix i t 0 _ _ (by omega) (by simpa using ht) (.inl ⟨rfl, rfl⟩) ?_
    walk_at "rd"
    split
    · exact bad (by omega)
    refine ix i t 1 _ _ (by omega) (by simpa using ht) (.inr ⟨rfl, rfl⟩) ?_
    walk_at "rd"
    split
    · exact bad (by omega)
    refine ix i t 1 _ _ (by omega) (by simpa using ht) (.inr ⟨rfl, rfl⟩) ?_
    walk_at "rd"
    split
    · exact bad (by omega)
    walk_at "nx"
    split
    · rename_i c
      obtain ⟨u, hu⟩ : ∃ u, ts[i - 1]? = some u := ⟨_, List.getElem?_eq_getElem (by omega)⟩
      refine ix i t 0 _ _ (by omega) (by simpa using ht) (.inl ⟨rfl, rfl⟩) ?_
      walk_at "rd"
      refine ix (i - 1) u 0 _ _ (by omega) (by rw [show ((i : Int) - 1).toNat = i - 1 by omega]; exact hu) (.inl ⟨rfl, rfl⟩) ?_
      walk_at "rd"
      split
      · refine hf fun g => ?_
        have := (g.2.2.1.2 (i - 1) u.1 t.1 (by rw [List.getElem?_map, hu]; rfl) (by rw [List.getElem?_map, show i - 1 + 1 = i by omega, ht]; rfl)).1
        omega
      · refine ⟨_, rfl, rfl, fun j t2 hj2 ht2 => ?_⟩
        rcases (by omega : j < i ∨ j = i) with z | z
        · exact hj j t2 z ht2
        · subst z
          rw [ht] at ht2
          cases ht2
          refine ⟨by omega, by omega, by omega, fun k u2 hk hu2 => ?_⟩
          rw [show j - 1 = k by omega, hu2] at hu
          cases hu
          omega
    · refine ⟨_, rfl, rfl, fun j t2 hj2 ht2 => ?_⟩
      rcases (by omega : j < i ∨ j = i) with z | z
      · exact hj j t2 z ht2
      · subst z
        rw [ht] at ht2
        cases ht2
        exact ⟨by omega, by omega, by omega, fun k u2 hk hu2 => by omega⟩
  · rintro σ' H' ⟨_, rfl, rfl, hj⟩
    walk_at "nx"
    refine hq ⟨by omega, by omega, ⟨by rw [List.getElem?_map, ht0, ← c0]; rfl, fun i x y e1 e2 => ?_⟩, fun t ht => ?_⟩
    · rw [List.getElem?_map] at e1 e2
      cases h1 : ts[i]? with
      | none => rw [h1] at e1; cases e1
      | some u =>
        cases h2 : ts[i + 1]? with
        | none => rw [h2] at e2; cases e2
        | some t =>
          rw [h1] at e1
          rw [h2] at e2
          cases e1
          cases e2
          have z := hj (i + 1) t (by have := (List.getElem?_eq_some_iff.mp h2).1; omega) h2
          exact ⟨z.2.2.2 i u rfl h1, z.1⟩
    · obtain ⟨i, hi⟩ := List.getElem?_of_mem ht
      have z := hj i t (by have := (List.getElem?_eq_some_iff.mp hi).1; omega) hi
      exact ⟨z.2.1, z.2.2.1⟩
/-- what is told of it: a word and a list of one text or none -/
def spTold (K : PySem.W.Frag) : Sp := fun vs H Q _ => ∃ (a : Addr) (ts : List (Int × Int)), vs = [.ref a] ∧ Kv.Prs K H a ts ∧ ts.length ≤ 1000 ∧ (Ok ts → ∀ t l H', Same H H' → H' t = some (.tup [.str "fine", .ref l]) → H' l = some (.lst []) → Q (.ref t) H') ∧
  (¬Ok ts → ∀ t l H', Same H H' → H' t = some (.tup [.str "raised", .ref l]) → H' l = some (.lst [.str "BadValue"]) → Q (.ref t) H')
theorem ok_L_told (T : Txt K mg) : FnOk P w K mg base CX0 3 T.a__law_told T.d__law_told ["tiers"] (spTold K) := by
  refine T.F__law_told.ok sc_L_told (fun vs H Q E h => by obtain ⟨_, _, rfl, _⟩ := h; rfl) (fun cdv A outer s H vs Q E hr h => ?_)
  refine ⟨_, 
      (pss_cons (ps_set (i := 1) sc_L_told.nd rfl (Or.inl rfl) (pe_callTy call_list_of (by rfl) T.n_list (by decide +kernel) (pa_cons (pv 0) pa_nil)))
      (pss_cons (ps_try_as (i := 3) rfl rfl sc_L_told.nd rfl rfl ⟨rfl, by decide, .inl T.g_BankError⟩ takes0 (fun W pn xe tk hpo => by exact (
          (pss_one (ps_set (i := 2) sc_L_told.nd rfl (Or.inl rfl) (pe_callS (ok_check_tiers T) (hr.mono (by decide : 2 ≤ _)) (by rfl) T.g_check_tiers T.F_check_tiers.kp T.b_check_tiers (fun σ => passAt tk σ) (pa_cons (pv 1) pa_nil)))))) (fun a oe cls d pn hz hf => by exact (
          (pss_one (ps_ret (pe_tup (pa_cons pe_str (pa_cons (Kv.pe_kinds (ok_L_kinds T) hz hf List.mem_cons_self ⟨(hr.mono (by decide : 1 ≤ _)).dp, (hr.mono (by decide : 1 ≤ _)).un⟩ (by rfl) T.g__law_kinds T.F__law_kinds.kp T.b__law_kinds (pa_cons (pv 3) pa_nil)) pa_nil))))))))
      (pss_cons (ps_if (PW.pt (pw_or (pt_cmpR op_notN (pv 2) pe_non (nomark _)) (pw_or1 (pt_cmpR (op_neD hr.units) (pv 1) (pv 0) (nomark _))))) 
        (pss_one (ps_ret (pe_tup (pa_cons pe_str (pa_cons (pe_lst pa_nil) pa_nil))))) pss_nil)
      (pss_one (ps_ret (pe_tup (pa_cons pe_str (pa_cons (pe_lst pa_nil) pa_nil)))))))), ?_⟩
  obtain ⟨a, ts, rfl, ⟨xs, hS, hA⟩, l1, hq, hf⟩ := h
  walk_at "st"
  refine ⟨xs, .inl hS, fun p hp => ?_⟩
  have s1 := Kv.same_upd (o := .lst xs) hp
  walk_at "nx"
  refine ⟨p, ts, rfl, ⟨xs, SqL.of upd_same, hA.mono fun _ _ => Kv.Pr.same s1⟩, l1, fun hg H1 s2 => ?_, fun hg H1 s2 => ⟨true, T.exm _, fun _ a ha => ?_, fun z => nomatch z⟩⟩
  · walk_at "nx"
    have hP2 : Kv.Prs K H1 a ts := Kv.Prs.same (s1.trans s2) ⟨xs, hS, hA⟩
    have hP1 : Kv.Prs K H1 p ts := Kv.Prs.same s2 ⟨xs, SqL.of upd_same, hA.mono fun _ _ => Kv.Pr.same s1⟩
    refine Kv.ne_prs hP1 hP2 ?_
    rw [decide_eq_true rfl]
    walk_at "nx"
    intro l hl t ht
    exact hq hg t l _ (s1.trans (s2.trans ((Kv.same_upd hl).trans (Kv.same_upd ht)))) upd_same (Kv.same_upd ht _ _ upd_same)
  · walk_at "rd"
    refine ⟨_, rfl, fun p2 hp2 => fun t htt => ?_⟩
    exact hf hg t p2 _ (s1.trans (s2.trans ((Kv.same_upd hp2).trans (Kv.same_upd htt)))) upd_same (Kv.same_upd htt _ _ upd_same)
/-- some tiers, made out of others -/
def spChanged (K : PySem.W.Frag) : Sp := fun vs H Q _ => ∃ (kind number : Int) (a : Addr) (ts : List (Int × Int)), vs = [.int kind, .int number, .ref a] ∧ Kv.Prs K H a ts ∧ ts.length ≤ 9 ∧ 0 ≤ number ∧ number < 10000000000000 ∧ ∀ p us H', us.length ≤ 9 → Same H H' → Kv.Prs K H' p us → Q (.ref p) H'
def midCh (kind n : Int) (a : Addr) (at_ : Int) (H : Hp) : L2.St → Hp → Prop := fun σ' H' => ∃ (st rt : Int) (v6 v7 v8 : Option V), σ' = [some (.int kind), some (.int n), some (.ref a), some (.int at_), some (.int st), some (.int rt), v6, v7, v8] ∧ Same H H'
def midCh2 (kind n : Int) (a : Addr) (at_ : Int) (H : Hp) : L2.St → Hp → Prop := fun σ' H' => ∃ (st rt ne : Int) (v7 v8 : Option V), σ' = [some (.int kind), some (.int n), some (.ref a), some (.int at_), some (.int st), some (.int rt), some (.int ne), v7, v8] ∧ Same H H'
theorem ok_L_changed (T : Txt K mg) : FnOk P w K mg base CX0 1 T.a__law_changed T.d__law_changed ["kind", "number", "tiers"] (spChanged K) := by
  refine T.F__law_changed.ok sc_L_changed (fun vs H Q E h => by obtain ⟨_, _, _, _, rfl, _⟩ := h; rfl) (fun cdv A outer s H vs Q E hr h => ?_)
  refine ⟨_, 
      (pss_cons (ps_if (pt_cmpR (op_eqD hr.units) (pv 2) (pe_lst pa_nil) (nomark _)) 
        (pss_one (ps_ret (pv 2))) pss_nil)
      (pss_cons (ps_set (i := 3) sc_L_changed.nd rfl (Or.inl rfl) (pe_op op_mod (pv 1) (pe_callB call_len_seq (by rfl) T.n_len PySem.boot_len (pa_cons (pv 2) pa_nil))))
      (pss_cons (ps_asg (pe_ix ix_list (pv 2) (pv 3) (fun _ _ => rfl)) (pg_tup (n := 2) (by rfl) (pgs_cons (pg_name (i := 4) sc_L_changed.nd rfl (Or.inl rfl)) (pgs_cons (pg_name (i := 5) sc_L_changed.nd rfl (Or.inr rfl)) pgs_nil))))
      (pss_cons (ps_set (i := 6) sc_L_changed.nd rfl (Or.inl rfl) (pe_ix ix_tup (pe_ix ix_list (pv 2) (pe_callB (call_max2 rfl) (by rfl) T.n_max (by decide +kernel) (pa_cons pe_int (pa_cons (pe_op op_sub (pv 3) pe_int) pa_nil))) (fun _ _ => rfl)) pe_int (fun _ _ => rfl)))
      (pss_cons (ps_if (pt_cmpR op_eq (pv 0) pe_int (nomark _)) 
        (pss_one (ps_set (i := 4) sc_L_changed.nd rfl (Or.inl rfl) (pe_op op_sub (pe_op op_add (pv 6) (pe_op op_mod (pe_op op_fdivW (pv 1) pe_int) pe_int)) pe_int))) pss_nil)
      (pss_cons (ps_if (pt_cmpR op_eq (pv 0) pe_int (nomark _)) 
        (pss_one (ps_set (i := 4) sc_L_changed.nd rfl (Or.inl rfl) (pe_ix ix_list (pe_lst (pa_cons (pe_op op_pow pe_int pe_int) (pa_cons (pe_op op_add (pe_op op_pow pe_int pe_int) pe_int) (pa_cons (pe_un un_neg pe_int) (pa_cons (pe_op op_add (pe_op op_pow pe_int pe_int) (pv 1)) (pa_cons pe_int pa_nil)))))) (pe_op op_mod (pe_op op_fdivW (pv 1) pe_int) pe_int) (fun _ _ => rfl)))) pss_nil)
      (pss_cons (ps_if (pt_cmpR op_eq (pv 0) pe_int (nomark _)) 
        (pss_one (ps_set (i := 4) sc_L_changed.nd rfl (Or.inl rfl) (pe_op op_mod (pe_op op_fdivW (pv 1) pe_int) (pe_op op_pow pe_int pe_int)))) pss_nil)
      (pss_cons (ps_if (pt_cmpR op_eq (pv 0) pe_int (nomark _)) 
        (pss_one (ps_set (i := 5) sc_L_changed.nd rfl (Or.inr rfl) (pe_ix ix_list (pe_lst (pa_cons (pe_un un_neg pe_int) (pa_cons pe_int (pa_cons (pe_op op_sub pe_int (pv 1)) (pa_cons (pe_op op_add pe_int (pv 1)) pa_nil))))) (pe_op op_mod (pe_op op_fdivW (pv 1) pe_int) pe_int) (fun _ _ => rfl)))) pss_nil)
      (pss_cons (ps_if (pt_cmpR op_eq (pv 0) pe_int (nomark _)) 
        (pss_one (ps_set (i := 5) sc_L_changed.nd rfl (Or.inr rfl) (pe_op op_mod (pe_op op_fdivW (pv 1) pe_int) pe_int))) pss_nil)
      (pss_cons (ps_if (pt_cmpR op_eq (pv 0) pe_int (nomark _)) 
        (pss_one (ps_ret (pe_lst pa_nil))) pss_nil)
      (pss_cons (ps_if (pt_cmpR op_eq (pv 0) pe_int (nomark _)) 
        (pss_cons (ps_set (i := 7) sc_L_changed.nd rfl (Or.inr rfl) (pe_ix ix_tup (pe_ix ix_list (pv 2) (pe_op op_sub (pe_callB call_len_seq (by rfl) T.n_len PySem.boot_len (pa_cons (pv 2) pa_nil)) pe_int) (fun _ _ => rfl)) pe_int (fun _ _ => rfl)))
        (pss_one (ps_ret (pe_op Kv.op_catS (pv 2) (pe_lc (own := [("k", 8)]) (g := gName 8) (tt := tYes) rfl sc_L_changed.nd (pi_range1 (by rfl) T.n_range (pa_cons (pe_op op_sub (pe_op op_sub pe_int (pe_callB call_len_seq (by rfl) T.n_len PySem.boot_len (pa_cons (pv 2) pa_nil))) (pe_op op_mod (pe_op op_fdivW (pv 1) pe_int) pe_int)) pa_nil)) (blkOk_by (N := ["kind", "number", "tiers", "at", "start", "rate", "near", "last", "k"]) (sc := defScope s_L_changed) (by decide +kernel)) (fun _ _ _ _ _ => (pg_name (i := 8) sc_L_changed.nd rfl (Or.inl rfl))) (fun _ _ _ _ _ => pts_nil) (fun _ _ _ _ _ => (pe_tup (pa_cons (pe_op op_add (pe_op op_add (pv 7) (pv 8)) pe_int) (pa_cons (pv 5) pa_nil))))))))) pss_nil)
      (pss_one (ps_ret (pe_op Kv.op_catS (pe_op Kv.op_catS (pe_slice sl_list (pv 2) po_none (po_some (pv 3))) (pe_lst (pa_cons (pe_tup (pa_cons (pv 4) (pa_cons (pv 5) pa_nil))) pa_nil))) (pe_slice sl_list (pv 2) (po_some (pe_op op_add (pv 3) pe_int)) po_none))))))))))))))), ?_⟩
  obtain ⟨kind, n, a, ts, rfl, hP, l1, n0, n1, hq⟩ := h
  walk_at "st"
  intro p hp
  have s1 := Kv.same_upd (o := .lst []) hp
  refine Kv.eq_prs (Kv.Prs.same s1 hP) (us := []) ⟨[], SqL.of upd_same, .nil⟩ ?_
  walk_at "rd"
  split
  · exact hq a ts _ l1 s1 (Kv.Prs.same s1 hP)
  rename_i hne
  have hP1 := Kv.Prs.same s1 hP
  obtain ⟨xs, hS, hA⟩ := hP1
  have hlx := hA.len
  have hl0 : ts.length ≠ 0 := fun z => hne (List.length_eq_zero_iff.mp z)
  walk_at "nx"
  refine ⟨xs, .inl hS, by omega, ?_⟩
  have a0 : 0 ≤ n % (xs.length : Int) := Int.emod_nonneg _ (by omega)
  have a1 : n % (xs.length : Int) < (xs.length : Int) := Int.emod_lt_of_pos _ (by omega)
  generalize n % (xs.length : Int) = at_ at a0 a1
  have pick : ∀ k : Int, 0 ≤ k → k < (xs.length : Int) → ∃ (r : Addr) (t : Int × Int), xs[k.toNat]? = some (.ref r) ∧ SqT K (upd H p (.lst [])) r [.int t.1, .int t.2] := by
    intro k k0 k1
    obtain ⟨x, hx⟩ : ∃ x, xs[k.toNat]? = some x := ⟨_, List.getElem?_eq_getElem (by omega)⟩
    obtain ⟨t, _, r, rfl, hr⟩ := hA.get hx
    exact ⟨r, t, hx, hr⟩
  subst_vars
  refine Kv.seq_cut (midCh kind n a at_ (upd H p (.lst []))) (fun U hU => ?_) ?_
  · walk_at "rd"
    obtain ⟨r, t, hx, hr⟩ := pick at_ a0 a1
    refine Kv.ix_at hS a0 hx (Kv.gtupN2 hr ?_)
    exact hU _ _ ⟨_, _, _, _, _, rfl, Same.refl _⟩
  rintro σ' H1 ⟨st, rt, _, _, _, rfl, s2⟩
  refine Kv.seq_cut (midCh2 kind n a at_ (upd H p (.lst []))) (fun U hU => ?_) ?_
  · walk_at "rd"
    obtain ⟨r, t, hx, hr⟩ := pick (if at_ - 1 > 0 then at_ - 1 else 0) (by split <;> omega) (by split <;> omega)
    refine Kv.ix_at (s2.seq hS) (by split <;> omega) hx ⟨r, _, 0, _, rfl, rfl, Kv.same_tup s2 hr, rfl, ?_⟩
    exact hU _ _ ⟨_, _, _, _, _, rfl, s2⟩
  rintro σ' H2 ⟨st, rt, ne, _, _, rfl, s3⟩
  refine Kv.seq_cut (midCh2 kind n a at_ (upd H p (.lst []))) (fun U hU => ?_) ?_
  · walk_at "rd"
    split <;> exact hU _ _ ⟨_, _, _, _, _, rfl, s3⟩
  rintro σ' H3 ⟨st, rt, ne, _, _, rfl, s4⟩
  refine Kv.seq_cut (midCh2 kind n a at_ (upd H p (.lst []))) (fun U hU => ?_) ?_
  · walk_at "rd"
    split
    · intro q hq
      refine Kv.ix_num (ns := [1000000000, 1000000001, -1, 1000000000 + n, 0]) (SqL.of upd_same) (by simp; omega) ?_
      exact hU _ _ ⟨_, _, _, _, _, rfl, s4.trans (Kv.same_upd hq)⟩
    · exact hU _ _ ⟨_, _, _, _, _, rfl, s4⟩
  rintro σ' H4 ⟨st, rt, ne, _, _, rfl, s5⟩
  refine Kv.seq_cut (midCh2 kind n a at_ (upd H p (.lst []))) (fun U hU => ?_) ?_
  · walk_at "rd"
    split <;> exact hU _ _ ⟨_, _, _, _, _, rfl, s5⟩
  rintro σ' H5 ⟨st, rt, ne, _, _, rfl, s6⟩
  refine Kv.seq_cut (midCh2 kind n a at_ (upd H p (.lst []))) (fun U hU => ?_) ?_
  · walk_at "rd"
    split
    · intro q hq
      refine Kv.ix_num (ns := [-1, 10001, 0 - n, 10001 + n]) (SqL.of upd_same) (by simp; omega) ?_
      exact hU _ _ ⟨_, _, _, _, _, rfl, s6.trans (Kv.same_upd hq)⟩
    · exact hU _ _ ⟨_, _, _, _, _, rfl, s6⟩
  rintro σ' H6 ⟨st, rt, ne, _, _, rfl, s7⟩
  refine Kv.seq_cut (midCh2 kind n a at_ (upd H p (.lst []))) (fun U hU => ?_) ?_
  · walk_at "rd"
    split <;> exact hU _ _ ⟨_, _, _, _, _, rfl, s7⟩
  rintro σ' H7 ⟨st, rt, ne, _, _, rfl, s8⟩
  have sA := s1.trans s8
  walk_at "st"
  split
  · intro q hq2
    exact hq q [] _ (by simp) (sA.trans (Kv.same_upd hq2)) ⟨[], SqL.of upd_same, .nil⟩
  walk_at "nx"
  have hA7 : Kv.All2 (Kv.Pr K H7) xs ts := hA.mono fun _ _ => Kv.Pr.same s8
  split
  · refine ⟨xs, .inl (s8.seq hS), ?_⟩
    obtain ⟨r, t, hx, hr⟩ := pick ((xs.length : Int) - 1) (by omega) (by omega)
    refine Kv.ix_at (s8.seq hS) (by omega) hx ⟨r, _, 0, _, rfl, rfl, Kv.same_tup s8 hr, rfl, ?_⟩
    refine ⟨xs, .inl (s8.seq hS), by omega, by omega, Kv.lc_go walk_range (fun i y H => ∃ r, y = .ref r ∧ H r = some (.tup [.int (t.1 + (i : Int) + 1), .int rt])) (Nat.lt_of_le_of_lt (show _ ≤ 10 by omega) (by decide)) ?_ (fun _ _ => trivial) ?_ ?_⟩
    · rintro i y H8 H9 D _ ⟨zs, hD⟩ _ ⟨r, e1, e2⟩ k
      exact ⟨r, e1, k _ _ (ne_of e2 hD (by intro z; cases z)) e2⟩
    · rintro i x H8 H9 D U hi _ _ s9 ⟨rfl, rfl⟩ hU
      walk_at "rd"
      intro T2 hT2
      refine hU _ _ ⟨T2, rfl, ?_⟩ (Kv.same_upd hT2)
      rw [upd_same, Int.zero_add]
    rintro q ys H8 hq7 s9 hys hR hq8
    have hY : Kv.All2 (Kv.Pr K H8) ys ((List.range ys.length).map fun (i : Nat) => (t.1 + (i : Int) + 1, rt)) := by
      refine Kv.All2.of (by simp) fun i y u e1 e2 => ?_
      obtain ⟨r2, e3, e4⟩ := hR i y e1
      have hi := (List.getElem?_eq_some_iff.mp e1).1
      rw [List.getElem?_map, List.getElem?_range hi] at e2
      cases e2
      exact ⟨r2, e3, SqT.of e4⟩
    refine ⟨a, q, xs, ys, rfl, rfl, s9.seq (s8.seq hS), SqL.of hq8, Nat.le_trans (show xs.length + ys.length ≤ 20 by omega) (by decide), fun z hz => ?_⟩
    refine hq z _ _ ?_ (sA.trans (s9.trans (Kv.same_upd hz))) ⟨_, SqL.of upd_same, ((hA7.mono fun _ _ => Kv.Pr.same (s9.trans (Kv.same_upd hz))).append (hY.mono fun _ _ => Kv.Pr.same (Kv.same_upd hz)))⟩
    simp
    omega
  walk_at "nx"
  refine ⟨a, xs, rfl, s8.seq hS, fun q1 hq1 q2 hq2 q3 hq3 => ?_⟩
  rw [Kv.cut_to a0]
  have t1 : Same H7 (upd H7 q1 (.lst (xs.take at_.toNat))) := Kv.same_upd hq1
  have t2 : Same _ (upd (upd H7 q1 (.lst (xs.take at_.toNat))) q2 (.tup [.int st, .int rt])) := Kv.same_upd (by rw [← Kv.cut_to a0]; exact hq2)
  have t3 : Same _ (upd (upd (upd H7 q1 (.lst (xs.take at_.toNat))) q2 (.tup [.int st, .int rt])) q3 (.lst [.ref q2])) := Kv.same_upd (by rw [← Kv.cut_to a0]; exact hq3)
  have e1 := t3 _ _ (t2 _ _ (upd_same (H := H7) (a := q1) (o := .lst (xs.take at_.toNat))))
  have e2 := t3 _ _ (upd_same (H := upd H7 q1 (.lst (xs.take at_.toNat))) (a := q2) (o := .tup [.int st, .int rt]))
  have tA := t1.trans (t2.trans t3)
  generalize hH8 : upd (upd (upd H7 q1 (HO.lst (xs.take at_.toNat))) q2 (HO.tup [V.int st, V.int rt])) q3 (HO.lst [V.ref q2]) = H8 at *
  have e3 : H8 q3 = some (.lst [.ref q2]) := by rw [← hH8]; exact upd_same
  clear hH8
  refine ⟨q1, q3, _, _, rfl, rfl, SqL.of e1, SqL.of e3, Nat.le_trans (show (xs.take at_.toNat).length + 1 ≤ 20 by simp; omega) (by decide), fun q4 hq4 => ?_⟩
  have s9 := Kv.same_upd (o := .lst (xs.take at_.toNat ++ [.ref q2])) hq4
  refine ⟨a, xs, rfl, (tA.trans s9).seq (s8.seq hS), fun q5 hq5 => ?_⟩
  rw [Kv.cut_from (by omega)]
  have s10 := Kv.same_upd (o := .lst (xs.drop (at_ + 1).toNat)) hq5
  refine ⟨q4, q5, _, _, rfl, rfl, SqL.of (s10 _ _ upd_same), SqL.of upd_same, Nat.le_trans (show (xs.take at_.toNat ++ [V.ref q2]).length + (xs.drop (at_ + 1).toNat).length ≤ 20 by simp; omega) (by decide), fun q6 hq6 => ?_⟩
  have sB := tA.trans (s9.trans (s10.trans (Kv.same_upd (o := .lst (xs.take at_.toNat ++ [.ref q2] ++ xs.drop (at_ + 1).toNat)) hq6)))
  have hA8 := hA7.mono fun _ _ => Kv.Pr.same sB
  refine hq q6 (ts.take at_.toNat ++ [(st, rt)] ++ ts.drop (at_ + 1).toNat) _ ?_ (sA.trans sB) ⟨_, SqL.of upd_same, ((hA8.take _).append (.cons ⟨q2, rfl, SqT.of (s9.trans (s10.trans (Kv.same_upd hq6)) _ _ e2)⟩ .nil)).append (hA8.drop _)⟩
  simp
  omega
def begun (ts : List (Int × Int)) (s : Int) : List (Int × Int) := ts.filter fun t => decide (t.1 ≤ s)
theorem pt_zero {s : Int} : ∀ {L : List (Int × Int)}, (∀ t ∈ L, s ≤ t.1) → pt L s = 0
  | [], _ => rfl
  | [t], h => by
    have := h t List.mem_cons_self
    have z : m0 (s - t.1) = 0 := by unfold m0; (repeat' split) <;> omega
    rw [pt, z]
    simp
  | t :: u :: r, h => by
    have h1 := h t List.mem_cons_self
    have h2 := h u (List.mem_cons_of_mem _ List.mem_cons_self)
    have ih := pt_zero (s := s) (L := u :: r) fun v hv => h v (List.mem_cons_of_mem _ hv)
    have z : m0 ((if s < u.1 then s else u.1) - t.1) = 0 := by unfold m0; (repeat' split) <;> omega
    rw [pt, z, ih]
    simp
theorem pt_grow {s : Int} : ∀ {r : List (Int × Int)} {t u : Int × Int}, (t :: r).Pairwise (fun a b => a.1 ≤ b.1) → t.1 ≤ s → (begun (t :: r) s).getLast? = some u → pt (t :: r) (s + 1) - pt (t :: r) s = u.2
  | [], t, u, _, h, e => by
    have z : begun [t] s = [t] := by simp [begun, h]
    rw [z] at e
    have e : t = u := by simpa using e
    subst e
    have a : m0 (s + 1 - t.1) = m0 (s - t.1) + 1 := by unfold m0; (repeat' split) <;> omega
    simp only [pt]
    rw [a, Int.mul_add]
    omega
  | v :: r, t, u, hp, h, e => by
    have h1 := List.pairwise_cons.mp hp
    have z : begun (t :: v :: r) s = t :: begun (v :: r) s := by simp [begun, h]
    rw [z] at e
    by_cases c : v.1 ≤ s
    · have z2 : begun (v :: r) s ≠ [] := by simp [begun, c]
      have e2 : (begun (v :: r) s).getLast? = some u := by
        cases hb : begun (v :: r) s with
        | nil => exact absurd hb z2
        | cons x y => rw [hb] at e; rw [List.getLast?_cons_cons] at e; exact e
      have ih := pt_grow h1.2 c e2
      have a : (if s + 1 < v.1 then s + 1 else v.1) = v.1 := by split <;> omega
      have b : (if s < v.1 then s else v.1) = v.1 := by split <;> omega
      simp only [pt, a, b]
      omega
    · have z2 : begun (v :: r) s = [] := by
        unfold begun
        rw [List.filter_eq_nil_iff]
        intro x hx
        have hv := (List.pairwise_cons.mp h1.2).1
        rcases List.mem_cons.mp hx with rfl | hx
        · simpa using c
        · have := hv x hx
          simp
          omega
      rw [z2] at e
      have e : t = u := by simpa using e
      subst e
      have all : ∀ x ∈ v :: r, s + 1 ≤ x.1 := by
        intro x hx
        have hv := (List.pairwise_cons.mp h1.2).1
        rcases List.mem_cons.mp hx with rfl | hx
        · omega
        · have := hv x hx
          omega
      have p1 := pt_zero all
      have p2 := pt_zero (s := s) (L := v :: r) fun x hx => by have := all x hx; omega
      have hv1 := all v List.mem_cons_self
      have a : m0 ((if s + 1 < v.1 then s + 1 else v.1) - t.1) = m0 ((if s < v.1 then s else v.1) - t.1) + 1 := by unfold m0; (repeat' split) <;> omega
      simp only [pt, p1, p2]
      rw [a, Int.mul_add]
      omega
/-- the parts grow by the rate of the last tier that has begun -/
def spRight (K : PySem.W.Frag) : Sp := fun vs H Q _ => ∃ (a : Addr) (ts : List (Int × Int)) (s : Int), vs = [.ref a, .int s] ∧ Kv.Prs K H a ts ∧ Good ts ∧ 0 ≤ s ∧ s ≤ 10000000000000 ∧ ∀ H', Same H H' → Q (.bl true) H'
theorem ok_L_parts_right (T : Txt K mg) : FnOk P w K mg base CX0 2 T.a__law_parts_right T.d__law_parts_right ["tiers", "size"] (spRight K) := by
  refine T.F__law_parts_right.ok sc_L_parts_right (fun vs H Q E h => by obtain ⟨_, _, _, rfl, _⟩ := h; rfl) (fun cdv A outer s H vs Q E hr h => ?_)
  refine ⟨_, 
      (pss_cons (ps_set (i := 2) sc_L_parts_right.nd rfl (Or.inl rfl) (pe_callTy call_list_of (by rfl) T.n_list (by decide +kernel) (pa_cons (pv 0) pa_nil)))
      (pss_cons (ps_set (i := 3) sc_L_parts_right.nd rfl (Or.inl rfl) (pe_call (ok_parts_of T) (hr.mono (by decide : 1 ≤ _)) (by rfl) T.g_parts_of T.F_parts_of.kp T.b_parts_of .nil pass0 (pa_cons (pv 2) (pa_cons (pv 1) pa_nil))))
      (pss_cons (ps_set (i := 4) sc_L_parts_right.nd rfl (Or.inl rfl) (pe_call (ok_parts_of T) (hr.mono (by decide : 1 ≤ _)) (by rfl) T.g_parts_of T.F_parts_of.kp T.b_parts_of .nil pass0 (pa_cons (pv 2) (pa_cons (pe_op op_add (pv 1) pe_int) pa_nil))))
      (pss_cons (ps_if (PW.pt (pw_or (pt_val (pe_callB call_isi (by rfl) T.n_isinstance (by decide +kernel) (pa_cons (pv 3) (pa_cons (pe_bltn (v := .ty "bool") (by rfl) T.n_bool (by decide +kernel) rfl) pa_nil)))) (pw_or (pt_not (pt_val (pe_callB call_isi (by rfl) T.n_isinstance (by decide +kernel) (pa_cons (pv 3) (pa_cons (pe_bltn (v := .ty "int") (by rfl) T.n_int (by decide +kernel) rfl) pa_nil))))) (pw_or1 (pt_cmpR (op_neD hr.units) (pv 2) (pv 0) (nomark _)))))) 
        (pss_one (ps_ret pe_bl)) pss_nil)
      (pss_cons (ps_set (i := 5) sc_L_parts_right.nd rfl (Or.inl rfl) (pe_ix ix_list (pe_lc (own := [("tier", 6)]) (g := gName 6) rfl sc_L_parts_right.nd (pi_list (pv 0)) (blkOk_by (N := ["tiers", "size", "copy", "here", "more", "rate", "tier"]) (sc := defScope s_L_parts_right) (by decide +kernel)) (fun _ _ _ _ _ => (pg_name (i := 6) sc_L_parts_right.nd rfl (Or.inl rfl))) (fun _ _ _ _ _ => pts_one (pt_cmpR op_le (pe_ix (Kv.ixt K) (pv 6) pe_int (fun _ _ => rfl)) (pv 1) (nomark _))) (fun _ _ _ _ _ => (pe_ix (Kv.ixt K) (pv 6) pe_int (fun _ _ => rfl)))) (pe_un un_neg pe_int) (fun _ _ => rfl)))
      (pss_one (ps_ret (pe_and (pe_cmpR op_eq (pe_op op_sub (pv 4) (pv 3)) (pv 5) (nomark _)) (pe_one (pe_cmpR op_eq (pe_call (ok_parts_of T) (hr.mono (by decide : 1 ≤ _)) (by rfl) T.g_parts_of T.F_parts_of.kp T.b_parts_of .nil pass0 (pa_cons (pv 2) (pa_cons pe_int pa_nil))) pe_int (nomark _))))))))))), ?_⟩
  obtain ⟨a, ts, s, rfl, ⟨xs, hS, hA⟩, hg, s0, s1, hq⟩ := h
  walk_at "st"
  refine ⟨xs, .inl hS, fun p hp => ?_⟩
  have t1 := Kv.same_upd (o := .lst xs) hp
  have hPp : Kv.Prs K (upd H p (.lst xs)) p ts := ⟨xs, SqL.of upd_same, hA.mono fun _ _ => Kv.Pr.same t1⟩
  have hPa : Kv.Prs K (upd H p (.lst xs)) a ts := Kv.Prs.same t1 ⟨xs, hS, hA⟩
  have call : ∀ (H8 : Hp) (z : Int) (Q2 : VK), Same (upd H p (.lst xs)) H8 → 0 ≤ z → z ≤ 20000000000000 → (∀ H9, Same H8 H9 → Q2 (.int (pt ts z)) H9) → spParts K [V.ref p, V.int z] H8 Q2 E0 := fun H8 z Q2 s8 z0 z1 hQ2 =>
    ⟨p, ts, z, rfl, hPp.same s8, hg.1, by have := hg.2.1; omega, fun t ht => by have := hg.2.2.2.1 t ht; omega, z0, by omega, hQ2⟩
  walk_at "nx"
  refine call _ _ _ (Same.refl _) s0 (by omega) fun H1 s2 => ?_
  walk_at "nx"
  refine call _ _ _ s2 (by omega) (by omega) fun H2 s3 => ?_
  have sA := s2.trans s3
  walk_at "nx"
  refine Kv.isi_int (b := false) (by decide +kernel) ?_
  walk_at "rd"
  refine Kv.isi_int (b := true) (by decide +kernel) ?_
  walk_at "rd"
  refine Kv.ne_prs (hPp.same sA) (hPa.same sA) ?_
  rw [decide_eq_true rfl]
  walk_at "nx"
  have hS2 := (t1.trans sA).seq hS
  have hA2 := hA.mono fun _ _ => Kv.Pr.same (t1.trans sA)
  have hlx := hA.len
  refine ⟨⟨_, hS2⟩, Kv.lc_filter ts hlx (fun t => decide (t.1 ≤ s)) (fun t => .int t.2) (Nat.lt_of_le_of_lt (show xs.length ≤ 8 by rw [hlx]; exact hg.2.1) (by decide)) hS2 (fun i x t H4 U N hx ht s4 h1 h2 => ?_) fun q H4 hq4 s4 e4 => ?_⟩
  · obtain ⟨t2, ht2, r, rfl, hr⟩ := hA2.get hx
    rw [ht] at ht2
    cases ht2
    walk_at "rd"
    refine ⟨r, _, 0, _, rfl, rfl, Kv.same_tup s4 hr, rfl, ?_⟩
    walk_at "rd"
    split
    · refine ⟨r, _, 1, _, rfl, rfl, Kv.same_tup s4 hr, rfl, ?_⟩
      exact h1 (decide_eq_true (by assumption)) _ (Same.refl _)
    · exact h2 (decide_eq_false (by assumption)) _ (Same.refl _)
  obtain ⟨t0, r0, rfl, z0, tm⟩ : ∃ t r, ts = t :: r ∧ t.1 = 0 ∧ True := by
    cases ts with
    | nil => exact absurd rfl hg.1
    | cons t r => exact ⟨t, r, rfl, hg.2.2.2.2 t rfl, trivial⟩
  have nb : begun (t0 :: r0) s ≠ [] := by simp [begun, z0, s0]
  obtain ⟨u, hu⟩ : ∃ u, (begun (t0 :: r0) s).getLast? = some u := ⟨_, List.getLast?_eq_some_getLast nb⟩
  have grow := pt_grow hg.2.2.1 (by omega) hu
  refine Kv.ix_last (v := .int u.2) (SqL.of e4) ?_ ?_
  · rw [List.getLast?_map]
    show Option.map _ (begun (t0 :: r0) s).getLast? = _
    rw [hu]
    rfl
  walk_at "rd"
  rw [if_pos grow]
  refine call _ _ _ (sA.trans s4) (by omega) (by omega) fun H5 s5 => ?_
  have p0 : pt (t0 :: r0) 0 = 0 := pt_zero fun x hx => (hg.2.2.2.1 x hx).1
  rw [p0]
  walk_at "rd"
  exact hq _ (t1.trans (sA.trans (s4.trans s5)))
def spDaily (K : PySem.W.Frag) : Sp := fun vs H Q _ => ∃ (a b : Addr) (ts us : List (Int × Int)) (s : Int), vs = [.ref a, .ref b, .int s] ∧ Kv.Prs K H a ts ∧ Kv.Prs K H b us ∧ Good ts ∧ Good us ∧ -20000000000000 ≤ s ∧ s ≤ 20000000000000 ∧
  ∀ H', Same H H' → Q (.int (if s < 0 then -pt us (-s) else pt ts s)) H'
theorem ok_daily_parts (T : Txt K mg) : FnOk P w K mg base CX0 2 T.a_daily_parts T.d_daily_parts ["credit", "debit", "balance"] (spDaily K) := by
  refine T.F_daily_parts.ok sc_daily_parts (fun vs H Q E h => by obtain ⟨_, _, _, _, _, rfl, _⟩ := h; rfl) (fun cdv A outer s H vs Q E hr h => ?_)
  refine ⟨_, 
      (pss_cons (ps_if (pt_cmpR op_lt (pv 2) pe_int (nomark _)) 
        (pss_one (ps_ret (pe_un un_neg (pe_call (ok_parts_of T) (hr.mono (by decide : 1 ≤ _)) (by rfl) T.g_parts_of T.F_parts_of.kp T.b_parts_of .nil pass0 (pa_cons (pv 1) (pa_cons (pe_un un_neg (pv 2)) pa_nil)))))) pss_nil)
      (pss_one (ps_ret (pe_call (ok_parts_of T) (hr.mono (by decide : 1 ≤ _)) (by rfl) T.g_parts_of T.F_parts_of.kp T.b_parts_of .nil pass0 (pa_cons (pv 0) (pa_cons (pv 2) pa_nil)))))), ?_⟩
  obtain ⟨a, b, ts, us, s, rfl, hA, hB, gA, gB, s0, s1, hq⟩ := h
  walk_at "rd"
  split
  · refine ⟨b, us, -s, rfl, hB, gB.1, by have := gB.2.1; omega, fun t ht => by have := gB.2.2.2.1 t ht; omega, by omega, by omega, fun H1 s1 => ?_⟩
    rename_i c
    have hq := hq H1 s1
    rw [if_pos c] at hq
    walk_at "rd"
    exact hq
  · refine ⟨a, ts, s, rfl, hA, gA.1, by have := gA.2.1; omega, fun t ht => by have := gA.2.2.2.1 t ht; omega, by omega, by omega, fun H1 s1 => ?_⟩
    rename_i c
    have hq := hq H1 s1
    rw [if_neg c] at hq
    exact hq
def invLaw (a : Addr) (H1 : Hp) : L2.St → Hp → Prop := fun σ' H' => ∃ v1 v2 v3 v4 v5 v6 : Option V, σ' = [some (.ref a), v1, v2, v3, v4, v5, v6] ∧ Same H1 H'
def midSz (a : Addr) (z : Int) (nl p q : Addr) (H : Hp) : L2.St → Hp → Prop := fun σ' H' => ∃ (size : Int) (v6 : Option V), σ' = [some (.ref a), some (.int z), some (.ref nl), some (.ref p), some (.ref q), some (.int size), v6] ∧ H' = H ∧ 0 ≤ size ∧ size ≤ 10000000000000
theorem ok_law (T : Txt K mg) : FnOk P w K mg base CX0 4 T.a_law T.d_law ["script"] (Kv.spLaw K) := by
  refine T.F_law.ok sc_law (fun vs H Q E h => ?_) (fun cdv A outer s H vs Q E hr h => ?_)
  · obtain ⟨a, ns, rfl, _⟩ := h
    rfl
  refine ⟨_, 
      (pss_cons (ps_if (pt_cmpR op_ne (pe_glob (by rfl) T.g_PARTS T.r_PARTS) pe_int (nomark _)) 
        (pss_one (ps_ret pe_bl)) pss_nil)
      (pss_cons (ps_for PassesOwn.never rfl (pi_list (pe_op Kv.op_catS (pe_lst (pa_cons pe_int pa_nil)) (pv 0))) (pg_name (i := 1) sc_law.nd rfl (Or.inl rfl)) 
        (pss_cons (ps_set (i := 2) sc_law.nd rfl (Or.inl rfl) (pe_call (ok_L_numbers T) (hr.mono (by decide : 1 ≤ _)) (by rfl) T.g__law_numbers T.F__law_numbers.kp T.b__law_numbers .nil pass0 (pa_cons (pv 1) (pa_cons pe_int pa_nil))))
        (pss_cons (ps_set (i := 3) sc_law.nd rfl (Or.inl rfl) (pe_call (ok_L_tiers T) (hr.mono (by decide : 1 ≤ _)) (by rfl) T.g__law_tiers T.F__law_tiers.kp T.b__law_tiers .nil pass0 (pa_cons (pv 2) (pa_cons pe_int pa_nil))))
        (pss_cons (ps_set (i := 4) sc_law.nd rfl (Or.inl rfl) (pe_call (ok_L_tiers T) (hr.mono (by decide : 1 ≤ _)) (by rfl) T.g__law_tiers T.F__law_tiers.kp T.b__law_tiers .nil pass0 (pa_cons (pv 2) (pa_cons pe_int pa_nil))))
        (pss_cons (ps_set (i := 5) sc_law.nd rfl (Or.inl rfl) (pe_callB (call_max2 rfl) (by rfl) T.n_max (by decide +kernel) (pa_cons pe_int (pa_cons (pe_op op_sub (pe_op op_add (pe_ix ix_tup (pe_ix ix_list (pv 3) (pe_op op_mod (pe_ix ix_list (pv 2) pe_int (fun _ _ => rfl)) (pe_callB call_len_seq (by rfl) T.n_len PySem.boot_len (pa_cons (pv 3) pa_nil))) (fun _ _ => rfl)) pe_int (fun _ _ => rfl)) (pe_op op_mod (pe_ix ix_list (pv 2) pe_int (fun _ _ => rfl)) pe_int)) pe_int) pa_nil))))
        (pss_cons (ps_if (pt_cmpR op_eq (pe_op op_mod (pe_ix ix_list (pv 2) pe_int (fun _ _ => rfl)) pe_int) pe_int (nomark _)) 
          (pss_one (ps_set (i := 5) sc_law.nd rfl (Or.inl rfl) (pe_ix ix_list (pv 2) pe_int (fun _ _ => rfl)))) pss_nil)
        (pss_cons (ps_if (PW.pt (pw_or (pt_not (pt_val (pe_call (ok_L_parts_right T) (hr.mono (by decide : 2 ≤ _)) (by rfl) T.g__law_parts_right T.F__law_parts_right.kp T.b__law_parts_right .nil pass0 (pa_cons (pv 3) (pa_cons (pv 5) pa_nil))))) (pw_or1 (pt_not (pt_val (pe_call (ok_L_parts_right T) (hr.mono (by decide : 2 ≤ _)) (by rfl) T.g__law_parts_right T.F__law_parts_right.kp T.b__law_parts_right .nil pass0 (pa_cons (pv 4) (pa_cons (pv 5) pa_nil)))))))) 
          (pss_one (ps_ret pe_bl)) pss_nil)
        (pss_cons (ps_if (pt_cmpR op_ne (pe_call (ok_daily_parts T) (hr.mono (by decide : 2 ≤ _)) (by rfl) T.g_daily_parts T.F_daily_parts.kp T.b_daily_parts .nil pass0 (pa_cons (pe_callTy call_list_of (by rfl) T.n_list (by decide +kernel) (pa_cons (pv 3) pa_nil)) (pa_cons (pe_callTy call_list_of (by rfl) T.n_list (by decide +kernel) (pa_cons (pv 4) pa_nil)) (pa_cons (pv 5) pa_nil)))) (pe_call (ok_parts_of T) (hr.mono (by decide : 1 ≤ _)) (by rfl) T.g_parts_of T.F_parts_of.kp T.b_parts_of .nil pass0 (pa_cons (pe_callTy call_list_of (by rfl) T.n_list (by decide +kernel) (pa_cons (pv 3) pa_nil)) (pa_cons (pv 5) pa_nil))) (nomark _)) 
          (pss_one (ps_ret pe_bl)) pss_nil)
        (pss_cons (ps_if (pt_cmpR op_ne (pe_call (ok_daily_parts T) (hr.mono (by decide : 2 ≤ _)) (by rfl) T.g_daily_parts T.F_daily_parts.kp T.b_daily_parts .nil pass0 (pa_cons (pe_callTy call_list_of (by rfl) T.n_list (by decide +kernel) (pa_cons (pv 3) pa_nil)) (pa_cons (pe_callTy call_list_of (by rfl) T.n_list (by decide +kernel) (pa_cons (pv 4) pa_nil)) (pa_cons (pe_op op_sub pe_int (pv 5)) pa_nil)))) (pe_op op_sub pe_int (pe_call (ok_parts_of T) (hr.mono (by decide : 1 ≤ _)) (by rfl) T.g_parts_of T.F_parts_of.kp T.b_parts_of .nil pass0 (pa_cons (pe_callTy call_list_of (by rfl) T.n_list (by decide +kernel) (pa_cons (pv 4) pa_nil)) (pa_cons (pv 5) pa_nil)))) (nomark _)) 
          (pss_one (ps_ret pe_bl)) pss_nil)
        (pss_cons (ps_set (i := 6) sc_law.nd rfl (Or.inl rfl) (pe_call (ok_L_changed T) (hr.mono (by decide : 1 ≤ _)) (by rfl) T.g__law_changed T.F__law_changed.kp T.b__law_changed .nil pass0 (pa_cons (pe_op op_mod (pe_ix ix_list (pv 2) pe_int (fun _ _ => rfl)) pe_int) (pa_cons (pe_ix ix_list (pv 2) pe_int (fun _ _ => rfl)) (pa_cons (pv 3) pa_nil)))))
        (pss_cons (ps_set (i := 6) sc_law.nd rfl (Or.inl rfl) (pe_call (ok_L_changed T) (hr.mono (by decide : 1 ≤ _)) (by rfl) T.g__law_changed T.F__law_changed.kp T.b__law_changed .nil pass0 (pa_cons (pe_op op_mod (pe_op op_fdivW (pe_ix ix_list (pv 2) pe_int (fun _ _ => rfl)) pe_int) pe_int) (pa_cons (pe_ix ix_list (pv 2) pe_int (fun _ _ => rfl)) (pa_cons (pv 6) pa_nil)))))
        (pss_cons (ps_if (PW.pt (pw_and (pt_val (pe_call (ok_L_good T) (hr.mono (by decide : 1 ≤ _)) (by rfl) T.g__law_good T.F__law_good.kp T.b__law_good .nil pass0 (pa_cons (pv 6) pa_nil))) (pw_and1 (pt_cmpR (op_neD hr.units) (pe_call (ok_L_told T) (hr.mono (by decide : 3 ≤ _)) (by rfl) T.g__law_told T.F__law_told.kp T.b__law_told .nil pass0 (pa_cons (pv 6) pa_nil)) (pe_tup (pa_cons pe_str (pa_cons (pe_lst pa_nil) pa_nil))) (nomark _))))) 
          (pss_one (ps_ret pe_bl)) pss_nil)
        (pss_one (ps_if (PW.pt (pw_and (pt_not (pt_val (pe_call (ok_L_good T) (hr.mono (by decide : 1 ≤ _)) (by rfl) T.g__law_good T.F__law_good.kp T.b__law_good .nil pass0 (pa_cons (pv 6) pa_nil)))) (pw_and1 (pt_cmpR (op_neD hr.units) (pe_call (ok_L_told T) (hr.mono (by decide : 3 ≤ _)) (by rfl) T.g__law_told T.F__law_told.kp T.b__law_told .nil pass0 (pa_cons (pv 6) pa_nil)) (pe_tup (pa_cons pe_str (pa_cons (pe_lst (pa_cons pe_str pa_nil)) pa_nil))) (nomark _))))) 
          (pss_one (ps_ret pe_bl)) pss_nil))))))))))))))
      (pss_one (ps_ret pe_bl)))), ?_⟩
  obtain ⟨a, ns, rfl, hS, hl, hb, hq⟩ := h
  walk_at "st"
  subst_vars
  refine Kv.seq_step fun U hU => ?_
  refine Kv.tfor_cells (H0 := H) rfl hS hl fun b H1 s5 hb1 => ?_
  refine Kv.for_cells hb1 (by decide) hb (invLaw a H1) ⟨_, _, _, _, _, _, rfl, Same.refl _⟩ ?_ ?_ ?_
  · rintro σ' H' ⟨_, _, _, _, _, _, rfl, hs⟩
    exact hs
  · rintro z σ' H' bz ⟨_, _, _, _, _, _, rfl, hs⟩
    walk_at "st"
    refine ⟨z, 42, rfl, bz, by decide, by decide, fun ms nl H2 ml mr s2 f2 hn2 => ?_⟩
    walk_at "nx"
    refine ⟨nl, ms, 0, rfl, SqL.of hn2, by omega, by omega, by omega, mr, fun p ts H3 gp s3 hP => ?_⟩
    walk_at "nx"
    refine ⟨nl, ms, 18, rfl, SqL.of (s3 _ _ hn2), by omega, by omega, by omega, mr, fun q us H4 gq s4 hQ => ?_⟩
    have hs4 := hs.trans (s2.trans (s3.trans s4))
    have hN : SqL K H4 nl (ms.map V.int) := SqL.of (s4 _ _ (s3 _ _ hn2))
    have hP := hP.same s4
    have hg0 : ts.length ≠ 0 := fun z => gp.1 (List.length_eq_zero_iff.mp z)
    have n37 := Kv.num_in mr 37
    walk_at "rd"
    subst_vars
    refine Kv.seq_cut (midSz a z nl p q H4) (fun U hU => ?_) ?_
    · obtain ⟨xs, hSx, hAx⟩ := hP
      have hlx := hAx.len
      walk_at "rd"
      refine Kv.ix_num hN (by omega) ?_
      walk_at "rd"
      refine ⟨xs, .inl hSx, by omega, ?_⟩
      have k0 : 0 ≤ ms.getD 36 0 % (xs.length : Int) := Int.emod_nonneg _ (by omega)
      have k1 : ms.getD 36 0 % (xs.length : Int) < (xs.length : Int) := Int.emod_lt_of_pos _ (by omega)
      obtain ⟨x, hx⟩ : ∃ x, xs[(ms.getD 36 0 % (xs.length : Int)).toNat]? = some x := ⟨_, List.getElem?_eq_getElem (by omega)⟩
      obtain ⟨t, ht, r, rfl, hr⟩ := hAx.get hx
      have tb := gp.2.2.2.1 t (List.mem_of_getElem? ht)
      refine Kv.ix_at hSx k0 hx ⟨r, _, 0, _, rfl, rfl, hr, rfl, ?_⟩
      walk_at "rd"
      refine Kv.ix_num hN (by omega) ?_
      walk_at "rd"
      refine hU _ _ ⟨_, _, rfl, rfl, ?_, ?_⟩ <;> split <;> omega
    rintro σ' H5 ⟨size, _, rfl, rfl, z0, z1⟩
    refine Kv.seq_cut (midSz a z nl p q H5) (fun U hU => ?_) ?_
    · walk_at "rd"
      refine Kv.ix_num hN (by omega) ?_
      walk_at "rd"
      split
      · refine Kv.ix_num hN (by omega) ?_
        walk_at "rd"
        exact hU _ _ ⟨_, _, rfl, rfl, n37.1, by have := n37.2; show ms.getD 37 0 ≤ _; omega⟩
      · exact hU _ _ ⟨_, _, rfl, rfl, z0, z1⟩
    rintro σ' H4 ⟨size, _, rfl, rfl, z0, z1⟩
    walk_at "st"
    refine ⟨p, ts, size, rfl, hP, gp, z0, z1, fun H5 s5 => ?_⟩
    walk_at "rd"
    refine ⟨q, us, size, rfl, hQ.same s5, gq, z0, z1, fun H6 s6 => ?_⟩
    have hP := hP.same (s5.trans s6)
    have hQ := hQ.same (s5.trans s6)
    have hs6 := hs4.trans (s5.trans s6)
    have hN6 := (s5.trans s6).seq hN
    have call : ∀ (x : Addr) (vs : List (Int × Int)) (H7 : Hp) (z : Int) (Q2 : VK), Kv.Prs K H7 x vs → Good vs → 0 ≤ z → z ≤ 20000000000000 → (∀ H9, Same H7 H9 → Q2 (.int (pt vs z)) H9) → spParts K [V.ref x, V.int z] H7 Q2 E0 := fun x vs H7 z Q2 hx g z0 z1 hQ2 =>
      ⟨x, vs, z, rfl, hx, g.1, by have := g.2.1; omega, fun t ht => by have := g.2.2.2.1 t ht; omega, z0, by omega, hQ2⟩
    obtain ⟨xs, hSx, hAx⟩ := hP
    obtain ⟨ys, hSy, hAy⟩ := hQ
    have mk : ∀ (H7 : Hp) (l : Addr), Same H6 H7 → H7 l = some (.lst xs) → Kv.Prs K H7 l ts := fun H7 l s7 hl => ⟨xs, SqL.of hl, hAx.mono fun _ _ => Kv.Pr.same s7⟩
    have mk2 : ∀ (H7 : Hp) (l : Addr), Same H6 H7 → H7 l = some (.lst ys) → Kv.Prs K H7 l us := fun H7 l s7 hl => ⟨ys, SqL.of hl, hAy.mono fun _ _ => Kv.Pr.same s7⟩
    walk_at "rd"
    walk_at "nx"
    refine ⟨xs, .inl hSx, fun l1 hl1 => ⟨ys, .inl ((Kv.same_upd hl1).seq hSy), fun l2 hl2 => ?_⟩⟩
    have t1 := Kv.same_upd (o := .lst xs) hl1
    have t2 := Kv.same_upd (o := .lst ys) hl2
    refine ⟨l1, l2, ts, us, size, rfl, mk _ _ (t1.trans t2) (t2 _ _ upd_same), mk2 _ _ (t1.trans t2) upd_same, gp, gq, by omega, by omega, fun H7 t3 => ?_⟩
    have t4 := t1.trans (t2.trans t3)
    refine ⟨xs, .inl (t4.seq hSx), fun l3 hl3 => ?_⟩
    have t5 := Kv.same_upd (o := .lst xs) hl3
    refine call l3 ts _ size _ (mk _ _ (t4.trans t5) upd_same) gp z0 (by omega) fun H8 t6 => ?_
    have t7 := t4.trans (t5.trans t6)
    rw [if_neg (show ¬size < 0 by omega)]
    walk_at "rd"
    walk_at "nx"
    refine ⟨xs, .inl (t7.seq hSx), fun l4 hl4 => ⟨ys, .inl ((t7.trans (Kv.same_upd hl4)).seq hSy), fun l5 hl5 => ?_⟩⟩
    have r1 := Kv.same_upd (o := .lst xs) hl4
    have r2 := Kv.same_upd (o := .lst ys) hl5
    have r3 := t7.trans (r1.trans r2)
    refine ⟨l4, l5, ts, us, 0 - size, rfl, mk _ _ r3 (r2 _ _ upd_same), mk2 _ _ r3 upd_same, gp, gq, by omega, by omega, fun H9 r4 => ?_⟩
    have r5 := r3.trans r4
    refine ⟨ys, .inl (r5.seq hSy), fun l6 hl6 => ?_⟩
    have r6 := Kv.same_upd (o := .lst ys) hl6
    refine call l6 us _ size _ (mk2 _ _ (r5.trans r6) upd_same) gq z0 (by omega) fun H10 r7 => ?_
    have r8 := r5.trans (r6.trans r7)
    have ev : (if 0 - size < 0 then -pt us (-(0 - size)) else pt ts (0 - size)) = 0 - pt us size := by
      split
      · rw [show -(0 - size) = size by omega]
        omega
      · have : size = 0 := by omega
        subst this
        rw [pt_zero fun x hx => by have := (gp.2.2.2.1 x hx).1; omega, pt_zero fun x hx => (gq.2.2.2.1 x hx).1]
        rfl
    rw [ev]
    walk_at "rd"
    have hPz : Kv.Prs K H10 p ts := Kv.Prs.same r8 ⟨xs, hSx, hAx⟩
    have hs10 := hs6.trans r8
    have hN10 : SqL K H10 nl (ms.map V.int) := r8.seq hN6
    have n40 := Kv.num_in mr 40
    have n41 := Kv.num_in mr 41
    walk_at "nx"
    refine Kv.ix_num hN10 (by omega) ?_
    walk_at "rd"
    refine Kv.ix_num hN10 (by omega) ?_
    walk_at "rd"
    refine ⟨_, _, p, ts, rfl, hPz, by have := gp.2.1; omega, n40.1, n40.2, fun c1 vs H11 lv s11 hV => ?_⟩
    walk_at "nx"
    refine Kv.ix_num (s11.seq hN10) (by omega) ?_
    walk_at "rd"
    refine Kv.ix_num (s11.seq hN10) (by omega) ?_
    walk_at "rd"
    refine ⟨_, _, c1, vs, rfl, hV, lv, n41.1, n41.2, fun c2 ws H12 lw s12 hW => ?_⟩
    have hs12 := hs10.trans (s11.trans s12)
    by_cases hok : Ok ws
    · walk_at "nx"
      refine ⟨c2, ws, rfl, hW, by omega, fun _ => ⟨_, rfl, ?_⟩, fun z => absurd hok z⟩
      rw [if_pos rfl]
      refine ⟨c2, ws, rfl, hW, by omega, fun _ tt ll H13 s13 e1 e2 => ?_, fun z => absurd hok z⟩
      walk_at "rd"
      intro p1 hp1 p2 hp2
      have s14 : Same H13 (upd (upd H13 p1 (.lst [])) p2 (.tup [.str "fine", .ref p1])) := (Kv.same_upd hp1).trans (Kv.same_upd hp2)
      refine Kv.ne_same (d := .tuple [.str "fine", .list []]) (.tup (SqT.of (s14 _ _ e1)) (.cons (.str _) (.cons (.lst (SqL.of (s14 _ _ e2)) .nil) .nil))) (.tup (SqT.of upd_same) (.cons (.str _) (.cons (.lst (SqL.of (Kv.same_upd hp2 _ _ upd_same)) .nil) .nil))) (by walk_at "shp") (by walk_at "eqv") ?_
      walk_at "rd"
      walk_at "nx"
      refine ⟨c2, ws, rfl, hW.same (s13.trans s14), by omega, fun _ => ⟨_, rfl, ?_⟩, fun z => absurd hok z⟩
      walk_at "rd"
      exact ⟨_, _, _, _, _, _, rfl, hs12.trans (s13.trans s14)⟩
    · walk_at "nx"
      refine ⟨c2, ws, rfl, hW, by omega, fun z => absurd z hok, fun _ => ⟨_, rfl, ?_⟩⟩
      walk_at "rd"
      walk_at "nx"
      refine ⟨c2, ws, rfl, hW, by omega, fun z => absurd z hok, fun _ => ⟨_, rfl, ?_⟩⟩
      walk_at "rd"
      refine ⟨c2, ws, rfl, hW, by omega, fun z => absurd z hok, fun _ tt ll H13 s13 e1 e2 => ?_⟩
      walk_at "rd"
      intro p1 hp1 p2 hp2
      have s14 : Same H13 (upd (upd H13 p1 (.lst [.str "BadValue"])) p2 (.tup [.str "raised", .ref p1])) := (Kv.same_upd hp1).trans (Kv.same_upd hp2)
      refine Kv.ne_same (Kv.dp_pair (SqT.of (s14 _ _ e1)) (.str _) (SqL.of (s14 _ _ e2)) (.str _)) (Kv.dp_pair (SqT.of upd_same) (.str _) (SqL.of (Kv.same_upd hp2 _ _ upd_same)) (.str _)) (by walk_at "shp") (by walk_at "eqv") ?_
      walk_at "rd"
      exact ⟨_, _, _, _, _, _, rfl, hs12.trans (s13.trans s14)⟩
  · rintro σ' H' ⟨_, _, _, _, _, _, rfl, hs⟩
    walk_at "nx"
    exact hq _
end
theorem txt_mk {K : PySem.W.Frag} {mg : Str → Option Value} {h : Heap} (X : K.In h) (G : h.Ns mainGlobals mg)
    {C_BadValue : Addr}
    {C_BadDay : Addr}
    {C_Missing : Addr}
    {C_Refused : Addr}
    {C_Full : Addr}
    {C_NotAllowed : Addr}
    {C_Damaged : Addr}
    {C_BankError : Addr}
    {f_check_starts : Addr} {od_check_starts an_check_starts : Option Addr} {sl_check_starts : Array (Option Value)} {oc_check_starts kV_check_starts dc_check_starts pm_check_starts cd_check_starts ct_check_starts : Value}
    {f_check_tiers : Addr} {od_check_tiers an_check_tiers : Option Addr} {sl_check_tiers : Array (Option Value)} {oc_check_tiers kV_check_tiers dc_check_tiers pm_check_tiers cd_check_tiers ct_check_tiers : Value}
    {f_parts_of : Addr} {od_parts_of an_parts_of : Option Addr} {sl_parts_of : Array (Option Value)} {oc_parts_of kV_parts_of dc_parts_of pm_parts_of cd_parts_of ct_parts_of : Value}
    {f_daily_parts : Addr} {od_daily_parts an_daily_parts : Option Addr} {sl_daily_parts : Array (Option Value)} {oc_daily_parts kV_daily_parts dc_daily_parts pm_daily_parts cd_daily_parts ct_daily_parts : Value}
    {f__law_numbers : Addr} {od__law_numbers an__law_numbers : Option Addr} {sl__law_numbers : Array (Option Value)} {oc__law_numbers kV__law_numbers dc__law_numbers pm__law_numbers cd__law_numbers ct__law_numbers : Value}
    {f__law_kinds : Addr} {od__law_kinds an__law_kinds : Option Addr} {sl__law_kinds : Array (Option Value)} {oc__law_kinds kV__law_kinds dc__law_kinds pm__law_kinds cd__law_kinds ct__law_kinds : Value}
    {f__law_tiers : Addr} {od__law_tiers an__law_tiers : Option Addr} {sl__law_tiers : Array (Option Value)} {oc__law_tiers kV__law_tiers dc__law_tiers pm__law_tiers cd__law_tiers ct__law_tiers : Value}
    {f__law_changed : Addr} {od__law_changed an__law_changed : Option Addr} {sl__law_changed : Array (Option Value)} {oc__law_changed kV__law_changed dc__law_changed pm__law_changed cd__law_changed ct__law_changed : Value}
    {f__law_good : Addr} {od__law_good an__law_good : Option Addr} {sl__law_good : Array (Option Value)} {oc__law_good kV__law_good dc__law_good pm__law_good cd__law_good ct__law_good : Value}
    {f__law_told : Addr} {od__law_told an__law_told : Option Addr} {sl__law_told : Array (Option Value)} {oc__law_told kV__law_told dc__law_told pm__law_told cd__law_told ct__law_told : Value}
    {f__law_parts_right : Addr} {od__law_parts_right an__law_parts_right : Option Addr} {sl__law_parts_right : Array (Option Value)} {oc__law_parts_right kV__law_parts_right dc__law_parts_right pm__law_parts_right cd__law_parts_right ct__law_parts_right : Value}
    {f_law : Addr} {od_law an_law : Option Addr} {sl_law : Array (Option Value)} {oc_law kV_law dc_law pm_law cd_law ct_law : Value}
    {w_LIMIT : Value}
    {w_PARTS : Value}
    {w_MOST_TIERS : Value}
    {w_GREATEST_RATE : Value}
    (e_BadValue : PySem.W.nsIn K mainGlobals "BadValue" = some (some (.ref C_BadValue)))
    (e_BadDay : PySem.W.nsIn K mainGlobals "BadDay" = some (some (.ref C_BadDay)))
    (e_Missing : PySem.W.nsIn K mainGlobals "Missing" = some (some (.ref C_Missing)))
    (e_Refused : PySem.W.nsIn K mainGlobals "Refused" = some (some (.ref C_Refused)))
    (e_Full : PySem.W.nsIn K mainGlobals "Full" = some (some (.ref C_Full)))
    (e_NotAllowed : PySem.W.nsIn K mainGlobals "NotAllowed" = some (some (.ref C_NotAllowed)))
    (e_Damaged : PySem.W.nsIn K mainGlobals "Damaged" = some (some (.ref C_Damaged)))
    (e_BankError : PySem.W.nsIn K mainGlobals "BankError" = some (some (.ref C_BankError)))
    (eAll : Kv.errAll K (fun e => match e with | .badValue => C_BadValue | .badDay => C_BadDay | .missing => C_Missing | .refused => C_Refused | .full => C_Full | .notAllowed => C_NotAllowed | .damaged => C_Damaged) C_BankError = true)
    (a_check_starts : PySem.W.nsIn K mainGlobals "check_starts" = some (some (.ref f_check_starts)))
    (l_check_starts : K.lookup f_check_starts = some ⟨oc_check_starts, od_check_starts, .func (PySem.W.fnOf "check_starts" "check_starts" (defArgs s_check_starts) (defBody s_check_starts) (defScope s_check_starts) .none kV_check_starts dc_check_starts pm_check_starts an_check_starts cd_check_starts ct_check_starts), sl_check_starts⟩)
    (c_check_starts : PySem.W.codeIn K cd_check_starts "check_starts" = true)
    (k_check_starts : PySem.W.keepIn K (.ref f_check_starts) = true)
    (a_check_tiers : PySem.W.nsIn K mainGlobals "check_tiers" = some (some (.ref f_check_tiers)))
    (l_check_tiers : K.lookup f_check_tiers = some ⟨oc_check_tiers, od_check_tiers, .func (PySem.W.fnOf "check_tiers" "check_tiers" (defArgs s_check_tiers) (defBody s_check_tiers) (defScope s_check_tiers) .none kV_check_tiers dc_check_tiers pm_check_tiers an_check_tiers cd_check_tiers ct_check_tiers), sl_check_tiers⟩)
    (c_check_tiers : PySem.W.codeIn K cd_check_tiers "check_tiers" = true)
    (k_check_tiers : PySem.W.keepIn K (.ref f_check_tiers) = true)
    (a_parts_of : PySem.W.nsIn K mainGlobals "parts_of" = some (some (.ref f_parts_of)))
    (l_parts_of : K.lookup f_parts_of = some ⟨oc_parts_of, od_parts_of, .func (PySem.W.fnOf "parts_of" "parts_of" (defArgs s_parts_of) (defBody s_parts_of) (defScope s_parts_of) .none kV_parts_of dc_parts_of pm_parts_of an_parts_of cd_parts_of ct_parts_of), sl_parts_of⟩)
    (c_parts_of : PySem.W.codeIn K cd_parts_of "parts_of" = true)
    (k_parts_of : PySem.W.keepIn K (.ref f_parts_of) = true)
    (a_daily_parts : PySem.W.nsIn K mainGlobals "daily_parts" = some (some (.ref f_daily_parts)))
    (l_daily_parts : K.lookup f_daily_parts = some ⟨oc_daily_parts, od_daily_parts, .func (PySem.W.fnOf "daily_parts" "daily_parts" (defArgs s_daily_parts) (defBody s_daily_parts) (defScope s_daily_parts) .none kV_daily_parts dc_daily_parts pm_daily_parts an_daily_parts cd_daily_parts ct_daily_parts), sl_daily_parts⟩)
    (c_daily_parts : PySem.W.codeIn K cd_daily_parts "daily_parts" = true)
    (k_daily_parts : PySem.W.keepIn K (.ref f_daily_parts) = true)
    (a__law_numbers : PySem.W.nsIn K mainGlobals "_law_numbers" = some (some (.ref f__law_numbers)))
    (l__law_numbers : K.lookup f__law_numbers = some ⟨oc__law_numbers, od__law_numbers, .func (PySem.W.fnOf "_law_numbers" "_law_numbers" (defArgs s_L_numbers) (defBody s_L_numbers) (defScope s_L_numbers) .none kV__law_numbers dc__law_numbers pm__law_numbers an__law_numbers cd__law_numbers ct__law_numbers), sl__law_numbers⟩)
    (c__law_numbers : PySem.W.codeIn K cd__law_numbers "_law_numbers" = true)
    (k__law_numbers : PySem.W.keepIn K (.ref f__law_numbers) = true)
    (a__law_kinds : PySem.W.nsIn K mainGlobals "_law_kinds" = some (some (.ref f__law_kinds)))
    (l__law_kinds : K.lookup f__law_kinds = some ⟨oc__law_kinds, od__law_kinds, .func (PySem.W.fnOf "_law_kinds" "_law_kinds" (defArgs s_L_kinds) (defBody s_L_kinds) (defScope s_L_kinds) .none kV__law_kinds dc__law_kinds pm__law_kinds an__law_kinds cd__law_kinds ct__law_kinds), sl__law_kinds⟩)
    (c__law_kinds : PySem.W.codeIn K cd__law_kinds "_law_kinds" = true)
    (k__law_kinds : PySem.W.keepIn K (.ref f__law_kinds) = true)
    (a__law_tiers : PySem.W.nsIn K mainGlobals "_law_tiers" = some (some (.ref f__law_tiers)))
    (l__law_tiers : K.lookup f__law_tiers = some ⟨oc__law_tiers, od__law_tiers, .func (PySem.W.fnOf "_law_tiers" "_law_tiers" (defArgs s_L_tiers) (defBody s_L_tiers) (defScope s_L_tiers) .none kV__law_tiers dc__law_tiers pm__law_tiers an__law_tiers cd__law_tiers ct__law_tiers), sl__law_tiers⟩)
    (c__law_tiers : PySem.W.codeIn K cd__law_tiers "_law_tiers" = true)
    (k__law_tiers : PySem.W.keepIn K (.ref f__law_tiers) = true)
    (a__law_changed : PySem.W.nsIn K mainGlobals "_law_changed" = some (some (.ref f__law_changed)))
    (l__law_changed : K.lookup f__law_changed = some ⟨oc__law_changed, od__law_changed, .func (PySem.W.fnOf "_law_changed" "_law_changed" (defArgs s_L_changed) (defBody s_L_changed) (defScope s_L_changed) .none kV__law_changed dc__law_changed pm__law_changed an__law_changed cd__law_changed ct__law_changed), sl__law_changed⟩)
    (c__law_changed : PySem.W.codeIn K cd__law_changed "_law_changed" = true)
    (k__law_changed : PySem.W.keepIn K (.ref f__law_changed) = true)
    (a__law_good : PySem.W.nsIn K mainGlobals "_law_good" = some (some (.ref f__law_good)))
    (l__law_good : K.lookup f__law_good = some ⟨oc__law_good, od__law_good, .func (PySem.W.fnOf "_law_good" "_law_good" (defArgs s_L_good) (defBody s_L_good) (defScope s_L_good) .none kV__law_good dc__law_good pm__law_good an__law_good cd__law_good ct__law_good), sl__law_good⟩)
    (c__law_good : PySem.W.codeIn K cd__law_good "_law_good" = true)
    (k__law_good : PySem.W.keepIn K (.ref f__law_good) = true)
    (a__law_told : PySem.W.nsIn K mainGlobals "_law_told" = some (some (.ref f__law_told)))
    (l__law_told : K.lookup f__law_told = some ⟨oc__law_told, od__law_told, .func (PySem.W.fnOf "_law_told" "_law_told" (defArgs s_L_told) (defBody s_L_told) (defScope s_L_told) .none kV__law_told dc__law_told pm__law_told an__law_told cd__law_told ct__law_told), sl__law_told⟩)
    (c__law_told : PySem.W.codeIn K cd__law_told "_law_told" = true)
    (k__law_told : PySem.W.keepIn K (.ref f__law_told) = true)
    (a__law_parts_right : PySem.W.nsIn K mainGlobals "_law_parts_right" = some (some (.ref f__law_parts_right)))
    (l__law_parts_right : K.lookup f__law_parts_right = some ⟨oc__law_parts_right, od__law_parts_right, .func (PySem.W.fnOf "_law_parts_right" "_law_parts_right" (defArgs s_L_parts_right) (defBody s_L_parts_right) (defScope s_L_parts_right) .none kV__law_parts_right dc__law_parts_right pm__law_parts_right an__law_parts_right cd__law_parts_right ct__law_parts_right), sl__law_parts_right⟩)
    (c__law_parts_right : PySem.W.codeIn K cd__law_parts_right "_law_parts_right" = true)
    (k__law_parts_right : PySem.W.keepIn K (.ref f__law_parts_right) = true)
    (a_law : PySem.W.nsIn K mainGlobals "law" = some (some (.ref f_law)))
    (l_law : K.lookup f_law = some ⟨oc_law, od_law, .func (PySem.W.fnOf "law" "law" (defArgs s_law) (defBody s_law) (defScope s_law) .none kV_law dc_law pm_law an_law cd_law ct_law), sl_law⟩)
    (c_law : PySem.W.codeIn K cd_law "law" = true)
    (k_law : PySem.W.keepIn K (.ref f_law) = true)
    (v_LIMIT : PySem.W.nsIn K mainGlobals "LIMIT" = some (some w_LIMIT))
    (vr_LIMIT : RelV (.int (1000000000)) w_LIMIT)
    (v_PARTS : PySem.W.nsIn K mainGlobals "PARTS" = some (some w_PARTS))
    (vr_PARTS : RelV (.int (3600000)) w_PARTS)
    (v_MOST_TIERS : PySem.W.nsIn K mainGlobals "MOST_TIERS" = some (some w_MOST_TIERS))
    (vr_MOST_TIERS : RelV (.int (8)) w_MOST_TIERS)
    (v_GREATEST_RATE : PySem.W.nsIn K mainGlobals "GREATEST_RATE" = some (some w_GREATEST_RATE))
    (vr_GREATEST_RATE : RelV (.int (10000)) w_GREATEST_RATE)
    (n_bool : PySem.W.nsIn K mainGlobals "bool" = some none)
    (n_int : PySem.W.nsIn K mainGlobals "int" = some none)
    (n_isinstance : PySem.W.nsIn K mainGlobals "isinstance" = some none)
    (n_len : PySem.W.nsIn K mainGlobals "len" = some none)
    (n_list : PySem.W.nsIn K mainGlobals "list" = some none)
    (n_max : PySem.W.nsIn K mainGlobals "max" = some none)
    (n_min : PySem.W.nsIn K mainGlobals "min" = some none)
    (n_range : PySem.W.nsIn K mainGlobals "range" = some none)
    (n_zip : PySem.W.nsIn K mainGlobals "zip" = some none) :
    ∃ T : Txt K mg, T.d_law = PySem.W.fnOf "law" "law" (defArgs s_law) (defBody s_law) (defScope s_law) .none kV_law dc_law pm_law an_law cd_law ct_law :=
  ⟨{ exa := fun e => match e with | .badValue => C_BadValue | .badDay => C_BadDay | .missing => C_Missing | .refused => C_Refused | .full => C_Full | .notAllowed => C_NotAllowed | .damaged => C_Damaged,
       exg := fun e => by cases e <;> first | exact PySem.W.mg_of X G e_BadValue | exact PySem.W.mg_of X G e_BadDay | exact PySem.W.mg_of X G e_Missing | exact PySem.W.mg_of X G e_Refused | exact PySem.W.mg_of X G e_Full | exact PySem.W.mg_of X G e_NotAllowed | exact PySem.W.mg_of X G e_Damaged,
       a_BankError := C_BankError,
       g_BankError := PySem.W.mg_of X G e_BankError,
       exAll := eAll,
       a_check_starts := f_check_starts,
       d_check_starts := PySem.W.fnOf "check_starts" "check_starts" (defArgs s_check_starts) (defBody s_check_starts) (defScope s_check_starts) .none kV_check_starts dc_check_starts pm_check_starts an_check_starts cd_check_starts ct_check_starts,
       g_check_starts := PySem.W.mg_of X G a_check_starts,
       F_check_starts := fun_mk (st := s_check_starts) l_check_starts c_check_starts k_check_starts,
       b_check_starts := (fun_mk (st := s_check_starts) l_check_starts c_check_starts k_check_starts).binds (ps := ["starts"]) fun _ _ _ _ _ _ us hl => match us, hl with | [_], _ => rfl,
       a_check_tiers := f_check_tiers,
       d_check_tiers := PySem.W.fnOf "check_tiers" "check_tiers" (defArgs s_check_tiers) (defBody s_check_tiers) (defScope s_check_tiers) .none kV_check_tiers dc_check_tiers pm_check_tiers an_check_tiers cd_check_tiers ct_check_tiers,
       g_check_tiers := PySem.W.mg_of X G a_check_tiers,
       F_check_tiers := fun_mk (st := s_check_tiers) l_check_tiers c_check_tiers k_check_tiers,
       b_check_tiers := (fun_mk (st := s_check_tiers) l_check_tiers c_check_tiers k_check_tiers).binds (ps := ["tiers"]) fun _ _ _ _ _ _ us hl => match us, hl with | [_], _ => rfl,
       a_parts_of := f_parts_of,
       d_parts_of := PySem.W.fnOf "parts_of" "parts_of" (defArgs s_parts_of) (defBody s_parts_of) (defScope s_parts_of) .none kV_parts_of dc_parts_of pm_parts_of an_parts_of cd_parts_of ct_parts_of,
       g_parts_of := PySem.W.mg_of X G a_parts_of,
       F_parts_of := fun_mk (st := s_parts_of) l_parts_of c_parts_of k_parts_of,
       b_parts_of := (fun_mk (st := s_parts_of) l_parts_of c_parts_of k_parts_of).binds (ps := ["tiers", "size"]) fun _ _ _ _ _ _ us hl => match us, hl with | [_, _], _ => rfl,
       a_daily_parts := f_daily_parts,
       d_daily_parts := PySem.W.fnOf "daily_parts" "daily_parts" (defArgs s_daily_parts) (defBody s_daily_parts) (defScope s_daily_parts) .none kV_daily_parts dc_daily_parts pm_daily_parts an_daily_parts cd_daily_parts ct_daily_parts,
       g_daily_parts := PySem.W.mg_of X G a_daily_parts,
       F_daily_parts := fun_mk (st := s_daily_parts) l_daily_parts c_daily_parts k_daily_parts,
       b_daily_parts := (fun_mk (st := s_daily_parts) l_daily_parts c_daily_parts k_daily_parts).binds (ps := ["credit", "debit", "balance"]) fun _ _ _ _ _ _ us hl => match us, hl with | [_, _, _], _ => rfl,
       a__law_numbers := f__law_numbers,
       d__law_numbers := PySem.W.fnOf "_law_numbers" "_law_numbers" (defArgs s_L_numbers) (defBody s_L_numbers) (defScope s_L_numbers) .none kV__law_numbers dc__law_numbers pm__law_numbers an__law_numbers cd__law_numbers ct__law_numbers,
       g__law_numbers := PySem.W.mg_of X G a__law_numbers,
       F__law_numbers := fun_mk (st := s_L_numbers) l__law_numbers c__law_numbers k__law_numbers,
       b__law_numbers := (fun_mk (st := s_L_numbers) l__law_numbers c__law_numbers k__law_numbers).binds (ps := ["cell", "count"]) fun _ _ _ _ _ _ us hl => match us, hl with | [_, _], _ => rfl,
       a__law_kinds := f__law_kinds,
       d__law_kinds := PySem.W.fnOf "_law_kinds" "_law_kinds" (defArgs s_L_kinds) (defBody s_L_kinds) (defScope s_L_kinds) .none kV__law_kinds dc__law_kinds pm__law_kinds an__law_kinds cd__law_kinds ct__law_kinds,
       g__law_kinds := PySem.W.mg_of X G a__law_kinds,
       F__law_kinds := fun_mk (st := s_L_kinds) l__law_kinds c__law_kinds k__law_kinds,
       b__law_kinds := (fun_mk (st := s_L_kinds) l__law_kinds c__law_kinds k__law_kinds).binds (ps := ["error"]) fun _ _ _ _ _ _ us hl => match us, hl with | [_], _ => rfl,
       a__law_tiers := f__law_tiers,
       d__law_tiers := PySem.W.fnOf "_law_tiers" "_law_tiers" (defArgs s_L_tiers) (defBody s_L_tiers) (defScope s_L_tiers) .none kV__law_tiers dc__law_tiers pm__law_tiers an__law_tiers cd__law_tiers ct__law_tiers,
       g__law_tiers := PySem.W.mg_of X G a__law_tiers,
       F__law_tiers := fun_mk (st := s_L_tiers) l__law_tiers c__law_tiers k__law_tiers,
       b__law_tiers := (fun_mk (st := s_L_tiers) l__law_tiers c__law_tiers k__law_tiers).binds (ps := ["numbers", "at"]) fun _ _ _ _ _ _ us hl => match us, hl with | [_, _], _ => rfl,
       a__law_changed := f__law_changed,
       d__law_changed := PySem.W.fnOf "_law_changed" "_law_changed" (defArgs s_L_changed) (defBody s_L_changed) (defScope s_L_changed) .none kV__law_changed dc__law_changed pm__law_changed an__law_changed cd__law_changed ct__law_changed,
       g__law_changed := PySem.W.mg_of X G a__law_changed,
       F__law_changed := fun_mk (st := s_L_changed) l__law_changed c__law_changed k__law_changed,
       b__law_changed := (fun_mk (st := s_L_changed) l__law_changed c__law_changed k__law_changed).binds (ps := ["kind", "number", "tiers"]) fun _ _ _ _ _ _ us hl => match us, hl with | [_, _, _], _ => rfl,
       a__law_good := f__law_good,
       d__law_good := PySem.W.fnOf "_law_good" "_law_good" (defArgs s_L_good) (defBody s_L_good) (defScope s_L_good) .none kV__law_good dc__law_good pm__law_good an__law_good cd__law_good ct__law_good,
       g__law_good := PySem.W.mg_of X G a__law_good,
       F__law_good := fun_mk (st := s_L_good) l__law_good c__law_good k__law_good,
       b__law_good := (fun_mk (st := s_L_good) l__law_good c__law_good k__law_good).binds (ps := ["tiers"]) fun _ _ _ _ _ _ us hl => match us, hl with | [_], _ => rfl,
       a__law_told := f__law_told,
       d__law_told := PySem.W.fnOf "_law_told" "_law_told" (defArgs s_L_told) (defBody s_L_told) (defScope s_L_told) .none kV__law_told dc__law_told pm__law_told an__law_told cd__law_told ct__law_told,
       g__law_told := PySem.W.mg_of X G a__law_told,
       F__law_told := fun_mk (st := s_L_told) l__law_told c__law_told k__law_told,
       b__law_told := (fun_mk (st := s_L_told) l__law_told c__law_told k__law_told).binds (ps := ["tiers"]) fun _ _ _ _ _ _ us hl => match us, hl with | [_], _ => rfl,
       a__law_parts_right := f__law_parts_right,
       d__law_parts_right := PySem.W.fnOf "_law_parts_right" "_law_parts_right" (defArgs s_L_parts_right) (defBody s_L_parts_right) (defScope s_L_parts_right) .none kV__law_parts_right dc__law_parts_right pm__law_parts_right an__law_parts_right cd__law_parts_right ct__law_parts_right,
       g__law_parts_right := PySem.W.mg_of X G a__law_parts_right,
       F__law_parts_right := fun_mk (st := s_L_parts_right) l__law_parts_right c__law_parts_right k__law_parts_right,
       b__law_parts_right := (fun_mk (st := s_L_parts_right) l__law_parts_right c__law_parts_right k__law_parts_right).binds (ps := ["tiers", "size"]) fun _ _ _ _ _ _ us hl => match us, hl with | [_, _], _ => rfl,
       a_law := f_law,
       d_law := PySem.W.fnOf "law" "law" (defArgs s_law) (defBody s_law) (defScope s_law) .none kV_law dc_law pm_law an_law cd_law ct_law,
       g_law := PySem.W.mg_of X G a_law,
       F_law := fun_mk (st := s_law) l_law c_law k_law,
       b_law := (fun_mk (st := s_law) l_law c_law k_law).binds (ps := ["script"]) fun _ _ _ _ _ _ us hl => match us, hl with | [_], _ => rfl,
       u_LIMIT := w_LIMIT,
       g_LIMIT := PySem.W.mg_of X G v_LIMIT,
       r_LIMIT := vr_LIMIT,
       u_PARTS := w_PARTS,
       g_PARTS := PySem.W.mg_of X G v_PARTS,
       r_PARTS := vr_PARTS,
       u_MOST_TIERS := w_MOST_TIERS,
       g_MOST_TIERS := PySem.W.mg_of X G v_MOST_TIERS,
       r_MOST_TIERS := vr_MOST_TIERS,
       u_GREATEST_RATE := w_GREATEST_RATE,
       g_GREATEST_RATE := PySem.W.mg_of X G v_GREATEST_RATE,
       r_GREATEST_RATE := vr_GREATEST_RATE,
       n_bool := PySem.W.mg_none_of X G n_bool,
       n_int := PySem.W.mg_none_of X G n_int,
       n_isinstance := PySem.W.mg_none_of X G n_isinstance,
       n_len := PySem.W.mg_none_of X G n_len,
       n_list := PySem.W.mg_none_of X G n_list,
       n_max := PySem.W.mg_none_of X G n_max,
       n_min := PySem.W.mg_none_of X G n_min,
       n_range := PySem.W.mg_none_of X G n_range,
       n_zip := PySem.W.mg_none_of X G n_zip }, rfl⟩
end K16
open PySem PySem.W PyProof.Rows
set_option maxRecDepth 100000 in
set_option maxHeartbeats 0 in
theorem PySem.Challenge.cw_corebank_k16_tiers_holds : PySem.Challenge.rw_corebank_k16_tiers.Holds := by
  w_on; o_law; k_head; (case hw => w_witness2)
  k_fill
  refine Kv.walk (l := PySem.Challenge.rw_corebank_k16_tiers) (k := 4) rfl rfl ⟨rfl, by decide, by decide⟩ (fun w h Y => PySem.W.kIn_of Y) ?F
  case F =>
    intro w mg fa h KX G hmg
    obtain ⟨T, hT⟩ : ∃ T : K16.Txt _ mg, ∃ a b c d e f, T.d_law = PySem.W.fnOf "law" "law" (L2.defArgs K16.s_law) (L2.defBody K16.s_law) (L2.defScope K16.s_law) .none a b c d e f := by
      refine' (fun z => ⟨z.choose, _, _, _, _, _, _, z.choose_spec⟩) (K16.txt_mk KX G ?e_BadValue ?e_BadDay ?e_Missing ?e_Refused ?e_Full ?e_NotAllowed ?e_Damaged ?e_BankError ?eAll ?a_check_starts ?l_check_starts ?c_check_starts ?k_check_starts ?a_check_tiers ?l_check_tiers ?c_check_tiers ?k_check_tiers ?a_parts_of ?l_parts_of ?c_parts_of ?k_parts_of ?a_daily_parts ?l_daily_parts ?c_daily_parts ?k_daily_parts ?a__law_numbers ?l__law_numbers ?c__law_numbers ?k__law_numbers ?a__law_kinds ?l__law_kinds ?c__law_kinds ?k__law_kinds ?a__law_tiers ?l__law_tiers ?c__law_tiers ?k__law_tiers ?a__law_changed ?l__law_changed ?c__law_changed ?k__law_changed ?a__law_good ?l__law_good ?c__law_good ?k__law_good ?a__law_told ?l__law_told ?c__law_told ?k__law_told ?a__law_parts_right ?l__law_parts_right ?c__law_parts_right ?k__law_parts_right ?a_law ?l_law ?c_law ?k_law ?v_LIMIT ?vr_LIMIT ?v_PARTS ?vr_PARTS ?v_MOST_TIERS ?vr_MOST_TIERS ?v_GREATEST_RATE ?vr_GREATEST_RATE ?n_bool ?n_int ?n_isinstance ?n_len ?n_list ?n_max ?n_min ?n_range ?n_zip)
      (case e_BadValue => k_is)
      (case e_BadDay => k_is)
      (case e_Missing => k_is)
      (case e_Refused => k_is)
      (case e_Full => k_is)
      (case e_NotAllowed => k_is)
      (case e_Damaged => k_is)
      (case e_BankError => k_is)
      (case eAll => first | rfl | with_unfolding_all rfl | kernel_rfl)
      (case a_check_starts => k_is)
      (case l_check_starts => k_is)
      (case c_check_starts => k_is)
      (case k_check_starts => k_is)
      (case a_check_tiers => k_is)
      (case l_check_tiers => k_is)
      (case c_check_tiers => k_is)
      (case k_check_tiers => k_is)
      (case a_parts_of => k_is)
      (case l_parts_of => k_is)
      (case c_parts_of => k_is)
      (case k_parts_of => k_is)
      (case a_daily_parts => k_is)
      (case l_daily_parts => k_is)
      (case c_daily_parts => k_is)
      (case k_daily_parts => k_is)
      (case a__law_numbers => k_is)
      (case l__law_numbers => k_is)
      (case c__law_numbers => k_is)
      (case k__law_numbers => k_is)
      (case a__law_kinds => k_is)
      (case l__law_kinds => k_is)
      (case c__law_kinds => k_is)
      (case k__law_kinds => k_is)
      (case a__law_tiers => k_is)
      (case l__law_tiers => k_is)
      (case c__law_tiers => k_is)
      (case k__law_tiers => k_is)
      (case a__law_changed => k_is)
      (case l__law_changed => k_is)
      (case c__law_changed => k_is)
      (case k__law_changed => k_is)
      (case a__law_good => k_is)
      (case l__law_good => k_is)
      (case c__law_good => k_is)
      (case k__law_good => k_is)
      (case a__law_told => k_is)
      (case l__law_told => k_is)
      (case c__law_told => k_is)
      (case k__law_told => k_is)
      (case a__law_parts_right => k_is)
      (case l__law_parts_right => k_is)
      (case c__law_parts_right => k_is)
      (case k__law_parts_right => k_is)
      (case a_law => k_is)
      (case l_law => k_is)
      (case c_law => k_is)
      (case k_law => k_is)
      (case v_LIMIT => k_is)
      (case vr_LIMIT => exact ⟨_, rfl⟩)
      (case v_PARTS => k_is)
      (case vr_PARTS => exact ⟨_, rfl⟩)
      (case v_MOST_TIERS => k_is)
      (case vr_MOST_TIERS => exact ⟨_, rfl⟩)
      (case v_GREATEST_RATE => k_is)
      (case vr_GREATEST_RATE => exact ⟨_, rfl⟩)
      (case n_bool => k_is)
      (case n_int => k_is)
      (case n_isinstance => k_is)
      (case n_len => k_is)
      (case n_list => k_is)
      (case n_max => k_is)
      (case n_min => k_is)
      (case n_range => k_is)
      (case n_zip => k_is)
    obtain ⟨_, _, _, _, _, _, hT⟩ := hT
    have ea : fa = T.a_law := by
      have z := hmg.symm.trans T.g_law
      cases z; rfl
    subst ea
    exact ⟨T.d_law, fun s u => by rw [hT]; exact .of_eq rfl, fun base _ _ => K16.ok_law T⟩
#print axioms PySem.Challenge.cw_corebank_k16_tiers_holds
